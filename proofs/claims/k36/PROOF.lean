import PyProof.Rows.All
import Wide.All
import OpenK.AllK
import Wide.FinOn
import Lean
import PyProof.EqAt
import PyProof.EqKinds
import PyProof.TupleCall
import PyProof.NeData
import PyProof.AttrMissHeap
import PyProof.FactsAll.enumerate_1
import KE.KDictOf
import PyProof.EnumMake
import PyProof.Rows.SumAny
import PyProof.Rows.StrJoin2
import PyProof.Rows.CountFlat
import PyProof.Rows.FoldWordsD
import PyProof.Rows.SeqMore2
import PyProof.Rows.MinMaxN
import PyProof.Rows.StrInSeq3
import PyProof.Rows.ReprR
import PyProof.StrLawsRepr
import PyProof.StrCalls2
import PyProof.Rows.StrNews2
import PyProof.Rows.StrSplitJoin
import PyProof.StrLawsTight
import PyProof.StrLawsChain
import PyProof.FString4
import PyProof.RulesTry
import PyProof.StrOps2
import PyProof.Rows.SeqMore
import PySem.Challenge.RW_pointways_k36_refused_pointings
set_option genSizeOfSpec false
noncomputable section
set_option Elab.async false
set_option linter.all false
set_option maxRecDepth 100000
namespace L2
open PySem PySem.Spec PyProof.Rows
abbrev Key:=Sum Int Str
def CQ:Key→Value→Bool
  | .inl k,v=>Value.isInt k v
  | .inr x,v=>Value.isStrOf x v
def qnY (w:World):Key→Int
  | .inl k=>hashInt k
  | .inr x=>hashStr w x
theorem fH:∀{k:Key} {v:Value},CQ k v=true→(∃i t,k=Sum.inl i∧v=Value.int i t)∨(∃x t,k=Sum.inr x∧v=Value.str x t)
  | .inl i,v,h=>by
    obtain⟨t,e⟩:=Value.isInt_shape (k:=i) (v:=v) h;exact .inl ⟨i,t,rfl,e⟩
  | .inr x,v,h=>by
    obtain⟨t,e⟩:=Value.isStrOf_shape (x:=x) (v:=v) h;exact .inr ⟨x,t,rfl,e⟩
theorem Qi (i:Int) (t:Tok):CQ (.inl i) (.int i t)=true:=by simp[CQ,Value.isInt]
theorem Qj (x:Str) (t:Tok):CQ (.inr x) (.str x t)=true:=by simp[CQ,Value.isStrOf]
theorem qfu (a b:Int):decide ((Sum.inl a:Key)=Sum.inl b)=(a == b):=by
  by_cases e:a=b
  ·subst e;simp
  ·have h:¬(Sum.inl a:Key)=Sum.inl b:=fun q=>e (Sum.inl.inj q);rw[decide_eq_false h];exact(beq_eq_false_iff_ne.mpr e).symm
theorem qfv (a b:Str):decide ((Sum.inr a:Key)=Sum.inr b)=decide (a=b):=by
  by_cases e:a=b
  ·subst e;simp
  ·have h:¬(Sum.inr a:Key)=Sum.inr b:=fun q=>e (Sum.inr.inj q);rw[decide_eq_false h,decide_eq_false e]
theorem qfw (a:Int) (b:Str):decide ((Sum.inl a:Key)=Sum.inr b)=false:=decide_eq_false (fun q=>nomatch q)
theorem qfx (a:Str) (b:Int):decide ((Sum.inr a:Key)=Sum.inl b)=false:=decide_eq_false (fun q=>nomatch q)
def cD (prog:Program) (w:World):PySem.KeyKind prog w Key where
  is:=CQ
  hash:=qnY w
  inj:=fun v a b ha hb=>by
    rcases fH ha with⟨i,t,rfl,rfl⟩ | ⟨x,t,rfl,rfl⟩
    · rcases fH hb with⟨j,u,rfl,e⟩ | ⟨y,u,rfl,e⟩
      ·injection e with e1 _;rw[e1]
      ·exact nomatch e
    · rcases fH hb with⟨j,u,rfl,e⟩ | ⟨y,u,rfl,e⟩
      ·exact nomatch e
      ·injection e with e1 _;rw[e1]
  byValue:=fun k v h=>by
    rcases fH h with⟨i,t,rfl,rfl⟩ | ⟨x,t,rfl,rfl⟩ <;> rfl
  pyHash:=fun hv h=>by
    rcases fH hv with⟨i,t,rfl,rfl⟩ | ⟨x,t,rfl,rfl⟩
    ·exact wpAny_pyHash_int h
    ·exact wpAny_pyHash_str h
  eqBool:=fun hu hv h=>by
    rcases fH hu with⟨i,t,rfl,rfl⟩ | ⟨x,t,rfl,rfl⟩
    · rcases fH hv with⟨j,u,rfl,rfl⟩ | ⟨y,u,rfl,rfl⟩
      ·rw[qfu] at h;exact wpAny_eqBool_int h
      ·rw[qfw] at h;exact SeqAt.EqAt.int_str i t y u _ _ _ _ h
    · rcases fH hv with⟨j,u,rfl,rfl⟩ | ⟨y,u,rfl,rfl⟩
      ·rw[qfx] at h;exact SeqAt.EqAt.str_int x t j u _ _ _ _ h
      ·rw[qfv] at h;exact wpAny_eqBool_str h
  «strs»:=fun k x t v h=>by
    rcases fH h with⟨i,u,rfl,e⟩ | ⟨y,u,rfl,e⟩
    ·exact nomatch e
    ·injection e with e1 _;subst e1;cases v <;> rfl
theorem Wv (prog:Program) (w:World) (k:Key) (v:Value):(cD prog w).is k v=CQ k v:=rfl
theorem Ku (prog:Program) (w:World) (i:Int) (t:Tok):(cD prog w).is (.inl i) (.int i t)=true:=Qi i t
theorem Us (prog:Program) (w:World) (x:Str) (t:Tok):(cD prog w).is (.inr x) (.str x t)=true:=Qj x t
inductive V where
  | non | bl (b:Bool) | int (i:Int) | str (x:Str) | byt (b:Array UInt8) | flt (b:UInt64) | ref (a:Addr) | ty (n:String)
  deriving DecidableEq
def RelV:V→Value→Prop
  | .non,u=>u=Value.none
  | .bl b,u=>u=Value.bool b
  | .int i,u=>∃t,u=Value.int i t
  | .str x,u=>∃t,u=Value.str x t
  | .byt b,u=>∃t,u=Value.bytes b t
  | .flt b,u=>∃t,u=Value.float b t
  | .ref a,u=>u=Value.ref a
  | .ty n,u=>u=Value.type n
abbrev Vals:List V→List Value→Prop:=Paired RelV
theorem Vals.length {xs:List V} {us:List Value} (r:Vals xs us):xs.length=us.length:=Paired.length r
theorem Vals.get:∀{xs:List V} {us:List Value} {i:Nat} {x:V},Vals xs us→xs[i]? = some x→∃u,us[i]? = some u∧RelV x u
  | _,_,_,_,.nil,e=>by simp at e
  | _,_,0,_,.cons r _,e=>by simp at e;subst e;exact⟨_,rfl,r⟩
  | _,_,i+1,x,.cons _ t,e=>by
    obtain⟨u,h1,h2⟩:=Vals.get (i:=i) (x:=x) t (by simpa using e);exact⟨u,by simpa using h1,h2⟩
theorem Vals.set {x:V} {u:Value} (r:RelV x u):∀{xs:List V} {us:List Value} (i:Nat),Vals xs us→Vals (xs.set i x) (us.set i u)
  | _,_,_,.nil=>.nil
  | _,_,0,.cons _ t=>.cons r t
  | _,_,i+1,.cons q t=>.cons q (Vals.set r i t)
theorem Vals.append:∀{xs ys:List V} {us ws:List Value},Vals xs us→Vals ys ws→Vals (xs++ys) (us++ws)
  | _,_,_,_,.nil,s=>s
  | _,_,_,_,.cons r t,s=>.cons r (Vals.append t s)
theorem Vals.take:∀{xs:List V} {us:List Value} (n:Nat),Vals xs us→Vals (xs.take n) (us.take n)
  | _,_,0,_=>.nil
  | _,_,_+1,.nil=>.nil
  | _,_,n+1,.cons r t=>.cons r (Vals.take n t)
theorem Vals.drop:∀{xs:List V} {us:List Value} (n:Nat),Vals xs us→Vals (xs.drop n) (us.drop n)
  | _,_,0,r=>r
  | _,_,_+1,.nil=>.nil
  | _,_,n+1,.cons _ t=>Vals.drop n t
def Dq:Option V→Option Value→Prop
  | some v,some u=>RelV v u
  | none,none=>True
  | _,_=>False
def KV {κ:Type}:List (κ×V)→List (κ×Value)→Prop:=Paired fun(p:κ×V) (q:κ×Value)=>p.1=q.1∧RelV p.2 q.2
def kV:Key→V
  | .inl i=>.int i
  | .inr x=>.str x
inductive HO where
  | lst (xs:List V)
  | tup (xs:List V)
  | dK (kvs:List (Key×V)) | dT (kvs:List (List Key×V))
  | set (S:Int→Bool) (n:Nat)
  | ins (C dx:Addr) (fs:List (Str×V))
  | own (x:Addr)
  | xd (fs:List (Str×V))
  | met (f x:Addr)
  | rng (lo hi:Int)
  | Ut (o:Obj) (u:HO)
  | tbl (ps:Array Value)
  | ext (φ:Heap→Prop)
abbrev Hp:=Addr→Option HO
def upd (H:Hp) (a:Addr) (o:HO):Hp:=fun b=>if b=a then some o else H b
theorem aA {H:Hp} {a:Addr} {o:HO}:upd H a o a=some o:=by unfold upd;rw[if_pos rfl]
theorem aV {H:Hp} {a b:Addr} {o:HO} (h:b≠a):upd H a o b=H b:=by unfold upd;rw[if_neg h]
theorem Ma {H:Hp} {a b:Addr} {o u:HO} (h:H a=some o) (h':H b=some u) (d:o≠u):a≠b:=by
  intro e;subst e;rw[h] at h';exact d (Option.some.inj h')
theorem aY {H:Hp} {a b:Addr} {o:HO} (h:H a=some o) (h':H b=none):a≠b:=by
  intro e;subst e;rw[h] at h';cases h'
section
variable (P:Program) (w:World)
def d8 (H:Hp) (h:Heap) (a:Addr):HO→Prop
  | .lst xs=>xs.length≤sizeLine∧∃(its:List Value) (n:Nat),Vals xs its∧h.get? a=some {cls:=.type "list",data:=.seq its.toArray n}
  | .tup xs=>xs.length≤sizeLine∧∃its:List Value,Vals xs its∧IsTup h a its.toArray
  | .dK kvs=>kvs.length≤sizeLine∧(a == sysModules)=false∧∃vs,KV kvs vs∧h.DictOf (cD P w) a vs
  | .dT kvs=>kvs.length≤sizeLine∧(a == sysModules)=false∧∃xs:List (List Key×Addr×Value),
      Paired (fun(p:List Key×V) (q:List Key×Addr×Value)=>p.1=q.1∧H q.2.1=some (.tup (p.1.map kV))∧RelV p.2 q.2.2) kvs xs∧
      ∃o es ep,h.get? a=some o∧o.ExactDict∧o.data = .dict es ep∧es.toList=xs.map (entryOfKey (tupleKind (cD P w)))∧(xs.map (·.1)).Nodup
  | .set S n=>h.SetOf (intKind P w) a S n
  | .ins C dx fs=>H dx=some (.own a)∧fs.length≤1000∧dx≠a∧h.get? a=some (W.instObj C dx)∧
      ∃mA,h.Ns1 dx mA∧(∀f,Dq (fs.lookup f) (mA f))∧PySem.Within mA (fs.map (·.1))
  | .own _=>∃o,h.get? a=some o
  | .xd fs=>∃mA,h.Ns1 a mA∧∀f,Dq (fs.lookup f) (mA f)
  | .rng lo hi=>∃t u v,h.get? a=some {cls:=.type "range",data:=.fields #[.int lo t,.int hi u,.int 1 v]}
  | .Ut o u=>h.get? a=some o∧d8 H h a u
  | .tbl ps=>h.get? a=some {cls:=.none,data:=.fields ps}
  | .met f x=>h.get? a=some (W.methodObj (.ref f) (.ref x))
  | .ext φ=>φ h∧(∃o,h.get? a=some o)∧∀h1 h2:Heap,φ h1→(∀o,h1.get? a=some o→h2.get? a=some o)→φ h2
def Du (H:Hp) (h:Heap):Prop:=∀a o,H a=some o→d8 P w H h a o
end
section
variable {P:Program} {w:World} {H H':Hp} {h h':Heap} {a:Addr} {o:HO}
theorem d8.lt (x:d8 P w H h a o):a<h.objs.size:=by
  cases o with
  | lst xs=>obtain⟨_,_,_,_,e⟩:=x;exact Heap.lt_size e
  | tup xs=>obtain⟨_,_,_,p⟩:=x;exact p.lt
  | dK kvs=>obtain⟨_,_,_,_,o,_,_,e,_⟩:=x;exact Heap.lt_size e
  | dT kvs=>obtain⟨_,_,_,_,o,_,_,e,_⟩:=x;exact Heap.lt_size e
  | set S n=>obtain⟨o,_,_,_,e,_⟩:=x;exact Heap.lt_size e
  | ins C dx fs=>obtain⟨_,_,_,e,_⟩:=x;exact Heap.lt_size e
  | own y=>obtain⟨_,e⟩:=x;exact Heap.lt_size e
  | xd fs=>obtain⟨_,⟨_,_,_,e,_⟩,_⟩:=x;exact Heap.lt_size e
  | rng lo hi=>obtain⟨_,_,_,e⟩:=x;exact Heap.lt_size e
  | Ut ob u=>obtain⟨e,_⟩:=x;exact Heap.lt_size e
  | tbl ps=>exact Heap.lt_size (show h.get? a=some _ from x)
  | met f y=>exact Heap.lt_size (show h.get? a=some _ from x)
  | ext φ=>obtain⟨_,⟨_,e⟩,_⟩:=x;exact Heap.lt_size e
theorem Paired.qfy {α β:Type} {F G:α→β→Prop}:∀{l₁:List α} {l₂:List β},Paired F l₁ l₂→(∀a b,F a b→G a b)→Paired G l₁ l₂
  | _,_,.nil,_=>.nil
  | _,_,.cons r t,f=>.cons (f _ _ r) (Paired.qfy t f)
theorem d8.stay (x:d8 P w H h a o) (k:∀b u,(b=a∨H b=some (.own a))→h.get? b=some u→h'.get? b=some u)
    (ho:∀b,H b=some (.own a)→H' b=some (.own a)) (ht:∀b xs,H b=some (.tup xs)→H' b=some (.tup xs)):d8 P w H' h' a o:=by
  induction o with
  | lst xs=>obtain⟨z,its,n,r,e⟩:=x;exact⟨z,its,n,r,k _ _ (.inl rfl) e⟩
  | tup xs=>obtain⟨z,its,r,ob,e,c⟩:=x;exact⟨z,its,r,ob,k _ _ (.inl rfl) e,c⟩
  | dK kvs=>obtain⟨z,y,vs,r,ob,es,ep,e,c⟩:=x;exact⟨z,y,vs,r,ob,es,ep,k _ _ (.inl rfl) e,c⟩
  | dT kvs=>
    obtain⟨z,y,xs,r,ob,es,ep,e,c⟩:=x;exact⟨z,y,xs,Paired.qfy r fun p q z=>⟨z.1,ht _ _ z.2.1,z.2.2⟩,ob,es,ep,k _ _ (.inl rfl) e,c⟩
  | set S n=>obtain⟨ob,es,ep,t,e,c⟩:=x;exact⟨ob,es,ep,t,k _ _ (.inl rfl) e,c⟩
  | ins C dx fs=>
    obtain⟨d,z,ne,e,mA,⟨od,es,ep,e2,c⟩,r⟩:=x;exact⟨ho _ d,z,ne,k _ _ (.inl rfl) e,mA,⟨od,es,ep,k _ _ (.inr d) e2,c⟩,r⟩
  | own y=>obtain⟨ob,e⟩:=x;exact⟨ob,k _ _ (.inl rfl) e⟩
  | xd fs=>obtain⟨mA,⟨od,es,ep,e,c⟩,r⟩:=x;exact⟨mA,⟨od,es,ep,k _ _ (.inl rfl) e,c⟩,r⟩
  | rng lo hi=>obtain⟨t,u,v,e⟩:=x;exact⟨t,u,v,k _ _ (.inl rfl) e⟩
  | Ut ob u ih=>obtain⟨e,q⟩:=x;exact⟨k _ _ (.inl rfl) e,ih q⟩
  | tbl ps=>
    have e:h.get? a=some {cls:=.none,data:=.fields ps}:=x;show h'.get? a=some {cls:=.none,data:=.fields ps};exact k a _ (.inl rfl) e
  | met f y=>
    have e:h.get? a=some (W.methodObj (.ref f) (.ref y)):=x;show h'.get? a=some (W.methodObj (.ref f) (.ref y));exact k a _ (.inl rfl) e
  | ext φ=>obtain⟨p,⟨o,e⟩,st⟩:=x;exact⟨st _ _ p fun o q=>k _ _ (.inl rfl) q,⟨o,k _ _ (.inl rfl) e⟩,st⟩
theorem Du.lt (x:Du P w H h) (e:H a=some o):a<h.objs.size:=(x a o e).lt
theorem Du.fresh (x:Du P w H h) (e:h.objs.size≤a):H a=none:=by
  cases q:H a with
  | none=>rfl
  | some u=>exact absurd (Nat.lt_of_lt_of_le (x.lt q) e) (Nat.lt_irrefl _)
theorem Du.kept (x:Du P w H h) (k:∀b u,h.get? b=some u→h'.get? b=some u):Du P w H h':=fun a o e=>
  (x a o e).stay (fun b u _ q=>k b u q) (fun _ q=>q) fun _ _ q=>q
theorem Du.laid (x:Du P w H h) (k:∀b u,h.get? b=some u→h'.get? b=some u) (hp:h.objs.size≤a) (new:d8 P w (upd H a o) h' a o):Du P w (upd H a o) h':=fun b u e=>by
  have hn:=x.fresh hp
  by_cases hb:b=a
  ·subst hb;rw[aA] at e;cases e;exact new
  ·rw[aV hb] at e;exact(x b u e).stay (fun c v _ q=>k c v q) (fun c q=>by rw[aV (aY q hn)];exact q) fun c xs q=>by rw[aV (aY q hn)];exact q
end
def Rd (H:Hp) (a:Addr) (u:HO):Prop:=H a=some u∨∃o,H a=some (.Ut o u)
theorem Rd.ok {P:Program} {w:World} {H:Hp} {h:Heap} {a:Addr} {u:HO} (r:Rd H a u) (x:Du P w H h):d8 P w H h a u:=by
  rcases r with r | ⟨o,r⟩
  ·exact x a u r
  ·obtain⟨_,q⟩:=x a _ r;exact q
def Mut:Option HO→Prop
  | some (.lst _)=>True
  | some (.dK _)=>True
  | some (.dT _)=>True
  | some (.set _ _)=>True
  | some (.ins _ _ _)=>True
  | some (.ext _)=>True
  | _=>False
section
variable {P:Program} {w:World} {H:Hp} {h h':Heap} {x e:Addr} {o':HO}
theorem Du.write (ok:Du P w H h) (mu:Mut (H x)) (he:e=x∨H e=some (.own x)) (k:∀b u,b≠e→h.get? b=some u→h'.get? b=some u) (heo:∃u,h'.get? e=some u)
    (new:d8 P w (upd H x o') h' x o'):Du P w (upd H x o') h':=fun b u q=>by
  have qij:∀c y,H c=some (.own y)→c≠x:=fun c y r z=>by subst z;rw[r] at mu;exact mu
  have qnZ:∀c xs,H c=some (.tup xs)→c≠x:=fun c xs r z=>by subst z;rw[r] at mu;exact mu
  by_cases hb:b=x
  ·subst hb;rw[aA] at q;cases q;exact new
  · rw[aV hb] at q
    by_cases hbe:b=e
    · have q':H b=some (.own x):=by
        rcases he with z | z
        ·exact absurd (hbe.trans z) hb
        ·rw[hbe];exact z
      rw[q] at q';cases q';obtain⟨v,hv⟩:=heo;exact⟨v,by rw[hbe];exact hv⟩
    · refine(ok b u q).stay (fun c v hc r=>k c v ?_ r) (fun c r=>by rw[aV (qij c b r)];exact r) fun c xs r=>by rw[aV (qnZ c xs r)];exact r
      rcases hc with rfl | hc
      ·exact hbe
      · rintro rfl
        rcases he with z | z
        ·exact qij c b hc z
        ·rw[hc] at z;cases z;exact hb rfl
end
structure Un (fs ex:List Addr) (H H':Hp) (h h':Heap):Prop where
  keep:∀b o,h.get? b=some o→H b=none→b∉fs→b∉ex→h'.get? b=some o
  slot:∀b o,h.get? b=some o→H b=none→b∈fs→b∉ex→∃sl,h'.get? b=some {o with slots:=sl}
  free:∀b o,h.get? b=some o→H b=none→b∉ex→H' b=none
  there:∀b o,h.get? b=some o→b∉ex→∃o',h'.get? b=some o'
  tups:∀b xs,H b=some (.tup xs)→H' b=some (.tup xs)
  Gm:∀b o u,H b=some (.Ut o u)→H' b=some (.Ut o u)
  Hq:∀b ps,H b=some (.tbl ps)→∃more,H' b=some (.tbl (ps++more))
section
variable {fs fs' ex ex':List Addr} {H H1 H2:Hp} {h h1 h2 h':Heap} {a x e:Addr} {o:HO}
theorem Un.any (u:Un fs ex H H1 h h1) {b:Addr} {ob:Obj} (q:h.get? b=some ob) (n:H b=none) (hx:b∉ex):∃sl,h1.get? b=some {ob with slots:=sl}:=by
  by_cases hb:b∈fs
  ·exact u.slot b ob q n hb hx
  ·exact⟨ob.slots,u.keep b ob q n hb hx⟩
theorem Un.kept (k:∀b u,h.get? b=some u→h'.get? b=some u):Un fs ex H H h h':=
  ⟨fun b ob q _ _ _=>k b ob q,fun b ob q _ _ _=>⟨ob.slots,k b ob q⟩,fun _ _ _ n _=>n,fun b ob q _=>⟨ob,k b ob q⟩,fun _ _ q=>q,fun _ _ _ q=>q,fun _ ps q=>⟨#[],by rw[q];simp⟩⟩
theorem Un.refl:Un fs ex H H h h:=Un.kept fun _ _ q=>q
theorem Un.laid (k:∀b u,h.get? b=some u→h'.get? b=some u) (hp:h.objs.size≤a) (hn:H a=none):Un fs ex H (upd H a o) h h' where
  keep:=fun b u q _ _ _=>k b u q
  slot:=fun b u q _ _ _=>⟨u.slots,k b u q⟩
  free:=fun b u q n _=>by rw[aV (Nat.ne_of_lt (Nat.lt_of_lt_of_le (Heap.lt_size q) hp))];exact n
  there:=fun b u q _=>⟨u,k b u q⟩
  tups:=fun b xs q=>by rw[aV (aY q hn)];exact q
  Gm:=fun b u xs q=>by rw[aV (aY q hn)];exact q
  Hq:=fun b ps q=>⟨#[],by rw[aV (aY q hn),q];simp⟩
theorem Un.write (mu:Mut (H x)) (he:e=x∨H e=some (.own x)) (k:∀b u,b≠e→h.get? b=some u→h'.get? b=some u) (heo:∃u,h'.get? e=some u):Un fs ex H (upd H x o) h h':=by
  have hx:∀b,H b=none→b≠x:=fun b n z=>by subst z;rw[n] at mu;exact mu
  have hb:∀b,H b=none→b≠e:=fun b n z=>by
    subst z
    rcases he with r | r
    ·exact hx b n r
    ·rw[n] at r;cases r
  have hm:∀b u,H b=some u→¬Mut (some u)→b≠x:=fun b u q nm z=>by subst z;rw[q] at mu;exact nm mu
  refine⟨fun b u q n _ _=>k b u (hb b n) q,fun b u q n _ _=>⟨u.slots,k b u (hb b n) q⟩,fun b u q n _=>by rw[aV (hx b n)];exact n,fun b u q _=>?_,
    fun b xs q=>by rw[aV (hm b _ q fun z=>z)];exact q,fun b u xs q=>by rw[aV (hm b _ q fun z=>z)];exact q,fun b ps q=>⟨#[],by rw[aV (hm b _ q fun z=>z),q];simp⟩⟩
  by_cases hbe:b=e
  ·subst hbe;exact heo
  ·exact⟨u,k b u hbe q⟩
end
def trk (h:Heap) (H:Hp):List Addr:=(List.range h.objs.size).filter fun a=>(H a).isSome
def Rq (h:Heap) (H:Hp):Heap:=W.hideAll h (trk h H)
theorem ZM (h:Heap) (H:Hp):(Rq h H).objs.size=h.objs.size:=W.hideAll_size _ _
theorem qa2 {h:Heap} {H:Hp} {b:Addr} {o:Obj} (e:h.get? b=some o) (n:H b=none):(Rq h H).get? b=some o:=
  W.hideAll_get _ e fun hm=>by
    have q:(H b).isSome=true:=(List.mem_filter.mp hm).2;rw[n] at q;simp at q
theorem qdn {h:Heap} {H:Hp} {b:Addr} {o:Obj} (e:(Rq h H).get? b=some o):h.get? b=some o∧H b=none:=by
  have e':h.get? b=some o:=W.of_hideAll (trk h H) e;refine⟨e',?_⟩;cases q:H b with
  | none=>rfl
  | some x=>
    have hm:b∈trk h H:=List.mem_filter.mpr ⟨List.mem_range.mpr (Heap.lt_size e'),by simp[q]⟩;have z:(Rq h H).get? b=none:=W.hideAll_none (trk h H) hm;rw[z] at e;cases e
def qdo (g h:Heap) (L:Addr):List (Addr×Obj):=(List.range h.objs.size).filterMap fun a=>if a=L∨(g.get? a).isSome=true then none else (h.get? a).map fun o=>(a,o)
def rest (g h:Heap) (L d:Addr):List (Addr×Obj):=(qdo g h L).filter fun p=>decide (p.1≠d)
structure Mod (K:W.Frag) (mg:Str→Option Value) (base:Heap):Prop where
  kin:K.In base
  glob:base.Ns mainGlobals mg
  blt:∃mb,base.Ns builtinsNs mb∧∀x:Str,x≠ "__name__" →mb x=bootBuiltins x
  nolimit:base.NoLimit
set_option genInjectivity false in
structure Cx where
  prog:Program
  w:World
  K:W.Frag
  mg:Str→Option Value
  base:Heap
  A:Around
  N:List Str
  s₀:Shared
  H₀:Hp
  env:Env
  outer:List Env
  stack:List Env
  ex:List Addr
  fn:Str→Bool
  calm:Bool
  pn:List (Addr×Obj)
  xe:Value→Shared→Prop
def frs (l:List Env):List Addr:=l.filterMap (·.frame)
abbrev Cx.fs (X:Cx):List Addr:=frs X.outer
def Vis (sc:Scope) (x:Str):Prop:=sc.names.lookup x=some .local∨sc.names.lookup x=some .cell∨sc.names.lookup x=some .free
def Loc (sc:Scope) (x:Str):Prop:=sc.names.lookup x=some .local∨sc.names.lookup x=some .cell
def Look (env:Env) (h:Heap) (m:Str→Option Value) (x:Str) (u:Value):Prop:=
  (env.kindOf x=some .local∧m x=some u)∨((env.kindOf x=some .cell∨env.kindOf x=some .free)∧∃c,env.cells.lookup x=some c∧h.IsCell c (some u))
structure Cx.Ok (X:Cx):Prop where
  mod:Mod X.K X.mg X.base
  kind:X.env.scope.kind = .function
  glob:X.env.globals=mainGlobals
  blt:X.env.builtins=builtinsNs
  above:X.s₀.heap.objs.size≤X.env.locals
  inj:∀x y c,X.env.cells.lookup x=some c→X.env.cells.lookup y=some c→x=y
  has:∀x,(X.env.kindOf x=some .cell∨X.env.kindOf x=some .free)→∃c,X.env.cells.lookup x=some c
  cab:∀x c,X.fn x=true→X.env.cells.lookup x=some c→X.s₀.heap.objs.size≤c
  hd:X.calm=true→X.A.handled=none
  frames:X.A.frames=some X.stack
  stk:X.stack=X.outer∨(X.stack=X.env::X.outer∧X.env.frame=some X.env.locals)
  exf:∀b∈X.ex,b≠X.env.locals∧∀x c,X.env.cells.lookup x=some c→c≠b
  bs:∀b o,X.base.get? b=some o→X.s₀.heap.get? b=some o∧X.H₀ b=none
  ZP:X.base.objs.size≤X.s₀.heap.objs.size
  Uu:∀b o,X.base.get? b=some o→b∉X.ex
  Uv:∀b∈X.ex,b∉X.fs
  Dv:X.s₀.heap.FunFrames X.base X.outer
  frf:∀b∈X.fs,X.H₀ b=none
structure Inv (X:Cx) (p_:List (Addr×Obj)) (σ:List (Option V)) (H:Hp) (s:Shared):Prop where
  ok:X.Ok
  os:s.os=X.s₀.os
  bare:AllBare s.gens
  base:Un X.fs X.ex X.H₀ H X.s₀.heap s.heap
  loc:∃m,s.heap.Ns X.env.locals m∧∀(i:Nat) (x:Str) (v:V),X.N[i]? = some x→σ[i]? = some (some v)→Vis X.env.scope x→∃u,RelV v u∧Look X.env s.heap m x u
  cell:∀x c,X.env.cells.lookup x=some c→∃v,s.heap.IsCell c v
  free:H X.env.locals=none
  p8:∀x c,X.env.cells.lookup x=some c→H c=none
  pin:∀p∈X.pn++p_,s.heap.get? p.1=some p.2∧H p.1=none∧p.1≠X.env.locals∧p.1∉X.fs∧∀v,p.2.data≠.cell v
  hok:Du X.prog X.w H s.heap
  len:σ.length=X.N.length
section
variable {X:Cx} {p_:List (Addr×Obj)} {σ:List (Option V)} {H H':Hp} {s:Shared} {h':Heap}
theorem Cx.Ok.qn0 (ok:X.Ok) {b:Addr} {o:Obj} (e:X.base.get? b=some o):b∉X.fs:=fun hb=>by
  have:=(ok.Dv.mem hb).1;rw[e] at this;cases this
theorem Inv.bs (I:Inv X p_ σ H s):∀b o,X.base.get? b=some o→s.heap.get? b=some o∧H b=none:=fun b o e=>
  ⟨I.base.keep b o (I.ok.bs b o e).1 (I.ok.bs b o e).2 (I.ok.qn0 e) (I.ok.Uu b o e),I.base.free b o (I.ok.bs b o e).1 (I.ok.bs b o e).2 (I.ok.Uu b o e)⟩
theorem Inv.bk (I:Inv X p_ σ H s):∀b o,X.base.get? b=some o→s.heap.get? b=some o:=fun b o e=>(I.bs b o e).1
theorem Inv.mod (I:Inv X p_ σ H s):Mod X.K X.mg X.base:=I.ok.mod
theorem Inv.FJ (I:Inv X p_ σ H s):X.K.In s.heap:=I.ok.mod.kin.keeps I.bk
theorem Inv.lt (I:Inv X p_ σ H s):X.env.locals<s.heap.objs.size:=let ⟨_,hn,_⟩:=I.loc;hn.lt
theorem Inv.sz (I:Inv X p_ σ H s):X.s₀.heap.objs.size≤s.heap.objs.size:=Nat.le_trans I.ok.above (Nat.le_of_lt I.lt)
theorem Inv.qn1 (I:Inv X p_ σ H s) {a:Addr} (h:s.heap.objs.size≤a):a∉X.fs:=fun hb=>by
  obtain⟨_,o,ho,_⟩:=I.ok.Dv.mem hb;exact absurd (Nat.lt_of_lt_of_le (Heap.lt_size ho) (Nat.le_trans I.sz h)) (Nat.lt_irrefl _)
theorem Inv.cne (I:Inv X p_ σ H s):∀x c,X.env.cells.lookup x=some c→c≠X.env.locals:=fun x c e z=>by
  obtain⟨v,o,ho,hd⟩:=I.cell x c e;obtain⟨m,⟨o',es,ep,ho',hd',_⟩,_⟩:=I.loc;rw[z,ho'] at ho;cases ho;rw[hd'] at hd;cases hd
theorem Inv.Dv (I:Inv X p_ σ H s):s.heap.FunFrames X.base X.outer:=by
  have all:∀(l:List Env),(∀b∈frs l,b∈X.fs)→X.s₀.heap.FunFrames X.base l→s.heap.FunFrames X.base l:=by
    intro l
    induction l with
    | nil=>intro _ _;trivial
    | cons env r ih=>
      intro hs hl;obtain⟨hk,⟨L,o,hf,hn,ho,hd⟩,hr⟩:=hl;have hL:L∈X.fs:=hs L (by unfold frs;rw[List.filterMap_cons,hf];exact List.mem_cons_self);obtain⟨sl,e⟩:=I.base.slot L o ho (I.ok.frf L hL) hL fun z=>I.ok.Uv L z hL;exact⟨hk,⟨L,_,hf,hn,e,hd⟩,ih (fun b hb=>hs b (by unfold frs;rw[List.filterMap_cons,hf];exact List.mem_cons_of_mem _ hb)) hr⟩
  exact all X.outer (fun _ hb=>hb) I.ok.Dv
theorem Inv.stack (I:Inv X p_ σ H s):s.heap.FunFrames X.base X.stack:=by
  rcases I.ok.stk with e | ⟨e,hf⟩
  ·rw[e];exact I.Dv
  ·rw[e];obtain⟨m,hn,_⟩:=I.loc;refine .cons (by rw[I.ok.kind];decide) hf hn ?_ I.Dv;exact Heap.get?_none_of_le (Nat.le_trans I.ok.ZP I.ok.above)
theorem Inv.Gn (I:Inv X p_ σ H s):∀b∈frs X.stack,b∈X.env.locals::X.fs:=fun b hb=>by
  rcases I.ok.stk with e | ⟨e,hf⟩
  ·rw[e] at hb;exact List.mem_cons_of_mem _ hb
  ·rw[e] at hb;unfold frs at hb;rw[List.filterMap_cons,hf] at hb;exact hb
theorem Inv.Le (I:Inv X p_ σ H s):∀b∈frs X.stack,H b=none:=fun b hb=>by
  rcases List.mem_cons.mp (I.Gn b hb) with e | hb
  ·rw[e];exact I.free
  ·obtain⟨_,o,ho,_⟩:=I.ok.Dv.mem hb;exact I.base.free b o ho (I.ok.frf b hb) fun z=>I.ok.Uv b z hb
theorem Inv.step {g':Array GenState} {t':Nat} {d':Drawn} {ch:List Addr} (I:Inv X p_ σ H s)
    (hch:∀b∈ch,(b∈X.ex∨X.s₀.heap.objs.size≤b)∧b≠X.env.locals∧(∀x c,X.env.cells.lookup x=some c→c≠b)∧∀p∈X.pn++p_,p.1≠b)
    (keep:∀b o,b≠X.env.locals→b∉X.fs→b∉ch→s.heap.get? b=some o→H b=none→h'.get? b=some o)
    (slot:∀b o,b≠X.env.locals→b∈X.fs→b∉ch→s.heap.get? b=some o→H b=none→∃sl,h'.get? b=some {o with slots:=sl}) (free:∀b o,b∉ch→s.heap.get? b=some o→H b=none→H' b=none)
    (there:∀b o,b∉ch→s.heap.get? b=some o→∃o',h'.get? b=some o')
    (tups:∀b xs,H b=some (.tup xs)→H' b=some (.tup xs)) (Gm:∀b o u,H b=some (.Ut o u)→H' b=some (.Ut o u)) (Hq:∀b ps,H b=some (.tbl ps)→∃more,H' b=some (.tbl (ps++more)))
    (ns:∀m,s.heap.Ns X.env.locals m→h'.Ns X.env.locals m) (hok:Du X.prog X.w H' h') (hg:AllBare g') :
    Inv X p_ σ H' {s with heap:=h',gens:=g',drawn:=d',toks:=t'}:=by
  have neL:∀b o,X.s₀.heap.get? b=some o→b≠X.env.locals:=fun b o e=>Nat.ne_of_lt (Nat.lt_of_lt_of_le (Heap.lt_size e) I.ok.above);have neC:∀b o,X.s₀.heap.get? b=some o→b∉X.ex→b∉ch:=fun b o e hx hb=>by
    rcases(hch b hb).1 with z | z
    ·exact hx z
    ·exact absurd (Nat.lt_of_lt_of_le (Heap.lt_size e) z) (Nat.lt_irrefl _)
  have cellK:∀x c,X.env.cells.lookup x=some c→∀v,s.heap.IsCell c v→h'.IsCell c v:=fun x c e v ⟨o,ho,hd⟩=>by
    have nch:c∉ch:=fun z=>(hch c z).2.2.1 x c e rfl
    by_cases hc:c∈X.fs
    ·obtain⟨sl,q⟩:=slot c o (I.cne x c e) hc nch ho (I.p8 x c e);exact⟨_,q,hd⟩
    ·exact⟨o,keep c o (I.cne x c e) hc nch ho (I.p8 x c e),hd⟩
  refine⟨I.ok,I.os,hg,⟨fun b o e n hb hx=>?_,fun b o e n hb hx=>?_,fun b o e n hx=>?_,fun b o e hx=>?_,fun b xs e=>tups b xs (I.base.tups b xs e),fun b o xs e=>Gm b o xs (I.base.Gm b o xs e),fun b ps e=>?_⟩,?_,fun x c e=>?_,?_,fun x c e=>?_,fun p hp=>?_,hok,I.len⟩
  ·exact keep b o (neL b o e) hb (neC b o e hx) (I.base.keep b o e n hb hx) (I.base.free b o e n hx)
  ·obtain⟨sl,e1⟩:=I.base.slot b o e n hb hx;obtain⟨sl',e2⟩:=slot b _ (neL b o e) hb (neC b o e hx) e1 (I.base.free b o e n hx);exact⟨sl',e2⟩
  ·obtain⟨o',e1⟩:=I.base.there b o e hx;exact free b o' (neC b o e hx) e1 (I.base.free b o e n hx)
  ·obtain⟨o',e1⟩:=I.base.there b o e hx;exact there b o' (neC b o e hx) e1
  ·obtain⟨m1,e1⟩:=I.base.Hq b ps e;obtain⟨m2,e2⟩:=Hq b _ e1;exact⟨m1++m2,by rw[e2,Array.append_assoc]⟩
  · obtain⟨m,hn,hl⟩:=I.loc;refine⟨m,ns m hn,fun i x v e1 e2 e3=>?_⟩;obtain⟨u,r,l⟩:=hl i x v e1 e2 e3;refine⟨u,r,?_⟩
    rcases l with l | ⟨k,c,e,z⟩
    ·exact .inl l
    ·exact .inr ⟨k,c,e,cellK x c e _ z⟩
  ·obtain⟨v,z⟩:=I.cell x c e;exact⟨v,cellK x c e v z⟩
  ·obtain⟨m,⟨o,_,_,ho,_⟩,_⟩:=I.loc;exact free _ o (fun z=>(hch _ z).2.1 rfl) ho I.free
  ·obtain⟨v,o,ho,hd⟩:=I.cell x c e;exact free c o (fun z=>(hch c z).2.2.1 x c e rfl) ho (I.p8 x c e)
  ·obtain⟨e,n,ne,nf,d⟩:=I.pin p hp;have nch:p.1∉ch:=fun z=>(hch p.1 z).2.2.2 p hp rfl;exact⟨keep p.1 p.2 ne nf nch e n,free p.1 p.2 nch e n,ne,nf,d⟩
theorem Inv.un {t':Nat} (I:Inv X p_ σ H s) (u:Un X.fs [] H H' s.heap h') (hok:Du X.prog X.w H' h'):Inv X p_ σ H' {s with heap:=h',toks:=t'}:=by
  obtain⟨m,⟨o,es,ep,ho,r⟩,_⟩:=id I.loc;obtain⟨sl,hL⟩:=u.any ho I.free (by simp);exact I.step (g':=s.gens) (d':=s.drawn) (ch:=[]) (fun _ z=>nomatch z) (fun b o _ hb _ e n=>u.keep b o e n hb (by simp)) (fun b o _ hb _ e n=>u.slot b o e n hb (by simp)) (fun b o _ e n=>u.free b o e n (by simp)) (fun b o _ e=>u.there b o e (by simp)) u.tups u.Gm u.Hq (fun m' hm=>by
    obtain⟨o',es',ep',ho',r'⟩:=hm;rw[ho] at ho';cases ho';exact⟨_,es',ep',hL,r'⟩) hok I.bare
theorem Inv.call {g':Array GenState} {t':Nat} {d':Drawn} {ch:List Addr} (I:Inv X p_ σ H s) (u:Un (frs X.stack) ch H H' s.heap h') (hok:Du X.prog X.w H' h') (hg:AllBare g')
    (hch:∀b∈ch,(b∈X.ex∨X.s₀.heap.objs.size≤b)∧b≠X.env.locals∧(∀x c,X.env.cells.lookup x=some c→c≠b)∧∀p∈X.pn++p_,p.1≠b) :
    Inv X p_ σ H' {s with heap:=h',gens:=g',drawn:=d',toks:=t'}:=by
  obtain⟨m,⟨o,es,ep,ho,r⟩,_⟩:=id I.loc;obtain⟨sl,hL⟩:=u.any ho I.free fun z=>(hch _ z).2.1 rfl;exact I.step (ch:=ch) hch (fun b o hL hb hc e n=>u.keep b o e n (fun z=>(List.mem_cons.mp (I.Gn b z)).elim hL hb) hc) (fun b o _ _ hc e n=>u.any e n hc) (fun b o hc e n=>u.free b o e n hc) (fun b o hc e=>u.there b o e hc) u.tups u.Gm u.Hq (fun m' hm=>by
    obtain⟨o',es',ep',ho',r'⟩:=hm;rw[ho] at ho';cases ho';exact⟨_,es',ep',hL,r'⟩) hok hg
theorem Inv.turned {t':Nat} {it:Addr} (I:Inv X p_ σ H s) (k:∀b o,b≠it→s.heap.get? b=some o→h'.get? b=some o) (hn:H it=none) (hL:it≠X.env.locals)
    (h1:it∈X.ex∨X.s₀.heap.objs.size≤it) (h2:∀x c,X.env.cells.lookup x=some c→c≠it) (h3:∀p∈X.pn++p_,p.1≠it):Inv X p_ σ H {s with heap:=h',toks:=t'}:=by
  have nit:∀b u,H b=some u→b≠it:=fun b u e z=>by rw[z,hn] at e;cases e
  refine I.step (g':=s.gens) (d':=s.drawn) (ch:=[it]) (fun b hb=>?_) (fun b o _ _ hc e _=>k b o (fun z=>hc (by simp[z])) e) (fun b o _ _ hc e _=>⟨o.slots,k b o (fun z=>hc (by simp[z])) e⟩) (fun _ _ _ _ n=>n)
    (fun b o hc e=>⟨o,k b o (fun z=>hc (by simp[z])) e⟩) (fun _ _ e=>e) (fun _ _ _ e=>e) (fun b ps e=>⟨#[],by rw[e];simp⟩) (fun m hm=>?_) (fun b u e=>?_) I.bare
  · have e:b=it:=by simpa using hb
    subst e;exact⟨h1,hL,h2,h3⟩
  ·obtain⟨o,es,ep,ho,r⟩:=hm;exact⟨o,es,ep,k _ o (Ne.symm hL) ho,r⟩
  · refine(I.hok b u e).stay (fun c v hc q=>k c v ?_ q) (fun _ q=>q) fun _ _ q=>q
    rcases hc with z | z
    ·rw[z];exact nit b u e
    ·exact nit c _ z
theorem Inv.tok (I:Inv X p_ σ H s) (t:Nat):Inv X p_ σ H {s with toks:=t}:=I.un (h':=s.heap) (t':=t) Un.refl I.hok
theorem Inv.kept {t':Nat} (I:Inv X p_ σ H s) (k:∀b u,s.heap.get? b=some u→h'.get? b=some u):Inv X p_ σ H {s with heap:=h',toks:=t'}:=I.un (Un.kept k) (I.hok.kept k)
theorem Inv.laid {a:Addr} {o:HO} {t':Nat} (I:Inv X p_ σ H s) (k:∀b u,s.heap.get? b=some u→h'.get? b=some u) (hp:s.heap.objs.size≤a) (new:d8 X.prog X.w (upd H a o) h' a o) :
    Inv X p_ σ (upd H a o) {s with heap:=h',toks:=t'}:=I.un (Un.laid k hp (I.hok.fresh hp)) (I.hok.laid k hp new)
theorem Inv.write {x e:Addr} {o:HO} {t':Nat} (I:Inv X p_ σ H s) (mu:Mut (H x)) (he:e=x∨H e=some (.own x)) (k:∀b u,b≠e→s.heap.get? b=some u→h'.get? b=some u) (heo:∃u,h'.get? e=some u)
    (new:d8 X.prog X.w (upd H x o) h' x o):Inv X p_ σ (upd H x o) {s with heap:=h',toks:=t'}:=I.un (Un.write mu he k heo) (I.hok.write mu he k heo new)
theorem Inv.YD {Mf:List (Addr×Obj)} (I:Inv X p_ σ H s) (h:∀p∈Mf,s.heap.get? p.1=some p.2∧H p.1=none∧p.1≠X.env.locals∧p.1∉X.fs∧∀v,p.2.data≠.cell v):Inv X Mf σ H s:=
  ⟨I.ok,I.os,I.bare,I.base,I.loc,I.cell,I.free,I.p8,fun p hp=>(List.mem_append.mp hp).elim (fun z=>I.pin p (List.mem_append_left _ z)) (h p),I.hok,I.len⟩
theorem Mg {N:List Str} (hN:N.Nodup) {i j:Nat} {x:Str} (a:N[i]? = some x) (b:N[j]? = some x):i=j:=by
  obtain⟨h1,e1⟩:=List.getElem?_eq_some_iff.mp a;obtain⟨h2,e2⟩:=List.getElem?_eq_some_iff.mp b;exact(List.getElem_inj hN).mp (e1.trans e2.symm)
theorem E_ {M:Model} {A:Around} {E:Value→Shared→Prop} {i:Nat} {x:Str} {v:V} {u:Value} {Q:Unit→Shared→Prop} (I:Inv X p_ σ H s) (hN:X.N.Nodup) (hi:X.N[i]? = some x) (hx:Loc X.env.scope x) (r:RelV v u)
    (h:∀s',Inv X p_ (σ.set i (some v)) H s'→(∃a,Heap.SameBut a s.heap s'.heap∧(a=X.env.locals∨X.env.cells.lookup x=some a))→Q () s') (hf:X.fn x=true∨X.env.scope.names.lookup x=some .local:=by first | exact .inl rfl | exact .inr rfl | assumption):wpAny M A (storeName X.env x u) Q E s:=by
  obtain⟨m,hn,hl⟩:=id I.loc;have hcls:(X.env.scope.kind == .class || (X.env.scope.kind == .module && X.env.locals != X.env.globals))=false:=by rw[I.ok.kind];rfl
  have hiσ:i<σ.length:=by rw[I.len];exact(List.getElem?_eq_some_iff.mp hi).1
  have cne:=I.cne;have tracked:∀{a:Addr} {h':Heap},(∃o,s.heap.get? a=some o∧H a=none)→Heap.SameBut a s.heap h'→Du X.prog X.w H h':=fun {a h'} ha hs b ob e=>by
    obtain⟨_,_,hfree⟩:=ha;refine(I.hok b ob e).stay (fun c w' hc q=>(hs.2 c ?_).trans q) (fun _ q=>q) fun _ _ q=>q;rintro rfl
    rcases hc with rfl | hc
    ·rw[hfree] at e;cases e
    ·rw[hfree] at hc;cases hc
  rcases hx with hk | hk
  · refine wpAny_storeName_local hk hn (fun h' hn' hs=>?_) hcls;obtain⟨oL,_,_,hoL,_⟩:=id hn;refine h _ ⟨I.ok,I.os,I.bare,⟨fun b o e n hb hx=>?_,fun b o e n hb hx=>?_,I.base.free,fun b o e hx=>?_,I.base.tups,I.base.Gm,I.base.Hq⟩,⟨_,hn',fun j y v' e1 e2 e3=>?_⟩,fun y c e=>?_,I.free,I.p8,fun p hp=>?_,tracked ⟨oL,hoL,I.free⟩ hs,by simpa using I.len⟩ ⟨_,hs,.inl rfl⟩
    ·exact(hs.2 b (Nat.ne_of_lt (Nat.lt_of_lt_of_le (Heap.lt_size e) I.ok.above))).trans (I.base.keep b o e n hb hx)
    ·obtain⟨sl,e1⟩:=I.base.slot b o e n hb hx;exact⟨sl,(hs.2 b (Nat.ne_of_lt (Nat.lt_of_lt_of_le (Heap.lt_size e) I.ok.above))).trans e1⟩
    ·obtain⟨o',e1⟩:=I.base.there b o e hx;exact⟨o',(hs.2 b (Nat.ne_of_lt (Nat.lt_of_lt_of_le (Heap.lt_size e) I.ok.above))).trans e1⟩
    · by_cases hj:j=i
      ·subst hj;rw[hi] at e1;cases e1;rw[List.getElem?_set_self hiσ] at e2;cases e2;exact⟨u,r,.inl ⟨hk,by simp⟩⟩
      · rw[List.getElem?_set_ne (Ne.symm hj)] at e2;obtain⟨u',r',q⟩:=hl j y v' e1 e2 e3;refine⟨u',r',?_⟩
        rcases q with⟨k,e⟩ | ⟨k,c,e,z⟩
        ·refine .inl ⟨k,?_⟩;have:y≠x:=fun e=>hj (Mg hN e1 (e▸hi));simp[this,e]
        ·exact .inr ⟨k,c,e,z.sameBut hs (cne y c e)⟩
    ·obtain⟨w',z⟩:=I.cell y c e;exact⟨w',z.sameBut hs (cne y c e)⟩
    ·obtain⟨e,n,ne,nf,d⟩:=I.pin p hp;exact⟨(hs.2 p.1 ne).trans e,n,ne,nf,d⟩
  · have hfn:X.fn x=true:=by
      rcases hf with z | z
      ·exact z
      ·rw[z] at hk;cases hk
    obtain⟨c,hc⟩:=I.ok.has x (.inl hk);obtain⟨w',z⟩:=I.cell x c hc;refine wpAny_storeName_cell I.ok.kind hk hc z (fun h' hc' hs=>?_);obtain⟨oc,hoc,qn2⟩:=id z;refine h {s with heap:=h'} ⟨I.ok,I.os,I.bare,⟨fun b o e n hb hx=>?_,fun b o e n hb hx=>?_,I.base.free,fun b o e hx=>?_,I.base.tups,I.base.Gm,I.base.Hq⟩,⟨m,hn.sameBut hs (Ne.symm (cne x c hc)),fun j y v' e1 e2 e3=>?_⟩,fun y c' e=>?_,I.free,I.p8,fun p hp=>?_,tracked ⟨oc,hoc,I.p8 x c hc⟩ hs,by simpa using I.len⟩ ⟨c,hs,.inr hc⟩
    ·exact(hs.2 b (Nat.ne_of_lt (Nat.lt_of_lt_of_le (Heap.lt_size e) (I.ok.cab x c hfn hc)))).trans (I.base.keep b o e n hb hx)
    ·obtain⟨sl,e1⟩:=I.base.slot b o e n hb hx;exact⟨sl,(hs.2 b (Nat.ne_of_lt (Nat.lt_of_lt_of_le (Heap.lt_size e) (I.ok.cab x c hfn hc)))).trans e1⟩
    ·obtain⟨o',e1⟩:=I.base.there b o e hx;exact⟨o',(hs.2 b (Nat.ne_of_lt (Nat.lt_of_lt_of_le (Heap.lt_size e) (I.ok.cab x c hfn hc)))).trans e1⟩
    · by_cases hj:j=i
      ·subst hj;rw[hi] at e1;cases e1;rw[List.getElem?_set_self hiσ] at e2;cases e2;exact⟨u,r,.inr ⟨.inl hk,c,hc,hc'⟩⟩
      · rw[List.getElem?_set_ne (Ne.symm hj)] at e2;obtain⟨u',r',q⟩:=hl j y v' e1 e2 e3;refine⟨u',r',?_⟩
        rcases q with q | ⟨k,c',e,z'⟩
        ·exact .inl q
        ·refine .inr ⟨k,c',e,z'.sameBut hs ?_⟩;rintro rfl;exact hj (Mg hN e1 (I.ok.inj _ _ _ e hc▸hi))
    · by_cases hcc:c'=c
      ·subst hcc;exact⟨_,hc'⟩
      ·obtain⟨w2,z2⟩:=I.cell y c' e;exact⟨w2,z2.sameBut hs hcc⟩
    ·obtain⟨e,n,ne,nf,d⟩:=I.pin p hp;refine⟨(hs.2 p.1 ?_).trans e,n,ne,nf,d⟩;intro q;rw[q,hoc] at e;have q':oc=p.2:=Option.some.inj e;exact d w' (by rw[← q'];exact qn2)
theorem uh {M:Model} {A:Around} {E:Value→Shared→Prop} {i:Nat} {x:Str} {v:V} {u:Value} {Q:Unit→Shared→Prop} (I:Inv X p_ σ H s) (hN:X.N.Nodup) (hi:X.N[i]? = some x) (hx:Loc X.env.scope x) (r:RelV v u)
    (h:∀s',Inv X p_ (σ.set i (some v)) H s'→Q () s') (hf:X.fn x=true∨X.env.scope.names.lookup x=some .local:=by first | exact .inl rfl | exact .inr rfl | assumption):wpAny M A (storeName X.env x u) Q E s:=
  E_ I hN hi hx r (fun s' I' _=>h s' I') hf
theorem Inv.call' {s':Shared} {ch:List Addr} (I:Inv X p_ σ H s) (ho:s'.os=s.os) (u:Un (frs X.stack) ch H H' s.heap s'.heap) (hok:Du X.prog X.w H' s'.heap) (hg:AllBare s'.gens)
    (hch:∀b∈ch,(b∈X.ex∨X.s₀.heap.objs.size≤b)∧b≠X.env.locals∧(∀x c,X.env.cells.lookup x=some c→c≠b)∧∀p∈X.pn++p_,p.1≠b):Inv X p_ σ H' s':=by
  obtain⟨h',g',d',t',o'⟩:=s';have e:o'=s.os:=ho;subst e;exact I.call (g':=g') (t':=t') (d':=d') u hok hg hch
end
abbrev XK:=Value→Option Addr→Hp→Prop
abbrev St:=List (Option V)
abbrev VK:=V→Hp→Prop
abbrev TE:=St→Hp→VK→Prop
abbrev TT:=St→Hp→(Bool→Hp→Prop)→Prop
abbrev TA:=St→Hp→(List V→Hp→Prop)→Prop
structure Ends where
  nx:St→Hp→Prop
  rt:VK
  bk:St→Hp→Prop:=fun _ _=>False
  ct:St→Hp→Prop:=fun _ _=>False
abbrev TS:=Ends→St→Hp→Prop
def EP (X:Cx) (p_:List (Addr×Obj)) (σ:St) (Q:VK) (u:Value) (s':Shared):Prop:=∃v H',Inv X p_ σ H' s'∧RelV v u∧Q v H'
def TP (X:Cx) (p_:List (Addr×Obj)) (σ:St) (Q:Bool→Hp→Prop) (b:Bool) (s':Shared):Prop:=∃H',Inv X p_ σ H' s'∧Q b H'
def AP (X:Cx) (p_:List (Addr×Obj)) (σ:St) (Q:List V→Hp→Prop) (us:List Value) (s':Shared):Prop:=∃vs H',Inv X p_ σ H' s'∧Vals vs us∧Q vs H'
def SP (X:Cx) (p_:List (Addr×Obj)) (D:Ends) (f:Flow) (s':Shared):Prop:=
  match f with
  | .next=>∃σ' H',Inv X p_ σ' H' s'∧D.nx σ' H'
  | .brk=>∃σ' H',Inv X p_ σ' H' s'∧D.bk σ' H'
  | .cont=>∃σ' H',Inv X p_ σ' H' s'∧D.ct σ' H'
  | .ret u=>∃v σ' H',Inv X p_ σ' H' s'∧RelV v u∧D.rt v H'
def PE (X:Cx) (e:Expr) (t:TE):Prop:=
  ∀(p_:List (Addr×Obj)) (s:Shared) (σ:St) (H:Hp) (Q:VK),Inv X p_ σ H s→t σ H Q→wpAny (model X.prog X.w) X.A (eval e X.env) (EP X p_ σ Q) X.xe s
def PT (X:Cx) (e:Expr) (t:TT):Prop:=
  ∀(p_:List (Addr×Obj)) (s:Shared) (σ:St) (H:Hp) (Q:Bool→Hp→Prop),Inv X p_ σ H s→t σ H Q→wpAny (model X.prog X.w) X.A (isTrue e X.env (eval e X.env)) (TP X p_ σ Q) X.xe s
def PW (X:Cx) (e:Expr) (t:TT):Prop:=
  ∀(whole:Sem Value) (p_:List (Addr×Obj)) (s:Shared) (σ:St) (H:Hp) (Q:Bool→Hp→Prop),Inv X p_ σ H s→t σ H Q→wpAny (model X.prog X.w) X.A (isTrue e X.env whole) (TP X p_ σ Q) X.xe s
theorem PW.pt {X:Cx} {e:Expr} {t:TT} (h:PW X e t):PT X e t:=h _
def PA (X:Cx) (es:List Expr) (t:TA):Prop:=
  ∀(pos:Pos) (p_:List (Addr×Obj)) (s:Shared) (σ:St) (H:Hp) (Q:List V→Hp→Prop),Inv X p_ σ H s→t σ H Q→wpAny (model X.prog X.w) X.A (spliced (backTo pos (starEach es X.env))) (AP X p_ σ Q) X.xe s
def PS (X:Cx) (st:Stmt) (t:TS):Prop:=
  ∀(p_:List (Addr×Obj)) (s:Shared) (σ:St) (H:Hp) (D:Ends),Inv X p_ σ H s→t D σ H→wpAny (model X.prog X.w) X.A (exec st X.env) (SP X p_ D) X.xe s
def Ph (X:Cx) (st:List Stmt) (t:TS):Prop:=
  ∀(p_:List (Addr×Obj)) (s:Shared) (σ:St) (H:Hp) (D:Ends),Inv X p_ σ H s→t D σ H→wpAny (model X.prog X.w) X.A (execs st X.env) (SP X p_ D) X.xe s
theorem d9 {α:Type} {t:Sem α} {Q Q':α→Shared→Prop} {M:Model} {A:Around} {E:Value→Shared→Prop} {s:Shared} (h:wpAny M A t Q E s) (hQ:∀a s,Q a s→Q' a s):wpAny M A t Q' E s:=wpAny_mono h hQ fun _ _ x=>x
section
variable {X:Cx}
def qfz (i:Nat):TE:=fun σ H Q=>∃v,σ[i]? = some (some v)∧Q v H
def tC (v:V):TE:=fun _ H Q=>Q v H
theorem qfA {i:Nat} {x:Str} {pos:Pos} (hN:X.N[i]? = some x) (hv:Vis X.env.scope x) (hd:(x == ("__debug__" : Str))=false:=by decide) (hcd:(x == ("__classdict__" : Str))=false:=by decide):PE X (.Name x pos) (qfz i):=by
  intro p_ s σ H Q I h;obtain⟨v,e,h⟩:=h;obtain⟨m,hn,hl⟩:=I.loc;obtain⟨u,r,l⟩:=hl i x v hN e hv;have fin:EP X p_ σ Q u s:=⟨v,H,I,r,h⟩
  rcases l with⟨hk,hm⟩ | ⟨hk,c,hc,hcell⟩
  ·exact wpAny_Name (wpAny_loadName_local I.ok.kind hk hn hm fin) hd
  · rcases hk with hk | hk
    ·exact wpAny_Name (wpAny_loadName_cell I.ok.kind hk hc hcell fin) hd
    ·exact wpAny_Name (wpAny_loadName_free I.ok.kind hk hc hcell fin hcd) hd
theorem aJ {i j pos}:PE X (.Constant (.int i) j pos) (tC (.int i)):=fun _ _ _ H _ I h=>wpAny_Constant_int ⟨.int i,H,I.tok _,⟨_,rfl⟩,h⟩
theorem dX {b j pos}:PE X (.Constant (.bool b) j pos) (tC (.bl b)):=fun _ _ _ H _ I h=>Constant_bool ⟨.bl b,H,I,rfl,h⟩
theorem rR {j pos}:PE X (.Constant .none j pos) (tC .non):=fun _ _ _ H _ I h=>Constant_none ⟨.non,H,I,rfl,h⟩
theorem bN {x j pos}:PE X (.Constant (.str x) j pos) (tC (.str x)):=fun _ _ _ H _ I h=>Calls.Constant_str ⟨.str x,H,I.tok _,⟨_,rfl⟩,h⟩
def Gl (X:Cx) (x:Str):Prop:=X.env.kindOf x=some .globalImplicit
theorem Bj {E:Value→Shared→Prop} {p_:List (Addr×Obj)} {s:Shared} {σ:St} {H:Hp} {x:Str} {u:Value} {pos:Pos} {Q:Value→Shared→Prop} (I:Inv X p_ σ H s) (hg:Gl X x) (hm:X.mg x=some u) (h:Q u s)
    (hd:(x == ("__debug__" : Str))=false:=by decide):wpAny (model X.prog X.w) X.A (eval (.Name x pos) X.env) Q E s:=
  Calls.Name_function_global I.ok.kind hg (Calls.loadGlobal_global (by rw[I.ok.glob];exact I.mod.glob.keeps I.bk) hm h) hd
theorem uP {E:Value→Shared→Prop} {p_:List (Addr×Obj)} {s:Shared} {σ:St} {H:Hp} {x:Str} {u:Value} {pos:Pos} {Q:Value→Shared→Prop} (I:Inv X p_ σ H s) (hg:Gl X x) (hm:X.mg x=none) (hv:bootBuiltins x=some u) (h:Q u s)
    (hn:x≠ "__name__" :=by decide) (hd:(x == ("__debug__" : Str))=false:=by decide):wpAny (model X.prog X.w) X.A (eval (.Name x pos) X.env) Q E s:=by
  obtain⟨mb,h1,h2⟩:=I.mod.blt;exact Calls.Name_function_global I.ok.kind hg (Calls.loadGlobal_builtin (by rw[I.ok.glob];exact I.mod.glob.keeps I.bk) hm (by rw[I.ok.blt];exact h1.keeps I.bk) ((h2 x hn).trans hv) h) hd
theorem aW {x:Str} {v:V} {u:Value} {pos:Pos} (hg:Gl X x) (hm:X.mg x=some u) (r:RelV v u) (hd:(x == ("__debug__" : Str))=false:=by decide):PE X (.Name x pos) (tC v):=
  fun _ _ _ H _ I h=>Bj I hg hm ⟨v,H,I,r,h⟩ hd
theorem oh {x:Str} {v:V} {u:Value} {pos:Pos} (hg:Gl X x) (hm:X.mg x=none) (hv:bootBuiltins x=some u) (r:RelV v u) (hn:x≠ "__name__" :=by decide) (hd:(x == ("__debug__" : Str))=false:=by decide):PE X (.Name x pos) (tC v):=
  fun _ _ _ H _ I h=>uP I hg hm hv ⟨v,H,I,r,h⟩ hn hd
variable {a b:Expr} {ta tb:TE} {pos:Pos}
def PC (X:Cx) (op:CmpOp) (a b:Expr) (t:TE):Prop:=
  ∀(p_:List (Addr×Obj)) (s:Shared) (σ:St) (H:Hp) (Q:VK),Inv X p_ σ H s→t σ H Q→
    wpAny (model X.prog X.w) X.A (eval a X.env) (fun v s₁=>wpAny (model X.prog X.w) X.A (eval b X.env) (fun u s₂=>wpAny (model X.prog X.w) X.A (compareOp op v u) (EP X p_ σ Q) X.xe s₂) X.xe s₁) X.xe s
theorem Uw (b:Expr) {op:CmpOp} (h:op≠.In) (h2:op≠.NotIn):behindInMarks op b=false:=by
  have e1:(op == CmpOp.In)=false:=by cases op <;> first | rfl | exact absurd rfl h
  have e2:(op == CmpOp.NotIn)=false:=by cases op <;> first | rfl | exact absurd rfl h2
  cases b <;> simp[behindInMarks,e1,e2]
def tB (t:TE):TT:=fun σ H Q=>t σ H fun x H1=>∃c,x = .bl c∧Q c H1
theorem qfB {op:CmpOp} {t:TE} (h:PC X op a b t) (h1:behindInMarks op b=false:=by first | exact Uw _ (by decide) (by decide) | rfl):PT X (.Compare a [op] [b] pos) (tB t):=by
  intro p_ s σ H Q I hw;refine wpAny_isTrue_Compare1 (d9 (h p_ s σ H _ I hw) fun v s1 h1=>d9 h1 fun u s2 h2=>d9 h2 fun c s3 zz=>?_) h1;obtain⟨x,H1,I1,r1,q1⟩:=zz;obtain⟨d,rfl,q⟩:=q1;cases r1;exact wpAny_truthy_bool ⟨H1,I1,q⟩
theorem qfC {e:Expr} {t:TE} (h:PE X e t) (he:∀whole,isTrue e X.env whole=(do let v ← whole;standAt e.pos;holding [v] (truthy v)):=by intro _;rfl):PT X e (tB t):=by
  intro p_ s σ H Q I hw;refine isTrue_plain (d9 (h p_ s σ H _ I hw) fun v s1 zz=>?_) (he _);obtain⟨x,H1,I1,r1,q1⟩:=zz;obtain⟨d,rfl,q⟩:=q1;cases r1;exact wpAny_truthy_bool ⟨H1,I1,q⟩
variable {tA tB':TT} {rest:List Expr}
def qik (t u:TT):TT:=fun σ H Q=>t σ H fun c H1=>if c=true then u σ H1 Q else Q false H1
def tOr (t u:TT):TT:=fun σ H Q=>t σ H fun c H1=>if c=true then Q true H1 else u σ H1 Q
def qil (t:TT):TT:=fun σ H Q=>t σ H fun c H1=>Q (!c) H1
theorem YF (ha:PT X a tA):PW X (.BoolOp .And [a] pos) tA:=by
  intro wh p_ s σ H Q I h;refine isTrue_and (d9 (ha p_ s σ H Q I h) fun c s1 e=>?_);cases c with
  | true=>exact isTrue_and_nil e
  | false=>exact e
theorem iM (ha:PT X a tA):PW X (.BoolOp .Or [a] pos) tA:=by
  intro wh p_ s σ H Q I h;refine isTrue_or (d9 (ha p_ s σ H Q I h) fun c s1 e=>?_);cases c with
  | false=>exact isTrue_or_nil e
  | true=>exact e
theorem qa3 (ha:PT X a tA) (hb:PW X (.BoolOp .And (b::rest) pos) tB'):PW X (.BoolOp .And (a::b::rest) pos) (qik tA tB'):=by
  intro wh p_ s σ H Q I h;refine isTrue_and (d9 (ha p_ s σ H _ I h) fun c s1 zz=>?_);obtain⟨H1,I1,q1⟩:=zz;cases c with
  | true=>exact hb wh p_ s1 σ H1 Q I1 q1
  | false=>exact⟨H1,I1,q1⟩
theorem jR (ha:PT X a tA) (hb:PW X (.BoolOp .Or (b::rest) pos) tB'):PW X (.BoolOp .Or (a::b::rest) pos) (tOr tA tB'):=by
  intro wh p_ s σ H Q I h;refine isTrue_or (d9 (ha p_ s σ H _ I h) fun c s1 zz=>?_);obtain⟨H1,I1,q1⟩:=zz;cases c with
  | true=>exact⟨H1,I1,q1⟩
  | false=>exact hb wh p_ s1 σ H1 Q I1 q1
theorem dM (ha:PT X a tA):PT X (.UnaryOp .Not a pos) (qil tA):=by
  intro p_ s σ H Q I h;exact isTrue_not (ha p_ s σ H (fun c H1=>Q (!c) H1) I h)
def qa4 (ta tb:TE):TE:=fun σ H Q=>ta σ H fun x H1=>∃c,x = .bl c∧if c=true then tb σ H1 Q else Q (.bl false) H1
def qa5 (ta:TE):TE:=fun σ H Q=>ta σ H fun x H1=>∃c,x = .bl c∧Q (.bl (!c)) H1
theorem Bk {op} {t:TE} (h:PE X a t):PE X (.BoolOp op [a] pos) t:=fun p_ s σ H Q I hw=>BoolOp_one (h p_ s σ H Q I hw)
theorem qfD (ha:PE X a ta) (hb:PE X (.BoolOp .And (b::rest) pos) tb):PE X (.BoolOp .And (a::b::rest) pos) (qa4 ta tb):=by
  intro p_ s σ H Q I h;refine BoolOp_and (d9 (ha p_ s σ H _ I h) fun v s1 zz=>?_);obtain⟨x,H1,I1,r1,q1⟩:=zz;obtain⟨c,rfl,q1⟩:=q1;cases r1;refine wpAny_truthy_bool ?_;cases c with
  | true=>exact hb p_ s1 σ H1 Q I1 q1
  | false=>exact⟨.bl false,H1,I1,rfl,q1⟩
theorem qfE (ha:PE X a ta):PE X (.UnaryOp .Not a pos) (qa5 ta):=by
  intro p_ s σ H Q I h;refine UnaryOp_ (d9 (ha p_ s σ H _ I h) fun v s1 zz=>?_);obtain⟨x,H1,I1,r1,q1⟩:=zz;obtain⟨c,rfl,q1⟩:=q1;cases r1;exact not_of (wpAny_truthy_bool ⟨.bl (!c),H1,I1,rfl,q1⟩)
def tIf (t:TT) (ta tb:TE):TE:=fun σ H Q=>t σ H fun c H1=>if c=true then ta σ H1 Q else tb σ H1 Q
theorem Hr {c:Expr} (hc:PT X c tA) (ha:PE X a ta) (hb:PE X b tb):PE X (.IfExp c a b pos) (tIf tA ta tb):=by
  intro p_ s σ H Q I h;refine wpAny_IfExp (d9 (hc p_ s σ H _ I h) fun d s1 zz=>?_);obtain⟨H1,I1,q1⟩:=zz;cases d with
  | true=>exact ha p_ s1 σ H1 Q I1 q1
  | false=>exact hb p_ s1 σ H1 Q I1 q1
end
def cj (K:W.Frag) (H:Hp) (a:Addr) (xs:List V):Prop:=
  Rd H a (.lst xs)∨
    ∃(o:Obj) (its:Array Value) (n:Nat),K.lookup a=some o∧o.cls = .type "list" ∧o.dict=none∧o.data = .seq its n∧its.size≤sizeLine∧Vals xs its.toList
def lR (K:W.Frag) (H:Hp) (a:Addr) (xs:List V):Prop:=
  Rd H a (.tup xs)∨
    ∃(o:Obj) (its:Array Value) (n:Nat),K.lookup a=some o∧o.cls = .type "tuple" ∧o.data = .seq its n∧its.size≤sizeLine∧Vals xs its.toList
def qn3:Value→Option V
  | .none=>some .non
  | .bool b=>some (.bl b)
  | .int i _=>some (.int i)
  | .str x _=>some (.str x)
  | .bytes b _=>some (.byt b)
  | .float b _=>some (.flt b)
  | .ref a=>some (.ref a)
  | .type n=>some (.ty n)
  | _=>none
theorem RelV.abs {x:V} {u:Value} (r:RelV x u):qn3 u=some x:=by
  cases x with
  | non=>cases r;rfl
  | bl _=>cases r;rfl
  | int _=>obtain⟨t,rfl⟩:=r;rfl
  | str _=>obtain⟨t,rfl⟩:=r;rfl
  | byt _=>obtain⟨t,rfl⟩:=r;rfl
  | flt _=>obtain⟨t,rfl⟩:=r;rfl
  | ref _=>cases r;rfl
  | ty _=>cases r;rfl
theorem RelV.inj {x y:V} {u:Value} (r:RelV x u) (q:RelV y u):x=y:=Option.some.inj (r.abs.symm.trans q.abs)
theorem Vals.inj:∀{xs ys:List V} {us:List Value},Vals xs us→Vals ys us→xs=ys
  | _,_,_,.nil,.nil=>rfl
  | _,_,_,.cons r t,.cons r' t'=>by rw[r.inj r',Vals.inj t t']
section
variable {X:Cx} {p_:List (Addr×Obj)} {σ:St} {H:Hp} {s:Shared} {a:Addr} {xs ys:List V}
theorem cj.of {K:W.Frag} (h:H a=some (.lst xs)):cj K H a xs:=.inl (.inl h)
theorem lR.of {K:W.Frag} (h:H a=some (.tup xs)):lR K H a xs:=.inl (.inl h)
theorem Inv.list (I:Inv X p_ σ H s) (h:cj X.K H a xs):∃its:List Value,Vals xs its∧PlainL s.heap a its.toArray∧xs.length≤sizeLine:=by
  rcases h with h | ⟨o,its,n,hk,hc,hd,hs,hz,r⟩
  ·obtain⟨z,its,n,r,e⟩:=h.ok I.hok;exact⟨its,r,⟨_,n,e,rfl,rfl,rfl⟩,z⟩
  ·refine⟨its.toList,r,⟨o,n,I.FJ a o hk,hc,hd,by simpa using hs⟩,?_⟩;have e:=r.length;simp only[Array.length_toList] at e;omega
theorem Inv.tuple (I:Inv X p_ σ H s) (h:lR X.K H a xs):∃its:List Value,Vals xs its∧IsTup s.heap a its.toArray∧xs.length≤sizeLine:=by
  rcases h with h | ⟨o,its,n,hk,hc,hs,hz,r⟩
  ·obtain⟨z,its,r,p⟩:=h.ok I.hok;exact⟨its,r,p,z⟩
  ·refine⟨its.toList,r,⟨o,I.FJ a o hk,hc,n,by simpa using hs⟩,?_⟩;have e:=r.length;simp only[Array.length_toList] at e;omega
theorem Inv.Dw (I:Inv X p_ σ H s) (h:cj X.K H a xs) (h':cj X.K H a ys):xs=ys:=by
  obtain⟨its,r,⟨o,n,e,_,_,d⟩,_⟩:=I.list h;obtain⟨its',r',⟨o',n',e',_,_,d'⟩,_⟩:=I.list h';rw[e] at e';cases e';rw[d] at d';injection d' with d1 _;have:its=its':=by simpa using congrArg Array.toList d1
  subst this;exact r.inj r'
theorem Inv.Qk (I:Inv X p_ σ H s) (h:lR X.K H a xs) (h':lR X.K H a ys):xs=ys:=by
  obtain⟨its,r,⟨o,e,_,n,d⟩,_⟩:=I.tuple h;obtain⟨its',r',⟨o',e',_,n',d'⟩,_⟩:=I.tuple h';rw[e] at e';cases e';rw[d] at d';injection d' with d1 _;have:its=its':=by simpa using congrArg Array.toList d1
  subst this;exact r.inj r'
end
abbrev Cx.wish (X:Cx) (E:Value→Shared→Prop):Cx:={X with xe:=E}
abbrev Cx.nox (X:Cx):Cx:=X.wish fun _ _=>False
theorem Cx.Ok.wish {X:Cx} (ok:X.Ok) (E:Value→Shared→Prop):(X.wish E).Ok:=
  ⟨ok.mod,ok.kind,ok.glob,ok.blt,ok.above,ok.inj,ok.has,ok.cab,ok.hd,ok.frames,ok.stk,ok.exf,ok.bs,ok.ZP,ok.Uu,ok.Uv,ok.Dv,ok.frf⟩
theorem Cx.Ok.Dy {X:Cx} {E:Value→Shared→Prop} (ok:(X.wish E).Ok):X.Ok:=
  ⟨ok.mod,ok.kind,ok.glob,ok.blt,ok.above,ok.inj,ok.has,ok.cab,ok.hd,ok.frames,ok.stk,ok.exf,ok.bs,ok.ZP,ok.Uu,ok.Uv,ok.Dv,ok.frf⟩
section
variable {X:Cx} {p_:List (Addr×Obj)} {σ:St} {H:Hp} {s:Shared} {E:Value→Shared→Prop}
theorem Inv.wish (I:Inv X p_ σ H s) (E:Value→Shared→Prop):Inv (X.wish E) p_ σ H s:=⟨I.ok.wish E,I.os,I.bare,I.base,I.loc,I.cell,I.free,I.p8,I.pin,I.hok,I.len⟩
theorem Inv.Dy (I:Inv (X.wish E) p_ σ H s):Inv X p_ σ H s:=⟨I.ok.Dy,I.os,I.bare,I.base,I.loc,I.cell,I.free,I.p8,I.pin,I.hok,I.len⟩
theorem SP.Dy {D:Ends} {f:Flow} {s':Shared} (h:SP (X.wish E) p_ D f s'):SP X p_ D f s':=by
  cases f with
  | next=>obtain⟨σ',H',I,q⟩:=h;exact⟨σ',H',I.Dy,q⟩
  | brk=>obtain⟨σ',H',I,q⟩:=h;exact⟨σ',H',I.Dy,q⟩
  | cont=>obtain⟨σ',H',I,q⟩:=h;exact⟨σ',H',I.Dy,q⟩
  | ret u=>obtain⟨v,σ',H',I,r,q⟩:=h;exact⟨v,σ',H',I.Dy,r,q⟩
theorem Ph.nox {st:List Stmt} {t:TS} (h:Ph X.nox st t):Ph X st t:=fun p_ s σ H D I hw=>
  wpAny_mono (h p_ s σ H D (I.wish _) hw) (fun _ _ q=>q.Dy) fun _ _ z=>False.elim z
end
section
variable {X:Cx} {st:Stmt} {rest:List Stmt} {t u:TS} {e:Expr} {te:TE} {pos:Pos}
def qeQ:TS:=fun D σ H=>D.nx σ H
def qdp (t u:TS):TS:=fun D σ H=>t {D with nx:=u D} σ H
theorem bC:Ph X [] qeQ:=fun _ _ σ H _ I h=>wpAny_execs_nil ⟨σ,H,I,h⟩
theorem aC (h1:PS X st t) (h2:Ph X rest u):Ph X (st::rest) (qdp t u):=by
  intro p_ s σ H D I h;refine wpAny_execs_cons (d9 (h1 p_ s σ H {D with nx:=u D} I h) fun f s1 q=>?_);cases f with
  | next=>
    obtain⟨σ',H',I',q⟩:=q;exact h2 p_ s1 σ' H' D I' q
  | ret v=>exact q
  | brk=>exact q
  | cont=>exact q
theorem aG (h1:PS X st t):Ph X [st] t:=by
  intro p_ s σ H D I h;refine wpAny_execs_cons (d9 (h1 p_ s σ H D I h) fun f s1 q=>?_);cases f with
  | next=>exact wpAny_execs_nil q
  | ret v=>exact q
  | brk=>exact q
  | cont=>exact q
theorem Inv.quiet {p_:List (Addr×Obj)} {σ:St} {H:Hp} {s:Shared} (I:Inv X p_ σ H s):interactive X.env=false:=by simp[interactive,I.ok.kind]
def qeR (te:TE):TS:=fun D σ H=>te σ H fun _ H1=>D.nx σ H1
theorem jT (he:PE X e te) (hs:swapsWith e none pos.line X.env=pure false:=by rfl):PS X (.Expr e pos) (qeR te):=by
  intro p_ s σ H D I h;refine wpAny_Expr_any (d9 (he p_ s σ H _ I h) fun v s1 zz=>?_) I.quiet hs;obtain⟨x,H1,I1,r1,q1⟩:=zz;exact⟨σ,H1,I1,q1⟩
def qa6 (te:TE):TS:=fun D σ H=>te σ H D.rt
theorem aZ (he:PE X e te):PS X (.Return (some e) pos) (qa6 te):=by
  intro p_ s σ H D I h;refine wpAny_Return_some (d9 (he p_ s σ H _ I h) fun v s1 zz=>?_);obtain⟨x,H1,I1,r1,q1⟩:=zz;exact⟨x,σ,H1,I1,r1,q1⟩
def qdq (c:TT) (t u:TS):TS:=fun D σ H=>c σ H fun b H1=>if b=true then t D σ H1 else u D σ H1
theorem cO {c:Expr} {a b:List Stmt} {tc:TT} (hc:PT X c tc) (ha:Ph X a t) (hb:Ph X b u):PS X (.If c a b pos) (qdq tc t u):=by
  intro p_ s σ H D I h;refine wpAny_If (d9 (hc p_ s σ H _ I h) fun d s1 zz=>?_);obtain⟨H1,I1,q1⟩:=zz;cases d with
  | true=>exact ha p_ s1 σ H1 D I1 q1
  | false=>exact hb p_ s1 σ H1 D I1 q1
def Ww:TS:=fun _ _ _=>False
theorem Hs:PS X st Ww:=fun _ _ _ _ _ _ h=>h.elim
theorem ZQ {sts:List Stmt}:Ph X sts Ww:=fun _ _ _ _ _ _ h=>h.elim
end
abbrev TG:=V→St→Hp→(St→Hp→Prop)→Prop
abbrev Uo:=List V→St→Hp→(St→Hp→Prop)→Prop
def PG (X:Cx) (target:Expr) (t:TG):Prop:=
  ∀(p_:List (Addr×Obj)) (s:Shared) (σ:St) (H:Hp) (v:V) (u:Value) (Q:St→Hp→Prop),Inv X p_ σ H s→RelV v u→t v σ H Q→
    wpAny (model X.prog X.w) X.A (assign target X.env u) (fun _ s'=>∃σ' H',Inv X p_ σ' H' s'∧Q σ' H') X.xe s
def vN (X:Cx) (ts:List Expr) (t:Uo):Prop:=
  ∀(p_:List (Addr×Obj)) (s:Shared) (σ:St) (H:Hp) (vs:List V) (us:List Value) (Q:St→Hp→Prop),Inv X p_ σ H s→Vals vs us→t vs σ H Q→
    wpAny (model X.prog X.w) X.A (assignInOrder ((assignEach ts X.env).map (·.2)) us) (fun _ s'=>∃σ' H',Inv X p_ σ' H' s'∧Q σ' H') X.xe s
abbrev ZR:=V→V→V→Hp→(Hp→Prop)→Prop
def ZS (X:Cx) (t:ZR):Prop:=
  ∀(p_:List (Addr×Obj)) (s:Shared) (σ:St) (H:Hp) (o i v:V) (ov iv u:Value) (Q:Hp→Prop),Inv X p_ σ H s→RelV o ov→RelV i iv→RelV v u→t o i v H Q→
    wpAny (model X.prog X.w) X.A (setItem ov iv u) (fun _ s'=>∃H',Inv X p_ σ H' s'∧Q H') X.xe s
abbrev TIp:=V→V→Hp→VK→Prop
def PIp (X:Cx) (op:Operator) (t:TIp):Prop:=
  ∀(p_:List (Addr×Obj)) (s:Shared) (σ:St) (H:Hp) (x y:V) (v u:Value) (Q:VK),Inv X p_ σ H s→RelV x v→RelV y u→t x y H Q→
    wpAny (model X.prog X.w) X.A (inplaceOp op v u) (EP X p_ σ Q) X.xe s
section
variable {X:Cx} {pos:Pos}
def Ux (i:Nat):TG:=fun v σ H Q=>Q (σ.set i (some v)) H
theorem bG {i:Nat} {x:Str} (hN:X.N.Nodup) (hi:X.N[i]? = some x) (hx:Loc X.env.scope x) (hf:X.fn x=true∨X.env.scope.names.lookup x=some .local:=by first | exact .inl rfl | exact .inr rfl | assumption):PG X (.Name x pos) (Ux i):=by
  intro p_ s σ H v u Q I r h;exact wpAny_assign_Name (uh I hN hi hx r (fun s' I'=>⟨_,H,I',h⟩) hf)
def qfF:Uo:=fun vs σ H Q=>vs=[]∧Q σ H
def qa7 (t:TG) (u:Uo):Uo:=fun vs σ H Q=>∃v r,vs=v::r∧t v σ H fun σ' H'=>u r σ' H' Q
theorem ou:vN X [] qfF:=by
  intro p_ s σ H vs us Q I r h;obtain⟨e,h⟩:=h;subst e;cases r;exact assignInOrder_nil ⟨σ,H,I,h⟩
theorem cP {e:Expr} {es:List Expr} {t:TG} {u:Uo} (h1:PG X e t) (h2:vN X es u)
    (hs:(assignEach (e::es) X.env).map (·.2)=assign e X.env::(assignEach es X.env).map (·.2):=by rfl):vN X (e::es) (qa7 t u):=by
  intro p_ s σ H vs us Q I r h;obtain⟨v,vr,e1,h⟩:=h;subst e1;cases r with
  | cons r rr=>
    rw[hs];refine assignInOrder_cons (d9 (h1 p_ s σ H _ _ _ I r h) fun _ s1 zz=>?_);obtain⟨σ1,H1,I1,q1⟩:=zz;exact h2 p_ s1 σ1 H1 _ _ Q I1 rr q1
def qdr (K:W.Frag) (n:Nat) (t:Uo):TG:=fun v σ H Q=>∃a xs,v = .ref a∧lR K H a xs∧xs.length=n∧t xs σ H Q
theorem qfG {es:List Expr} {k:Nat} {t:Uo} {n:Nat} (hc:X.calm=true) (h:vN X es t)
    (hn:(assignEach es X.env).length=n:=by rfl) (hst:(assignEach es X.env).findIdx? (·.1)=none:=by rfl):PG X (.Tuple es k pos) (qdr X.K n t):=by
  intro p_ s σ H v u Q I r hw;obtain⟨a,xs,e1,hq,hl,hw⟩:=hw;subst e1;cases r;obtain⟨its,rv,ht,hz⟩:=I.tuple hq;refine assign_Tuple_tuple (I.ok.hd hc) ht (by simp[hn,← hl,rv.length]) hst fun h' hx=>?_;have I1:Inv X p_ σ H {s with heap:=h'}:=I.kept (t':=s.toks) fun b o e=>hx b o (Nat.ne_of_lt (Heap.lt_size e)) e;exact h p_ _ σ H xs _ Q I1 (by simpa using rv) hw
def qim (to ti:TE) (t:ZR):TG:=fun v σ H Q=>to σ H fun o H1=>ti σ H1 fun i H2=>t o i v H2 fun H3=>Q σ H3
theorem qa8 {o i:Expr} {to ti:TE} {t:ZR} (ho:PE X o to) (hi:PE X i ti) (hs:ZS X t)
    (ha:∀v,assign (.Subscript o i pos) X.env v=(do
      let ov ← holding [v] (eval o X.env)
      let iv ← holding [v,ov] (eval i X.env)
      standAt pos
      holding [v,ov,iv] (setItem ov iv v)
      release [v,ov,iv] []):=by intro _;rfl):PG X (.Subscript o i pos) (qim to ti t):=by
  intro p_ s σ H v u Q I r h;rw[ha];refine wpAny_bind (wpAny_holding (d9 (ho p_ s σ H _ I h) fun ov s1 zz=>?_));obtain⟨x,H1,I1,r1,q1⟩:=zz;refine wpAny_bind (wpAny_holding (d9 (hi p_ s1 σ H1 _ I1 q1) fun iv s2 zz=>?_));obtain⟨y,H2,I2,r2,q2⟩:=zz;refine wpAny_bind (wpAny_standAt (wpAny_bind (wpAny_holding (d9 (hs p_ s2 σ H2 x y v ov iv u _ I2 r1 r2 r q2) fun _ s3 zz=>?_))));obtain⟨H3,I3,q3⟩:=zz;exact wpAny_release ⟨σ,H3,I3,q3⟩
def qa9 (te:TE) (g:TG):TS:=fun D σ H=>te σ H fun x H1=>g x σ H1 D.nx
theorem Mh {tg e:Expr} {te:TE} {g:TG} (he:PE X e te) (hg:PG X tg g) (hs:swapsWithSole [tg] e pos.line X.env=pure false:=by rfl) (hw:swappedStores [tg] e X.env=pure none:=by rfl)
    (h1:(assignEach [tg] X.env).map (·.2)=[assign tg X.env]:=by rfl):PS X (.Assign [tg] e pos) (qa9 te g):=by
  intro p_ s σ H D I h;refine wpAny_Assign_stores (d9 (he p_ s σ H _ I h) fun v s1 zz=>?_) hs hw;obtain⟨x,H1,I1,r1,q1⟩:=zz;rw[h1];exact d9 (hg p_ s1 σ H1 x v _ I1 r1 q1) fun _ s2 q=>q
theorem bO {i:Nat} {x:Str} {e:Expr} {te:TE} {pos':Pos} (hN:X.N.Nodup) (hi:X.N[i]? = some x) (hx:Loc X.env.scope x) (he:PE X e te) (hs:swapsWith e (some (.Name x pos')) pos.line X.env=pure false:=by rfl) (hf:X.fn x=true∨X.env.scope.names.lookup x=some .local:=by first | exact .inl rfl | exact .inr rfl | assumption) :
    PS X (.Assign [.Name x pos'] e pos) (qa9 te (Ux i)):=by
  intro p_ s σ H D I h;refine wpAny_Assign_Name (d9 (he p_ s σ H _ I h) fun v s1 zz=>?_) hs;obtain⟨y,H1,I1,r1,q1⟩:=zz;exact uh I1 hN hi hx r1 (fun s2 I2=>⟨_,H1,I2,q1⟩) hf
def qfH (i j:Nat) (ta:TA):TS:=fun D σ H=>ta σ H fun vs H1=>∃v w,vs=[v,w]∧D.nx ((σ.set i (some v)).set j (some w)) H1
theorem qfI {i j:Nat} {x y:Str} {a b:Expr} {ta:TA} {px py pt:Pos} {kt k2 pt2} (hc:X.calm=true) (hN:X.N.Nodup) (hi:X.N[i]? = some x) (hj:X.N[j]? = some y) (hij:i≠j)
    (hx:X.env.scope.names.lookup x=some .local) (hy:X.env.scope.names.lookup y=some .local) (ha:PA X [a,b] ta)
    (hw:swappedStores [.Tuple [.Name x px,.Name y py] kt pt] (.Tuple [a,b] k2 pt2) X.env=pure (some [x,y]))
    (hs:swapsWithSole [.Tuple [.Name x px,.Name y py] kt pt] (.Tuple [a,b] k2 pt2) pos.line X.env=pure false:=by rfl) :
    PS X (.Assign [.Tuple [.Name x px,.Name y py] kt pt] (.Tuple [a,b] k2 pt2) pos) (qfH i j ta):=by
  intro p_ s σ H D I h;rw[exec_Assign_arm];refine wpAny_bind (wpAny_standAt ?_);rw[hs];refine wpAny_bind (wpAny_pure ?_);rw[if_neg (by decide)];refine wpAny_bind (Tuple_ (d9 (ha _ p_ s σ H _ I h) fun us s1 zz=>?_));obtain⟨vs,H1,I1,r1,q1⟩:=zz;obtain⟨v,w,e1,q1⟩:=q1;subst e1;obtain⟨u1,u2,rfl,rv,Rr⟩:∃u1 u2,us=[u1,u2]∧RelV v u1∧RelV w u2:=by
    cases r1 with
    | cons p q=>
      cases q with
      | cons p' q'=>
        cases q';exact⟨_,_,rfl,p,p'⟩
  refine wpAny_newObj_type ?_ (by show 2≤sizeLine;decide);have I2:Inv X p_ σ H1 {s1 with heap:=s1.heap.push {cls:=.type "tuple",data:=.seq [u1,u2].toArray}}:=I1.kept (t':=s1.toks) fun b o e=>Heap.get?_push_of_some _ e;rw[hw];refine wpAny_bind (wpAny_pure ?_);show wpAny (model X.prog X.w) X.A (do rule "assign.swapped-stores";let items ← unpackItems (.ref s1.heap.objs.size) 2 none;assignInOrder [fun v=>bindName X.env y v,fun v=>bindName X.env x v] items.reverse;pure Flow.next) _ _ _
  refine wpAny_bind (wpAny_rule (wpAny_bind (unpackItems_tuple (items:=#[u1,u2]) (I.ok.hd hc) (IsTup.new s1.heap _) fun h' hx'=>?_)));have I3:=I2.kept (h':=h') (t':=s1.toks) fun b o e=>hx' b o (Nat.ne_of_lt (Heap.lt_size e)) e;show wpAny _ _ (assignInOrder [fun v=>bindName X.env y v,fun v=>bindName X.env x v] [u2,u1] >>= fun _=>pure Flow.next) _ _ _;refine wpAny_bind (assignInOrder_cons (wpAny_bindName (uh I3 hN hj (.inl hy) Rr (fun s2 I4=>?_) (.inr hy))));refine assignInOrder_cons (wpAny_bindName (uh I4 hN hi (.inl hx) rv (fun s3 I5=>assignInOrder_nil (wpAny_pure ?_)) (.inr hx)));rw[List.set_comm _ _ (Ne.symm hij)] at I5;exact⟨_,H1,I5,q1⟩
def qfJ (i:Nat) (te:TE) (ti:TIp):TS:=fun D σ H=>∃x,σ[i]? = some (some x)∧te σ H fun y H1=>ti x y H1 fun z H2=>D.nx (σ.set i (some z)) H2
theorem qfK {i:Nat} {x:Str} {e:Expr} {te:TE} {op:Operator} {ti:TIp} {pos':Pos} (hN:X.N.Nodup) (hi:X.N[i]? = some x) (hx:Loc X.env.scope x) (he:PE X e te) (ho:PIp X op ti) (hf:X.fn x=true∨X.env.scope.names.lookup x=some .local:=by first | exact .inl rfl | exact .inr rfl | assumption) :
    PS X (.AugAssign (.Name x pos') op e pos) (qfJ i te ti):=by
  intro p_ s σ H D I h;obtain⟨v,e1,h⟩:=h;obtain⟨m,hn,hl⟩:=I.loc;have vis:Vis X.env.scope x:=by rcases hx with k | k;exact .inl k;exact .inr (.inl k)
  obtain⟨u,r,l⟩:=hl i x v hi e1 vis;refine wpAny_AugAssign_Name ?_;have go:wpAny (model X.prog X.w) X.A (eval e X.env) (fun w s₂=>wpAny (model X.prog X.w) X.A (inplaceOp op u w) (fun r s₃=>wpAny (model X.prog X.w) X.A (storeName X.env x r) (fun _=>SP X p_ D .next) X.xe s₃) X.xe s₂) X.xe s:=by
    refine d9 (he p_ s σ H _ I h) fun w s1 zz=>?_;obtain⟨y,H1,I1,r1,q1⟩:=zz;refine d9 (ho p_ s1 σ H1 v y u w _ I1 r r1 q1) fun z s2 zz=>?_;obtain⟨zv,H2,I2,r2,q2⟩:=zz;exact uh I2 hN hi hx r2 (fun s3 I3=>⟨_,H2,I3,q2⟩) hf
  rcases l with⟨hk,hm⟩ | ⟨hk,c,hc,hcell⟩
  ·exact wpAny_loadName_local I.ok.kind hk hn hm go
  · rcases hk with hk | hk
    ·exact wpAny_loadName_cell I.ok.kind hk hc hcell go
    · rcases hx with k | k
      ·have:X.env.scope.names.lookup x=some .free:=hk;rw[k] at this;cases this
      ·have:X.env.scope.names.lookup x=some .free:=hk;rw[k] at this;cases this
def ipI (f:Int→Int→Int):TIp:=fun x y H Q=>∃i j,x = .int i∧y = .int j∧Q (.int (f i j)) H
theorem qfL:PIp X .Add (ipI fun i j=>i+j):=by
  intro p_ s σ H x y v u Q I r1 r2 h;obtain⟨i,j,e1,e2,q⟩:=h;subst e1;subst e2;obtain⟨t,rfl⟩:=r1;obtain⟨t',rfl⟩:=r2;exact iadd_int ⟨.int _,H,I.tok _,⟨_,rfl⟩,q⟩
end
section
variable {X:Cx} {pos:Pos}
def Rt (c:TT) (tb:TS):TS:=fun D σ H=>∃jV:Nat→St→Hp→Prop,(∃m,jV m σ H)∧∀m σ H,jV m σ H→
  c σ H fun b H1=>if b=true then ∃N:St→Hp→Prop,(∀σ' H',N σ' H'→∃m',m'<m∧jV m' σ' H')∧tb {D with nx:=N,ct:=N,bk:=D.nx} σ H1 else D.nx σ H1
theorem qa_ {c:Expr} {body:List Stmt} {tc:TT} {tb:TS} (hp:PassesOwn (model X.prog X.w) X.A X.env X.xe) (hc:PT X c tc) (hb:Ph X body tb):PS X (.While c body [] pos) (Rt tc tb):=by
  intro p_ s σ H D I h;obtain⟨jV,⟨m0,w0⟩,turn⟩:=h;refine wpAny_While (codeAny_whileLoop (fun n s'=>∃σ' H',Inv X p_ σ' H' s'∧jV n σ' H') ?_ m0 ⟨σ,H,I,w0⟩);rintro n s1 ⟨σ1,H1,I1,w1⟩;refine wpAny_passesOwn hp (d9 (hc p_ s1 σ1 H1 _ I1 (turn n σ1 H1 w1)) fun b s2 zz=>?_);obtain⟨H2,I2,q2⟩:=zz;cases b with
  | true=>
    obtain⟨N,hN,q2⟩:=q2;rw[if_pos rfl];refine wpAny_passesOwn hp (d9 (hb p_ s2 σ1 H2 _ I2 q2) fun f s3 q3=>?_);cases f with
    | next=>
      obtain⟨σ3,H3,I3,n3⟩:=q3;obtain⟨m',hm,w3⟩:=hN σ3 H3 n3;exact⟨m',hm,σ3,H3,I3,w3⟩
    | cont=>
      obtain⟨σ3,H3,I3,n3⟩:=q3;obtain⟨m',hm,w3⟩:=hN σ3 H3 n3;exact⟨m',hm,σ3,H3,I3,w3⟩
    | brk=>exact q3
    | ret v=>exact q3
  | false=>
    rw[if_neg Bool.false_ne_true];exact wpAny_execs_nil ⟨σ1,H2,I2,q2⟩
end
structure It where
  go:Nat→Hp→Prop
  yld:Nat→Hp→V→Hp→Prop
  stop:Nat→Hp→Prop
def Gp (X:Cx) (p_:List (Addr×Obj)) (H:Hp) (b:Addr):Prop:=
  H b=none∧b≠X.env.locals∧b∉X.fs∧(b∈X.ex∨X.s₀.heap.objs.size≤b)∧(∀x c,X.env.cells.lookup x=some c→c≠b)∧∀p∈X.pn++p_,p.1≠b
theorem Inv.Ru {X:Cx} {p_:List (Addr×Obj)} {σ:St} {H H':Hp} {s:Shared} {b:Addr} (I:Inv X p_ σ H s) (hb:s.heap.objs.size≤b) (hn:H' b=none):Gp X p_ H' b:=by
  refine⟨hn,Nat.ne_of_gt (Nat.lt_of_lt_of_le I.lt hb),I.qn1 hb,.inr (Nat.le_trans I.sz hb),fun x c e z=>?_,fun p hp z=>?_⟩
  ·obtain⟨v,q⟩:=I.cell x c e;exact absurd (Nat.lt_of_lt_of_le q.lt (by rw[z];exact hb)) (Nat.lt_irrefl _)
  ·exact absurd (Nat.lt_of_lt_of_le (Heap.lt_size (I.pin p hp).1) (by rw[z];exact hb)) (Nat.lt_irrefl _)
structure Turn (P:Program) (w:World) (K:W.Frag) (tg:Expr) (J:It) (fp:List Addr) (it:Addr) (tn:Nat→Heap→Prop):Prop where
  mem:it∈fp
  obj:∀i h,tn i h→∀b∈fp,∃o,h.get? b=some o∧∀v,o.data≠.cell v
  keep:∀i h h',tn i h→(∀b∈fp,∀o,h.get? b=some o→h'.get? b=some o)→tn i h'
  item:∀(X:Cx),X.prog=P→X.w=w→X.K=K→X.calm=true→∀(i:Nat) (p_:List (Addr×Obj)) (s:Shared) (σ:St) (H:Hp) (E:Value→Shared→Prop),Inv X p_ σ H s→(∀b∈fp,Gp X p_ H b)→tn i s.heap→J.go i H→
    wpAny (model P w) X.A (pyNext (.ref it)) (fun r s1=>∃u,r=some u∧
      wpAny (model P w) X.A (letOwnedTupleGo tg (.ref it) u) (fun _ s2=>∃x H',Inv X p_ σ H' s2∧RelV x u∧J.yld i H x H'∧tn (i+1) s2.heap∧∀b∈fp,H' b=none) E s1) E s
  done:∀(X:Cx),X.prog=P→X.w=w→X.K=K→X.calm=true→∀(i:Nat) (p_:List (Addr×Obj)) (s:Shared) (σ:St) (H:Hp) (E:Value→Shared→Prop),Inv X p_ σ H s→(∀b∈fp,Gp X p_ H b)→tn i s.heap→J.stop i H→
    wpAny (model P w) X.A (pyNext (.ref it)) (fun r s1=>r=none∧Inv X p_ σ H s1) E s
  self:∀(A:Around) (i:Nat) (s:Shared) (Q:Value→Shared→Prop) (E:Value→Shared→Prop),tn i s.heap→Q (.ref it) s→wpAny (model P w) A (pyIter (.ref it)) Q E s
abbrev TI:=St→Hp→(It→Hp→Prop)→Prop
def PIE (X:Cx) (p_:List (Addr×Obj)) (σ:St) (tg:Expr) (R:It→Hp→Prop) (itv:Value) (s2:Shared):Prop:=
  ∃(it:Addr) (fp:List Addr) (tn:Nat→Heap→Prop) (J:It) (H':Hp),itv = .ref it∧Inv X p_ σ H' s2∧Turn X.prog X.w X.K tg J fp it tn∧tn 0 s2.heap∧(∀b∈fp,Gp X p_ H' b)∧R J H'
def PI (X:Cx) (tg iter:Expr) (wi:TI):Prop:=
  ∀(p_:List (Addr×Obj)) (s:Shared) (σ:St) (H:Hp) (R:It→Hp→Prop),Inv X p_ σ H s→wi σ H R→
    wpAny (model X.prog X.w) X.A (eval iter X.env) (fun v s1=>wpAny (model X.prog X.w) X.A (pyIter v) (PIE X p_ σ tg R) X.xe s1) X.xe s
theorem qba {M:Model} {A:Around} {E:Value→Shared→Prop} {s:Shared} {tg:Expr} {it:Addr} {u:Value} {o:Obj} {n:String} {vs:Array Value} {Q:Unit→Shared→Prop} (ho:s.heap.get? it=some o) (hc:o.cls = .type n) (hd:o.data = .fields vs)
    (hn : ["enumerate", "zip", "dict_itemiterator", "dict_reverseitemiterator", "odict_iterator", "itertools.zip_longest", "itertools.pairwise"].contains n=false) (hQ:Q () s):wpAny M A (letOwnedTupleGo tg (.ref it) u) Q E s:=by
  unfold letOwnedTupleGo;cases tg <;> first
    | exact wpAny_pure hQ
    | (cases u <;> first
        | exact wpAny_pure hQ
        | (refine wpAny_bind (wpAny_load ho ?_)
           rw[hc,hd];show wpAny M A (if (["enumerate", "zip", "dict_itemiterator", "dict_reverseitemiterator", "odict_iterator", "itertools.zip_longest", "itertools.pairwise"].contains n && vs[0]? == some (rawInt _))=true then _ else _) Q E s
           rw[if_neg (by intro h;rw[hn,Bool.false_and] at h;cases h)];exact wpAny_pure hQ))
def Itl (K:W.Frag) (a:Addr):It:=
  ⟨fun i H=>∃xs x,cj K H a xs∧xs[i]? = some x,fun i H x H'=>H'=H∧∀xs,cj K H a xs→xs[i]? = some x,fun i H=>∃xs,cj K H a xs∧xs.length≤i⟩
def Itt (K:W.Frag) (a:Addr):It:=
  ⟨fun i H=>∃xs x,lR K H a xs∧xs[i]? = some x,fun i H x H'=>H'=H∧∀xs,lR K H a xs→xs[i]? = some x,fun i H=>∃xs,lR K H a xs∧xs.length≤i⟩
def Wq (lo:Int) (n:Nat):It:=⟨fun i _=>i<n,fun i H x H'=>H'=H∧x = .int (lo+i),fun i _=>n≤i⟩
theorem Ql {P:Program} {w:World} {K:W.Frag} {tg:Expr} (a it:Addr):Turn P w K tg (Itl K a) [it] it (fun i h=>h.IsListIter it a i) where
  mem:=by simp
  obj:=fun i h st b hb=>by
    have e:b=it:=by simpa using hb
    subst e;obtain⟨o,e,c,d⟩:=st;exact⟨o,e,fun v z=>by rw[d] at z;cases z⟩
  keep:=fun i h h' st k=>st.at fun o e=>k it (by simp) o e
  item:=by
    intro X hP hw hK hc i p_ s σ H E I hf st hg;subst hP hw hK;obtain⟨xs,x,hq,hx⟩:=hg;obtain⟨its,rv,p,hz⟩:=I.list hq;obtain⟨u,hu,ru⟩:=rv.get hx;obtain⟨f0,f1,f2,f3,f4,f5⟩:=hf it (by simp);refine wpAny_pyNext_list_item st p.isList (x:=u) (by simpa using hu) fun h' st' sb=>?_;have I1:Inv X p_ σ H {s with heap:=h'}:=I.turned (t':=s.toks) (fun b o hb e=>(sb.2 b hb).trans e) f0 f1 f3 f4 f5;obtain⟨o,e,c,d⟩:=id st';exact⟨u,rfl,qba (s:={s with heap:=h'}) e c d (by decide) ⟨x,H,I1,ru,⟨rfl,fun ys hy=>by rw[I.Dw hy hq];exact hx⟩,st',fun b hb=>(hf b hb).1⟩⟩
  done:=by
    intro X hP hw hK hc i p_ s σ H E I hf st hg;subst hP hw hK;obtain⟨xs,hq,hx⟩:=hg;obtain⟨its,rv,p,hz⟩:=I.list hq;obtain⟨f0,f1,f2,f3,f4,f5⟩:=hf it (by simp);have hl:=rv.length;exact wpAny_pyNext_list_end (I.ok.hd hc) st p.isList (by simp;omega) fun h' eb=>⟨rfl,I.turned (t':=s.toks) (fun b o hb e=>eb b o hb e) f0 f1 f3 f4 f5⟩
  self:=fun _ _ _ _ _ st h=>wpAny_pyIter_listiter st h
theorem Wx {P:Program} {w:World} {K:W.Frag} {tg:Expr} (a it:Addr):Turn P w K tg (Itt K a) [it] it (fun i h=>h.IsTupleIter it a i) where
  mem:=by simp
  obj:=fun i h st b hb=>by
    have e:b=it:=by simpa using hb
    subst e;obtain⟨o,e,c,d⟩:=st;exact⟨o,e,fun v z=>by rw[d] at z;cases z⟩
  keep:=fun i h h' st k=>st.at fun o e=>k it (by simp) o e
  item:=by
    intro X hP hw hK hc i p_ s σ H E I hf st hg;subst hP hw hK;obtain⟨xs,x,hq,hx⟩:=hg;obtain⟨its,rv,p,hz⟩:=I.tuple hq;obtain⟨u,hu,ru⟩:=rv.get hx;obtain⟨f0,f1,f2,f3,f4,f5⟩:=hf it (by simp);refine wpAny_pyNext_tuple_item st (show s.heap.IsTuple a its.toArray from p) (x:=u) (by simpa using hu) fun h' st' sb=>?_;have I1:Inv X p_ σ H {s with heap:=h'}:=I.turned (t':=s.toks) (fun b o hb e=>(sb.2 b hb).trans e) f0 f1 f3 f4 f5;obtain⟨o,e,c,d⟩:=id st';exact⟨u,rfl,qba (s:={s with heap:=h'}) e c d (by decide) ⟨x,H,I1,ru,⟨rfl,fun ys hy=>by rw[I.Qk hy hq];exact hx⟩,st',fun b hb=>(hf b hb).1⟩⟩
  done:=by
    intro X hP hw hK hc i p_ s σ H E I hf st hg;subst hP hw hK;obtain⟨xs,hq,hx⟩:=hg;obtain⟨its,rv,p,hz⟩:=I.tuple hq;obtain⟨f0,f1,f2,f3,f4,f5⟩:=hf it (by simp);have hl:=rv.length;exact wpAny_pyNext_tuple_end (I.ok.hd hc) st (show s.heap.IsTuple a its.toArray from p) (by simp;omega) fun h' eb=>⟨rfl,I.turned (t':=s.toks) (fun b o hb e=>eb b o hb e) f0 f1 f3 f4 f5⟩
  self:=fun _ _ _ _ _ st h=>wpAny_pyIter_tupleiter st h
theorem Wy {P:Program} {w:World} {K:W.Frag} {tg:Expr} (it:Addr) (lo:Int) (n:Nat):Turn P w K tg (Wq lo n) [it] it (fun i h=>IsRangeIter h it (lo+(i:Nat) * 1) ((n:Int) - (i:Nat)) 1) where
  mem:=by simp
  obj:=fun i h st b hb=>by
    have e:b=it:=by simpa using hb
    subst e;exact⟨_,st,fun v z=>by
      have z':Data.fields _=Data.cell v:=z;cases z'⟩
  keep:=fun i h h' st k=>k it (by simp) _ st
  item:=by
    intro X hP hw hK hc i p_ s σ H E I hf st hg;subst hP hw hK;obtain⟨f0,f1,f2,f3,f4,f5⟩:=hf it (by simp);have jV:=Walks.range (prog:=X.prog) (w:=X.w) (I.ok.hd hc) it lo 1 n;refine jV.item i s _ _ hg st fun v h' tk hv st' kk=>?_;obtain⟨t,rfl⟩:=hv;have I1:Inv X p_ σ H {s with heap:=h',toks:=tk}:=I.turned (fun b o hb e=>kk b o (by simpa using hb) e) f0 f1 f3 f4 f5;refine⟨_,rfl,qba (s:={s with heap:=h',toks:=tk}) (n:= "range_iterator") st' rfl rfl (by decide) ⟨.int (lo+i),H,I1,⟨t,?_⟩,⟨rfl,rfl⟩,st',fun b hb=>(hf b hb).1⟩⟩;rw[Int.mul_one]
  done:=by
    intro X hP hw hK hc i p_ s σ H E I hf st hg;subst hP hw hK;obtain⟨f0,f1,f2,f3,f4,f5⟩:=hf it (by simp);exact wpAny_pyNext_range_end (I.ok.hd hc) st (by have:n≤i:=hg;omega) fun h' eb=>⟨rfl,I.turned (t':=s.toks) (fun b o hb e=>eb b o hb e) f0 f1 f3 f4 f5⟩
  self:=fun _ _ _ _ _ st h=>wpAny_pyIter_rangeiter st h
section
variable {X:Cx} {tg:Expr}
def YG (K:W.Frag) (tl:TE):TI:=fun σ H R=>tl σ H fun x H1=>∃a,x = .ref a∧(∃xs,cj K H1 a xs)∧R (Itl K a) H1
theorem qds {l:Expr} {tl:TE} (hl:PE X l tl):PI X tg l (YG X.K tl):=by
  intro p_ s σ H R I h;refine d9 (hl p_ s σ H _ I h) fun v s1 zz=>?_;obtain⟨x,H1,I1,r1,q1⟩:=zz;obtain⟨a,e,⟨xs,hq⟩,q⟩:=q1;subst e;cases r1;obtain⟨its,rv,p,hz⟩:=I1.list hq;refine wpAny_pyIter_list p.isList ?_;refine⟨s1.heap.objs.size,[s1.heap.objs.size],_,_,H1,rfl,I1.kept (t':=s1.toks) fun b o e=>Heap.get?_push_of_some _ e,Ql a _,⟨_,Heap.get?_push_size _ rfl,rfl,rfl⟩,fun b hb=>?_,q⟩;have e:b=s1.heap.objs.size:=by simpa using hb
  subst e;exact I1.Ru (Nat.le_refl _) (I1.hok.fresh (Nat.le_refl _))
theorem Uy {p_:List (Addr×Obj)} {σ:St} {H:Hp} {s:Shared} {R:It→Hp→Prop} {E:Value→Shared→Prop} {lo hi:Int} {t u v:Tok} {tk:Nat} (I:Inv X p_ σ H s) (h1 : -(2 ^ 62)≤lo) (h2:lo<2 ^ 62) (h3 : -(2 ^ 62)≤hi) (h4:hi<2 ^ 62)
    (q:R (Wq lo (hi - lo).toNat) H):wpAny (model X.prog X.w) X.A (pyIter (.ref s.heap.objs.size)) (PIE X p_ σ tg R) E {s with heap:=s.heap.push {cls:=.type "range",data:=.fields #[.int lo t,.int hi u,.int 1 v]},toks:=tk}:=by
  refine wpAny_pyIter_range (IsRange.new ..) (small_one h1 h2 h3 h4) ?_;have I1:Inv X p_ σ H {s with heap:=s.heap.push {cls:=.type "range",data:=.fields #[.int lo t,.int hi u,.int 1 v]},toks:=tk}:=I.kept fun b o e=>Heap.get?_push_of_some _ e;refine⟨(s.heap.push {cls:=.type "range",data:=.fields #[.int lo t,.int hi u,.int 1 v]}).objs.size,[(s.heap.push {cls:=.type "range",data:=.fields #[.int lo t,.int hi u,.int 1 v]}).objs.size],_,_,H,rfl,
    I1.kept (t':=tk) fun b o e=>Heap.get?_push_of_some _ e,Wy _ lo (hi - lo).toNat,?_,fun b hb=>?_,q⟩
  · have e1:lo+((0:Nat):Int) * 1=lo:=by simp
    have e2:(((hi - lo).toNat:Nat):Int) - ((0:Nat):Int)=Builtin.Range.rangeSize lo hi 1:=by rw[rangeSize_one];split <;> omega
    show IsRangeIter _ _ (lo+((0:Nat):Int) * 1) ((((hi - lo).toNat:Nat):Int) - ((0:Nat):Int)) 1;rw[e1,e2];exact Heap.get?_push_size _ rfl
  · have e:b=(s.heap.push {cls:=.type "range",data:=.fields #[.int lo t,.int hi u,.int 1 v]}).objs.size:=by simpa using hb
    subst e;exact I1.Ru (Nat.le_refl _) (I1.hok.fresh (Nat.le_refl _))
def qbb (ta:TA):TI:=fun σ H R=>ta σ H fun vs H1=>∃j:Int,vs=[.int j]∧-(2 ^ 62)≤j∧j<2 ^ 62∧R (Wq 0 j.toNat) H1
def qbc (ta:TA):TI:=fun σ H R=>ta σ H fun vs H1=>∃i j:Int,vs=[.int i,.int j]∧(-(2 ^ 62)≤i∧i<2 ^ 62∧-(2 ^ 62)≤j∧j<2 ^ 62)∧R (Wq i (j - i).toNat) H1
theorem wI {a:Expr} {ta:TA} {p pos:Pos} (hg:Gl X "range") (hm:X.mg "range" = none) (ha:PA X [a] ta) (hs:starEach [a] X.env=[(false,eval a X.env)]:=by rfl):PI X tg (.Call (.Name "range" p) [a] [] pos) (qbb ta):=by
  intro p_ s σ H R I h;refine Call_ (uP I hg hm boot_range (PyProof.Rows.callWith_type1 (d9 (ha pos p_ s σ H _ I h) fun us s1 zz=>?_) hs rfl));obtain⟨vs,H1,I1,r1,q1⟩:=zz;obtain⟨j,e,q1,q2,q⟩:=q1;subst e;cases r1 with
  | cons r rr=>
    cases rr;obtain⟨t,rfl⟩:=r;exact call_range_1 (Uy I1 (by omega) (by omega) q1 q2 (by simpa using q))
theorem ZV {a b:Expr} {ta:TA} {p pos:Pos} (hg:Gl X "range") (hm:X.mg "range" = none) (ha:PA X [a,b] ta) (hs:starEach [a,b] X.env=[(false,eval a X.env),(false,eval b X.env)]:=by rfl) (hs2:starEach [b] X.env=[(false,eval b X.env)]:=by rfl) :
    PI X tg (.Call (.Name "range" p) [a,b] [] pos) (qbc ta):=by
  intro p_ s σ H R I h;refine Call_ (uP I hg hm boot_range (PyProof.Rows.callWith_type1 (d9 (ha pos p_ s σ H _ I h) fun us s1 zz=>?_) (by rw[hs,hs2]) (by rw[hs2];rfl)));obtain⟨vs,H1,I1,r1,q1⟩:=zz;obtain⟨i,j,e,⟨q1,q2,q3,q4⟩,q⟩:=q1;subst e;cases r1 with
  | cons r rr=>
    cases rr with
    | cons r' rr=>
      cases rr;obtain⟨t,rfl⟩:=r;obtain⟨t',rfl⟩:=r';exact call_range_2 (Uy I1 q1 q2 q3 q4 q)
def qin (wi:TI) (g:TG) (tb:TS):TS:=fun D σ H=>wi σ H fun J H1=>∃jV:Nat→Nat→St→Hp→Prop,(∃m,jV 0 m σ H1)∧∀i m σ H,jV i m σ H→
  (J.stop i H∧D.nx σ H)∨(J.go i H∧∃N:St→Hp→Prop,(∀σ' H',N σ' H'→∃m',m'<m∧jV (i+1) m' σ' H')∧∀x H',J.yld i H x H'→g x σ H' fun σ2 H2=>tb {D with nx:=N,ct:=N,bk:=D.nx} σ2 H2)
def Mi (fp:List Addr) (h:Heap):List (Addr×Obj):=fp.filterMap fun b=>(h.get? b).map fun o=>(b,o)
theorem Bl {fp:List Addr} {h:Heap} {b:Addr} {o:Obj} (hb:b∈fp) (e:h.get? b=some o):(b,o)∈Mi fp h:=List.mem_filterMap.mpr ⟨b,hb,by rw[e];rfl⟩
theorem ZW {fp:List Addr} {h:Heap} {p:Addr×Obj} (hp:p∈Mi fp h):p.1∈fp∧h.get? p.1=some p.2:=by
  obtain⟨b,hb,e⟩:=List.mem_filterMap.mp hp;cases q:h.get? b with
  | none=>rw[q] at e;cases e
  | some o=>
    rw[q] at e;have e':(b,o)=p:=Option.some.inj e;subst e';exact⟨hb,q⟩
theorem Inv.pinned {p_:List (Addr×Obj)} {σ:St} {H:Hp} {s:Shared} {fp:List Addr} (I:Inv X p_ σ H s) (hf:∀b∈fp,Gp X p_ H b) (ho:∀b∈fp,∃o,s.heap.get? b=some o∧∀v,o.data≠.cell v):Inv X (p_++Mi fp s.heap) σ H s:=
  I.YD fun p hp=>(List.mem_append.mp hp).elim (fun z=>I.pin p (List.mem_append_right _ z)) fun z=>by
    obtain⟨hb,e⟩:=ZW z;obtain⟨f0,f1,f2,_⟩:=hf p.1 hb;obtain⟨o,e',d⟩:=ho p.1 hb;rw[e] at e';cases e';exact⟨e,f0,f1,f2,d⟩
theorem Inv.Ht {p_ pl:List (Addr×Obj)} {σ:St} {H:Hp} {s:Shared} (I:Inv X (p_++pl) σ H s):Inv X p_ σ H s:=I.YD fun p hp=>I.pin p (List.mem_append_right _ (List.mem_append_left _ hp))
theorem zx {iter:Expr} {body:List Stmt} {wi:TI} {g:TG} {tb:TS} {pos:Pos} (hp:PassesOwn (model X.prog X.w) X.A X.env X.xe) (hc:X.calm=true) (hi:PI X tg iter wi) (hg:PG X tg g) (hb:Ph X body tb)
    (hs:∀x,foldedSetIterable iter X.env x=pure x:=by intro _;rfl):PS X (.For tg iter body [] pos) (qin wi g tb):=by
  intro p_ s σ H D I h;refine wpAny_For (d9 (hi p_ s σ H _ I h) fun v s1 h1=>d9 h1 fun itv s2 h2=>?_) hs;obtain⟨it,fp,tn,J,H2,e,I2,T,st2,f2,jV,⟨m0,w0⟩,turn⟩:=h2;subst e;have stat:∀{H':Hp},(∀b∈fp,H' b=none)→∀b∈fp,Gp X p_ H' b:=fun hn b hb=>⟨hn b hb,(f2 b hb).2⟩;refine codeAny_forLoop_any (fun n s'=>∃i σ' H',Inv X p_ σ' H' s'∧tn i s'.heap∧(∀b∈fp,H' b=none)∧jV i n σ' H') ?_ m0 ⟨0,σ,H2,I2,st2,fun b hb=>(f2 b hb).1,w0⟩;rintro n s3 ⟨i,σ3,H3,I3,st3,fr3,w3⟩
  rcases turn i n σ3 H3 w3 with⟨stop,qn⟩ | ⟨go,N,hN,step⟩
  ·refine wpAny_passesOwn hp (d9 (T.done X rfl rfl rfl hc i p_ s3 σ3 H3 X.xe I3 (stat fr3) st3 stop) fun r s4 zz=>?_);obtain⟨hr,I4⟩:=zz;subst hr;exact wpAny_execs_nil ⟨σ3,H3,I4,qn⟩
  · refine wpAny_passesOwn hp (d9 (T.item X rfl rfl rfl hc i p_ s3 σ3 H3 X.xe I3 (stat fr3) st3 go) fun r s4 zz=>?_);obtain⟨u,hr,h4⟩:=zz;subst hr;refine wpAny_passesOwn hp (d9 h4 fun _ s5 zz=>?_);obtain⟨x,H5,I5,r5,y5,st5,fr5⟩:=zz;have I5':=I5.pinned (stat fr5) (T.obj _ _ st5);refine wpAny_passesOwn hp (d9 (hg _ s5 σ3 H5 x u _ I5' r5 (step x H5 y5)) fun _ s6 zz=>?_);obtain⟨σ6,H6,I6,q6⟩:=zz;refine wpAny_passesOwn hp (d9 (hb _ s6 σ6 H6 _ I6 q6) fun f s7 q7=>?_);have again:∀{σ7:St} {H7:Hp},Inv X (p_++Mi fp s5.heap) σ7 H7 s7→N σ7 H7→∃m,m<n∧∃i σ' H',Inv X p_ σ' H' s7∧tn i s7.heap∧(∀b∈fp,H' b=none)∧jV i m σ' H':=fun {σ7 H7} I7 n7=>by
      obtain⟨m',hm,w7⟩:=hN σ7 H7 n7;refine⟨m',hm,i+1,σ7,H7,I7.Ht,T.keep _ _ _ st5 fun b hb o e=>(I7.pin (b,o) (List.mem_append_right _ (List.mem_append_right _ (Bl hb e)))).1,fun b hb=>?_,w7⟩;obtain⟨o,e,d⟩:=T.obj _ _ st5 b hb;exact(I7.pin (b,o) (List.mem_append_right _ (List.mem_append_right _ (Bl hb e)))).2.1
    cases f with
    | next=>obtain⟨σ7,H7,I7,n7⟩:=q7;exact again I7 n7
    | cont=>obtain⟨σ7,H7,I7,n7⟩:=q7;exact again I7 n7
    | brk=>obtain⟨σ7,H7,I7,q7⟩:=q7;exact⟨σ7,H7,I7.Ht,q7⟩
    | ret v=>obtain⟨x7,σ7,H7,I7,r7,q7⟩:=q7;exact⟨x7,σ7,H7,I7.Ht,r7,q7⟩
end
theorem Uz {K:W.Frag} {a:Addr} {xs:List V} {g:TG} {tb:TS} {D:Ends} {σ:St} {H:Hp} (Pv:Nat→St→Hp→Prop) (h0:Pv 0 σ H) (hl:∀i σ H,i≤xs.length→Pv i σ H→cj K H a xs)
    (hs:∀i x σ H,xs[i]? = some x→Pv i σ H→g x σ H fun σ2 H2=>tb {D with nx:=Pv (i+1),ct:=Pv (i+1),bk:=D.nx} σ2 H2) (hd:∀σ H,Pv xs.length σ H→D.nx σ H) :
    ∃jV:Nat→Nat→St→Hp→Prop,(∃m,jV 0 m σ H)∧∀i m σ H,jV i m σ H→
      ((Itl K a).stop i H∧D.nx σ H)∨((Itl K a).go i H∧∃N:St→Hp→Prop,(∀σ' H',N σ' H'→∃m',m'<m∧jV (i+1) m' σ' H')∧∀x H',(Itl K a).yld i H x H'→g x σ H' fun σ2 H2=>tb {D with nx:=N,ct:=N,bk:=D.nx} σ2 H2):=by
  refine⟨fun i m σ H=>m=xs.length - i∧i≤xs.length∧Pv i σ H,⟨xs.length,by simp,Nat.zero_le _,h0⟩,?_⟩;rintro i m σ H ⟨rfl,hi,p⟩;have q:=hl i σ H hi p
  by_cases hlt:i<xs.length
  ·refine .inr ⟨⟨xs,xs[i],q,by simp[hlt]⟩,Pv (i+1),fun σ' H' p'=>⟨xs.length - (i+1),by omega,rfl,hlt,p'⟩,fun x H' y=>?_⟩;obtain⟨e,y⟩:=y;subst e;exact hs i x σ _ (y xs q) p
  · have e:i=xs.length:=by omega
    subst e;exact .inl ⟨⟨xs,q,Nat.le_refl _⟩,hd σ H p⟩
theorem qdt {K:W.Frag} {a:Addr} {xs:List V} {g:TG} {tb:TS} {D:Ends} {σ:St} {H:Hp} (Pv:Nat→St→Hp→Prop) (h0:Pv 0 σ H) (hl:∀i σ H,i≤xs.length→Pv i σ H→lR K H a xs)
    (hs:∀i x σ H,xs[i]? = some x→Pv i σ H→g x σ H fun σ2 H2=>tb {D with nx:=Pv (i+1),ct:=Pv (i+1),bk:=D.nx} σ2 H2) (hd:∀σ H,Pv xs.length σ H→D.nx σ H) :
    ∃jV:Nat→Nat→St→Hp→Prop,(∃m,jV 0 m σ H)∧∀i m σ H,jV i m σ H→
      ((Itt K a).stop i H∧D.nx σ H)∨((Itt K a).go i H∧∃N:St→Hp→Prop,(∀σ' H',N σ' H'→∃m',m'<m∧jV (i+1) m' σ' H')∧∀x H',(Itt K a).yld i H x H'→g x σ H' fun σ2 H2=>tb {D with nx:=N,ct:=N,bk:=D.nx} σ2 H2):=by
  refine⟨fun i m σ H=>m=xs.length - i∧i≤xs.length∧Pv i σ H,⟨xs.length,by simp,Nat.zero_le _,h0⟩,?_⟩;rintro i m σ H ⟨rfl,hi,p⟩;have q:=hl i σ H hi p
  by_cases hlt:i<xs.length
  ·refine .inr ⟨⟨xs,xs[i],q,by simp[hlt]⟩,Pv (i+1),fun σ' H' p'=>⟨xs.length - (i+1),by omega,rfl,hlt,p'⟩,fun x H' y=>?_⟩;obtain⟨e,y⟩:=y;subst e;exact hs i x σ _ (y xs q) p
  · have e:i=xs.length:=by omega
    subst e;exact .inl ⟨⟨xs,q,Nat.le_refl _⟩,hd σ H p⟩
theorem ZX {lo:Int} {n:Nat} {g:TG} {tb:TS} {D:Ends} {σ:St} {H:Hp} (Pv:Nat→St→Hp→Prop) (h0:Pv 0 σ H)
    (hs:∀i σ H,i<n→Pv i σ H→g (.int (lo+i)) σ H fun σ2 H2=>tb {D with nx:=Pv (i+1),ct:=Pv (i+1),bk:=D.nx} σ2 H2) (hd:∀σ H,Pv n σ H→D.nx σ H) :
    ∃jV:Nat→Nat→St→Hp→Prop,(∃m,jV 0 m σ H)∧∀i m σ H,jV i m σ H→
      ((Wq lo n).stop i H∧D.nx σ H)∨((Wq lo n).go i H∧∃N:St→Hp→Prop,(∀σ' H',N σ' H'→∃m',m'<m∧jV (i+1) m' σ' H')∧∀x H',(Wq lo n).yld i H x H'→g x σ H' fun σ2 H2=>tb {D with nx:=N,ct:=N,bk:=D.nx} σ2 H2):=by
  refine⟨fun i m σ H=>m=n - i∧i≤n∧Pv i σ H,⟨n,by simp,Nat.zero_le _,h0⟩,?_⟩;rintro i m σ H ⟨rfl,hi,p⟩
  by_cases hlt:i<n
  ·refine .inr ⟨hlt,Pv (i+1),fun σ' H' p'=>⟨n - (i+1),by omega,rfl,hlt,p'⟩,fun x H' y=>?_⟩;obtain⟨e,y⟩:=y;subst e y;exact hs i σ _ hlt p
  · have e:i=n:=by omega
    subst e;exact .inl ⟨Nat.le_refl _,hd σ H p⟩
theorem qbd {c:TT} {tb:TS} {D:Ends} {σ:St} {H:Hp} (Pv:St→Hp→Prop) (μ:St→Hp→Nat) (h0:Pv σ H)
    (hs:∀σ H,Pv σ H→c σ H fun b H1=>if b=true then tb {D with nx:=fun σ' H'=>Pv σ' H'∧μ σ' H'<μ σ H,ct:=fun σ' H'=>Pv σ' H'∧μ σ' H'<μ σ H,bk:=D.nx} σ H1 else D.nx σ H1)
    (mono:∀σ H Q Q',(∀b H1,Q b H1→Q' b H1)→c σ H Q→c σ H Q'):Rt c tb D σ H:=by
  refine⟨fun m σ H=>m=μ σ H∧Pv σ H,⟨_,rfl,h0⟩,?_⟩;rintro m σ H ⟨rfl,p⟩;refine mono σ H _ _ (fun b H1 q=>?_) (hs σ H p);cases b with
  | true=>exact⟨_,fun σ' H' ⟨p',l⟩=>⟨_,l,rfl,p'⟩,q⟩
  | false=>exact q
abbrev R2:=V→V→Hp→VK→Prop
def mR (X:Cx) (f:Value→Value→Sem Value) (r:R2):Prop:=
  ∀(p_:List (Addr×Obj)) (s:Shared) (σ:St) (H:Hp) (x y:V) (v u:Value) (Q:VK),Inv X p_ σ H s→RelV x v→RelV y u→r x y H Q→
    wpAny (model X.prog X.w) X.A (f v u) (EP X p_ σ Q) X.xe s
def UnR (X:Cx) (f:Value→Sem Value) (r:V→Hp→VK→Prop):Prop:=
  ∀(p_:List (Addr×Obj)) (s:Shared) (σ:St) (H:Hp) (x:V) (v:Value) (Q:VK),Inv X p_ σ H s→RelV x v→r x H Q→
    wpAny (model X.prog X.w) X.A (f v) (EP X p_ σ Q) X.xe s
def dD (X:Cx) (f:Value) (r:List V→Hp→VK→Prop):Prop:=
  ∀(p_:List (Addr×Obj)) (s:Shared) (σ:St) (H:Hp) (xs:List V) (us:List Value) (Q:VK),Inv X p_ σ H s→Vals xs us→r xs H Q→
    wpAny (model X.prog X.w) X.A (call f us) (EP X p_ σ Q) X.xe s
def K6 (r:R2) (ta tb:TE):TE:=fun σ H Q=>ta σ H fun x H1=>tb σ H1 fun y H2=>r x y H2 Q
def tUn (r:V→Hp→VK→Prop) (ta:TE):TE:=fun σ H Q=>ta σ H fun x H1=>r x H1 Q
def rI (C:Int→Int→Prop) (g:Int→Int→V):R2:=fun x y H Q=>∃i j,x = .int i∧y = .int j∧C i j∧Q (g i j) H
def rI0 (g:Int→Int→V):R2:=fun x y H Q=>∃i j,x = .int i∧y = .int j∧Q (g i j) H
def rU (g:Int→V):V→Hp→VK→Prop:=fun x H Q=>∃i,x = .int i∧Q (g i) H
section
variable {X:Cx} {a b c:Expr} {ta tb tc:TE} {pos:Pos}
theorem qfM (ha:PE X a ta) (hb:PE X b tb) {p_:List (Addr×Obj)} {s:Shared} {σ:St} {H:Hp} {R:V→V→Hp→Prop} (I:Inv X p_ σ H s)
    (h:ta σ H fun x H1=>tb σ H1 fun y H2=>R x y H2) {Q:Value→Shared→Prop} {f:Value→Value→Sem Value}
    (hf:∀v u s2 x y H2,Inv X p_ σ H2 s2→RelV x v→RelV y u→R x y H2→wpAny (model X.prog X.w) X.A (f v u) Q X.xe s2) :
    wpAny (model X.prog X.w) X.A (eval a X.env) (fun v s₁=>wpAny (model X.prog X.w) X.A (eval b X.env) (fun u s₂=>wpAny (model X.prog X.w) X.A (f v u) Q X.xe s₂) X.xe s₁) X.xe s:=by
  refine d9 (ha p_ s σ H _ I h) fun v s1 zz=>?_;obtain⟨x,H1,I1,r1,q1⟩:=zz;refine d9 (hb p_ s1 σ H1 _ I1 q1) fun u s2 zz=>?_;obtain⟨y,H2,I2,r2,q2⟩:=zz;exact hf v u s2 x y H2 I2 r1 r2 q2
theorem bQ {op:Operator} {r:R2} (ho:mR X (binaryOp op) r) (ha:PE X a ta) (hb:PE X b tb):PE X (.BinOp a op b pos) (K6 r ta tb):=by
  intro p_ s σ H Q I h;exact wpAny_BinOp (qfM ha hb I h fun v u s2 x y H2 I2 rx ry q=>ho p_ s2 σ H2 x y v u Q I2 rx ry q)
theorem Qm {op:UnaryOp} {r:V→Hp→VK→Prop} (ho:UnR X (unaryOp op) r) (ha:PE X a ta):PE X (.UnaryOp op a pos) (tUn r ta):=by
  intro p_ s σ H Q I h;refine UnaryOp_ (d9 (ha p_ s σ H _ I h) fun v s1 zz=>?_);obtain⟨x,H1,I1,r1,q1⟩:=zz;exact ho p_ s1 σ H1 x v Q I1 r1 q1
theorem opI {f:Value→Value→Sem Value} {C:Int→Int→Prop} {g:Int→Int→Int}
    (rule:∀(i j:Int) (t u:Tok) (s:Shared) (Q:Value→Shared→Prop) (E:Value→Shared→Prop),C i j→Q (.int (g i j) s.toks) {s with toks:=s.toks+1}→wpAny (model X.prog X.w) X.A (f (.int i t) (.int j u)) Q E s) :
    mR X f (rI C fun i j=>.int (g i j)):=by
  intro p_ s σ H x y v u Q I rx ry h;obtain⟨i,j,rfl,rfl,hc,q⟩:=h;obtain⟨t,rfl⟩:=rx;obtain⟨t',rfl⟩:=ry;exact rule i j t t' s _ _ hc ⟨.int (g i j),H,I.tok _,⟨_,rfl⟩,q⟩
theorem qio {f:Value→Value→Sem Value} {g:Int→Int→Int}
    (rule:∀(i j:Int) (t u:Tok) (s:Shared) (Q:Value→Shared→Prop) (E:Value→Shared→Prop),Q (.int (g i j) s.toks) {s with toks:=s.toks+1}→wpAny (model X.prog X.w) X.A (f (.int i t) (.int j u)) Q E s) :
    mR X f (rI0 fun i j=>.int (g i j)):=by
  intro p_ s σ H x y v u Q I rx ry h;obtain⟨i,j,rfl,rfl,q⟩:=h;obtain⟨t,rfl⟩:=rx;obtain⟨t',rfl⟩:=ry;exact rule i j t t' s _ _ ⟨.int (g i j),H,I.tok _,⟨_,rfl⟩,q⟩
theorem qfN {f:Value→Value→Sem Value} {g:Int→Int→Bool}
    (rule:∀(i j:Int) (t u:Tok) (s:Shared) (Q:Value→Shared→Prop) (E:Value→Shared→Prop),Q (.bool (g i j)) s→wpAny (model X.prog X.w) X.A (f (.int i t) (.int j u)) Q E s) :
    mR X f (rI0 fun i j=>.bl (g i j)):=by
  intro p_ s σ H x y v u Q I rx ry h;obtain⟨i,j,rfl,rfl,q⟩:=h;obtain⟨t,rfl⟩:=rx;obtain⟨t',rfl⟩:=ry;exact rule i j t t' s _ _ ⟨.bl (g i j),H,I,rfl,q⟩
@[simp] def Z0 (i j:Int):Prop:=0<j∧j<1073741824
@[simp] def qdu (i j:Int):Prop:=0≤j∧j≤1000000∧i.natAbs<2 ^ 64
@[simp] def qdv (i j:Int):Prop:=(-(2 ^ 64)<i∧i<2 ^ 64)∨(-(2 ^ 64)<j∧j<2 ^ 64)
theorem qdv.ok {i j:Int} (h:qdv i j):IntMulOk i j:=by
  rcases h with⟨h1,h2⟩ | ⟨h1,h2⟩
  ·exact .of_left (intBits_le_64 h1 h2)
  ·exact .of_right (intBits_le_64 h1 h2)
theorem qfO:mR X (binaryOp .Add) (rI0 fun i j=>.int (i+j)):=qio fun _ _ _ _ _ _ _ q=>add_int q
theorem qfP:mR X (binaryOp .Sub) (rI0 fun i j=>.int (i - j)):=qio fun _ _ _ _ _ _ _ q=>sub_int q
theorem qfQ:mR X (binaryOp .Mult) (rI qdv fun i j=>.int (i * j)):=opI fun _ _ _ _ _ _ _ hc q=>mul_int q hc.ok
theorem qdw:mR X (binaryOp .FloorDiv) (rI Z0 fun i j=>.int (i / j)):=opI fun i j _ _ _ _ _ hc q=>by
  have h1:(0:Int)<j:=hc.1;have h2:j<1073741824:=hc.2;exact floordiv_int (by omega) (by rw[Int.fdiv_eq_ediv_of_nonneg i (by omega)];exact q) (.inl (PyProof.noPylong_small (by omega)))
theorem qfR:mR X (binaryOp .Mod) (rI (fun _ j=>0<j) fun i j=>.int (i % j)):=opI fun i j _ _ _ _ _ hc q=>by
  have h1:(0:Int)<j:=hc;exact mod_int' (by omega) (by rw[Int.fmod_eq_emod_of_nonneg i (by omega)];exact q)
theorem qfS:mR X (binaryOp .Pow) (rI qdu fun i j=>.int (i ^ j.toNat)):=opI fun _ _ _ _ _ _ _ hc q=>pow_int_small hc.1 hc.2.1 hc.2.2 q
theorem unI {f:Value→Sem Value} {g:Int→Int}
    (rule:∀(i:Int) (t:Tok) (s:Shared) (Q:Value→Shared→Prop) (E:Value→Shared→Prop),Q (.int (g i) s.toks) {s with toks:=s.toks+1}→wpAny (model X.prog X.w) X.A (f (.int i t)) Q E s) :
    UnR X f (rU fun i=>.int (g i)):=by
  intro p_ s σ H x v Q I rx h;obtain⟨i,rfl,q⟩:=h;obtain⟨t,rfl⟩:=rx;exact rule i t s _ _ ⟨.int (g i),H,I.tok _,⟨_,rfl⟩,q⟩
theorem qfT:UnR X (unaryOp .USub) (rU fun i=>.int (-i)):=unI fun _ _ _ _ _ q=>neg_int q
end
def K7:V→V→Bool
  | .non,.non=>true | .non,.int _=>true | .int _,.non=>true | .non,.bl _=>true | .bl _,.non=>true | .non,.str _=>true | .str _,.non=>true
  | .int _,.int _=>true | .bl _,.bl _=>true | .str _,.str _=>true | .byt _,.byt _=>true
  | .int _,.str _=>true | .str _,.int _=>true | .bl _,.str _=>true | .str _,.bl _=>true
  | _,_=>false
def rEq:R2:=fun x y H Q=>K7 x y=true∧Q (.bl (decide (x=y))) H
def rNe:R2:=fun x y H Q=>K7 x y=true∧Q (.bl (!decide (x=y))) H
theorem YH {i j:Int}:decide (V.int i=V.int j)=(i == j):=by
  rw[Bool.eq_iff_iff];simp
theorem qbe {i j:Bool}:decide (V.bl i=V.bl j)=(i == j):=by
  rw[Bool.eq_iff_iff];simp
theorem YJ {i j:Str}:decide (V.str i=V.str j)=(i == j):=by
  rw[Bool.eq_iff_iff];simp
theorem YK {i j:Array UInt8}:decide (V.byt i=V.byt j)=(i.toList == j.toList):=by
  rw[Bool.eq_iff_iff];cases i;cases j;simp
section
variable {X:Cx} {a b c:Expr} {ta tb tc:TE} {pos:Pos}
theorem dN {p_:List (Addr×Obj)} {σ:St} {H:Hp} {s:Shared} {Q:VK} {k k':Bool} (I:Inv X p_ σ H s) (q:Q (.bl k) H) (e:k=k'):EP X p_ σ Q (.bool k') s:=by
  subst e;exact⟨.bl k,H,I,rfl,q⟩
theorem qip:mR X (compareOp .Eq) rEq:=by
  intro p_ s σ H x y v u Q I rx ry h;obtain⟨hs,q⟩:=h;cases x with
  | non=>
    cases rx;cases y with
    | non=>cases ry;exact PySem.EqNone.eq_none_none (dN I q (by simp))
    | bl j=>cases ry;exact PySem.EqNone.eq_none_bool (dN I q (by simp))
    | int j=>obtain⟨t',rfl⟩:=ry;exact PySem.EqNone.eq_none_int (dN I q (by simp))
    | str j=>obtain⟨t',rfl⟩:=ry;exact PySem.EqNone.eq_none_str (dN I q (by simp))
    | _=>exact absurd (show false=true from hs) Bool.false_ne_true
  | bl i=>
    cases rx;cases y with
    | non=>cases ry;exact PySem.EqNone.eq_bool_none (dN I q (by simp))
    | bl j=>cases ry;exact eq_bool (dN I q qbe)
    | str j=>obtain⟨t',rfl⟩:=ry;exact PySem.EqMixed.eq_bool_str (dN I q (by simp))
    | _=>exact absurd (show false=true from hs) Bool.false_ne_true
  | int i=>
    obtain⟨t,rfl⟩:=rx;cases y with
    | non=>cases ry;exact PySem.EqNone.eq_int_none (dN I q (by simp))
    | int j=>obtain⟨t',rfl⟩:=ry;exact eq_int (dN I q YH)
    | str j=>obtain⟨t',rfl⟩:=ry;exact PySem.EqMixed.eq_int_str (dN I q (by simp))
    | _=>exact absurd (show false=true from hs) Bool.false_ne_true
  | str i=>
    obtain⟨t,rfl⟩:=rx;cases y with
    | non=>cases ry;exact PySem.EqNone.eq_str_none (dN I q (by simp))
    | bl j=>cases ry;exact PySem.EqMixed.eq_str_bool (dN I q (by simp))
    | int j=>obtain⟨t',rfl⟩:=ry;exact PySem.EqMixed.eq_str_int (dN I q (by simp))
    | str j=>obtain⟨t',rfl⟩:=ry;exact eq_str (dN I q YJ)
    | _=>exact absurd (show false=true from hs) Bool.false_ne_true
  | byt i=>
    obtain⟨t,rfl⟩:=rx;cases y with
    | byt j=>obtain⟨t',rfl⟩:=ry;exact W.eq_bytes (dN I q YK)
    | _=>exact absurd (show false=true from hs) Bool.false_ne_true
  | _=>cases y <;> exact absurd (show false=true from hs) Bool.false_ne_true
theorem qiq:mR X (compareOp .NotEq) rNe:=by
  intro p_ s σ H x y v u Q I rx ry h;obtain⟨hs,q⟩:=h;cases x with
  | non=>
    cases rx;cases y with
    | non=>cases ry;exact PySem.EqNone.ne_none_none (dN I q (by simp))
    | bl j=>cases ry;exact PySem.EqNone.ne_none_bool (dN I q (by simp))
    | int j=>obtain⟨t',rfl⟩:=ry;exact PySem.EqNone.ne_none_int (dN I q (by simp))
    | str j=>obtain⟨t',rfl⟩:=ry;exact PySem.EqNone.ne_none_str (dN I q (by simp))
    | _=>exact absurd (show false=true from hs) Bool.false_ne_true
  | bl i=>
    cases rx;cases y with
    | non=>cases ry;exact PySem.EqNone.ne_bool_none (dN I q (by simp))
    | bl j=>cases ry;exact ne_bool (dN I q (congrArg not qbe))
    | str j=>obtain⟨t',rfl⟩:=ry;exact PySem.EqMixed.ne_bool_str (dN I q (by simp))
    | _=>exact absurd (show false=true from hs) Bool.false_ne_true
  | int i=>
    obtain⟨t,rfl⟩:=rx;cases y with
    | non=>cases ry;exact PySem.EqNone.ne_int_none (dN I q (by simp))
    | int j=>obtain⟨t',rfl⟩:=ry;exact ne_int (dN I q (congrArg not YH))
    | str j=>obtain⟨t',rfl⟩:=ry;exact PySem.EqMixed.ne_int_str (dN I q (by simp))
    | _=>exact absurd (show false=true from hs) Bool.false_ne_true
  | str i=>
    obtain⟨t,rfl⟩:=rx;cases y with
    | non=>cases ry;exact PySem.EqNone.ne_str_none (dN I q (by simp))
    | bl j=>cases ry;exact PySem.EqMixed.ne_str_bool (dN I q (by simp))
    | int j=>obtain⟨t',rfl⟩:=ry;exact PySem.EqMixed.ne_str_int (dN I q (by simp))
    | str j=>obtain⟨t',rfl⟩:=ry;exact ne_str (dN I q (congrArg not YJ))
    | _=>exact absurd (show false=true from hs) Bool.false_ne_true
  | byt i=>
    obtain⟨t,rfl⟩:=rx;cases y with
    | byt j=>obtain⟨t',rfl⟩:=ry;exact W.ne_bytes (dN I q (congrArg not YK))
    | _=>exact absurd (show false=true from hs) Bool.false_ne_true
  | _=>cases y <;> exact absurd (show false=true from hs) Bool.false_ne_true
theorem qir:mR X (compareOp .Lt) (rI0 fun i j=>.bl (decide (i<j))):=qfN fun _ _ _ _ _ _ _ q=>lt_int q
theorem qis:mR X (compareOp .LtE) (rI0 fun i j=>.bl (decide (i≤j))):=qfN fun _ _ _ _ _ _ _ q=>le_int q
theorem qit:mR X (compareOp .Gt) (rI0 fun i j=>.bl (decide (j<i))):=qfN fun _ _ _ _ _ _ _ q=>gt_int q
theorem Z1:mR X (compareOp .In) (fun x y H Q=>∃i j,x = .str i∧y = .str j∧Q (.bl (!(Builtin.Str.occurrences j i 0 j.length 1).isEmpty)) H):=by
  intro p_ s σ H x y v u Q I rx ry h;obtain⟨i,j,rfl,rfl,q⟩:=h;obtain⟨t,rfl⟩:=rx;obtain⟨t',rfl⟩:=ry;exact in_str (dN I q rfl)
theorem mR.or {f:Value→Value→Sem Value} {r r':R2} (h:mR X f r) (h':mR X f r'):mR X f (fun x y H Q=>r x y H Q∨r' x y H Q):=by
  intro p_ s σ H x y v u Q I rx ry q
  rcases q with q | q
  ·exact h p_ s σ H x y v u Q I rx ry q
  ·exact h' p_ s σ H x y v u Q I rx ry q
theorem bZ (b:Expr) {op:CmpOp} (h:op≠.In:=by decide) (h2:op≠.NotIn:=by decide):behindInMarks op b=false:=by
  have e1:(op == CmpOp.In)=false:=by cases op <;> first | rfl | exact absurd rfl h
  have e2:(op == CmpOp.NotIn)=false:=by cases op <;> first | rfl | exact absurd rfl h2
  cases b <;> simp[behindInMarks,e1,e2]
theorem iQ {op:CmpOp} {r:R2} (ho:mR X (compareOp op) r) (ha:PE X a ta) (hb:PE X b tb) (hm:behindInMarks op b=false):PE X (.Compare a [op] [b] pos) (K6 r ta tb):=by
  intro p_ s σ H Q I h;exact wpAny_Compare1 (qfM ha hb I h fun v u s2 x y H2 I2 rx ry q=>ho p_ s2 σ H2 x y v u Q I2 rx ry q) hm
def YL (t:TE):TT:=fun σ H Q=>t σ H fun x H'=>∃k,x = .bl k∧Q k H'
theorem qdx {op:CmpOp} {r:R2} (ho:mR X (compareOp op) r) (ha:PE X a ta) (hb:PE X b tb) (hm:behindInMarks op b=false):PT X (.Compare a [op] [b] pos) (YL (K6 r ta tb)):=by
  intro p_ s σ H Q I h;refine wpAny_isTrue_Compare1 (d9 (ha p_ s σ H _ I h) fun v s1 ⟨x,H1,I1,r1,q1⟩=>d9 (hb p_ s1 σ H1 _ I1 q1) fun u s2 ⟨y,H2,I2,r2,q2⟩=>
    d9 (ho p_ s2 σ H2 x y v u _ I2 r1 r2 q2) fun c s3 ⟨z,H3,I3,r3,k,e,q3⟩=>?_) hm
  subst e;cases r3;exact wpAny_truthy_bool ⟨H3,I3,q3⟩
def Rv (r r':R2) (ta tb tc:TE):TE:=fun σ H Q=>ta σ H fun x H1=>tb σ H1 fun y H2=>r x y H2 fun z H3=>∃k,z = .bl k∧
  (if k=true then tc σ H3 fun w' H4=>r' y w' H4 Q else Q (.bl false) H3)
theorem qbf {op op':CmpOp} {r r':R2} (ho:mR X (compareOp op) r) (ho':mR X (compareOp op') r') (ha:PE X a ta) (hb:PE X b tb) (hc:PE X c tc)
    (hm:lastMarks [op,op'] [b,c]=false:=by with_unfolding_all rfl):PE X (.Compare a [op,op'] [b,c] pos) (Rv r r' ta tb tc):=by
  intro p_ s σ H Q I h;refine Compare_chain (d9 (ha p_ s σ H _ I h) fun v s1 ⟨x,H1,I1,r1,q1⟩=>chain_link (d9 (hb p_ s1 σ H1 _ I1 q1) fun u s2 ⟨y,H2,I2,r2,q2⟩=>
    d9 (ho p_ s2 σ H2 x y v u _ I2 r1 r2 q2) fun d s3 ⟨z,H3,I3,r3,k,e,q3⟩=>?_)) hm
  subst e;cases r3;refine wpAny_truthy_bool ?_;cases k with
  | false=>exact ite_ff ⟨.bl false,H3,I3,rfl,q3⟩
  | true=>exact ite_tt (chain_last (d9 (hc p_ s3 σ H3 _ I3 q3) fun w' s4 ⟨z',H4,I4,r4,q4⟩=>ho' p_ s4 σ H4 y z' u w' Q I4 r2 r4 q4))
theorem qbg {op op':CmpOp} {r r':R2} (ho:mR X (compareOp op) r) (ho':mR X (compareOp op') r') (ha:PE X a ta) (hb:PE X b tb) (hc:PE X c tc)
    (hm:lastMarks [op,op'] [b,c]=false:=by with_unfolding_all rfl):PT X (.Compare a [op,op'] [b,c] pos) (YL (Rv r r' ta tb tc)):=by
  intro p_ s σ H Q I h;refine isTrue_chain (d9 (ha p_ s σ H _ I h) fun v s1 ⟨x,H1,I1,r1,q1⟩=>test_link (d9 (hb p_ s1 σ H1 _ I1 q1) fun u s2 ⟨y,H2,I2,r2,q2⟩=>
    d9 (ho p_ s2 σ H2 x y v u _ I2 r1 r2 q2) fun d s3 ⟨z,H3,I3,r3,k,e,q3⟩=>?_)) hm
  subst e;cases r3;refine wpAny_truthy_bool ?_;cases k with
  | false=>
    obtain⟨k',e',q'⟩:=q3;cases e';exact ite_ff ⟨H3,I3,q'⟩
  | true=>
    refine ite_tt (test_last (d9 (hc p_ s3 σ H3 _ I3 q3) fun w' s4 ⟨z',H4,I4,r4,q4⟩=>d9 (ho' p_ s4 σ H4 y z' u w' _ I4 r2 r4 q4) fun d' s5 ⟨z2,H5,I5,r5,k2,e2,q5⟩=>?_));subst e2;cases r5;exact wpAny_truthy_bool ⟨H5,I5,q5⟩
theorem Gq:(sizeLine:Nat)<2 ^ 63:=by rw[sizeLine_eq];decide
theorem Wz:mR X (binaryOp .Add) (fun x y H Q=>∃i j,x = .str i∧y = .str j∧i.length+j.length≤sizeLine∧Q (.str (i++j)) H):=by
  intro p_ s σ H x y v u Q I rx ry h;obtain⟨i,j,rfl,rfl,hz,q⟩:=h;obtain⟨t,rfl⟩:=rx;obtain⟨t',rfl⟩:=ry;exact add_str (fun t' tk=>⟨.str (i++j),H,I.tok _,⟨_,rfl⟩,q⟩) hz
theorem vals1 {x:V} {us:List Value} (r:Vals [x] us):∃u,us=[u]∧RelV x u:=by
  cases r with
  | cons r1 r2=>cases r2;exact⟨_,rfl,r1⟩
theorem vals2 {x y:V} {us:List Value} (r:Vals [x,y] us):∃u w',us=[u,w']∧RelV x u∧RelV y w':=by
  cases r with
  | cons r1 r2=>
    cases r2 with
    | cons r3 r4=>cases r4;exact⟨_,_,rfl,r1,r3⟩
theorem qbh:dD X (.builtin "abs") (fun xs H Q=>∃i,xs=[.int i]∧Q (.int (if i<0 then -i else i)) H):=by
  intro p_ s σ H xs us Q I r h;obtain⟨i,rfl,q⟩:=h;obtain⟨u,rfl,t,rfl⟩:=vals1 r;exact call_abs_int fun u tk=>⟨.int (if i<0 then -i else i),H,I.tok _,⟨_,rfl⟩,q⟩
theorem Z2 (hc:X.calm=true):dD X (.builtin "max") (fun xs H Q=>∃i j,xs=[.int i,.int j]∧Q (.int (if j > i then j else i)) H):=by
  intro p_ s σ H xs us Q I r h;obtain⟨i,j,rfl,q⟩:=h;obtain⟨u,w',rfl,⟨t,rfl⟩,⟨t',rfl⟩⟩:=vals2 r;refine max_two_ints (I.ok.hd hc) fun h' tk k=>⟨_,H,I.kept k,?_,q⟩
  by_cases hj:j > i
  ·rw[if_pos hj,if_pos hj];exact⟨_,rfl⟩
  ·rw[if_neg hj,if_neg hj];exact⟨_,rfl⟩
theorem Z4 (hc:X.calm=true):dD X (.builtin "min") (fun xs H Q=>∃i j,xs=[.int i,.int j]∧Q (.int (if j<i then j else i)) H):=by
  intro p_ s σ H xs us Q I r h;obtain⟨i,j,rfl,q⟩:=h;obtain⟨u,w',rfl,⟨t,rfl⟩,⟨t',rfl⟩⟩:=vals2 r;refine min_two_ints (I.ok.hd hc) fun h' tk k=>⟨_,H,I.kept k,?_,q⟩
  by_cases hj:j<i
  ·rw[if_pos hj,if_pos hj];exact⟨_,rfl⟩
  ·rw[if_neg hj,if_neg hj];exact⟨_,rfl⟩
theorem Z5:dD X (.type "int") (fun xs H Q=>(∃i,xs=[.int i]∧Q (.int i) H)∨∃k,xs=[.bl k]∧Q (.int (if k then 1 else 0)) H):=by
  intro p_ s σ H xs us Q I r h
  rcases h with⟨i,rfl,q⟩ | ⟨k,rfl,q⟩
  ·obtain⟨u,rfl,t,rfl⟩:=vals1 r;exact call_int_int ⟨.int i,H,I,⟨_,rfl⟩,q⟩
  ·obtain⟨u,rfl,r1⟩:=vals1 r;cases r1;exact call_int_bool ⟨.int (if k then 1 else 0),H,I.tok _,⟨_,rfl⟩,q⟩
theorem UG:dD X (.builtin "divmod") (fun xs H Q=>∃i j,xs=[.int i,.int j]∧Z0 i j∧∀p,H p=none→Q (.ref p) (upd H p (.tup [.int (i / j),.int (i % j)]))):=by
  intro p_ s σ H xs us Q I r h;obtain⟨i,j,rfl,⟨h1,h2⟩,q⟩:=h;obtain⟨u,w',rfl,⟨t,rfl⟩,⟨t',rfl⟩⟩:=vals2 r;refine divmod_int (by omega) ?_ (.inl (PyProof.noPylong_small (by omega)));rw[Int.fdiv_eq_ediv_of_nonneg i (by omega),Int.fmod_eq_emod_of_nonneg i (by omega)];have hn:H s.heap.objs.size=none:=I.hok.fresh (Nat.le_refl _);refine⟨.ref s.heap.objs.size,_,?_,rfl,q _ hn⟩;refine I.laid (fun b o e=>Heap.get?_push_of_some _ e) (Nat.le_refl _) ⟨by simp only[List.length_cons,List.length_nil];rw[sizeLine_eq];decide,[.int (i / j) s.toks,.int (i % j) (s.toks+1)],.cons ⟨_,rfl⟩ (.cons ⟨_,rfl⟩ .nil),?_⟩;exact⟨_,Heap.get?_push_size s.heap rfl,rfl,0,rfl⟩
end
structure WD (h:Heap) (x dx C:Addr) (mA:Str→Option Value):Prop where
  obj:h.get? x=some (W.instObj C dx)
  ns:h.Ns1 dx mA
  ne:dx≠x
theorem Z6 {h:Heap} {dx:Addr} {mA:Str→Option Value} (n:h.Ns1 dx mA):∃od,h.get? dx=some od∧∀name,W.lookIn name od=some (mA name):=by
  obtain⟨o,es,ep,ho,hd,hk,_,hm⟩:=n;refine⟨o,ho,fun name=>?_⟩;have e:=hm name;unfold nsFind findBy at e;rw[← Array.find?_toList] at e;unfold W.lookIn;rw[hd];dsimp only;split
  ·rename_i y q;rw[q] at e;exact congrArg some e
  · rename_i q;rw[q] at e;have a:es.toList.any (·.refKey)=false:=by
      rw[List.any_eq_false];intro y hy;obtain⟨z,t,hkey⟩:=hk y (Array.mem_toList_iff.mp hy);simp[DictEntry.refKey,hkey]
    have a':¬es.toList.any (·.refKey)=true:=by rw[a];exact Bool.false_ne_true
    rw[if_neg a'];exact congrArg some e
theorem WD.look {h:Heap} {x dx C:Addr} {mA:Str→Option Value} (I:WD h x dx C mA):∃od,W.InstAt h x (W.instObj C dx) C (some od)∧∀name,W.lookIn name od=some (mA name):=
  let ⟨od,ho,hl⟩:=Z6 I.ns
  ⟨od,⟨I.obj,rfl,rfl,ho⟩,hl⟩
section
variable {prog:Program} {w:World} {A:Around} {E:Value→Shared→Prop} {s:Shared} {K:W.Frag} {x dx C f:Addr} {mA:Str→Option Value} {name:Str} {v:Value}
theorem get_map {expr:Bool} {Q:Value→Shared→Prop} (X:K.In s.heap) (I:WD s.heap x dx C mA) (hg:W.plainGet K C name=true) (hh:W.hasDictIn K C=true)
    (ha:W.findIn K (.ref C) name=some none) (hv:mA name=some v) (hv':W.handedIn v=true) (h:Q v {s with toks:=s.toks+1}) :
    wpAny (model prog w) A (getAttr (.ref x) name expr) Q E s:=by
  obtain⟨od,J,hl⟩:=I.look;exact W.get_value X J (W.plainGet_of hg).1 (W.findObj_own hh ha rfl (by rw[hl,hv])) hv' h
theorem qbi {pl:Sem Bool} {Q:Value×List Value→Shared→Prop} (X:K.In s.heap) (I:WD s.heap x dx C mA) (hg:W.plainGet K C name=true)
    (hf:W.findIn K (.ref C) name=some (some (.ref f))) (ht:W.isFn K (.ref f)=true) (hv:mA name=none) (h:Q (.ref f,[.ref x]) s) :
    wpAny (model prog w) A (getMethod (.ref x) name pl) Q E s:=by
  obtain⟨od,J,hl⟩:=I.look;exact W.method_fn X J (W.plainGet_of hg).1 (W.plainGet_of hg).2 hf (beq_iff_eq.mp ht) (by show(W.lookIn name od).map (·.isSome)=some false;rw[hl,hv];rfl) h
theorem qdy {ns:List Str} {Q:Unit→Shared→Prop} (X:K.In s.heap) (I:WD s.heap x dx C mA)
    (hs:W.findIn K (.ref C) "__setattr__" = some (some (.builtin "object.__setattr__"))) (hp:W.plainOver K C=true) (ht:W.takerIn K C name=some none) (hh:W.hasDictIn K C=true)
    (hw:PySem.Within mA ns) (hsz:ns.length≤sizeLine)
    (h:∀h',WD h' x dx C (fun y=>if y=name then some v else mA y)→Heap.SameBut dx s.heap h'→Q () {s with heap:=h',toks:=s.toks+2}) :
    wpAny (model prog w) A (setAttr (.ref x) name v) Q E s:=by
  obtain⟨od,J,hl⟩:=I.look;refine W.set_plain X J hs (W.osa_open (s:={s with toks:=s.toks+1}) (r:=none) X J hp ht fun b=>?_);obtain⟨cd,hc,hd'⟩:=W.any_some hh;have hx:s.heap.get? x=some ⟨.ref C,some dx,.plain,#[]⟩:=I.obj;refine wpAny_bind (wpAny_pure (wpAny_bind (wpAny_bind (wpAny_loadPart hx (wpAny_bind (W.Looks.here (s:={s with toks:=s.toks+1}) (W.looks_clsIn X hc) ?_))))));rw[hd'];refine wpAny_pure (a:=some dx) (wpAny_bind (wpAny_pure (wpAny_bind ?_)));refine wpAny_nsSet1 (s:={s with toks:=s.toks+1}) I.ns fun h' hn2 hs2=>?_;obtain⟨oD,esD,epD,hoD,hdD,hcD⟩:=hn2.count (PySem.Within.cons name v hw);refine wpAny_bind (wpAny_lookBehind hoD (by rw[hdD];exact pastItsLine_dict (Nat.le_trans hcD (by rw[List.length_cons];omega))) ?_);exact wpAny_pure (h _ ⟨(hs2.2 _ (Ne.symm I.ne)).trans I.obj,hn2,I.ne⟩ hs2)
theorem qbj {R:Result→Shared→Prop} {vs:List Value} {kw:List (Str×Value)} (X:K.In s.heap) (hm:W.makesIn K C=true)
    (hi:W.findIn K (.ref C) "__init__" = some (some (.ref f))) (hf:W.typeIn K (.ref f)=some (.type "function"))
    (h:codeAny (model prog w) (A.under (.builtin "type.__call__" ⟨.ref C::vs,kw⟩)) (.call (.ref f) ⟨.ref (s.heap.objs.size+1)::vs,kw⟩) (W.InitBack (s.heap.objs.size+1) R)
      {s with heap:=(s.heap.push W.emptyDict).push (W.instObj C s.heap.objs.size)}) :
    codeAny (model prog w) A (.call (.ref C) ⟨vs,kw⟩) R s:=by
  obtain⟨hh,g,d,t,os⟩:=s;exact W.make_core (W.makes_of X hm) (W.looks_findIn X hi) (fun self=>W.bind_fn X self hf) (.inl rfl) h
end
def zY (f:Str) (v:V):List (Str×V)→List (Str×V)
  | []=>[(f,v)]
  | (g,x)::r=>if g=f then (g,v)::r else (g,x)::zY f v r
theorem Kv (f g:Str) (v:V):∀fs:List (Str×V),(zY f v fs).lookup g=if g=f then some v else fs.lookup g
  | []=>by
    show List.lookup g [(f,v)]=_
    by_cases h:g=f
    ·have hb:(g == f)=true:=beq_iff_eq.mpr h;simp only[List.lookup,hb,if_pos h]
    ·have hb:(g == f)=false:=beq_eq_false_iff_ne.mpr h;simp only[List.lookup,hb,if_neg h]
  | (k,x)::r=>by
    have ih:=Kv f g v r;rw[show zY f v ((k,x)::r)=(if k=f then (k,v)::r else (k,x)::zY f v r) from rfl]
    by_cases hk:k=f
    · rw[if_pos hk]
      by_cases h:g=k
      ·have hb:(g == k)=true:=beq_iff_eq.mpr h;simp only[List.lookup,hb,if_pos (h.trans hk)]
      ·have hb:(g == k)=false:=beq_eq_false_iff_ne.mpr h;simp only[List.lookup,hb,if_neg (fun e:g=f=>h (e.trans hk.symm))]
    · rw[if_neg hk]
      by_cases h:g=k
      ·have hb:(g == k)=true:=beq_iff_eq.mpr h;simp only[List.lookup,hb,if_neg (fun e:g=f=>hk (h.symm.trans e))]
      ·have hb:(g == k)=false:=beq_eq_false_iff_ne.mpr h;simp only[List.lookup,hb];exact ih
theorem Jy (f:Str) (v:V):∀fs:List (Str×V),f∈(zY f v fs).map (·.1)∧∀g,g∈fs.map (·.1)→g∈(zY f v fs).map (·.1)
  | []=>⟨by simp[zY],fun g h=>by simp at h⟩
  | (k,x)::r=>by
    obtain⟨i1,i2⟩:=Jy f v r;rw[show zY f v ((k,x)::r)=(if k=f then (k,v)::r else (k,x)::zY f v r) from rfl]
    by_cases hk:k=f
    ·rw[if_pos hk];subst hk;exact⟨by simp,fun g h=>by simpa using h⟩
    · rw[if_neg hk];refine⟨?_,fun g h=>?_⟩
      ·rw[List.map_cons];exact List.mem_cons_of_mem _ i1
      · rw[List.map_cons] at h ⊢
        rcases List.mem_cons.mp h with e | e
        ·exact List.mem_cons.mpr (.inl e)
        ·exact List.mem_cons_of_mem _ (i2 g e)
theorem Kw (f:Str) (v:V):∀fs:List (Str×V),(zY f v fs).length≤fs.length+1
  | []=>by simp[zY]
  | (k,x)::r=>by
    have ih:=Kw f v r;rw[show zY f v ((k,x)::r)=(if k=f then (k,v)::r else (k,x)::zY f v r) from rfl]
    by_cases hk:k=f
    ·rw[if_pos hk,List.length_cons,List.length_cons];omega
    ·rw[if_neg hk,List.length_cons,List.length_cons];omega
theorem Dq.some_of {v:V} {o:Option Value} (r:Dq (some v) o):∃u,o=some u∧RelV v u:=by
  cases o with
  | none=>exact(show False from r).elim
  | some u=>exact⟨u,rfl,r⟩
theorem Dq.none_of {o:Option Value} (r:Dq none o):o=none:=by
  cases o with
  | none=>rfl
  | some u=>exact(show False from r).elim
theorem Z7 {v:V} {u:Value} (r:RelV v u):W.handedIn u=true:=by
  cases v with
  | non=>cases (show u=Value.none from r);rfl
  | bl b=>cases (show u=Value.bool b from r);rfl
  | int i=>obtain⟨t,e⟩:=(show ∃t,u=Value.int i t from r);cases e;rfl
  | str x=>obtain⟨t,e⟩:=(show ∃t,u=Value.str x t from r);cases e;rfl
  | byt b=>obtain⟨t,e⟩:=(show ∃t,u=Value.bytes b t from r);cases e;rfl
  | flt b=>obtain⟨t,e⟩:=(show ∃t,u=Value.float b t from r);cases e;rfl
  | ref a=>cases (show u=Value.ref a from r);rfl
  | ty n=>cases (show u=Value.type n from r);rfl
section
variable {P:Program} {w:World} {H H':Hp} {h h':Heap} {a C dx:Addr} {fs fs':List (Str×V)}
theorem Hu (hok:Du P w H h) (e:H a=some (.ins C dx fs)):∃mA,WD h a dx C mA∧(∀f,Dq (fs.lookup f) (mA f))∧PySem.Within mA (fs.map (·.1))∧fs.length≤1000∧H dx=some (.own a):=by
  obtain⟨d,z,ne,ob,mA,n,r,q⟩:=(show d8 P w H h a (.ins C dx fs) from hok a _ e);exact⟨mA,⟨ob,n,ne⟩,r,q,z,d⟩
end
structure Cls (K:W.Frag) (C:Addr):Prop where
  pg:W.plainGet K C Str.empty=true
  hd:W.hasDictIn K C=true
  po:W.plainOver K C=true
  sa:W.findIn K (.ref C) "__setattr__" = some (some (.builtin "object.__setattr__"))
theorem Cls.get {K:W.Frag} {C:Addr} (c:Cls K C) (f:Str):W.plainGet K C f=true:=c.pg
def uQ (K:W.Frag) (C:Addr) (f:Str):Prop:=W.findIn K (.ref C) f=some none
theorem uQ.taker {K:W.Frag} {C:Addr} {f:Str} (n:uQ K C f):W.takerIn K C f=some none:=by
  unfold W.takerIn;rw[show W.findIn K (.ref C) f=some none from n];rfl
structure Meth (K:W.Frag) (C:Addr) (m:Str) (f:Addr):Prop where
  at_:W.findIn K (.ref C) m=some (some (.ref f))
  fn:W.isFn K (.ref f)=true
  kp:W.keepIn K (.ref f)=true
section
variable {X:Cx} {p_:List (Addr×Obj)} {σ:St} {H:Hp} {s:Shared} {a C dx:Addr} {fs:List (Str×V)} {f:Str} {v:V} {A:Around} {E:Value→Shared→Prop}
theorem WK {b:Bool} {Q:Value→Shared→Prop} (I:Inv X p_ σ H s) (e:H a=some (.ins C dx fs)) (c:Cls X.K C) (n:uQ X.K C f) (l:fs.lookup f=some v)
    (h:∀u s',Inv X p_ σ H s'→RelV v u→Q u s'):wpAny (model X.prog X.w) A (getAttr (.ref a) f b) Q E s:=by
  obtain⟨mA,O,r,_,_,_⟩:=Hu I.hok e;obtain⟨u,hu,ru⟩:=Dq.some_of (v:=v) (o:=mA f) (by rw[← l];exact r f);exact get_map I.FJ O (c.get f) c.hd n hu (Z7 ru) (h u _ (I.tok _) ru)
theorem WL {m:Str} {g:Addr} {pl:Sem Bool} {Q:Value×List Value→Shared→Prop} (I:Inv X p_ σ H s) (e:H a=some (.ins C dx fs)) (c:Cls X.K C) (k:Meth X.K C m g) (l:fs.lookup m=none)
    (h:Q (.ref g,[.ref a]) s):wpAny (model X.prog X.w) A (getMethod (.ref a) m pl) Q E s:=by
  obtain⟨mA,O,r,_,_,_⟩:=Hu I.hok e;have hn:mA m=none:=Dq.none_of (by rw[← l];exact r m);exact qbi I.FJ O (c.get m) k.at_ k.fn hn h
theorem WM {y:V} {u:Value} {Q:Unit→Shared→Prop} (I:Inv X p_ σ H s) (e:H a=some (.ins C dx fs)) (c:Cls X.K C) (n:uQ X.K C f) (hl:fs.length<1000) (ry:RelV y u)
    (h:∀s',Inv X p_ σ (upd H a (.ins C dx (zY f y fs))) s'→Q () s'):wpAny (model X.prog X.w) A (setAttr (.ref a) f u) Q E s:=by
  obtain⟨mA,O,r,wi,_,ho⟩:=Hu I.hok e;have hz:(fs.map (·.1)).length≤sizeLine:=by rw[List.length_map,sizeLine_eq];omega
  refine qdy I.FJ O c.sa c.po n.taker c.hd wi hz fun h' O' sb=>h _ ?_;have hd:∃o,h'.get? dx=some o:=let ⟨o,_,_,e',_⟩:=O'.ns;⟨o,e'⟩;refine I.write (x:=a) (e:=dx) (by rw[e];exact True.intro) (.inr ho) (fun b q hb z=>(sb.2 b hb).trans z) hd ?_;refine⟨by rw[aV O.ne];exact ho,?_,O.ne,O'.obj,_,O'.ns,fun g=>?_,fun g hg=>?_⟩
  ·have:=Kw f y fs;omega
  · show Dq ((zY f y fs).lookup g) (if g=f then some u else mA g)
    rw[Kv]
    by_cases q:g=f
    ·rw[if_pos q,if_pos q];exact ry
    ·rw[if_neg q,if_neg q];exact r g
  · by_cases q:g=f
    ·rw[q];exact(Jy f y fs).1
    · refine(Jy f y fs).2 g (wi g fun z=>hg ?_);show(if g=f then some u else mA g)=none
      rw[if_neg q];exact z
theorem Inv.made (I:Inv X p_ σ H s):Inv X p_ σ (upd (upd H s.heap.objs.size (.own (s.heap.objs.size+1))) (s.heap.objs.size+1) (.ins C s.heap.objs.size []))
    {s with heap:=(s.heap.push W.emptyDict).push (W.instObj C s.heap.objs.size)}:=by
  have e1:(s.heap.push W.emptyDict).get? s.heap.objs.size=some W.emptyDict:=Heap.get?_push_size s.heap rfl;have e2:((s.heap.push W.emptyDict).push (W.instObj C s.heap.objs.size)).get? (s.heap.objs.size+1)=some (W.instObj C s.heap.objs.size):=by
    have:=Heap.get?_push_size (s.heap.push W.emptyDict) (o:=W.instObj C s.heap.objs.size) rfl
    rwa [Heap.size_push] at this
  have e3:(s.heap.push W.emptyDict).Ns s.heap.objs.size (fun _=>none):=⟨W.emptyDict,#[],_,e1,rfl,(fun e he=>absurd he (by simp)),fun _=>rfl⟩;have I1:=I.laid (a:=s.heap.objs.size) (o:=.own (s.heap.objs.size+1)) (h':=s.heap.push W.emptyDict) (t':=s.toks) (fun b u q=>Heap.get?_push_of_some _ q) (Nat.le_refl _) ⟨_,e1⟩;refine I1.laid (a:=s.heap.objs.size+1) (o:=.ins C s.heap.objs.size []) (t':=s.toks) (fun b u q=>Heap.get?_push_of_some _ q) (Nat.le_of_eq (Heap.size_push _ _)) ?_;have ne:s.heap.objs.size≠s.heap.objs.size+1:=Nat.ne_of_lt (Nat.lt_succ_self _);refine⟨by rw[aV ne,aA],Nat.zero_le _,ne,e2,fun _=>none,(Heap.Ns1.of_empty e3).at fun o q=>Heap.get?_push_of_some _ q,fun _=>True.intro,fun y hy=>absurd rfl hy⟩
theorem qdz {prog:Program} {w:World} {env:Env} {e:Expr} {f:Str} {pos:Pos} {s:Shared} {Q:Value→Shared→Prop} (hb:attributeBase e f env (eval e env)=eval e env)
    (h:wpAny (model prog w) A (eval e env) (fun o s₁=>wpAny (model prog w) A (getAttr o f true) Q E s₁) E s):wpAny (model prog w) A (eval (.Attribute e f pos) env) Q E s:=
  Attribute_any_ h (by rw[arm_eval_Attribute,hb])
end
def qdA (K:W.Frag) (ta:TE) (f:Str):TE:=fun σ H Q=>ta σ H fun x H1=>∃a C dx fs v,x = .ref a∧H1 a=some (.ins C dx fs)∧Cls K C∧uQ K C f∧fs.lookup f=some v∧Q v H1
def qfU (K:W.Frag) (ta tv:TE) (f:Str):TS:=fun D σ H=>tv σ H fun y H1=>ta σ H1 fun x H2=>∃a C dx fs,x = .ref a∧H2 a=some (.ins C dx fs)∧Cls K C∧uQ K C f∧fs.length<1000∧
  D.nx σ (upd H2 a (.ins C dx (zY f y fs)))
section
variable {X:Cx} {o e value:Expr} {f:Str} {pos pos' tpos:Pos} {ta tv:TE}
theorem qfV (he:PE X e ta) (hb:attributeBase e f X.env (eval e X.env)=eval e X.env):PE X (.Attribute e f pos) (qdA X.K ta f):=by
  intro p_ s σ H Q I h;refine qdz hb (d9 (he p_ s σ H _ I h) fun u s1 zz=>?_);obtain⟨x,H1,I1,rx,a,C,dx,fs,v,ex,ea,c,n,l,q⟩:=zz;subst ex;obtain rfl:u=Value.ref a:=rx;exact WK I1 ea c n l fun u' s2 I2 ru=>⟨v,H1,I2,ru,q⟩
theorem qfW (ha:PE X o ta) (hv:PE X value tv) (hs:swapsWith value (some (.Attribute o f pos')) pos.line X.env=pure false):PS X (.Assign [.Attribute o f pos'] value pos) (qfU X.K ta tv f):=by
  intro p_ s σ H D I h;refine plainObj_wpAny_Assign_Attribute (d9 (hv p_ s σ H _ I h) fun u s1 ⟨y,H1,I1,ry,q⟩=>d9 (ha p_ s1 σ H1 _ I1 q) fun ov s2 ⟨x,H2,I2,rx,a,C,dx,fs,ex,ea,c,n,l,q2⟩=>?_) hs;subst ex;obtain rfl:ov=Value.ref a:=rx;exact WM I2 ea c n l ry fun s3 I3=>⟨σ,_,I3,q2⟩
end
section
variable {X:Cx} {p_:List (Addr×Obj)} {σ:St} {H:Hp} {s:Shared} {A:Around} {E:Value→Shared→Prop} {Q:Value→Shared→Prop} {c:Value} {b:Bool}
inductive uR (K:W.Frag) (H:Hp):V→Value→Prop where
  | non:uR K H .non (.type "NoneType")
  | bl (x:Bool):uR K H (.bl x) (.type "bool")
  | int (i:Int):uR K H (.int i) (.type "int")
  | str (x:Str):uR K H (.str x) (.type "str")
  | flt (x:UInt64):uR K H (.flt x) (.type "float")
  | lst {a:Addr} {xs:List V} (e:H a=some (.lst xs)):uR K H (.ref a) (.type "list")
  | Ut {a:Addr} {o:Obj} {xs:List V} (e:H a=some (.Ut o (.lst xs))):uR K H (.ref a) (.type "list")
  | tup {a:Addr} {xs:List V} (e:H a=some (.tup xs)):uR K H (.ref a) (.type "tuple")
  | dK {a:Addr} {kvs:List (Key×V)} (e:H a=some (.dK kvs)):uR K H (.ref a) (.type "dict")
  | dT {a:Addr} {kvs:List (List Key×V)} (e:H a=some (.dT kvs)):uR K H (.ref a) (.type "dict")
  | ins {a C dx:Addr} {fs:List (Str×V)} (e:H a=some (.ins C dx fs)) (cl:Cls K C) (ha:W.findIn K (.ref C) "__class__" = some (some (.builtin "object.__class__")))
      (hn:W.specialIn K (.builtin "object.__class__") "__get__" = some (some (.builtin "getset_descriptor.__get__"))) (htk:W.takesIn K (.builtin "object.__class__")=some true)
      (hm:W.mroIn K C (.type "object")=some true):uR K H (.ref a) (.ref C)
theorem Z8 {x:V} {u t:Value} (I:Inv X p_ σ H s) (rx:RelV x u) (ty:uR X.K H x t) (e:W.kitOne X.K t c=some b) (h:∀tk,Q (.bool b) {s with toks:=tk}) :
    wpAny (model X.prog X.w) A (call (.builtin "isinstance") [u,c]) Q E s:=by
  cases ty with
  | non=>cases (show u=Value.none from rx);exact W.kia_one W.kitx_none I.FJ True.intro e (fun z=>nomatch z) h
  | bl y=>cases (show u=Value.bool y from rx);exact W.kia_one W.kitx_bool I.FJ True.intro e (fun z=>nomatch z) h
  | int i=>obtain⟨t,q⟩:=(show ∃t,u=Value.int i t from rx);cases q;exact W.kia_one W.kitx_int I.FJ True.intro e (fun z=>nomatch z) h
  | str y=>obtain⟨t,q⟩:=(show ∃t,u=Value.str y t from rx);cases q;exact W.kia_one W.kitx_str I.FJ True.intro e (fun z=>nomatch z) h
  | flt y=>obtain⟨t,q⟩:=(show ∃t,u=Value.float y t from rx);cases q;exact W.kia_one W.kitx_float I.FJ True.intro e (fun z=>nomatch z) h
  | @lst a xs ea=>
    cases (show u=Value.ref a from rx);obtain⟨_,_,n,_,h1⟩:=(show d8 X.prog X.w H s.heap a (.lst xs) from I.hok a _ ea);exact W.kia_one W.kitx_list I.FJ ⟨_,h1,rfl⟩ e (fun z=>nomatch z) h
  | @Ut a ob xs ea=>
    cases (show u=Value.ref a from rx);obtain⟨_,_,_,n,_,h1⟩:=(show d8 X.prog X.w H s.heap a (.Ut ob (.lst xs)) from I.hok a _ ea);exact W.kia_one W.kitx_list I.FJ ⟨_,h1,rfl⟩ e (fun z=>nomatch z) h
  | @tup a xs ea=>
    cases (show u=Value.ref a from rx);obtain⟨_,_,_,p⟩:=(show d8 X.prog X.w H s.heap a (.tup xs) from I.hok a _ ea);obtain⟨o,h1,h2,_⟩:=p;exact W.kia_one W.kitx_tuple I.FJ ⟨o,h1,h2⟩ e (fun z=>nomatch z) h
  | @dK a kvs ea=>
    cases (show u=Value.ref a from rx);obtain⟨_,_,vs,_,p⟩:=(show d8 X.prog X.w H s.heap a (.dK kvs) from I.hok a _ ea);obtain⟨o,es,ep,h1,h2,_⟩:=p;exact W.kia_one W.kitx_dict I.FJ ⟨o,h1,h2.1⟩ e (fun z=>nomatch z) h
  | @dT a kvs ea=>
    cases (show u=Value.ref a from rx);obtain⟨_,_,xs,_,o,es,ep,h1,h2,_⟩:=(show d8 X.prog X.w H s.heap a (.dT kvs) from I.hok a _ ea);exact W.kia_one W.kitx_dict I.FJ ⟨o,h1,h2.1⟩ e (fun z=>nomatch z) h
  | @ins a C dx fs ea cl ha hn htk hm=>
    cases (show u=Value.ref a from rx);obtain⟨mA,O,_⟩:=Hu I.hok ea;obtain⟨od,J,_⟩:=O.look;exact W.kia_one (W.kitx_own (cl.get _) cl.hd ha hn htk hm) I.FJ J e (fun z=>nomatch z) h
end
structure nH (k:Nat) (A:Around):Prop where
  hd:A.handled=none
  dp:A.depth+3 * k+5<recursionLimit
  un:A.units+16 * k+200<cLine
  gd:A.guards=some []
theorem nH.mono {j k:Nat} {A:Around} (r:nH k A) (h:j≤k):nH j A:=⟨r.hd,by have:=r.dp;omega,by have:=r.un;omega,r.gd⟩
theorem nH.deeper {k:Nat} {A:Around} (r:nH (k+1) A) (env:Env):nH k (A.deeper env):=
  ⟨r.hd,by have:=r.dp;show A.depth+1+3 * k+5<_;omega,by have:=r.un;show A.units+3+16 * k+200<_;omega,r.gd⟩
theorem WQ {A:Around} {C:Addr} {us:List Value} {kw:List (Str×Value)}:(A.under (.builtin "type.__call__" ⟨.ref C::us,kw⟩)).depth=A.depth+1:=by
  first | rfl | simp[Around.under,Code.weight,Code.isCreation,Code.isGuard,Code.isCaller,Code.frames,Code.isFrame,guardIds]
theorem WR {A:Around} {C:Addr} {us:List Value} {kw:List (Str×Value)}:(A.under (.builtin "type.__call__" ⟨.ref C::us,kw⟩)).units=A.units+1:=by
  first | rfl | simp[Around.under,Code.cUnits,Code.frames,Code.isFrame]
theorem UJ {A:Around} {C:Addr} {us:List Value} {kw:List (Str×Value)}:(A.under (.builtin "type.__call__" ⟨.ref C::us,kw⟩)).guards=A.guards:=by
  first | rfl | simp[Around.under,Code.isGuard,guardIds]
theorem nH.make {k:Nat} {A:Around} (r:nH (k+1) A) (C:Addr) (us:List Value) (kw:List (Str×Value)):nH k (A.under (.builtin "type.__call__" ⟨.ref C::us,kw⟩)):=
  ⟨r.hd,by have:=r.dp;rw[WQ];omega,by have:=r.un;rw[WR];omega,by rw[UJ];exact r.gd⟩
theorem nH.depth {k:Nat} {A:Around} (r:nH k A):A.depth<recursionLimit:=by have:=r.dp;omega
theorem nH.units {k:Nat} {A:Around} (r:nH k A):A.units+64<cLine:=by have:=r.un;omega
def vO:TA:=fun _ H Q=>Q [] H
def bY (ta:TE) (tr:TA):TA:=fun σ H Q=>ta σ H fun x H1=>tr σ H1 fun xs H2=>Q (x::xs) H2
section
variable {X:Cx} {e:Expr} {es:List Expr} {te:TE} {t:TA} {pos:Pos}
theorem ak:PA X [] vO:=fun _ _ _ _ H Q I h=>Calls.spliced_nil ⟨[],H,I,.nil,h⟩
theorem aj (ha:PE X e te) (hr:PA X es t) (hs:starEach (e::es) X.env=(false,eval e X.env)::starEach es X.env:=by rfl):PA X (e::es) (bY te t):=by
  intro pos p_ s σ H Q I h;rw[hs];show wpAny _ _ (spliced ((false,eval e X.env)::backTo pos (starEach es X.env))) _ _ s;refine Calls.spliced_cons (d9 (ha p_ s σ H _ I h) fun u s1 zz=>?_);obtain⟨x,H1,I1,r1,q1⟩:=zz;refine d9 (hr pos p_ s1 σ H1 _ I1 q1) fun us s2 zz=>?_;obtain⟨xs,H2,I2,r2,q2⟩:=zz;exact⟨x::xs,H2,I2,.cons r1 r2,q2⟩
def WT (t:TA):TE:=fun σ H Q=>t σ H fun xs H1=>xs.length≤sizeLine∧∀p,H1 p=none→Q (.ref p) (upd H1 p (.tup xs))
def Z9 (t:TA):TE:=fun σ H Q=>t σ H fun xs H1=>xs.length≤sizeLine∧∀p,H1 p=none→Q (.ref p) (upd H1 p (.lst xs))
theorem dh {x1} (h:PA X es t):PE X (.Tuple es x1 pos) (WT t):=by
  intro p_ s σ H Q I hq;refine wpAny_Tuple_spliced (d9 (h pos p_ s σ H _ I hq) fun us s1 zz=>?_);obtain⟨xs,H1,I1,r,z,q⟩:=zz;refine⟨by rw[← r.length];exact z,?_⟩;have hf:H1 s1.heap.objs.size=none:=I1.hok.fresh (Nat.le_refl _);refine⟨.ref s1.heap.objs.size,upd H1 s1.heap.objs.size (.tup xs),I1.laid (t':=s1.toks) (fun b u e=>Heap.get?_push_of_some _ e) (Nat.le_refl _) ?_,rfl,q _ hf⟩;exact⟨z,us,r,⟨_,Heap.get?_push_size _ rfl,rfl,_,rfl⟩⟩
theorem bB (h:PA X es t):PE X (.List es pos) (Z9 t):=by
  intro p_ s σ H Q I hq;refine wpAny_List_spliced (d9 (h pos p_ s σ H _ I hq) fun us s1 zz=>?_);obtain⟨xs,H1,I1,r,z,q⟩:=zz;refine⟨by rw[← r.length];exact z,?_⟩;have hf:H1 s1.heap.objs.size=none:=I1.hok.fresh (Nat.le_refl _);refine⟨.ref s1.heap.objs.size,upd H1 s1.heap.objs.size (.lst xs),I1.laid (t':=s1.toks) (fun b u e=>Heap.get?_push_of_some _ e) (Nat.le_refl _) ?_,rfl,q _ hf⟩;exact⟨z,us,0,r,Heap.get?_push_size _ rfl⟩
end
abbrev Sp:=List V→Hp→VK→XK→Prop
abbrev Z_:=List Env→Hp→Shared→XK→Value→Shared→Prop
structure UL (P:Program) (w:World) (K:W.Frag) (mg:Str→Option Value) (base:Heap) (A:Around) (outer:List Env) (s:Shared) (H:Hp):Prop where
  frames:A.frames=some outer
  mod:Mod K mg base
  bs:∀b o,base.get? b=some o→s.heap.get? b=some o∧H b=none
  ZP:base.objs.size≤s.heap.objs.size
  Dv:s.heap.FunFrames base outer
  frf:∀b∈frs outer,H b=none
  hok:Du P w H s.heap
  bare:AllBare s.gens
def CE (outer:List Env) (P:Program) (w:World) (H:Hp) (s:Shared) (Q:VK) (u:Value) (s':Shared):Prop:=
  ∃v H',s'.os=s.os∧AllBare s'.gens∧Un (frs outer) [] H H' s.heap s'.heap∧Du P w H' s'.heap∧RelV v u∧Q v H'
def CR (CX:Z_) (outer:List Env) (P:Program) (w:World) (H:Hp) (s:Shared) (Q:VK) (E:XK) (r:Result) (s':Shared):Prop:=
  match r with
  | .ok (.ret u)=>CE outer P w H s Q u s'
  | .ok _=>False
  | .error e=>CX outer H s E e s'
structure cT (P:Program) (w:World) (K:W.Frag) (mg:Str→Option Value) (base:Heap) (CX:Z_) (k:Nat) (f:Addr) (fd:FuncData) (ps:List Str) (sp:Sp):Prop where
  len:∀vs H Q E,sp vs H Q E→vs.length=ps.length
  run:∀(A:Around) (outer:List Env) (s:Shared) (H:Hp) (args:Args) (us:List Value) (vs:List V) (Q:VK) (E:XK),nH k A→UL P w K mg base A outer s H→BindsTo s fd args (ps.zip us)→Vals vs us→sp vs H Q E→
    codeAny (model P w) A (.call (.ref f) args) (CR CX outer P w H s Q E) s
theorem cT.imp {P:Program} {w:World} {K:W.Frag} {mg:Str→Option Value} {base:Heap} {CX:Z_} {k:Nat} {f:Addr} {fd:FuncData} {ps:List Str} {sp sp':Sp} (F:cT P w K mg base CX k f fd ps sp)
    (h:∀vs H Q E,sp' vs H Q E→sp vs H Q E):cT P w K mg base CX k f fd ps sp':=
  ⟨fun vs H Q E q=>F.len vs H Q E (h _ _ _ _ q),fun A outer s H args us vs Q E hr he hb hv hs=>F.run A outer s H args us vs Q E hr he hb hv (h _ _ _ _ hs)⟩
theorem UL.make {P:Program} {w:World} {K:W.Frag} {mg:Str→Option Value} {base:Heap} {A:Around} {outer:List Env} {s:Shared} {H:Hp} (e:UL P w K mg base A outer s H) (C:Addr) (us:List Value) (kw:List (Str×Value)) :
    UL P w K mg base (A.under (.builtin "type.__call__" ⟨.ref C::us,kw⟩)) outer s H:=⟨by first | exact e.frames | (simpa [Around.under,Code.envs,Code.isFrame,pushEnvs] using e.frames),e.mod,e.bs,e.ZP,e.Dv,e.frf,e.hok,e.bare⟩
section
variable {X:Cx} {p_:List (Addr×Obj)} {σ:St} {H:Hp} {s s':Shared}
theorem Inv.env0 (I:Inv X p_ σ H s):UL X.prog X.w X.K X.mg X.base X.A X.stack s H:=
  ⟨I.ok.frames,I.ok.mod,I.bs,Nat.le_trans I.ok.ZP I.sz,I.stack,I.Le,I.hok,I.bare⟩
theorem Inv.after {Q:VK} {u:Value} (I:Inv X p_ σ H s) (h:CE X.stack X.prog X.w H s Q u s'):EP X p_ σ Q u s':=by
  obtain⟨v,H',os,bare,un,hok,r,q⟩:=h;obtain⟨hh,g,d,t,os'⟩:=s';obtain rfl:os'=s.os:=os;exact⟨v,H',I.call (h':=hh) (g':=g) (d':=d) (t':=t) (ch:=[]) un hok bare (fun b z=>absurd z (by simp)),r,q⟩
end
def qbk (sp:Sp) (Jv:List V) (E:XK) (t:TA):TE:=fun σ H Q=>t σ H fun vs H1=>sp (vs++Jv) H1 Q E
def qbl (C:Addr) (m:Str) (sp:Sp) (Jv:List V) (E:XK) (ta:TE) (t:TA):TE:=fun σ H Q=>ta σ H fun x H1=>∃a dx fs,x = .ref a∧H1 a=some (.ins C dx fs)∧fs.lookup m=none∧
  t σ H1 fun vs H2=>sp (x::(vs++Jv)) H2 Q E
def qbm (C:Addr) (sp:Sp) (Jv:List V) (E:XK) (t:TA):TE:=fun σ H Q=>t σ H fun vs H1=>∀x dx,H1 x=none→H1 dx=none→dx≠x→
  sp (.ref x::(vs++Jv)) (upd (upd H1 dx (.own x)) x (.ins C dx [])) (fun v H2=>v = .non∧Q (.ref x) H2) E
def Binds (K:W.Frag) (fd:FuncData) (ps:List Str) (ds:List Value):Prop:=
  ∀(s:Shared) (us:List Value),K.In s.heap→(us++ds).length=ps.length→BindsTo s fd ⟨us,[]⟩ (ps.zip (us++ds))
theorem Binds.all {K:W.Frag} {fd:FuncData} {ps:List Str} (h:∀us:List Value,us.length=ps.length→bindArgs fd ⟨us,[]⟩=pure (ps.zip us)):Binds K fd ps []:=fun s us _ hl=>by
  rw[List.append_nil] at hl ⊢;exact .of_eq (h us hl)
def Passes (CX:Z_) (X:Cx) (E:XK):Prop:=∀(p_:List (Addr×Obj)) (σ:St) (H:Hp) (s:Shared) (e:Value) (s':Shared),Inv X p_ σ H s→CX X.stack H s E e s'→X.xe e s'
section
variable {X:Cx} {CX:Z_} {k:Nat} {f C:Addr} {fd:FuncData} {ps:List Str} {sp:Sp} {Jv:List V} {ds:List Value} {E:XK} {x m:Str} {p pos apos:Pos} {e o:Expr} {es:List Expr} {ta:TE} {t:TA}
theorem qbn {p_:List (Addr×Obj)} {σ:St} {H:Hp} {s:Shared} {Q:VK} {us:List Value} {vs:List V} (F:cT X.prog X.w X.K X.mg X.base CX k f fd ps sp) (hr:nH k X.A) (hb:Binds X.K fd ps ds) (hd:Vals Jv ds) (hx:Passes CX X E)
    (I:Inv X p_ σ H s) (r:Vals vs us) (h:sp (vs++Jv) H Q E):wpAny (model X.prog X.w) X.A (call (.ref f) us) (EP X p_ σ Q) X.xe s:=by
  have r2:Vals (vs++Jv) (us++ds):=r.append hd;have hl:(us++ds).length=ps.length:=by rw[← r2.length];exact F.len _ _ _ _ h
  refine wpAny_call (codeAny_mono (F.run X.A X.stack s H ⟨us,[]⟩ (us++ds) (vs++Jv) Q E hr I.env0 (hb s us I.FJ hl) r2 h) fun r s' hq=>?_);cases r with
  | error e=>exact hx p_ σ H s e s' I hq
  | ok fl=>
    cases fl with
    | ret u=>exact I.after hq
    | next=>exact False.elim hq
    | brk=>exact False.elim hq
    | cont=>exact False.elim hq
theorem aO (F:cT X.prog X.w X.K X.mg X.base CX k f fd ps sp) (hr:nH k X.A) (hg:Gl X x) (hm:X.mg x=some (.ref f)) (hk:W.keepIn X.K (.ref f)=true) (hb:Binds X.K fd ps ds) (hd:Vals Jv ds) (hx:Passes CX X E)
    (ha:PA X (e::es) t) (hdb:(x == ("__debug__" : Str))=false:=by decide) (he:starEach (e::es) X.env=(false,eval e X.env)::starEach es X.env:=by rfl) (hpl:(backTo pos (starEach es X.env)).any (·.1)=false:=by rfl) :
    PE X (.Call (.Name x p) (e::es) [] pos) (qbk sp Jv E t):=by
  intro p_ s σ H Q I h;refine wpAny_Call_Name_kw (Bj I hg hm ?_ hdb);refine W.callWith_K (h₀:=X.base) I.ok.mod.kin hk (d9 (ha pos p_ s σ H _ I h) fun us s1 zz=>?_) he hpl;obtain⟨vs,H1,I1,r,q⟩:=zz;refine⟨I1.FJ,?_⟩;exact qbn F hr hb hd hx I1 r q
theorem jW {pl:Sem Bool} (he:PE X o ta) (c:Cls X.K C) (hm:Meth X.K C m f) (F:cT X.prog X.w X.K X.mg X.base CX k f fd ps sp) (hr:nH k X.A) (hb:Binds X.K fd ps ds) (hd:Vals Jv ds) (hx:Passes CX X E)
    (ht:eval (.Call (.Attribute o m apos) [] [] pos) X.env=(do
      let ov ← eval o X.env
      standAt apos.atName
      let (f,first) ← holding [ov] (getMethod ov m pl)
      callWith pos f first (backTo pos (starEach [] X.env)) (backToKw pos (keywordEach [] X.env))):=by rfl) :
    PE X (.Call (.Attribute o m apos) [] [] pos) (qbl C m sp Jv E ta vO):=by
  intro p_ s σ H Q I h;refine W.methodCall_KW (pl:=pl) (d9 (he p_ s σ H _ I h) fun u s1 zz=>?_) ht;obtain⟨x,H1,I1,rx,a,dx,fs,ex,ea,l,q⟩:=zz;subst ex;obtain rfl:u=Value.ref a:=rx;refine WL I1 ea c hm l ?_;exact W.callWith_K0 (first:=[.ref a]) I1.FJ hm.kp (qbn (us:=[.ref a]) (vs:=[.ref a]) F hr hb hd hx I1 (.cons rfl .nil) q)
structure Mk (K:W.Frag) (C f:Addr):Prop where
  makes:W.makesIn K C=true
  init:W.findIn K (.ref C) "__init__" = some (some (.ref f))
  fn:W.isFn K (.ref f)=true
  kp:W.keepIn K (.ref C)=true
theorem qbo {p_:List (Addr×Obj)} {σ:St} {H:Hp} {s:Shared} {Q:VK} {us:List Value} {vs:List V} (M:Mk X.K C f) (F:cT X.prog X.w X.K X.mg X.base CX k f fd ps sp) (hr:nH (k+1) X.A) (hb:Binds X.K fd ps ds) (hd:Vals Jv ds)
    (hx:Passes CX X E) (I:Inv X p_ σ H s) (r:Vals vs us)
    (h:∀x dx,H x=none→H dx=none→dx≠x→sp (.ref x::(vs++Jv)) (upd (upd H dx (.own x)) x (.ins C dx [])) (fun v H2=>v = .non∧Q (.ref x) H2) E) :
    wpAny (model X.prog X.w) X.A (call (.ref C) us) (EP X p_ σ Q) X.xe s:=by
  have hq:=h (s.heap.objs.size+1) s.heap.objs.size (I.hok.fresh (Nat.le_succ _)) (I.hok.fresh (Nat.le_refl _)) (Nat.ne_of_lt (Nat.lt_succ_self _));have I2:=Inv.made (C:=C) I;have r2:Vals (V.ref (s.heap.objs.size+1)::(vs++Jv)) (Value.ref (s.heap.objs.size+1)::(us++ds)):=.cons rfl (r.append hd);have hl:(Value.ref (s.heap.objs.size+1)::us++ds).length=ps.length:=by
    have e:=r2.length;rw[F.len _ _ _ _ hq] at e;exact e.symm
  refine wpAny_call (qbj (f:=f) I.FJ M.makes M.init (beq_iff_eq.mp M.fn) (codeAny_mono (F.run _ X.stack _ _ ⟨Value.ref (s.heap.objs.size+1)::us,[]⟩ (Value.ref (s.heap.objs.size+1)::(us++ds)) _ _ E (hr.make C us [])
    (I2.env0.make C us []) (hb _ (Value.ref (s.heap.objs.size+1)::us) I2.FJ hl) r2 hq) fun r s' hq'=>?_))
  cases r with
  | error e=>exact hx p_ σ _ _ e s' I2 hq'
  | ok fl=>
    cases fl with
    | ret u=>
      obtain⟨v,H',I3,rv,ev,q3⟩:=I2.after hq';subst ev;exact⟨rv,⟨V.ref (s.heap.objs.size+1),H',I3,rfl,q3⟩⟩
    | next=>exact False.elim hq'
    | brk=>exact False.elim hq'
    | cont=>exact False.elim hq'
theorem qdB (M:Mk X.K C f) (F:cT X.prog X.w X.K X.mg X.base CX k f fd ps sp) (hr:nH (k+1) X.A) (hg:Gl X x) (hm:X.mg x=some (.ref C)) (hb:Binds X.K fd ps ds) (hd:Vals Jv ds) (hx:Passes CX X E)
    (ha:PA X (e::es) t) (hdb:(x == ("__debug__" : Str))=false:=by decide) (he:starEach (e::es) X.env=(false,eval e X.env)::starEach es X.env:=by rfl) (hpl:(backTo pos (starEach es X.env)).any (·.1)=false:=by rfl) :
    PE X (.Call (.Name x p) (e::es) [] pos) (qbm C sp Jv E t):=by
  intro p_ s σ H Q I h;refine wpAny_Call_Name_kw (Bj I hg hm ?_ hdb);refine W.callWith_K (h₀:=X.base) I.ok.mod.kin M.kp (d9 (ha pos p_ s σ H _ I h) fun us s1 zz=>?_) he hpl;obtain⟨vs,H1,I1,r,q⟩:=zz;refine⟨I1.FJ,?_⟩;exact qbo M F hr hb hd hx I1 r q
end
structure bF (N P:List Str) (sc:Scope):Prop where
  kind:sc.kind = .function
  co:sc.isCoroutine=false
  gen:sc.isGenerator=false
  nd:N.Nodup
  pre:N.take P.length=P
  par:∀x∈P,sc.names.lookup x=some .local∨sc.names.lookup x=some .cell
  qfX:∀y∈sc.names,y.2≠.free
theorem Qn {kindOf:Str→Option NameKind} {x:Str}:∀{binds:List (Str×Value)} {m:Str→Option Value},(∀v,(x,v)∉binds)→bindL kindOf binds m x=m x
  | [],_,_=>rfl
  | (n,v)::r,m,h=>by
    unfold bindL;rw[Qn fun w hw=>h w (List.mem_cons_of_mem _ hw)];split
    · have:x≠n:=by rintro rfl;exact h v List.mem_cons_self
      simp[this]
    ·rfl
theorem Qo {kindOf:Str→Option NameKind} {x:Str}:∀{binds:List (Str×Value)} {m:Str→Option Value},(∀v,(x,v)∉binds)→bindC kindOf binds m x=m x
  | [],_,_=>rfl
  | (n,v)::r,m,h=>by
    unfold bindC;rw[Qo fun w hw=>h w (List.mem_cons_of_mem _ hw)];split
    ·rfl
    · have:x≠n:=by rintro rfl;exact h v List.mem_cons_self
      simp[this]
theorem Qp {kindOf:Str→Option NameKind} {x:Str} {v:Value}:∀{P:List Str} {vs:List Value} {i:Nat} {m:Str→Option Value},P.Nodup→P[i]? = some x→vs[i]? = some v→kindOf x=some .local→
    bindL kindOf (P.zip vs) m x=some v
  | [],_,_,_,_,h,_,_=>by simp at h
  | _::_,[],_,_,_,_,h,_=>by simp at h
  | p::P,w::vs,0,m,nd,h1,h2,hk=>by
    simp at h1 h2;subst h1;subst h2;show bindL kindOf ((p,w)::P.zip vs) m p=_;unfold bindL;rw[Qn fun v hv=>(List.nodup_cons.mp nd).1 (List.of_mem_zip hv).1,if_pos hk];simp
  | p::P,w::vs,i+1,m,nd,h1,h2,hk=>by
    show bindL kindOf ((p,w)::P.zip vs) m x=_;unfold bindL;exact Qp (i:=i) (List.nodup_cons.mp nd).2 (by simpa using h1) (by simpa using h2) hk
theorem Qq {kindOf:Str→Option NameKind} {x:Str} {v:Value}:∀{P:List Str} {vs:List Value} {i:Nat} {m:Str→Option Value},P.Nodup→P[i]? = some x→vs[i]? = some v→kindOf x≠some .local→
    bindC kindOf (P.zip vs) m x=some v
  | [],_,_,_,_,h,_,_=>by simp at h
  | _::_,[],_,_,_,_,h,_=>by simp at h
  | p::P,w::vs,0,m,nd,h1,h2,hk=>by
    simp at h1 h2;subst h1;subst h2;show bindC kindOf ((p,w)::P.zip vs) m p=_;unfold bindC;rw[Qo fun v hv=>(List.nodup_cons.mp nd).1 (List.of_mem_zip hv).1,if_neg hk];simp
  | p::P,w::vs,i+1,m,nd,h1,h2,hk=>by
    show bindC kindOf ((p,w)::P.zip vs) m x=_;unfold bindC;exact Qq (i:=i) (List.nodup_cons.mp nd).2 (by simpa using h1) (by simpa using h2) hk
def start (N:List Str) (vs:List V):St:=vs.map some++List.replicate (N.length - vs.length) none
def aF (CX:Z_) (P:Program) (w:World) (K:W.Frag) (mg:Str→Option Value) (base:Heap) (N:List Str) (qual:Str) (scope:Scope) (f:Addr) (cd:Value) (A:Around) (outer:List Env) (s:Shared) (H:Hp) (E:XK):Cx where
  prog:=P
  w:=w
  K:=K
  mg:=mg
  base:=base
  A:=A.deeper (envOfC qual scope s.heap.objs.size f cd)
  N:=N
  s₀:=s
  H₀:=H
  env:=envOfC qual scope s.heap.objs.size f cd
  outer:=outer
  stack:=envOfC qual scope s.heap.objs.size f cd::outer
  ex:=[]
  calm:=true
  fn:=fun _=>true
  pn:=[]
  xe:=fun e s'=>wpAny (model P w) (A.deeper (envOfC qual scope s.heap.objs.size f cd)) (leaving (envOfC qual scope s.heap.objs.size f cd) e) (fun _ s''=>CX outer H s E e s'') (fun e' s''=>CX outer H s E e' s'') s'
theorem UW {sc:Scope} {n:Nat} {x:Str} (h:sc.names.lookup x=some .cell):∃c,(cellsFrom n sc.names []).lookup x=some c:=by
  have q:=W.cellsFrom_some sc.names n [] (.inl h);exact Option.isSome_iff_exists.mp q
theorem Qs {CX:Z_} {P:Program} {w:World} {K:W.Frag} {mg:Str→Option Value} {base:Heap} {N ps:List Str} {qual:Str} {scope:Scope} {f:Addr} {cd:Value} {A:Around} {outer:List Env} {s s1:Shared} {H:Hp} {E:XK} {us:List Value} {vs:List V}
    (S:bF N ps scope) (hd:A.handled=none) (e0:UL P w K mg base A outer s H) (hl:vs.length=ps.length) (r:Vals vs us)
    (x:InCallC s s.heap.objs.size (bindL (envOfC qual scope s.heap.objs.size f cd).kindOf (ps.zip us) fun _=>none) (cellsFrom (s.heap.objs.size+1) scope.names []) (bindC (envOfC qual scope s.heap.objs.size f cd).kindOf (ps.zip us) fun _=>none) s1) :
    Inv (aF CX P w K mg base N qual scope f cd A outer s H E) [] (start N vs) H s1:=by
  have hpl:ps.length≤N.length:=by have:=congrArg List.length S.pre;rw[List.length_take] at this;omega
  obtain⟨h1,tk,rfl,hk⟩:=x.done;have noA:∀b:Addr,b∉(aF CX P w K mg base N qual scope f cd A outer s H E).ex:=fun b z=>absurd (show b∈([]:List Addr) from z) (by simp);refine⟨⟨e0.mod,S.kind,rfl,rfl,Nat.le_refl _,fun y z c h1 h2=>?_,fun y hy=>?_,fun y c _ h=>?_,fun _=>hd,Around.frames_deeper e0.frames,.inr ⟨rfl,rfl⟩,fun b z=>absurd z (noA b),e0.bs,e0.ZP,fun b _ _=>noA b,fun b z=>absurd z (noA b),e0.Dv,e0.frf⟩,
    rfl,e0.bare,Un.kept hk,⟨_,x.toInCall.ns,fun i y v h1 h2 h3=>?_⟩,fun y c h=>⟨_,x.cell y c h⟩,e0.hok.fresh (Nat.le_refl _),fun y c h=>?_,fun p hp=>absurd (show p∈([]:List (Addr×Obj)) from hp) (by simp),e0.hok.kept hk,?_⟩
  ·exact name_of_addr x.apart (PySem.mem_of_lookup h1) (PySem.mem_of_lookup h2)
  · have hy:scope.names.lookup y=some .cell∨scope.names.lookup y=some .free:=hy
    rcases hy with hy | hy
    ·exact UW hy
    ·exact absurd rfl (S.qfX _ (PySem.mem_of_lookup hy))
  ·exact Nat.le_of_lt (x.above y c (PySem.mem_of_lookup h))
  · have hi:i<vs.length:=by
      unfold start at h2
      by_cases hi:i<vs.length
      ·exact hi
      ·rw[List.getElem?_append_right (by simpa using hi)] at h2;rw[List.getElem?_replicate] at h2;split at h2 <;> cases h2
    have ha:vs[i]? = some v:=by
      unfold start at h2;rw[List.getElem?_append_left (by simpa using hi),List.getElem?_map] at h2;cases e:vs[i]? with
      | none=>rw[e] at h2;cases h2
      | some a=>rw[e] at h2;cases h2;rfl
    obtain⟨u,hu,rv⟩:=r.get ha;have hp:ps[i]? = some y:=by
      rw[← S.pre,List.getElem?_take_of_lt (by omega)];exact h1
    have ndP:ps.Nodup:=by rw[← S.pre];exact S.nd.sublist (List.take_sublist _ _)
    refine⟨u,rv,?_⟩
    rcases S.par y (List.mem_of_getElem? hp) with k | k
    ·exact .inl ⟨k,Qp ndP hp hu k⟩
    ·obtain⟨c,e⟩:=UW (n:=s.heap.objs.size+1) k;refine .inr ⟨.inl k,c,e,?_⟩;have q:=x.cell y c e;rw[Qq ndP hp hu (by show scope.names.lookup y≠_;rw[k];decide)] at q;exact q
  ·exact e0.hok.fresh (Nat.le_of_lt (x.above y c (PySem.mem_of_lookup h)))
  ·unfold start;show _=N.length;rw[List.length_append,List.length_map,List.length_replicate];omega
theorem qeS {CX:Z_} {P:Program} {w:World} {K:W.Frag} {mg:Str→Option Value} {base:Heap} {k:Nat} {f:Addr} {name qual:Str} {params:Arguments} {body:List Stmt} {scope:Scope} {dV kV doc pm cdv ct oc:Value} {an od:Option Addr}
    {osl:Array (Option Value)} {N ps:List Str} {sp:Sp} (lk:K.lookup f=some ⟨oc,od,.func (W.fnOf name qual params body scope dV kV doc pm an cdv ct),osl⟩) (hcd:W.codeIn K cdv qual=true) (S:bF N ps scope)
    (len:∀vs H Q E,sp vs H Q E→vs.length=ps.length)
    (hbody:∀(A:Around) (outer:List Env) (s:Shared) (H:Hp) (vs:List V) (Q:VK) (E:XK),nH k (A.deeper (envOfC qual scope s.heap.objs.size f cdv))→sp vs H Q E→
      ∃t,Ph (aF CX P w K mg base N qual scope f cdv A outer s H E) body t∧t {nx:=fun _ H'=>Q .non H',rt:=Q} (start N vs) H) :
    cT P w K mg base CX (k+1) f (W.fnOf name qual params body scope dV kV doc pm an cdv ct) ps sp:=by
  refine⟨len,fun A outer s H args us vs Q E hr e0 hb r hsp=>?_⟩;have hl:=len _ _ _ _ hsp;have KX:K.In s.heap:=e0.mod.kin.keeps fun b o e=>(e0.bs b o e).1;have lim:s.heap.NoLimit:=e0.mod.nolimit.keeps fun b o e=>(e0.bs b o e).1;have hkind:∀y∈ps.zip us,scope.names.lookup y.1=some .local∨(scope.names.lookup y.1=some .cell∧((cellsFrom (s.heap.objs.size+1) scope.names []).lookup y.1).isSome=true):=fun⟨n,v⟩ hy=>by
    rcases S.par n (List.of_mem_zip hy).1 with q | q
    ·exact .inl q
    ·exact .inr ⟨q,W.cellsFrom_some _ _ _ (.inl q)⟩
  refine codeAny_call_function hr.depth (KX _ _ lk) rfl S.co S.gen rfl (W.codeRec_of KX hcd) (hb _ _ _ _ ?_);refine wpAny_newFunctionEnv_cells S.kind hkind fun env he s1 x=>?_;subst he;refine⟨lim.keeps x.toInCall.keep,codeAny_func ?_⟩;obtain⟨t,ht,hq⟩:=hbody A outer s H vs Q E (hr.deeper _) hsp;have I:Inv (aF CX P w K mg base N qual scope f cdv A outer s H E) [] (start N vs) H s1:=Qs S hr.hd e0 hl r x;refine wpAny_mono (ht [] s1 (start N vs) H _ I hq) (fun fl s' hs=>?_) fun e s' hs=>hs;have fin:∀{σ':St} {H':Hp} {v:V} {u:Value},Inv (aF CX P w K mg base N qual scope f cdv A outer s H E) [] σ' H' s'→RelV v u→Q v H'→CE outer P w H s Q u s':=
    fun {σ' H' v u} J rv q=>⟨v,H',J.os,J.bare,J.base,J.hok,rv,q⟩
  cases fl with
  | ret u=>
    obtain⟨v,σ',H',J,rv,q⟩:=hs;exact fin J rv q
  | next=>
    obtain⟨σ',H',J,q⟩:=hs;exact fin (v:=V.non) (u:=Value.none) J rfl q
  | brk=>
    obtain⟨_,_,_,q⟩:=hs;exact False.elim q
  | cont=>
    obtain⟨_,_,_,q⟩:=hs;exact False.elim q
section
variable {X:Cx} {x:Str} {p pos:Pos} {e:Expr} {es:List Expr} {t:TA} {id T:String} {r:List V→Hp→VK→Prop}
def tCB (r:List V→Hp→VK→Prop) (t:TA):TE:=fun σ H Q=>t σ H fun vs H1=>r vs H1 Q
theorem aQ (hc:dD X (.builtin id) r) (hg:Gl X x) (hm:X.mg x=none) (hv:bootBuiltins x=some (.builtin id)) (ha:PA X (e::es) t) (hn:x≠ "__name__" :=by decide) (hdb:(x == ("__debug__" : Str))=false:=by decide)
    (he:starEach (e::es) X.env=(false,eval e X.env)::starEach es X.env:=by rfl) (hpl:(backTo pos (starEach es X.env)).any (·.1)=false:=by rfl):PE X (.Call (.Name x p) (e::es) [] pos) (tCB r t):=by
  intro p_ s σ H Q I h;refine wpAny_Call_Name_kw (uP I hg hm hv ?_ hn hdb);refine PyProof.Rows.callWith_builtin1 (d9 (ha pos p_ s σ H _ I h) fun us s1 zz=>?_) he hpl;obtain⟨vs,H1,I1,r1,q1⟩:=zz;exact hc p_ s1 σ H1 vs us Q I1 r1 q1
theorem eG (hc:dD X (.type T) r) (hg:Gl X x) (hm:X.mg x=none) (hv:bootBuiltins x=some (.type T)) (ha:PA X (e::es) t) (hn:x≠ "__name__" :=by decide) (hdb:(x == ("__debug__" : Str))=false:=by decide)
    (he:starEach (e::es) X.env=(false,eval e X.env)::starEach es X.env:=by rfl) (hpl:(backTo pos (starEach es X.env)).any (·.1)=false:=by rfl):PE X (.Call (.Name x p) (e::es) [] pos) (tCB r t):=by
  intro p_ s σ H Q I h;refine wpAny_Call_Name_kw (uP I hg hm hv ?_ hn hdb);refine PyProof.Rows.callWith_type1 (d9 (ha pos p_ s σ H _ I h) fun us s1 zz=>?_) he hpl;obtain⟨vs,H1,I1,r1,q1⟩:=zz;exact hc p_ s1 σ H1 vs us Q I1 r1 q1
end
end L2
namespace HT
open PySem PyProof.Rows
section
variable {prog:Program} {w:World} {A:Around} {E:Value→Shared→Prop} {s:Shared}
def Rw (n d:Nat):Option Int→Nat
  | none=>d
  | some v=>if v<0 then (v+(n:Int)).toNat else min v.toNat n
end
end HT
namespace L2
open PySem PySem.Spec PyProof.Rows
abbrev TO:=St→Hp→(Option Int→Hp→Prop)→Prop
def PO (X:Cx) (e:Option Expr) (t:TO):Prop:=
  ∀(p_:List (Addr×Obj)) (s:Shared) (σ:St) (H:Hp) (Q:Option Int→Hp→Prop),Inv X p_ σ H s→t σ H Q→
    wpAny (model X.prog X.w) X.A (evalPart e X.env) (fun u s'=>∃o H',Inv X p_ σ H' s'∧IsPart u o∧Q o H') X.xe s
def Lg:TO:=fun _ H Q=>Q none H
def qbp (t:TE):TO:=fun σ H Q=>t σ H fun x H1=>∃i,x = .int i∧Q (some i) H1
section
variable {X:Cx} {e:Expr} {te:TE} {lo hi:Option Expr} {tl th:TO} {pos p2:Pos}
theorem vP:PO X none Lg:=by
  intro p_ s σ H Q I h;rw[evalPart_none];exact wpAny_pure ⟨none,H,I,.none,h⟩
theorem vQ (h:PE X e te):PO X (some e) (qbp te):=by
  intro p_ s σ H Q I hw;rw[evalPart_some];refine d9 (h p_ s σ H _ I hw) fun u s1 zz=>?_;obtain⟨x,H1,I1,r1,q1⟩:=zz;obtain⟨i,rfl,q⟩:=q1;obtain⟨t,rfl⟩:=r1;exact⟨some i,H1,I1,.int i t,q⟩
def SlR (X:Cx) (r:V→Option Int→Option Int→Hp→VK→Prop):Prop:=
  ∀(p_:List (Addr×Obj)) (s:Shared) (σ:St) (H:Hp) (x:V) (v vl vu:Value) (lo hi:Option Int) (sl:Addr) (Q:VK),Inv X p_ σ H s→RelV x v→s.heap.IsSliceOf sl vl vu .none→IsPart vl lo→IsPart vu hi→r x lo hi H Q→
    ∃T id,typeLookup (.type T) "__getitem__" = pure (some (.builtin id))∧s.TypeIs v T∧wpAny (model X.prog X.w) X.A (getItem v (.ref sl)) (EP X p_ σ Q) X.xe s
def tSl (r:V→Option Int→Option Int→Hp→VK→Prop) (te:TE) (tl th:TO):TE:=fun σ H Q=>te σ H fun x H1=>tl σ H1 fun l H2=>th σ H2 fun u H3=>r x l u H3 Q
theorem qe {r:V→Option Int→Option Int→Hp→VK→Prop} (hr:SlR X r) (he:PE X e te) (hl:PO X lo tl) (hu:PO X hi th):PE X (.Subscript e (.Slice lo hi none p2) pos) (tSl r te tl th):=by
  intro p_ s σ H Q I h;refine Subscript_ (d9 (he p_ s σ H _ I h) fun v s1 zz=>?_);obtain⟨x,H1,I1,r1,q1⟩:=zz;refine wpAny_Slice (d9 (hl p_ s1 σ H1 _ I1 q1) fun vl s2 ⟨l,H2,I2,pl,q2⟩=>d9 (hu p_ s2 σ H2 _ I2 q2) fun vu s3 ⟨u,H3,I3,pu,q3⟩=>?_);rw[evalPart_none];refine wpAny_pure ?_;have I4:Inv X p_ σ H3 {s3 with heap:=s3.heap.push {cls:=.type "slice",data:=.fields #[vl,vu,.none]}}:=I3.kept (t':=s3.toks) fun b ob q=>Heap.get?_push_of_some _ q;obtain⟨T,id,hT,ht,hg⟩:=hr p_ {s3 with heap:=s3.heap.push {cls:=.type "slice",data:=.fields #[vl,vu,.none]}} σ H3 x v vl vu l u s3.heap.objs.size Q I4 r1 (Heap.IsSliceOf.new ..) pl pu q3;show wpAny (model X.prog X.w) X.A (subscriptTail e (.Slice lo hi none p2) v (.ref s3.heap.objs.size)) (EP X p_ σ Q) X.xe {s3 with heap:=s3.heap.push {cls:=.type "slice",data:=.fields #[vl,vu,.none]}};exact tail_any (ops:=[.ref s3.heap.objs.size,v]) ht hT hg (by with_unfolding_all rfl)
def K8 (xs:List V) (lo hi:Option Int):List V:=(xs.drop (HT.Rw xs.length 0 lo)).take (HT.Rw xs.length xs.length hi - HT.Rw xs.length 0 lo)
theorem U0 (xs:List V) (lo hi:Option Int):(K8 xs lo hi).length≤xs.length:=by
  unfold K8;rw[List.length_take,List.length_drop];omega
end
def ixN (n:Nat) (i:Int):Option Nat:=if 0≤i then (if i<n then some i.toNat else none) else if -(n:Int)≤i then some (i+n).toNat else none
def Lh {α:Type} (xs:List α) (i:Int):Option α:=(ixN xs.length i).bind fun j=>xs[j]?
theorem YM {n:Nat} {i:Int} {j:Nat} (h:ixN n i=some j):seqIndex? i n=some j∧j<n∧-(n:Int)≤i∧i<n:=by
  unfold ixN at h
  by_cases h0:0≤i
  · rw[if_pos h0] at h
    by_cases h1:i<n
    ·rw[if_pos h1] at h;have e:i.toNat=j:=Option.some.inj h;exact⟨by rw[seqIndex_of h0 h1,e],by omega,by omega,h1⟩
    ·rw[if_neg h1] at h;cases h
  · rw[if_neg h0] at h
    by_cases h1 : -(n:Int)≤i
    ·rw[if_pos h1] at h;have e:(i+n).toNat=j:=Option.some.inj h;exact⟨by rw[seqIndex_neg (by omega) h1,e],by omega,h1,by omega⟩
    ·rw[if_neg h1] at h;cases h
theorem Rx {α:Type} {xs:List α} {i:Int} {v:α} (h:Lh xs i=some v):∃j,seqIndex? i xs.length=some j∧xs[j]? = some v∧j<xs.length∧-(xs.length:Int)≤i∧i<xs.length:=by
  unfold Lh at h;cases e:ixN xs.length i with
  | none=>rw[e] at h;cases h
  | some j=>
    rw[e] at h;obtain⟨h1,h2,h3,h4⟩:=YM e;exact⟨j,h1,h,h2,h3,h4⟩
theorem dj {α:Type} {xs:List α} {j:Nat} {v:α} (h:xs[j]? = some v):Lh xs (j:Int)=some v:=by
  have hj:j<xs.length:=(List.getElem?_eq_some_iff.mp h).1;have e:ixN xs.length (j:Int)=some j:=by
    unfold ixN;rw[if_pos (by omega),if_pos (by omega)];simp
  unfold Lh;rw[e];exact h
def YQ (b:Expr):Prop:=∀o i,subscripted b false o i=operate [o,i] (getItem o i)
def IxR (X:Cx) (r:R2):Prop:=
  ∀(value slice:Expr) (p_:List (Addr×Obj)) (s:Shared) (σ:St) (H:Hp) (x y:V) (v u:Value) (Q:VK),Inv X p_ σ H s→RelV x v→RelV y u→r x y H Q→
    subscripted slice false v u=operate [v,u] (getItem v u)→wpAny (model X.prog X.w) X.A (subscriptTail value slice v u) (EP X p_ σ Q) X.xe s
def Wr (X:Cx) (id:String) (r:V→List V→Hp→VK→Prop):Prop:=
  ∀(p_:List (Addr×Obj)) (s:Shared) (σ:St) (H:Hp) (x:V) (xs:List V) (v:Value) (us:List Value) (Q:VK),Inv X p_ σ H s→RelV x v→Vals xs us→r x xs H Q→
    wpAny (model X.prog X.w) X.A (call (.builtin id) (v::us)) (EP X p_ σ Q) X.xe s
section
variable {X:Cx} {a b:Expr} {ta tb:TE} {pos:Pos}
theorem cX {r:R2} (hr:IxR X r) (ha:PE X a ta) (hb:PE X b tb) (hs:YQ b):PE X (.Subscript a b pos) (K6 r ta tb):=by
  intro p_ s σ H Q I h;exact Subscript_ (qfM ha hb I h fun v u s2 x y H2 I2 rx ry q=>hr a b p_ s2 σ H2 x y v u Q I2 rx ry q (hs _ _))
def qn4 (K:W.Frag):R2:=fun x y H Q=>∃p xs i v,x = .ref p∧y = .int i∧cj K H p xs∧Lh xs i=some v∧Q v H
def qn5 (K:W.Frag):R2:=fun x y H Q=>∃p xs i v,x = .ref p∧y = .int i∧lR K H p xs∧Lh xs i=some v∧Q v H
def qiu:R2:=fun x y H Q=>∃z i c,x = .str z∧y = .int i∧z.length≤sizeLine∧Lh z.cps.toList i=some c∧Q (.str ⟨#[c]⟩) H
theorem qdC:IxR X (qn4 X.K):=by
  intro value slice p_ s σ H x y v u Q I rx ry h hs;obtain⟨p,xs,i,z,rfl,rfl,hq,he,q⟩:=h;cases rx;obtain⟨t,rfl⟩:=ry;obtain⟨its,r,pl,hz⟩:=I.list hq;obtain⟨j,h1,h2,h3,h4,h5⟩:=Rx he;obtain⟨w,ew,Rr⟩:=r.get h2;have hl:=r.length;have hn:=Gq;have fin:EP X p_ σ Q w s:=⟨z,H,I,Rr,q⟩
  by_cases h0:0≤i
  · have hj:i.toNat=j:=by
      rw[seqIndex_of h0 h5] at h1;exact Option.some.inj h1
    exact item_listR pl.isList h0 (by omega) (by rw[hj];simpa using ew) fin hs
  · have hj:(i+(its.toArray.size:Int)).toNat=j:=by
      rw[seqIndex_neg (by omega) h4] at h1;rw[List.size_toArray,← hl];exact Option.some.inj h1
    exact subscriptTail_builtinR (x:=w) pl.isList.typeIs slot_list_getitem.lookup
      (wpAny_getItem_list_neg (Q:=fun r s'=>r=w∧EP X p_ σ Q r s') pl.isList (by omega) (by rw[List.size_toArray] <;> omega) (by omega) (by rw[hj];simpa using ew) ⟨rfl,fin⟩) hs
theorem qfY:IxR X (qn5 X.K):=by
  intro value slice p_ s σ H x y v u Q I rx ry h hs;obtain⟨p,xs,i,z,rfl,rfl,hq,he,q⟩:=h;cases rx;obtain⟨t,rfl⟩:=ry;obtain⟨its,r,pl,hz⟩:=I.tuple hq;obtain⟨j,h1,h2,h3,h4,h5⟩:=Rx he;obtain⟨w,ew,Rr⟩:=r.get h2;have hl:=r.length;have hn:=Gq;have fin:EP X p_ σ Q w s:=⟨z,H,I,Rr,q⟩;exact subscriptTail_builtinR (x:=w) pl.typeIs slot_tuple_getitem.lookup
    (getItem_tuple (j:=j) (Q:=fun r s'=>r=w∧EP X p_ σ Q r s') pl (by omega) (by omega) (by rw[List.size_toArray,← hl];exact h1) (by simpa using ew) ⟨rfl,fin⟩) hs
theorem qfZ:IxR X qiu:=by
  intro value slice p_ s σ H x y v u Q I rx ry h hs;obtain⟨z,i,c,rfl,rfl,hz,he,q⟩:=h;obtain⟨t,rfl⟩:=rx;obtain⟨t',rfl⟩:=ry;obtain⟨j,h1,h2,h3,h4,h5⟩:=Rx he;have hl:z.cps.toList.length=z.length:=by simp[Str.length]
  rw[hl] at h1 h4 h5;have hn:=Gq;exact tail_any (typeIs_str s z t) slot_str_getitem.lookup (getItem_str (c:=c) (by
    have e1:decide (i < -(2 ^ 63:Int))=false:=decide_eq_false (by omega);have e2:decide (i≥2 ^ 63)=false:=decide_eq_false (by omega);rw[e1,e2,Bool.or_false]) (by rw[h1];simpa using h2) ⟨.str ⟨#[c]⟩,H,I.tok _,⟨_,rfl⟩,q⟩) hs
theorem WW (its:List Value) (n j:Nat) (u:Value):Obj.mapSeq (·.setIfInBounds j u) {cls:=.type "list",data:=.seq its.toArray n}={cls:=.type "list",data:=.seq (its.set j u).toArray n}:=by
  simp[Obj.mapSeq]
theorem Inv.lst {p_:List (Addr×Obj)} {σ:St} {H:Hp} {s:Shared} {p:Addr} {xs:List V} (I:Inv X p_ σ H s) (h:H p=some (.lst xs)) :
    ∃(its:List Value) (n:Nat),Vals xs its∧s.heap.get? p=some {cls:=.type "list",data:=.seq its.toArray n}∧xs.length≤sizeLine:=by
  obtain⟨z,its,n,r,e⟩:=I.hok p _ h;exact⟨its,n,r,e,z⟩
theorem Inv.qf0 {p_:List (Addr×Obj)} {σ:St} {H:Hp} {s:Shared} {p:Addr} {xs ys:List V} {its its':List Value} {n n':Nat} {f:Obj→Obj} (I:Inv X p_ σ H s) (h:H p=some (.lst xs))
    (ho:s.heap.get? p=some {cls:=.type "list",data:=.seq its.toArray n}) (hf:f {cls:=.type "list",data:=.seq its.toArray n}={cls:=.type "list",data:=.seq its'.toArray n'}) (r:Vals ys its') (hz:ys.length≤sizeLine) (t:Nat) :
    Inv X p_ σ (upd H p (.lst ys)) {s with heap:=s.heap.update p f,toks:=t}:=by
  have e:(s.heap.update p f).get? p=some {cls:=.type "list",data:=.seq its'.toArray n'}:=by
    rw[Heap.get?_update_self f ho (by rw[hf] <;> rfl),hf]
  refine I.write (x:=p) (e:=p) (by rw[h];trivial) (.inl rfl) (fun b u hb q=>(Heap.get?_update_other _ _ (Ne.symm hb)).trans q) ⟨_,e⟩ ?_;exact⟨hz,its',n',r,e⟩
def qeT:V→V→V→Hp→(Hp→Prop)→Prop:=fun o i v H Q=>∃p xs k j,o = .ref p∧i = .int k∧H p=some (.lst xs)∧ixN xs.length k=some j∧Q (upd H p (.lst (xs.set j v)))
theorem set_list:ZS X qeT:=by
  intro p_ s σ H o i v ov iv u Q I ro ri rv h;obtain⟨p,xs,k,j,rfl,rfl,hp,hj,q⟩:=h;cases ro;obtain⟨t,rfl⟩:=ri;obtain⟨its,n,r,ho,hz⟩:=I.lst hp;obtain⟨h1,h2,h3,h4⟩:=YM hj;have hl:=r.length;have hn:=Gq;have I':Inv X p_ σ (upd H p (.lst (xs.set j v))) {s with heap:=s.heap.update p (Obj.mapSeq (·.setIfInBounds j u))}:=
    I.qf0 hp ho (WW its n j u) (r.set rv j) (by rw[List.length_set];exact hz) s.toks
  by_cases h0:0≤k
  · have hk:k.toNat=j:=by
      rw[seqIndex_of h0 h4] at h1;exact Option.some.inj h1
    exact W.ki_setAt ho h0 (by omega) (by rw[List.size_toArray,← hl];exact h4) (by rw[hk];exact⟨_,I',q⟩)
  · have hk:(k+(its.toArray.size:Int)).toNat=j:=by
      rw[seqIndex_neg (by omega) h3] at h1;rw[List.size_toArray,← hl];exact Option.some.inj h1
    exact W.ki_setBack ho (by omega) (by rw[List.size_toArray,← hl];exact h3) (by omega) (by rw[hk];exact⟨_,I',q⟩)
theorem Ry (lo hi:Option Int) (n:Nat):(sliceBounds lo hi none n).1=((HT.Rw n 0 lo:Nat):Int)∧(sliceBounds lo hi none n).2.1=((HT.Rw n n hi:Nat):Int)∧(sliceBounds lo hi none n).2.2=1:=by
  refine⟨?_,?_,rfl⟩
  · cases lo with
    | none=>simp[sliceBounds,HT.Rw]
    | some i=>
      simp only[sliceBounds,HT.Rw,Option.getD_none,show(1:Int) > 0 by decide,if_true]
      by_cases h:i<0
      ·simp only[h,if_true] <;> omega
      ·simp only[h,if_false] <;> omega
  · cases hi with
    | none=>simp[sliceBounds,HT.Rw]
    | some i=>
      simp only[sliceBounds,HT.Rw,Option.getD_none,show(1:Int) > 0 by decide,if_true]
      by_cases h:i<0
      ·simp only[h,if_true] <;> omega
      ·simp only[h,if_false] <;> omega
theorem Pj (its:List Value) (lo hi:Option Int):slicePick its.toArray lo hi none=((its.drop (HT.Rw its.length 0 lo)).take (HT.Rw its.length its.length hi - HT.Rw its.length 0 lo)).toArray:=by
  obtain⟨h1,h2,h3⟩:=Ry lo hi its.toArray.size;unfold slicePick;rw[h1,h2,h3];simp only[sliceRange_one,pick_run,List.size_toArray] <;> rfl
def qdD (K:W.Frag):V→Option Int→Option Int→Hp→VK→Prop:=fun x lo hi H Q=>∃a xs,x = .ref a∧cj K H a xs∧∀p,H p=none→Q (.ref p) (upd H p (.lst (K8 xs lo hi)))
theorem qdE:SlR X (qdD X.K):=by
  intro p_ s σ H x v vl vu lo hi sl Q I rx hs pl pu h;obtain⟨a,xs,rfl,hx,q⟩:=h;cases rx;obtain⟨its,r,ht,hz⟩:=I.list hx;have hlen:=r.length;refine⟨"list",_,slot_list_getitem.lookup,ht.isList.typeIs,?_⟩;refine wpAny_getItem_list_slice ht.isList hs pl pu .none (by simp) ?_ (by rw[List.size_toArray] <;> omega);rw[Pj,← hlen];refine⟨.ref s.heap.objs.size,_,I.laid (t':=s.toks) (o:=.lst (K8 xs lo hi)) (fun b ob q=>Heap.get?_push_of_some _ q) (Nat.le_refl _) ?_,rfl,q _ (I.hok.fresh (Nat.le_refl _))⟩;exact⟨Nat.le_trans (U0 xs lo hi) hz,_,0,(r.drop (HT.Rw xs.length 0 lo)).take (HT.Rw xs.length xs.length hi - HT.Rw xs.length 0 lo),Heap.get?_push_size _ rfl⟩
def nJ:V→Bool
  | .non=>true
  | .bl _=>true
  | .int _=>true
  | .str _=>true
  | _=>false
def WX:V→V→Bool
  | .non,.non=>true
  | .bl a,.bl b=>a == b
  | .bl a,.int b=>(if a then 1 else 0) == b
  | .int a,.bl b=>a == (if b then 1 else 0)
  | .int a,.int b=>a == b
  | .str a,.str b=>a == b
  | _,_=>false
theorem qf1 {A:Around} {s:Shared} {y x:V} {u v:Value} (ry:RelV y u) (rx:RelV x v) (fy:nJ y=true) (fx:nJ x=true):SeqAt.EqAt A s u v (WX y x):=by
  cases y with
  | non=>
    cases ry;cases x with
    | non=>cases rx;exact SeqAt.EqAt.same _
    | bl b=>cases rx;exact SeqAt.EqAt.none_bool b
    | int b=>obtain⟨t,rfl⟩:=rx;exact SeqAt.EqAt.none_int b t
    | str b=>obtain⟨t,rfl⟩:=rx;exact SeqAt.EqAt.none_str b t
    | _=>exact absurd (show false=true from fx) Bool.false_ne_true
  | bl a=>
    cases ry;cases x with
    | non=>cases rx;exact SeqAt.EqAt.bool_none a
    | bl b=>cases rx;exact SeqAt.EqAt.bool_bool a b
    | int b=>obtain⟨t,rfl⟩:=rx;exact SeqAt.EqAt.bool_int a b t
    | str b=>obtain⟨t,rfl⟩:=rx;exact SeqAt.EqAt.bool_str a b t
    | _=>exact absurd (show false=true from fx) Bool.false_ne_true
  | int a=>
    obtain⟨t',rfl⟩:=ry;cases x with
    | non=>cases rx;exact SeqAt.EqAt.int_none a t'
    | bl b=>cases rx;exact SeqAt.EqAt.int_bool a t' b
    | int b=>obtain⟨t,rfl⟩:=rx;exact SeqAt.EqAt.int_int a t' b t
    | str b=>obtain⟨t,rfl⟩:=rx;exact SeqAt.EqAt.int_str a t' b t
    | _=>exact absurd (show false=true from fx) Bool.false_ne_true
  | str a=>
    obtain⟨t',rfl⟩:=ry;cases x with
    | non=>cases rx;exact SeqAt.EqAt.str_none a t'
    | bl b=>cases rx;exact SeqAt.EqAt.str_bool a t' b
    | int b=>obtain⟨t,rfl⟩:=rx;exact SeqAt.EqAt.str_int a t' b t
    | str b=>obtain⟨t,rfl⟩:=rx;exact SeqAt.EqAt.str_str a t' b t
    | _=>exact absurd (show false=true from fx) Bool.false_ne_true
  | _=>exact absurd (show false=true from fy) Bool.false_ne_true
def WY (x:V) (u:Value):Bool:=match u with
  | .none=>WX .non x
  | .bool b=>WX (.bl b) x
  | .int i _=>WX (.int i) x
  | .str z _=>WX (.str z) x
  | _=>false
theorem qbq {x y:V} {u:Value} (r:RelV y u) (f:nJ y=true):WY x u=WX y x:=by
  cases y with
  | non=>cases r;rfl
  | bl b=>cases r;rfl
  | int i=>obtain⟨t,rfl⟩:=r;rfl
  | str z=>obtain⟨t,rfl⟩:=r;rfl
  | _=>exact absurd (show false=true from f) Bool.false_ne_true
theorem Hv {x:V}:∀{xs:List V} {us:List Value},Vals xs us→xs.all nJ=true→us.any (WY x)=xs.any fun y=>WX y x
  | _,_,.nil,_=>rfl
  | y::xs,u::us,.cons r t,f=>by
    rw[List.all_cons,Bool.and_eq_true] at f;rw[List.any_cons,List.any_cons,qbq r f.1,Hv t f.2]
theorem Dz {A:Around} {s:Shared} {x:V} {v:Value} (rx:RelV x v) (fx:nJ x=true):∀{xs:List V} {us:List Value},Vals xs us→xs.all nJ=true→∀u∈us,SeqAt.EqAt A s u v (WY x u)
  | _,_,.nil,_=>fun u hu=>by cases hu
  | y::xs,u::us,.cons r t,f=>fun u' hu=>by
    rw[List.all_cons,Bool.and_eq_true] at f
    rcases List.mem_cons.mp hu with rfl | hu
    ·rw[qbq r f.1];exact qf1 r rx f.1 fx
    ·exact Dz rx fx t f.2 u' hu
def inV (x:V) (xs:List V):Bool:=xs.any fun y=>WX y x
def rIn (K:W.Frag) (neg:Bool):R2:=fun x y H Q=>∃p xs,y = .ref p∧(cj K H p xs∨lR K H p xs)∧nJ x=true∧xs.all nJ=true∧Q (.bl (if neg then !inV x xs else inV x xs)) H
theorem qaa:mR X (compareOp .In) (rIn X.K false):=by
  intro p_ s σ H x y v u Q I rx ry h;obtain⟨p,xs,rfl,hq,fx,fs,q⟩:=h;cases ry
  rcases hq with hq | hq
  ·obtain⟨its,r,pl,hz⟩:=I.list hq;refine SeqAt.in_listAt (WY x) pl.isList (fun w hw=>Dz rx fx r fs w (by simpa using hw)) ⟨.bl _,H,I,rfl,?_⟩;rw[show its.toArray.any (WY x)=its.any (WY x) by simp,Hv r fs];exact q
  ·obtain⟨its,r,pl,hz⟩:=I.tuple hq;refine SeqAt.in_tupleAt (WY x) pl (fun w hw=>Dz rx fx r fs w (by simpa using hw)) ⟨.bl _,H,I,rfl,?_⟩;rw[show its.toArray.any (WY x)=its.any (WY x) by simp,Hv r fs];exact q
theorem Rz:mR X (compareOp .NotIn) (rIn X.K true):=by
  intro p_ s σ H x y v u Q I rx ry h;obtain⟨p,xs,rfl,hq,fx,fs,q⟩:=h;cases ry
  rcases hq with hq | hq
  ·obtain⟨its,r,pl,hz⟩:=I.list hq;refine SeqAt.notIn_listAt (WY x) pl.isList (fun w hw=>Dz rx fx r fs w (by simpa using hw)) ⟨.bl _,H,I,rfl,?_⟩;rw[show its.toArray.any (WY x)=its.any (WY x) by simp,Hv r fs];exact q
  ·obtain⟨its,r,pl,hz⟩:=I.tuple hq;refine SeqAt.notIn_tupleAt (WY x) pl (fun w hw=>Dz rx fx r fs w (by simpa using hw)) ⟨.bl _,H,I,rfl,?_⟩;rw[show its.toArray.any (WY x)=its.any (WY x) by simp,Hv r fs];exact q
theorem RB:mR X (compareOp .NotIn) (fun x y H Q=>∃i j,x = .str i∧y = .str j∧Q (.bl (!(!(Builtin.Str.occurrences j i 0 j.length 1).isEmpty))) H):=by
  intro p_ s σ H x y v u Q I rx ry h;obtain⟨i,j,rfl,rfl,q⟩:=h;obtain⟨t,rfl⟩:=rx;obtain⟨t',rfl⟩:=ry;exact notIn_str ⟨.bl _,H,I,rfl,q⟩
theorem RD:dD X (.builtin "len") (fun xs H Q=>∃p ys,xs=[.ref p]∧(cj X.K H p ys∨lR X.K H p ys)∧Q (.int ys.length) H):=by
  intro p_ s σ H xs us Q I r h;obtain⟨p,ys,rfl,hq,q⟩:=h;obtain⟨u,rfl,rx⟩:=vals1 r;cases rx;have hn:=Gq
  rcases hq with hq | hq
  ·obtain⟨its,r',pl,hz⟩:=I.list hq;have hlen:=r'.length;exact Calls.call_len_list pl.isList (by simp only[List.size_toArray] <;> omega) ⟨.int ys.length,H,I.tok _,⟨s.toks+1,by rw[List.size_toArray,hlen]⟩,q⟩
  ·obtain⟨its,r',pl,hz⟩:=I.tuple hq;have hlen:=r'.length;exact len_tuple pl (by simp only[List.size_toArray] <;> omega) ⟨.int ys.length,H,I.tok _,⟨s.toks+1,by rw[List.size_toArray,hlen]⟩,q⟩
theorem RG:dD X (.builtin "len") (fun xs H Q=>∃z,xs=[.str z]∧z.length≤sizeLine∧Q (.int z.length) H):=by
  intro p_ s σ H xs us Q I r h;obtain⟨z,rfl,hz,q⟩:=h;obtain⟨u,rfl,t,rfl⟩:=vals1 r;have hn:=Gq;exact len_str (by omega) ⟨.int z.length,H,I.tok _,⟨_,rfl⟩,q⟩
theorem RJ:dD X (.type "list") (fun xs H Q=>∃p ys,xs=[.ref p]∧(cj X.K H p ys∨lR X.K H p ys)∧∀l,H l=none→Q (.ref l) (upd H l (.lst ys))):=by
  intro p_ s σ H xs us Q I r h;obtain⟨p,ys,rfl,hq,q⟩:=h;obtain⟨u,rfl,rx⟩:=vals1 r;cases rx;have fin:∀(its:List Value),Vals ys its→ys.length≤sizeLine→∀(h':Heap) (c':Nat),(∀b o',s.heap.get? b=some o'→h'.get? b=some o')→
      h'.get? s.heap.objs.size=some {cls:=.type "list",dict:=none,data:=.seq its.toArray c',slots:=#[]}→EP X p_ σ Q (.ref s.heap.objs.size) {s with heap:=h'}:=fun its r' hz h' c' kp e=>
    ⟨.ref s.heap.objs.size,_,I.laid (t':=s.toks) kp (Nat.le_refl _) (show d8 X.prog X.w _ h' _ (.lst ys) from⟨hz,its,c',r',e⟩),rfl,q _ (I.hok.fresh (Nat.le_refl _))⟩
  rcases hq with hq | hq
  ·obtain⟨its,r',pl,hz⟩:=I.list hq;have hlen:=r'.length;obtain⟨o,ho,hc,n,hd⟩:=pl.isList;exact call_list_seq p (.inl rfl) ho hc hd (fun h' c' kp e=>fin its r' hz h' c' kp e) (by simp only[List.size_toArray] <;> omega)
  ·obtain⟨its,r',pl,hz⟩:=I.tuple hq;have hlen:=r'.length;obtain⟨o,ho,hc,n,hd⟩:=pl;exact call_list_seq p (.inr rfl) ho hc hd (fun h' c' kp e=>fin its r' hz h' c' kp e) (by simp only[List.size_toArray] <;> omega)
theorem Pk:dD X (.type "tuple") (fun xs H Q=>∃p ys,xs=[.ref p]∧((cj X.K H p ys∧∀l,H l=none→Q (.ref l) (upd H l (.tup ys)))∨(lR X.K H p ys∧Q (.ref p) H))):=by
  intro p_ s σ H xs us Q I r h;obtain⟨p,ys,rfl,h⟩:=h;obtain⟨u,rfl,rx⟩:=vals1 r;cases rx
  rcases h with⟨hq,q⟩ | ⟨hq,q⟩
  · obtain⟨its,r',pl,hz⟩:=I.list hq;have hlen:=r'.length;refine call_tuple_list pl.isList (fun h' kp=>?_) (by simp only[List.size_toArray] <;> omega);have I1:Inv X p_ σ H {s with heap:=h'}:=I.kept (t':=s.toks) kp;have I2:Inv X p_ σ (upd H h'.objs.size (.tup ys)) {s with heap:=h'.push {cls:=.type "tuple",data:=.seq its.toArray}}:=
      I1.laid (t':=s.toks) (fun b o e=>Heap.get?_push_of_some _ e) (Nat.le_refl _) (show d8 X.prog X.w _ _ _ (.tup ys) from⟨hz,its,r',IsTup.new _ _⟩)
    exact⟨.ref h'.objs.size,_,I2,rfl,q _ (I1.hok.fresh (Nat.le_refl _))⟩
  ·obtain⟨its,r',pl,hz⟩:=I.tuple hq;exact call_tuple_same pl ⟨.ref p,H,I,rfl,q⟩
def tyV (K:W.Frag) (T:String) (x:V) (H:Hp):Prop:=match x with
  | .str _=>T = "str"
  | .int _=>T = "int"
  | .ref p=>(T = "list" ∧∃xs,cj K H p xs)∨(T = "tuple" ∧∃o,K.lookup p=some o∧o.cls = .type "tuple" ∧o.dict=none)∨
      (T = "dict" ∧((∃kvs,H p=some (.dK kvs))∨∃kvs,H p=some (.dT kvs)))∨(T = "set" ∧∃S n,H p=some (.set S n))
  | _=>False
theorem qbr {p_:List (Addr×Obj)} {σ:St} {H:Hp} {s:Shared} {T:String} {x:V} {v:Value} (I:Inv X p_ σ H s) (r:RelV x v) (ty:tyV X.K T x H) :
    s.TypeIs v T∧∀a,v = .ref a→∃ob,s.heap.get? a=some ob∧ob.dict=none:=by
  cases x with
  | str z=>
    obtain⟨t,rfl⟩:=r;cases (show T = "str" from ty);exact⟨typeIs_str s z t,fun _ e=>nomatch e⟩
  | int i=>
    obtain⟨t,rfl⟩:=r;cases (show T = "int" from ty);exact⟨typeIs_int s i t,fun _ e=>nomatch e⟩
  | ref p=>
    cases r
    rcases ty with⟨rfl,xs,hq⟩ | ⟨rfl,o,hk,hc,hd⟩ | ⟨rfl,hk⟩ | ⟨rfl,S,n,hk⟩
    ·obtain⟨its,_,pl,_⟩:=I.list hq;refine⟨pl.isList.typeIs,fun a e=>?_⟩;cases e;obtain⟨o,n,e,c,hd,_⟩:=pl;exact⟨o,e,hd⟩
    ·refine⟨⟨o,I.FJ p o hk,hc⟩,fun a e=>?_⟩;cases e;exact⟨o,I.FJ _ o hk,hd⟩
    · have z:∃o,s.heap.get? p=some o∧o.ExactDict:=by
        rcases hk with⟨kvs,hk⟩ | ⟨kvs,hk⟩
        ·obtain⟨_,_,_,_,o,_,_,e,ex,_⟩:=I.hok p _ hk;exact⟨o,e,ex⟩
        ·obtain⟨_,_,_,_,o,_,_,e,ex,_⟩:=I.hok p _ hk;exact⟨o,e,ex⟩
      obtain⟨o,e,ex⟩:=z;refine⟨⟨o,e,ex.1⟩,fun a e2=>?_⟩;cases e2;exact⟨o,e,ex.2.1⟩
    ·obtain⟨o,_,_,_,e,ex,_⟩:=I.hok p _ hk;refine⟨⟨o,e,ex.1⟩,fun a e2=>?_⟩;cases e2;exact⟨o,e,ex.2.1⟩
  | _=>exact False.elim ty
def qdF (K:W.Frag) (T:String) (r:V→List V→Hp→VK→Prop) (to:TE):TE:=fun σ H Q=>to σ H fun x H1=>tyV K T x H1∧r x [] H1 Q
def tBM (K:W.Frag) (T:String) (r:V→List V→Hp→VK→Prop) (to:TE) (t:TA):TE:=fun σ H Q=>to σ H fun x H1=>tyV K T x H1∧t σ H1 fun xs H2=>r x xs H2 Q
variable {o e:Expr} {es:List Expr} {to:TE} {t:TA} {name:Str} {apos cpos:Pos} {T id:String} {r:V→List V→Hp→VK→Prop}
theorem qf2 (pa:PlainAttrs T) (slot:Slot T name id) (hty:typeOf (.builtin id)=pure (.type "method_descriptor")) (hm:Wr X id r) (ho:PE X o to)
    (hbase:attributeBase o name X.env (eval o X.env)=eval o X.env:=by rfl) (hline:(apos.endLine == cpos.line)=true:=by rfl):PE X (.Call (.Attribute o name apos) [] [] cpos) (qdF X.K T r to):=by
  intro p_ s σ H Q I h;refine wpAny_Call_method0_late hbase hline (d9 (ho p_ s σ H _ I h) fun v s1 zz=>?_);obtain⟨x,H1,I1,r1,ty,q1⟩:=zz;obtain⟨h1,h2⟩:=qbr I1 r1 ty;exact⟨T,id,pa,slot,hty,h1,h2,Calls.callWith_builtin rfl (PySem.evalArgs_none (hm p_ s1 σ H1 x [] v [] Q I1 r1 .nil q1))⟩
theorem qiv (pa:PlainAttrs T) (slot:Slot T name id) (hty:typeOf (.builtin id)=pure (.type "method_descriptor")) (hm:Wr X id r) (ho:PE X o to) (ha:PA X (e::es) t)
    (hbase:attributeBase o name X.env (eval o X.env)=eval o X.env:=by rfl)
    (hfew:((backTo cpos (starEach (e::es) X.env)).all (fun x=>!x.1) && (backToKw cpos (keywordEach [] X.env)).all (fun x=>x.1.isSome)
      && decide ((e::es).length+([]:List Keyword).length+(if ([]:List Keyword).isEmpty then 0 else 1)<30))=true:=by rfl)
    (hline:(apos.endLine == cpos.line)=true:=by rfl) (hs:starEach (e::es) X.env=(false,eval e X.env)::starEach es X.env:=by rfl) (hplain:(backTo cpos (starEach es X.env)).any (·.1)=false:=by rfl) :
    PE X (.Call (.Attribute o name apos) (e::es) [] cpos) (tBM X.K T r to t):=by
  intro p_ s σ H Q I h;refine wpAny_Call_method_late hbase hfew hline rfl (d9 (ho p_ s σ H _ I h) fun v s1 zz=>?_);obtain⟨x,H1,I1,r1,ty,q1⟩:=zz;obtain⟨h1,h2⟩:=qbr I1 r1 ty;refine⟨T,id,pa,slot,hty,h1,h2,?_⟩;have hA:=ha cpos p_ s1 σ H1 _ I1 q1;rw[hs] at hA ⊢;refine Calls.callWith_builtin (by show(false || (backTo cpos (starEach es X.env)).any (·.1))=false;rw[hplain] <;> rfl) (Calls.evalArgs_plain ?_)
  refine d9 hA fun us s2 zz=>?_;obtain⟨vs,H2,I2,r2,q2⟩:=zz;exact hm p_ s2 σ H2 x vs v us Q I2 r1 r2 q2
end
def MtM (X:Cx) (id:String) (r:V→List V→Hp→VK→Prop):Prop:=
  ∀(p_:List (Addr×Obj)) (s:Shared) (σ:St) (H:Hp) (x:V) (xs:List V) (v:Value) (us:List Value) (Q:VK),Inv X p_ σ H s→RelV x v→Vals xs us→r x xs H Q→
    wpAny (model X.prog X.w) X.A (call (.builtin id) (v::us)) (EP X p_ σ Q) X.xe s
theorem Vals.one {x:V} {us:List Value} (h:Vals [x] us):∃u,us=[u]∧RelV x u:=vals1 h
theorem Vals.two {x y:V} {us:List Value} (h:Vals [x,y] us):∃u v,us=[u,v]∧RelV x u∧RelV y v:=vals2 h
theorem Vals.eraseIdx:∀{xs:List V} {us:List Value} (i:Nat),Vals xs us→Vals (xs.eraseIdx i) (us.eraseIdx i)
  | _,_,_,.nil=>.nil
  | _,_,0,.cons _ t=>t
  | _,_,i+1,.cons r t=>.cons r (Vals.eraseIdx i t)
theorem Vals.rep {xs:List V} {us:List Value} (h:Vals xs us):∀k:Nat,Vals (List.replicate k xs).flatten (List.replicate k us).flatten
  | 0=>.nil
  | k+1=>by
    rw[List.replicate_succ,List.replicate_succ,List.flatten_cons,List.flatten_cons];exact Vals.append h (Vals.rep h k)
theorem Qt {α:Type}:∀(l:List α) (i:Nat),(l.eraseIdx i).length≤l.length
  | [],_=>Nat.le_refl _
  | _::_,0=>Nat.le_succ _
  | _::r,i+1=>Nat.succ_le_succ (Qt r i)
theorem foldl_rep (its:List Value):∀(k:Nat) (acc:List Value),
    List.foldl (fun x1 x2=>x1++x2) acc.toArray (List.replicate k its.toArray)=(acc++(List.replicate k its).flatten).toArray
  | 0,acc=>by simp
  | k+1,acc=>by
    have e:acc.toArray++its.toArray=(acc++its).toArray:=by simp
    have e2:(acc++its)++(List.replicate k its).flatten=acc++(List.replicate (k+1) its).flatten:=by
      rw[List.replicate_succ,List.flatten_cons,List.append_assoc]
    rw[← e2,← foldl_rep its k (acc++its),← e,List.replicate_succ,List.foldl_cons]
section
variable {X:Cx} {p_:List (Addr×Obj)} {σ:St} {H:Hp} {s:Shared} {l b:Addr} {xs ys zs:List V}
theorem Inv.qf3 {its its':List Value} {n:Nat} {f:Array Value→Array Value} {t':Nat} (I:Inv X p_ σ H s) (hH:H l=some (.lst xs))
    (e:s.heap.get? l=some {cls:=.type "list",data:=.seq its.toArray n}) (hf:f its.toArray=its'.toArray) (hv:Vals ys its') (hz:ys.length≤sizeLine) :
    Inv X p_ σ (upd H l (.lst ys)) {s with heap:=s.heap.update l (Obj.mapSeq f),toks:=t'}:=by
  have q:=PySem.IsL.update e f;rw[hf] at q;refine I.write (x:=l) (e:=l) (by rw[hH];exact trivial) (.inl rfl) (fun b' u hb hu=>(Heap.get?_update_other s.heap (Obj.mapSeq f) (Ne.symm hb)).trans hu) ⟨_,q⟩ ?_;exact⟨hz,its',_,hv,q⟩
theorem Inv.qdG {its:List Value} {t':Nat} (I:Inv X p_ σ H s) (hv:Vals ys its) (hz:ys.length≤sizeLine) :
    Inv X p_ σ (upd H s.heap.objs.size (.lst ys)) {s with heap:=s.heap.push {cls:=.type "list",data:=.seq its.toArray},toks:=t'}:=
  I.laid (fun _ _ q=>Heap.get?_push_of_some _ q) (Nat.le_refl _) ⟨hz,its,0,hv,Heap.get?_push_size _ rfl⟩
theorem Inv.fresh (I:Inv X p_ σ H s):H s.heap.objs.size=none:=I.hok.fresh (Nat.le_refl _)
theorem Inv.U3 (I:Inv X p_ σ H s) (hH:H l=some (.lst xs)):xs.length≤sizeLine∧∃(its:List Value) (n:Nat),Vals xs its∧xs.length=its.length∧s.heap.get? l=some {cls:=.type "list",data:=.seq its.toArray n}:=by
  obtain⟨z,its,n,r,e⟩:=I.hok l _ hH;exact⟨z,its,n,r,r.length,e⟩
theorem qbs {n:Nat} (h:n≤sizeLine):Builtin.List.listTooLong n=false:=by
  unfold Builtin.List.listTooLong;exact decide_eq_false (by omega)
end
section
variable {X:Cx}
def RK:V→List V→Hp→VK→Prop:=fun x vs H Q=>∃l xs y,x = .ref l∧vs=[y]∧H l=some (.lst xs)∧xs.length<sizeLine∧Q .non (upd H l (.lst (xs++[y])))
theorem Qu:MtM X "list.append" RK:=by
  intro p_ s σ H x vs v us Q I rx rv h;obtain⟨l,xs,y,rfl,rfl,hH,hz,q⟩:=h;cases rx;obtain⟨u,rfl,ru⟩:=rv.one;obtain⟨z,its,n,r,hl,e⟩:=I.U3 hH;refine call_meets F.slot_list_append ⟨_,e,rfl⟩ F.entry_list_append (F.args_list_append_2 _ _) (PySem.list_append l its.toArray n u (by rw[List.size_toArray];omega)) ⟨e,?_⟩;refine⟨.non,_,I.qf3 (its':=its++[u]) hH e (by simp) (r.append (.cons ru .nil)) ?_,rfl,q⟩;rw[List.length_append,List.length_singleton];omega
def qbt:V→List V→Hp→VK→Prop:=fun x vs H Q=>∃l xs i k y,x = .ref l∧vs=[.int i]∧H l=some (.lst xs)∧-(2 ^ 63)≤i∧i<2 ^ 63∧seqIndex? i xs.length=some k∧xs[k]? = some y∧Q y (upd H l (.lst (xs.eraseIdx k)))
theorem qbu:MtM X "list.pop" qbt:=by
  intro p_ s σ H x vs v us Q I rx rv h;obtain⟨l,xs,i,k,y,rfl,rfl,hH,h1,h2,hk,hy,q⟩:=h;cases rx;obtain⟨u,rfl,ru⟩:=rv.one;obtain⟨t,rfl⟩:=ru;obtain⟨z,its,n,r,hl,e⟩:=I.U3 hH;obtain⟨w,hw,Rr⟩:=r.get hy;refine call_meets F.slot_list_pop ⟨_,e,rfl⟩ F.entry_list_pop (F.args_list_pop_2 _ _)
    (MeetsSeq.list_pop_at l its.toArray n i t k w (fitsIndex_both h1 h2) (by rw[List.size_toArray,← hl];exact hk) (by rw[← Array.getElem?_toList];exact hw) (by rw[List.size_toArray];omega)) ⟨e,?_⟩
  refine⟨y,_,I.qf3 (its':=its.eraseIdx k) hH e ?_ (r.eraseIdx k) ?_,Rr,q⟩
  ·show its.toArray.eraseIdxIfInBounds k=(its.eraseIdx k).toArray;rw[List.eraseIdxIfInBounds_toArray]
  ·have:=Qt xs k;omega
def qiw:R2:=fun x y H Q=>∃l b xs zs,x = .ref l∧y = .ref b∧H l=some (.lst xs)∧H b=some (.lst zs)∧xs.length+zs.length≤sizeLine∧∀p,H p=none→Q (.ref p) (upd H p (.lst (xs++zs)))
theorem qf4:mR X (binaryOp .Add) qiw:=by
  intro p_ s σ H x y v u Q I rx ry h;obtain⟨l,b,xs,zs,rfl,rfl,hH,hB,hz,q⟩:=h;cases rx;cases ry;obtain⟨z,its,n,r,hl,e⟩:=I.U3 hH;obtain⟨z2,its2,n2,r2,hl2,e2⟩:=I.U3 hB;refine PySem.P.add_list e e2 ?_ (by rw[List.size_toArray,List.size_toArray];omega);have ea:its.toArray++its2.toArray=(its++its2).toArray:=by simp
  rw[ea];exact⟨.ref _,_,I.qdG (t':=s.toks) (r.append r2) (by rw[List.length_append];omega),rfl,q _ I.fresh⟩
def qn6:R2:=fun x y H Q=>∃l k xs,x = .ref l∧y = .int k∧H l=some (.lst xs)∧-(2 ^ 63)≤k∧k<2 ^ 63∧xs.length * k.toNat≤sizeLine∧
  ∀p,H p=none→Q (.ref p) (upd H p (.lst (List.replicate k.toNat xs).flatten))
theorem len_rep {α:Type} (xs:List α) (k:Nat):(List.replicate k xs).flatten.length=k * xs.length:=by
  induction k with
  | zero=>simp
  | succ k ih=>rw[List.replicate_succ,List.flatten_cons,List.length_append,ih,Nat.succ_mul,Nat.add_comm]
theorem qf5:mR X (binaryOp .Mult) qn6:=by
  intro p_ s σ H x y v u Q I rx ry h;obtain⟨l,k,xs,rfl,rfl,hH,h1,h2,hz,q⟩:=h;cases rx;obtain⟨t,rfl⟩:=ry;obtain⟨z,its,n,r,hl,e⟩:=I.U3 hH;have hlen:its.toArray.size * k.toNat≤sizeLine:=by rw[List.size_toArray,← hl];exact hz
  have hcap:¬its.toArray.size * k.toNat > (2 ^ 63 - 1) / 8:=by
    have:(sizeLine:Nat)≤(2 ^ 63 - 1) / 8:=by decide
    omega
  have hfit:¬(!Builtin.List.listFitsIndex k)=true:=by
    rw[fitsIndex_both h1 h2];exact Bool.false_ne_true
  have qix:¬Builtin.List.listTooLong (its.toArray.size * k.toNat)=true:=by
    rw[qbs hlen];exact Bool.false_ne_true
  have hnew:List.foldl (fun x1 x2=>x1++x2) #[] (List.replicate (if its.toArray.isEmpty=true then 0 else k.toNat) its.toArray)=(List.replicate k.toNat its).flatten.toArray:=by
    have f0:∀m:Nat,List.foldl (fun x1 x2=>x1++x2) #[] (List.replicate m its.toArray)=(List.replicate m its).flatten.toArray:=fun m=>by
      have:=foldl_rep its m [];rw[List.nil_append] at this;exact this
    rw[f0];cases its with
    | nil=>simp
    | cons a r'=>rw[if_neg (by simp)]
  refine wpAny_binaryOp_repeat_ref (T:= "list") (U:= "int") (by decide) ⟨_,e,rfl⟩ (fun s'=>typeIs_int s' k t) noFill_list_mul F.fills_int_mul F.slot_int_rmul repeat_list F.slot_int_index.lookup
    (call_meets F.slot_int_rmul (typeIs_int s k t) F.entry_int_rmul (F.args_int_rmul_2 _ _) (int___rmul___int_list k t l its.toArray n)
      ⟨e,rfl,⟨_,e,rfl⟩,call_meets F.slot_list_mul ⟨_,e,rfl⟩ F.entry_list_mul (F.args_list_mul_2 _ _) (AutoListH.list___mul___list_int_3 l its.toArray n k t hfit hcap qix) ⟨e,?_⟩⟩)
  rw[hnew];exact⟨.ref _,_,I.qdG (t':=s.toks) (r.rep k.toNat) (by rw[len_rep,Nat.mul_comm];exact hz),rfl,q _ I.fresh⟩
end
end L2
namespace Att
open PySem PySem.W PySem.Calls PyProof.Rows
theorem K9 {P:Params} {h:Heap}:∀(ns:List Int) (vs:List Value),WellAll P h vs (ns.map WData.int)→IntsAre vs ns:=by
  intro ns
  induction ns with
  | nil=>
    intro vs w;rw[List.map_nil] at w;cases w;exact .nil
  | cons n ns ih=>
    intro vs w;rw[List.map_cons] at w;cases w with
    | cons a b=>
      cases a;exact .cons _ _ (ih _ b)
theorem qab {l:OpenLaw} {n:Nat} (hn:l.most=some n) {P:Params} {h:Heap} {args:List WData} {vals:List Value}
    (hpre:l.row.toRowW.claim.pre args=true) (hwl:WellAll P h vals args) :
    ∃a vs ns,vals=[Value.ref a]∧args=[WData.list (ns.map WData.int)]∧h.get? a=some {cls:=.type "list",data:=.seq vs.toArray}∧IntsAre vs ns∧ns.length≤n:=by
  have hsh:WShape.hasAll [] args [.list .int]=true:=(pre_splitW hpre).1;have hc:l.pre.holds [] {args:=args}=true:=(pre_splitW hpre).2;obtain⟨d,r,rfl,h1,h2⟩:=hasAllW_cons hsh;obtain rfl:=hasAllW_nil h2;obtain⟨xs,rfl,h3⟩:=hasW_list h1;obtain⟨ns,rfl⟩:=items_int h3;have hlen:ns.length≤n:=by
    unfold OpenLaw.pre at hc;have h4:(WTm.not (.lt (.lit (.int (n:Int))) (.len (.arg 0)))).holds [] {args:=[.list (ns.map .int)]}=true:=by
      have h4:=(holds_andW hc).1;rw[hn] at h4;exact h4
    have h5:=condW_of h4 (w_not (w_lt w_lit (w_len_list (w_arg rfl))));rw[List.length_map] at h5;refine Nat.le_of_not_lt fun q=>?_;have q':(n:Int)<((ns.length:Nat):Int):=by omega
    first
      | (rw[decide_eq_true q'] at h5;exact absurd h5 (by decide))
      | (simp at h5;omega)
  cases hwl with
  | cons w1 w2=>
    cases w2;cases w1 with
    | list ho hall=>exact⟨_,_,ns,rfl,rfl,ho,K9 ns _ hall,hlen⟩
theorem qac (l:OpenLaw) (args:List WData):l.row.toRowW.claim.post args (.bool true) args=true:=
  postW_of (r:=l.row.toRowW) (X:=(true == true))
    (show WShape.has [] (.bool true) .bool=true by first | rfl | decide | simp[WShape.has,WShape.arms,WShape.armsAll])
    (show(WTm.eq .res (.lit (.bool true))).value [] {args:=args,res:=some (.bool true),after:=args}=some (.bool (true == true)) from w_eq_bool (w_res rfl) w_lit) rfl
theorem U4 {l:OpenLaw} {n:Nat} {q:Program} {loose:List Str} {XP:(Str→Option Value)→Heap→Prop} {YP:World→Heap→Prop} {d:DefRec}
    (hn:l.most=some n) (hdf:d.params.defaults=[])
    (call:∀(w:World) (s₀ s₁:Shared) (mg mb:Str→Option Value) (fa:Addr) (o:Obj) (pm cd doc:Value) (a:Addr) (vs:List Value) (ns:List Int),
      Ground q loose [] XP w s₀ mg mb s₁.heap→YP w s₁.heap→
      s₁.heap.get? fa=some o→o.data = .func (docDef d.name d.params d.body d.scope pm cd doc)→s₁.heap.CodeRec cd d.name→mg d.name=some (.ref fa)→
      s₁.heap.get? a=some {cls:=.type "list",data:=.seq vs.toArray}→IntsAre vs ns→ns.length≤n→s₁.gens = #[]→
      codeAny (model l.prog w) callerA (.call (.ref fa) ⟨[.ref a],[]⟩) (fun r s'=>r = .ok (.ret (.bool true))∧OldK s₁.heap s'.heap∧s'.os=s₁.os∧AllBare s'.gens) s₁) :
    WalkO q loose XP YP l.row.toRowW d [] (fun f vs=>PySem.call f vs):=by
  intro w s₀ s₁ mg mb G Y fa o pm cd doc dV kV ho hd hcd hD hmg hg args vals as hpre hlay hrd hwl hlo;obtain rfl:dV = .none:=Dflts.none hD hdf;obtain rfl:kV = .none:=Dflts.noKw hD;obtain⟨a,vs,ns,rfl,rfl,hobj,hints,hlen⟩:=qab hn hpre hwl;refine enter_call (codeAny_mono (call w s₀ s₁ mg mb fa o pm cd doc a vs ns G Y ho (fd_plain hd) hcd hmg hobj hints hlen hg) fun r s' hq=>?_);obtain⟨rfl,h2,h3,h4⟩:=hq;exact⟨.inl ⟨.bool true,.bool true,[],rfl,fun _=>rfl,.bool true,qac l _,fun _=>⟨List.Pairwise.nil,fun _ hm=>(nomatch hm)⟩⟩,h2,h3,h4⟩
end Att
namespace L2
open PySem PySem.Spec PyProof.Rows
theorem Qv:∀{vs:List Value} {ns:List Int},IntsAre vs ns→Vals (ns.map V.int) vs
  | _,_,.nil=>.nil
  | _,_,.cons n t h=>.cons ⟨t,rfl⟩ (Qv h)
def Only (H:Hp):Prop:=∀b,H b=none∨∃o xs,H b=some (.Ut o (.lst xs))
theorem qbw {P:Program} {w:World} {K:W.Frag} {mg mb:Str→Option Value} {CX:Z_} {k:Nat} {fa a:Addr} {fd:FuncData} {x:Str} {sp:Sp} {s₁:Shared} {vs:List Value} {ns:List Int}
    (KX:K.In s₁.heap) (hns:s₁.heap.Ns mainGlobals mg) (hb:s₁.heap.Ns builtinsNs mb) (hbb:∀x:Str,x≠ "__name__" →mb x=bootBuiltins x) (hlim:s₁.heap.NoLimit) (hg:s₁.gens = #[])
    (ha:s₁.heap.get? a=some {cls:=.type "list",data:=.seq vs.toArray}) (hi:IntsAre vs ns) (hl:ns.length≤sizeLine) (hr:nH k callerA)
    (F:∀base:Heap,K.In base→base.Ns mainGlobals mg→cT P w K mg base CX k fa fd [x] sp) (hbind:∀(s:Shared) (u:Value),BindsTo s fd ⟨[u],[]⟩ [(x,u)])
    (hsp:∀H:Hp,Only H→cj K H a (ns.map V.int)→sp [.ref a] H (fun v _=>v = .bl true) fun _ _ _=>False)
    (hCX:∀H e s',CX [] H s₁ (fun _ _ _=>False) e s'→False) :
    codeAny (model P w) callerA (.call (.ref fa) ⟨[.ref a],[]⟩) (fun r s'=>r = .ok (.ret (.bool true))∧OldK s₁.heap s'.heap∧s'.os=s₁.os∧AllBare s'.gens) s₁:=by
  have rv:=Qv hi;have lenV:=hi.length;have core:∀H:Hp,Only H→cj K H a (ns.map V.int)→Du P w H s₁.heap→(∀b,H b≠none→b=a)→(H a≠none→K.lookup a=none)→
      codeAny (model P w) callerA (.call (.ref fa) ⟨[.ref a],[]⟩) (fun r s'=>r = .ok (.ret (.bool true))∧OldK s₁.heap s'.heap∧s'.os=s₁.os∧AllBare s'.gens) s₁:=by
    intro H hO hS hok hA hK;have YS:∀{b:Addr} {o:Obj},s₁.heap.get? b=some o→H b=none→(Rq s₁.heap H).get? b=some o:=fun e n=>qa2 e n;have noA:∀{b:Addr} {o:Obj} {es:Array DictEntry} {ep:Nat},s₁.heap.get? b=some o→o.data = .dict es ep→H b=none:=fun {b o es ep} e d=>by
      cases q:H b with
      | none=>rfl
      | some u=>
        have e':b=a:=hA b (by rw[q];simp);subst e';rw[ha] at e;cases e;have d':Data.seq vs.toArray _=Data.dict es ep:=d;cases d'
    have nsK:∀{b:Addr} {m:Str→Option Value},s₁.heap.Ns b m→(Rq s₁.heap H).Ns b m:=fun {b m} ⟨o,es,ep,e,d,r⟩=>⟨o,es,ep,YS e (noA e d),d,r⟩;have hKb:K.In (Rq s₁.heap H):=fun b o e=>YS (KX b o e) (by
      cases q:H b with
      | none=>rfl
      | some u=>
        have e':b=a:=hA b (by rw[q];simp);subst e';rw[hK (by rw[q];simp)] at e;cases e)
    have hM:Mod K mg (Rq s₁.heap H):=⟨hKb,nsK hns,⟨mb,nsK hb,hbb⟩,let ⟨mc,h1,h2⟩:=hlim;⟨mc,nsK h1,h2⟩⟩;have e0:UL P w K mg (Rq s₁.heap H) callerA [] s₁ H:=⟨rfl,hM,fun b o e=>qdn e,Nat.le_of_eq (ZM _ _),trivial,fun b hb=>absurd (show b∈([]:List Addr) from hb) (by simp),hok,.of_eq hg⟩;refine codeAny_mono ((F _ hKb (nsK hns)).run callerA [] s₁ H ⟨[.ref a],[]⟩ [.ref a] [.ref a] _ _ hr e0 (hbind s₁ (.ref a)) (.cons rfl .nil) (hsp H hO hS)) fun r s' h=>?_;cases r with
    | error e=>exact(hCX H e s' h).elim
    | ok fl=>
      cases fl with
      | next=>exact False.elim h
      | brk=>exact False.elim h
      | cont=>exact False.elim h
      | ret u=>
        obtain⟨v,H',os,bare,un,hok',r',q⟩:=h;have q':v = .bl true:=q;subst q';obtain rfl:u=Value.bool true:=r';refine⟨rfl,OldK.of_keep fun b o e=>?_,os,bare⟩;cases q:H b with
        | none=>exact un.keep b o e q (by intro z;exact absurd (show b∈([]:List Addr) from z) (by simp)) (by simp)
        | some u=>
          rcases hO b with z | ⟨ob,xs,z⟩
          ·rw[q] at z;cases z
          ·have z2:=un.Gm b ob _ z;obtain⟨e1,_⟩:=hok b _ z;obtain⟨e2,_⟩:=hok' b _ z2;rw[e] at e1;cases e1;exact e2
  cases hk:K.lookup a with
  | some o=>
    have e:=KX a o hk;rw[ha] at e;cases e;refine core (fun _=>none) (fun _=>.inl rfl) (.inr ⟨_,vs.toArray,_,hk,rfl,rfl,rfl,by rw[List.size_toArray,lenV];exact hl,by simpa using rv⟩) (fun b u z=>by have z':(none:Option HO)=some u:=z;cases z') (fun b z=>absurd rfl z) fun z=>absurd rfl z
  | none=>
    refine core (fun b=>if b=a then some (.Ut {cls:=.type "list",data:=.seq vs.toArray} (.lst (ns.map V.int))) else none) (fun b=>?_) (.inl (.inr ⟨{cls:=.type "list",data:=.seq vs.toArray},if_pos rfl⟩)) (fun b u z=>?_) (fun b z=>?_) fun _=>hk
    · by_cases hb:b=a
      ·exact .inr ⟨_,_,if_pos hb⟩
      ·exact .inl (if_neg hb)
    · by_cases hb:b=a
      ·have z':=(if_pos hb).symm.trans z;cases z';subst hb;exact⟨ha,by rw[List.length_map];exact hl,vs,_,rv,ha⟩
      ·have z':=(if_neg hb).symm.trans z;cases z'
    · by_cases hb:b=a
      ·exact hb
      ·exact absurd (if_neg hb) z
theorem qdH {l:W.OpenLaw} {n k:Nat} {q:Program} {loose:List Str} {XP:(Str→Option Value)→Heap→Prop} {YP:World→Heap→Prop} {d:DefRec} {K:Params→W.Frag} {CX:World→Z_} {sp:World→Sp} {x:Str}
    (hn:l.most=some n) (hn2:n≤sizeLine) (hdf:d.params.defaults=[]) (hr:nH k callerA)
    (hY:∀(w:World) (h:Heap),YP w h→(K w.params).In h)
    (F:∀(w:World) (mg:Str→Option Value) (fa:Addr) (h:Heap),(K w.params).In h→h.Ns mainGlobals mg→mg d.name=some (.ref fa)→
      ∃fd:FuncData,(∀(s:Shared) (u:Value),BindsTo s fd ⟨[u],[]⟩ [(x,u)])∧
        ∀base:Heap,(K w.params).In base→base.Ns mainGlobals mg→cT l.prog w (K w.params) mg base (CX w) k fa fd [x] (sp w))
    (hsp:∀(w:World) (H:Hp) (a:Addr) (ns:List Int),ns.length≤n→Only H→cj (K w.params) H a (ns.map V.int)→sp w [.ref a] H (fun v _=>v = .bl true) fun _ _ _=>False)
    (hCX:∀(w:World) (H:Hp) (s:Shared) (e:Value) (s':Shared),CX w [] H s (fun _ _ _=>False) e s'→False) :
    W.WalkO q loose XP YP l.row.toRowW d [] (fun f vs=>PySem.call f vs):=by
  refine Att.U4 hn hdf fun w s₀ s₁ mg mb fa o pm cd doc a vs ns G Y ho hd hcd hmg hobj hints hlen hg=>?_;have KX:=hY w _ Y;obtain⟨fd,hb,hF⟩:=F w mg fa _ KX G.T.g hmg;exact qbw KX G.T.g G.T.b G.T.builtins G.T.nolimit hg hobj hints (Nat.le_trans hlen hn2) hr hF hb (fun H hO hS=>hsp w H a ns hlen hO hS) fun H e s'=>hCX w H s₁ e s'
def inClass (s:Stmt) (j:Nat):Stmt:=match s with
  | .ClassDef _ _ _ body _ _ _ _ _ _ _=>body.getD j (.Pass ⟨0,0,0,0⟩)
  | _=>.Pass ⟨0,0,0,0⟩
def aN (s:Stmt):Arguments:=match s with
  | .FunctionDef _ a _ _ _ _ _ _ _ _=>a
  | _=>{posonlyargs:=[],args:=[],vararg:=none,kwonlyargs:=[],kw_defaults:=[],kwarg:=none,defaults:=[]}
def aM (s:Stmt):List Stmt:=match s with
  | .FunctionDef _ _ b _ _ _ _ _ _ _=>b
  | _=>[]
def ao (s:Stmt):Scope:=match s with
  | .FunctionDef _ _ _ _ _ _ sc _ _ _=>sc
  | _=>{kind:=.function,names:=[],isGenerator:=false,isCoroutine:=false}
abbrev rN:Z_:=fun _ _ _ _ _ _=>False
abbrev E0:XK:=fun _ _ _=>False
theorem bD {X:Cx}:Passes rN X E0:=fun _ _ _ _ _ _ _ h=>h.elim
structure p7 (K:W.Frag) (x qual:Str) (st:Stmt) (f:Addr) (fd:FuncData):Prop where
  ex:∃(oc:Value) (od:Option Addr) (kV doc pm:Value) (an:Option Addr) (cdv ct:Value) (osl:Array (Option Value)),
    fd=W.fnOf x qual (aN st) (aM st) (ao st) .none kV doc pm an cdv ct∧K.lookup f=some ⟨oc,od,.func fd,osl⟩∧W.codeIn K cdv qual=true
  kp:W.keepIn K (.ref f)=true
section
variable {P:Program} {w:World} {K:W.Frag} {mg:Str→Option Value} {base:Heap}
theorem p7.ok {x qual:Str} {st:Stmt} {f:Addr} {fd:FuncData} {N ps:List Str} {k:Nat} {sp:Sp} (F:p7 K x qual st f fd) (S:bF N ps (ao st)) (len:∀vs H Q E,sp vs H Q E→vs.length=ps.length)
    (hbody:∀(cdv:Value) (A:Around) (outer:List Env) (s:Shared) (H:Hp) (vs:List V) (Q:VK) (E:XK),nH k (A.deeper (envOfC qual (ao st) s.heap.objs.size f cdv))→sp vs H Q E→
      ∃t,Ph (aF rN P w K mg base N qual (ao st) f cdv A outer s H E).nox (aM st) t∧t {nx:=fun _ H'=>Q .non H',rt:=Q} (start N vs) H):cT P w K mg base rN (k+1) f fd ps sp:=by
  obtain⟨oc,od,kV,doc,pm,an,cdv,ct,osl,rfl,lk,hcd⟩:=F.ex;refine qeS lk hcd S len fun A outer s H vs Q E hr hsp=>?_;obtain⟨t,h,q⟩:=hbody cdv A outer s H vs Q E hr hsp;exact⟨t,h.nox,q⟩
theorem p7.binds {x qual:Str} {st:Stmt} {f:Addr} {fd:FuncData} {ps:List Str} (F:p7 K x qual st f fd)
    (h:∀(kV doc pm:Value) (an:Option Addr) (cdv ct:Value) (us:List Value),us.length=ps.length→bindArgs (W.fnOf x qual (aN st) (aM st) (ao st) .none kV doc pm an cdv ct) ⟨us,[]⟩=pure (ps.zip us)):Binds K fd ps []:=by
  obtain⟨oc,od,kV,doc,pm,an,cdv,ct,osl,rfl,lk,hcd⟩:=F.ex;exact .all (h kV doc pm an cdv ct)
theorem cC {x qual:Str} {st:Stmt} {f:Addr} {oc:Value} {od an:Option Addr} {osl:Array (Option Value)} {kV doc pm cdv ct:Value} (l:K.lookup f=some ⟨oc,od,.func (W.fnOf x qual (aN st) (aM st) (ao st) .none kV doc pm an cdv ct),osl⟩)
    (c:W.codeIn K cdv qual=true) (k:W.keepIn K (.ref f)=true):p7 K x qual st f (W.fnOf x qual (aN st) (aM st) (ao st) .none kV doc pm an cdv ct):=⟨⟨oc,od,kV,doc,pm,an,cdv,ct,osl,rfl,l,c⟩,k⟩
end
theorem Mj {A:Around} {k:Nat} (hr:nH k A):A.units+1<cLine:=Nat.lt_of_le_of_lt (Nat.add_le_add_left (by decide:1≤64) _) hr.units
def Same (H H':Hp):Prop:=∀b o,H b=some o→H' b=some o
theorem Same.refl (H:Hp):Same H H:=fun _ _ h=>h
theorem Same.trans {H H1 H2:Hp} (a:Same H H1) (b:Same H1 H2):Same H H2:=fun c o h=>b c o (a c o h)
theorem Same.seq {K:W.Frag} {H H':Hp} {a:Addr} {xs:List V} (e:Same H H') (h:cj K H a xs):cj K H' a xs:=by
  rcases h with(h | ⟨o,h⟩) | h
  ·exact .inl (.inl (e _ _ h))
  ·exact .inl (.inr ⟨o,e _ _ h⟩)
  ·exact .inr h
def zy (env:Env) (cs:List (Str×Addr)) (p:Str×NameKind):List (Str×Addr):=if p.2 == .free then (p.1,(env.cells.lookup p.1).getD 0)::cs else cs
def U5 (env:Env) (names:List (Str×NameKind)):List (Str×Addr):=names.foldl (zy env) []
theorem Ky {α β:Type} (f:α→β→Sem (ForInStep β)) (g:β→α→β):∀(l:List α) (b:β),(∀x∈l,∀b,f x b=pure (.yield (g b x)))→forIn l b f=pure (l.foldl g b)
  | [],_,_=>rfl
  | x::l,b,h=>by
    rw[List.forIn_cons,h x List.mem_cons_self,pure_bind];exact Ky f g l (g b x) fun y hy=>h y (List.mem_cons_of_mem _ hy)
theorem CT {sc:Scope} {env:Env} (h:∀x,(x,NameKind.free)∈sc.names→∃c,env.cells.lookup x=some c):closureFor sc env=pure (U5 env sc.names):=by
  simp only[closureFor];rw[Ky _ (zy env) sc.names [] (fun p hp cs=>by
    obtain⟨n,k⟩:=p;cases k with
    | free=>
      obtain⟨c,hc⟩:=h n hp;simp only[zy,cellOf,hc,beq_self_eq_true,if_true,Option.getD_some,pure_bind]
    | _=>simp only[zy];rfl)]
  rfl
theorem Hw {env:Env}:∀(names:List (Str×NameKind)) (acc:List (Str×Addr)) (x:Str) (c:Addr),(∀x,(x,NameKind.free)∈names→∃c,env.cells.lookup x=some c)→(∀x c,(x,c)∈acc→env.cells.lookup x=some c)→
    (x,c)∈names.foldl (zy env) acc→env.cells.lookup x=some c
  | [],_,x,c,_,h,m=>h x c m
  | (n,k)::r,acc,x,c,hf,h,m=>by
    refine Hw r (zy env acc (n,k)) x c (fun y hy=>hf y (List.mem_cons_of_mem _ hy)) (fun y d hy=>?_) m;unfold zy at hy;split at hy
    · rename_i hk;have hk':k = .free:=by simpa using hk
      subst hk';obtain⟨e,he⟩:=hf n List.mem_cons_self
      rcases List.mem_cons.mp hy with z | z
      ·cases z;show env.cells.lookup n=some _;rw[he];rfl
      ·exact h y d z
    ·exact h y d hy
theorem Jz {env:Env} {x:Str}:∀(names:List (Str×NameKind)) (acc:List (Str×Addr)),((x,NameKind.free)∈names∨(acc.lookup x).isSome=true)→((names.foldl (zy env) acc).lookup x).isSome=true
  | [],_,h=>h.elim (fun z=>nomatch z) id
  | (n,k)::r,acc,h=>by
    refine Jz r (zy env acc (n,k)) ?_
    by_cases hm:(x,NameKind.free)∈r
    ·exact .inl hm
    · refine .inr ?_;unfold zy
      rcases h with h | h
      · rcases List.mem_cons.mp h with z | z
        ·cases z;simp[List.lookup_cons]
        ·exact absurd z hm
      · split
        ·simp only[List.lookup_cons];cases x == n <;> simp[h]
        ·exact h
def Ml (env:Env) (sc:Scope) (C:Addr):List (Str×Addr):=cellsFrom (C+1) sc.names (U5 env sc.names)
theorem nM {x:Str}:∀(names:List (Str×NameKind)) (n:Nat) (acc:List (Str×Addr)),(x,NameKind.cell)∈names∨(acc.lookup x).isSome=true→((cellsFrom n names acc).lookup x).isSome=true
  | [],_,_,h=>h.elim (fun z=>nomatch z) id
  | (y,k)::r,n,acc,h=>by
    unfold cellsFrom;split
    · refine nM r (n+1) ((y,n)::acc) ?_
      by_cases hm:(x,NameKind.cell)∈r
      ·exact .inl hm
      · refine .inr ?_
        rcases h with h | h
        · rcases List.mem_cons.mp h with z | z
          ·cases z;simp[List.lookup_cons]
          ·exact absurd z hm
        ·simp only[List.lookup_cons];cases x == y <;> simp[h]
    · rename_i hk;refine nM r n acc ?_
      rcases h with h | h
      · rcases List.mem_cons.mp h with z | z
        ·cases z;exact absurd rfl hk
        ·exact .inl z
      ·exact .inr h
theorem W0:∀(names:List (Str×NameKind)) (h:Heap) (acc:List (Str×Addr)) (x:Str) (c:Addr),(x,c)∈cellsFrom h.objs.size names acc→(x,c)∈acc∨(h.objs.size≤c∧(pushCells h names).IsCell c none)
  | [],_,_,_,_,m=>.inl m
  | (n,k)::r,h,acc,x,c,m=>by
    unfold cellsFrom at m;unfold pushCells;split at m
    · rename_i hk;rw[if_pos hk];have m':(x,c)∈cellsFrom (h.push {cls:=.type "cell",data:=.cell none}).objs.size r ((n,h.objs.size)::acc):=by rw[Heap.size_push];exact m
      rcases W0 r (h.push {cls:=.type "cell",data:=.cell none}) _ x c m' with z | ⟨z1,z2⟩
      · rcases List.mem_cons.mp z with e | e
        ·cases e;exact .inr ⟨Nat.le_refl _,⟨_,pushCells_keeps _ _ _ _ (Heap.get?_push_size _ rfl),rfl⟩⟩
        ·exact .inl e
      ·rw[Heap.size_push] at z1;exact .inr ⟨by omega,z2⟩
    ·rename_i hk;rw[if_neg hk];exact W0 r h acc x c m
theorem W2 {n0:Nat} {x:Str}:∀(names:List (Str×NameKind)) (n:Nat) (acc:List (Str×Addr)) (c:Addr),((x,NameKind.cell)∈names∨∀d,acc.lookup x=some d→n0≤d)→n0≤n→(cellsFrom n names acc).lookup x=some c→n0≤c
  | [],_,_,c,h,_,e=>h.elim (fun z=>nomatch z) fun z=>z c e
  | (y,k)::r,n,acc,c,h,hn,e=>by
    unfold cellsFrom at e;split at e
    · refine W2 r (n+1) ((y,n)::acc) c ?_ (by omega) e
      by_cases hm:(x,NameKind.cell)∈r
      ·exact .inl hm
      · refine .inr fun d hd=>?_
        by_cases hxy:x=y
        · subst hxy;have hnd:n=d:=by simpa [List.lookup_cons] using hd
          rw[← hnd];exact hn
        · have hb:(x == y)=false:=by simpa using hxy
          simp only[List.lookup_cons,hb] at hd
          rcases h with h | h
          · rcases List.mem_cons.mp h with z | z
            ·cases z;exact absurd rfl hxy
            ·exact absurd z hm
          ·exact h d hd
    · rename_i hk;refine W2 r n acc c ?_ hn e
      rcases h with h | h
      · rcases List.mem_cons.mp h with z | z
        ·cases z;exact absurd rfl hk
        ·exact .inl z
      ·exact .inr h
theorem W4:∀(names:List (Str×NameKind)) (n:Nat) (acc:List (Str×Addr)),(∀y d,(y,d)∈acc→d<n)→(∀y z d,(y,d)∈acc→(z,d)∈acc→y=z)→
    ∀y z d,(y,d)∈cellsFrom n names acc→(z,d)∈cellsFrom n names acc→y=z
  | [],_,_,_,h=>h
  | (x,k)::r,n,acc,hl,h=>by
    unfold cellsFrom;split
    · refine W4 r (n+1) ((x,n)::acc) (fun y d hm=>?_) fun y z d h1 h2=>?_
      · rcases List.mem_cons.mp hm with e | e
        ·cases e;exact Nat.lt_succ_self _
        ·exact Nat.lt_succ_of_lt (hl y d e)
      · rcases List.mem_cons.mp h1 with e1 | e1 <;> rcases List.mem_cons.mp h2 with e2 | e2
        ·cases e1;cases e2;rfl
        ·cases e1;exact absurd (hl z n e2) (Nat.lt_irrefl _)
        ·cases e2;exact absurd (hl y n e1) (Nat.lt_irrefl _)
        ·exact h y z d e1 e2
    ·exact W4 r n acc hl h
abbrev NoE:Value→Shared→Prop:=fun _ _=>False
theorem U6 {prog:Program} {w:World} {A:Around} {R:Result→Shared→Prop} {s:Shared} {elt target iter:Expr} {ifs:List Expr} {scope:Scope} {pos:Pos} {it acc:Value} {env:Env} (I:Nat→Shared→Prop)
    (turn:∀n s,I n s→wpAny (model prog w) A (pyNext it) (fun r s₁=>match r with
      | none=>R (.ok .next) s₁
      | some v=>wpAny (model prog w) A (letOwnedTupleGo target it v) (fun _ s₂=>wpAny (model prog w) A (assign target env v) (fun _ s₃=>
          wpAny (model prog w) A (forIn ifs true fun c r=>if r=true then do let ok ← isTrue c env (eval c env);pure (ForInStep.yield ok) else pure (ForInStep.yield r)) (fun ok s₄=>
            if ok=true then wpAny (model prog w) A (eval elt env) (fun x s₅=>
              wpAny (model prog w) A (call (.builtin "list.append") [acc,x]) (fun _ s₆=>∃m,m<n∧I m s₆) NoE s₅) NoE s₄
            else ∃m,m<n∧I m s₄) NoE s₃) NoE s₂) NoE s₁) NoE s)
    (n:Nat) (h:I n s):codeAny (model prog w) A (.compLoop (.ListComp elt [⟨target,iter,ifs,0⟩] scope pos) 0 it acc env) R s:=by
  refine codeAny_loop rfl I (fun n s hI=>?_) n h;show wpAny _ A ((compTurn (.ListComp elt [⟨target,iter,ifs,0⟩] scope pos) 0 it acc env).onRaise (fun x=>do noteFrame x env;theTreesLotGoes x)) _ _ s
  refine wpAny_noted ?_;rw[compTurn_list];refine wpAny_bind (wpAny_standAt (wpAny_bind (wpAny_mono (turn n s hI) (fun r s₁ h₁=>?_) fun _ _ h'=>h'.elim)));cases r with
  | none=>exact wpAny_pure h₁
  | some v=>
    refine wpAny_bind (wpAny_mono h₁ (fun _ s₂ h₂=>?_) fun _ _ h'=>h'.elim);refine wpAny_bind (wpAny_mono h₂ (fun _ s₃ h₃=>wpAny_bind (wpAny_mono h₃ (fun ok s₄ h₄=>?_) fun _ _ h'=>h'.elim)) fun _ _ h'=>h'.elim);cases ok with
    | false=>exact wpAny_pure ⟨rfl,h₄⟩
    | true=>
      exact wpAny_bind (wpAny_bind (wpAny_mono h₄ (fun x s₅ h₅=>wpAny_bind (wpAny_mono h₅ (fun _ s₆ h₆=>wpAny_pure (wpAny_pure ⟨rfl,h₆⟩)) fun _ _ h'=>h'.elim)) fun _ _ h'=>h'.elim))
def g_ (X:Cx) (sc:Scope) (N:List Str) (C:Addr) (s:Shared) (H:Hp) (fp:List Addr) (pn:List (Addr×Obj)):Cx:=
  {X with env:=compEnvC sc (Ml X.env sc C) C X.env,N:=N,s₀:=s,H₀:=H,outer:=X.stack,ex:=fp,fn:=fun x=>sc.names.any fun p=>p.1 == x && p.2 == .cell,pn:=pn,xe:=NoE}
theorem DG {sc:Scope} {env:Env} (x:Str):(relabel sc env).names.lookup x=(sc.names.lookup x).map fun k=>if (k == NameKind.free && env.scope.kind == .function && env.kindOf x == some .cell)=true then NameKind.cell else k:=by
  unfold relabel;show List.lookup x (sc.names.map _)=_
  induction sc.names with
  | nil=>rfl
  | cons p r ih=>
    obtain⟨n,k⟩:=p;rw[List.map_cons];have e1:(if (k == NameKind.free && env.scope.kind == .function && env.kindOf n == some .cell)=true then (n,NameKind.cell) else (n,k))=(n,if (k == NameKind.free && env.scope.kind == .function && env.kindOf n == some .cell)=true then NameKind.cell else k):=by split <;> rfl
    show List.lookup x ((if (k == NameKind.free && env.scope.kind == .function && env.kindOf n == some .cell)=true then (n,NameKind.cell) else (n,k))::_)=_
    rw[e1]
    by_cases hx:x=n
    ·subst hx;simp only[List.lookup_cons,beq_self_eq_true,Option.map_some]
    · have hb:(x == n)=false:=by simpa using hx
      simp only[List.lookup_cons,hb];exact ih
structure bL (ps sc:Scope) (pN own:List Str) (caps:List Nat) (N:List Str):Prop where
  kind:sc.kind = .function
  uniq:∀p∈sc.names,sc.names.lookup p.1=some p.2
  nd:N.Nodup
  names:N=own++caps.map fun j=>pN.getD j ""
  free:∀p∈sc.names,p.2 = .free→ps.names.lookup p.1=some .cell∨ps.names.lookup p.1=some .free
  qn7:∀j∈caps,j<pN.length∧sc.names.lookup (pN.getD j "")=some .free
def stC (own:List Str) (caps:List Nat) (σ:St):St:=own.map (fun _=>none)++caps.map fun j=>(σ[j]?).getD none
section
variable {X:Cx} {p_:List (Addr×Obj)} {σ:St} {H:Hp} {s:Shared} {ps sc:Scope} {own pN:List Str} {caps:List Nat} {N:List Str} {fp:List Addr}
theorem bL.cells (S:bL ps sc pN own caps N) (hps:X.env.scope=ps) (ok:X.Ok):∀x,(x,NameKind.free)∈sc.names→∃c,X.env.cells.lookup x=some c:=fun x hx=>by
  refine ok.has x ?_;show X.env.scope.names.lookup x=_∨X.env.scope.names.lookup x=_;rw[hps];exact S.free (x,.free) hx rfl
theorem Mp (hfr:∀x,(x,NameKind.free)∈sc.names→∃c,X.env.cells.lookup x=some c) {C:Addr} {x:Str} {c:Addr} {h:Heap} (hC:C+1=h.objs.size) (m:(x,c)∈Ml X.env sc C):X.env.cells.lookup x=some c∨(h.objs.size≤c∧(pushCells h sc.names).IsCell c none):=by
  unfold Ml at m;rw[hC] at m
  rcases W0 sc.names h _ x c m with z | z
  ·exact .inl (Hw sc.names [] x c hfr (fun _ _ z=>nomatch z) z)
  ·exact .inr z
theorem YT (I:Inv X p_ σ H s) (hps:X.env.scope=ps) (S:bL ps sc pN own caps N) (hf:∀b∈fp,Gp X p_ H b) (ho:∀b∈fp,∃o,s.heap.get? b=some o∧∀v,o.data≠.cell v) :
    (g_ X sc N s.heap.objs.size s H fp (X.pn++p_)).Ok where
  mod:=I.ok.mod
  kind:=S.kind
  glob:=I.ok.glob
  blt:=I.ok.blt
  above:=Nat.le_refl _
  inj:=fun x y c h1 h2=>by
    have cl:∀y d,(y,d)∈U5 X.env sc.names→X.env.cells.lookup y=some d:=fun y d m=>Hw sc.names [] y d (S.cells hps I.ok) (fun _ _ z=>nomatch z) m;refine W4 sc.names (s.heap.objs.size+1) (U5 X.env sc.names) (fun y d m=>?_) (fun y z d m1 m2=>I.ok.inj y z d (cl y d m1) (cl z d m2)) x y c (PySem.mem_of_lookup h1) (PySem.mem_of_lookup h2);obtain⟨v,q⟩:=I.cell y d (cl y d m);exact Nat.lt_succ_of_lt q.lt
  has:=fun x hx=>by
    have hx1:(relabel sc X.env).names.lookup x=some .cell∨(relabel sc X.env).names.lookup x=some .free:=hx;have hx':(x,NameKind.cell)∈sc.names∨(x,NameKind.free)∈sc.names:=by
      rw[DG] at hx1;cases e:sc.names.lookup x with
      | none=>rw[e] at hx1;simp at hx1
      | some k=>
        rw[e] at hx1;have hm:=PySem.mem_of_lookup e;cases k with
        | free=>exact .inr hm
        | cell=>exact .inl hm
        | _=>simp at hx1
    have q:((cellsFrom (s.heap.objs.size+1) sc.names (U5 X.env sc.names)).lookup x).isSome=true:=by
      rcases hx' with z | z
      ·exact nM sc.names _ _ (.inl z)
      ·exact nM sc.names _ _ (.inr (Jz sc.names [] (.inl z)))
    exact Option.isSome_iff_exists.mp q
  cab:=fun x c hx h=>by
    have hx':(x,NameKind.cell)∈sc.names:=by
      have hx:(sc.names.any fun p=>p.1 == x && p.2 == .cell)=true:=hx;obtain⟨⟨a,b⟩,hm,he⟩:=List.any_eq_true.mp hx;simp at he;obtain⟨rfl,rfl⟩:=he;exact hm
    exact W2 (n0:=s.heap.objs.size) sc.names (s.heap.objs.size+1) (U5 X.env sc.names) c (.inl hx') (Nat.le_succ _) h
  hd:=I.ok.hd
  frames:=I.ok.frames
  stk:=.inl rfl
  exf:=fun b hb=>by
    obtain⟨o,e,_⟩:=ho b hb;refine⟨Nat.ne_of_lt (Heap.lt_size e),fun x c h z=>?_⟩;subst z
    rcases Mp (S.cells hps I.ok) (h:=s.heap.push {cls:=.type "dict",data:=.dict #[]}) (by rw[Heap.size_push]) (PySem.mem_of_lookup h) with q | ⟨q,_⟩
    ·exact(hf c hb).2.2.2.2.1 x c q rfl
    ·rw[Heap.size_push] at q;exact absurd (Nat.lt_of_lt_of_le (Nat.lt_of_lt_of_le (Heap.lt_size e) (Nat.le_succ _)) q) (Nat.lt_irrefl _)
  bs:=I.bs
  ZP:=Nat.le_trans I.ok.ZP I.sz
  Uu:=fun b o e hb=>by
    rcases(hf b hb).2.2.2.1 with z | z
    ·exact I.ok.Uu b o e z
    ·exact absurd (Nat.lt_of_lt_of_le (Heap.lt_size e) (Nat.le_trans I.ok.ZP z)) (Nat.lt_irrefl _)
  Uv:=fun b hb z=>by
    rcases List.mem_cons.mp (I.Gn b z) with q | q
    ·exact(hf b hb).2.1 q
    ·exact(hf b hb).2.2.1 q
  Dv:=I.stack
  frf:=I.Le
def blockAt (sc:Scope) (s:Shared):Shared:={s with heap:=pushCells (s.heap.push {cls:=.type "dict",data:=.dict #[]}) sc.names}
theorem qbx (I:Inv X p_ σ H s) (hps:X.env.scope=ps) (hpN:X.N=pN) (S:bL ps sc pN own caps N) (hf:∀b∈fp,Gp X p_ H b) (ho:∀b∈fp,∃o,s.heap.get? b=some o∧∀v,o.data≠.cell v) :
    Inv (g_ X sc N s.heap.objs.size s H fp (X.pn++p_)) [] (stC own caps σ) H (blockAt sc s):=by
  have hk:∀b o,s.heap.get? b=some o→(blockAt sc s).heap.get? b=some o:=fun b o e=>pushCells_keeps _ _ b o (Heap.get?_push_of_some _ e);have hns:(blockAt sc s).heap.Ns s.heap.objs.size fun _=>none:=(Heap.Ns.new s.heap (.type "dict")).keeps (pushCells_keeps _ _);have hcl:∀x c,(Ml X.env sc s.heap.objs.size).lookup x=some c→X.env.cells.lookup x=some c∨(s.heap.objs.size+1≤c∧(blockAt sc s).heap.IsCell c none):=fun x c e=>by
    rcases Mp (S.cells hps I.ok) (h:=s.heap.push {cls:=.type "dict",data:=.dict #[]}) (by rw[Heap.size_push]) (PySem.mem_of_lookup e) with q | ⟨q,r⟩
    ·exact .inl q
    ·rw[Heap.size_push] at q;exact .inr ⟨q,r⟩
  refine⟨YT I hps S hf ho,rfl,I.bare,Un.kept hk,⟨_,hns,fun i x v e1 e2 e3=>?_⟩,fun x c e=>?_,I.hok.fresh (Nat.le_refl _),fun x c e=>?_,fun p hp=>?_,I.hok.kept hk,?_⟩
  · have e1':N[i]? = some x:=e1;rw[S.names] at e1';unfold stC at e2
    by_cases hi:i<own.length
    · rw[List.getElem?_append_left (by simpa using hi),List.getElem?_map] at e2;cases q:own[i]? with
      | none=>rw[q] at e2;cases e2
      | some y=>rw[q] at e2;cases e2
    · rw[List.getElem?_append_right (by omega),List.getElem?_map] at e1';rw[List.getElem?_append_right (by simp;omega),List.getElem?_map] at e2;simp only[List.length_map] at e2;cases q:caps[i - own.length]? with
      | none=>rw[q] at e2;cases e2
      | some j=>
        rw[q] at e1' e2;have qiy:pN.getD j "" = x:=Option.some.inj e1';have e2':(σ[j]?).getD none=some v:=Option.some.inj e2;have hj:σ[j]? = some (some v):=by
          cases z:σ[j]? with
          | none=>rw[z] at e2';cases e2'
          | some o=>rw[z] at e2';exact congrArg some e2'
        obtain⟨hlt,hfree⟩:=S.qn7 j (List.mem_of_getElem? q);rw[qiy] at hfree;have hNj:X.N[j]? = some x:=by
          rw[hpN,← qiy];simp[List.getD,List.getElem?_eq_getElem hlt]
        have qiz:=S.free (x,.free) (PySem.mem_of_lookup hfree) rfl;have vis:Vis X.env.scope x:=by rw[hps];exact .inr qiz
        obtain⟨m,hn,hl⟩:=I.loc;obtain⟨u,r,l⟩:=hl j x v hNj hj vis;refine⟨u,r,.inr ?_⟩;have hkind:(relabel sc X.env).names.lookup x=some .cell∨(relabel sc X.env).names.lookup x=some .free:=by
          rw[DG,hfree];show some (if _ then _ else _)=_∨some (if _ then _ else _)=_
          split
          ·exact .inl rfl
          ·exact .inr rfl
        refine⟨hkind,?_⟩;have hcell:X.env.kindOf x=some .cell∨X.env.kindOf x=some .free:=by
          show X.env.scope.names.lookup x=_∨X.env.scope.names.lookup x=_;rw[hps];exact qiz
        rcases l with⟨hloc,_⟩ | ⟨_,c,hc,hcv⟩
        ·rcases hcell with z | z <;> (rw[hloc] at z;cases z)
        · have q2:((Ml X.env sc s.heap.objs.size).lookup x).isSome=true:=nM sc.names _ _ (.inr (Jz sc.names [] (.inl (PySem.mem_of_lookup hfree))));obtain⟨d,hd⟩:=Option.isSome_iff_exists.mp q2;refine⟨d,hd,?_⟩
          rcases hcl x d hd with z | ⟨z,_⟩
          ·rw[hc] at z;cases z;exact hcv.keeps hk
          ·
            exfalso;have hnc:(x,NameKind.cell)∉sc.names:=fun hm=>by
              have:=S.uniq _ hm;rw[hfree] at this;cases this
            have hmem:=PySem.mem_of_lookup hd;have qn8:∀(names:List (Str×NameKind)) (n:Nat) (acc:List (Str×Addr)),(x,NameKind.cell)∉names→(cellsFrom n names acc).lookup x=acc.lookup x:=by
              intro names
              induction names with
              | nil=>intro _ _ _;rfl
              | cons p r ih=>
                intro n acc hm;obtain⟨y,k⟩:=p;unfold cellsFrom;split
                · rename_i hkk;have hkk':k = .cell:=by simpa using hkk
                  subst hkk';rw[ih _ _ fun z=>hm (List.mem_cons_of_mem _ z)];have hxy:(x == y)=false:=by
                    cases hb:x == y with
                    | false=>rfl
                    | true=>exact absurd (by rw[beq_iff_eq.mp hb];exact List.mem_cons_self) hm
                  simp only[List.lookup_cons,hxy]
                ·exact ih _ _ fun z=>hm (List.mem_cons_of_mem _ z)
            have e5:(U5 X.env sc.names).lookup x=some d:=(qn8 sc.names _ _ hnc).symm.trans hd;have e6:=Hw sc.names [] x d (S.cells hps I.ok) (fun _ _ z=>nomatch z) (PySem.mem_of_lookup e5);rw[hc] at e6;cases e6;exact absurd (Nat.lt_of_lt_of_le (Nat.lt_of_lt_of_le hcv.lt (Nat.le_succ _)) z) (Nat.lt_irrefl _)
  · rcases hcl x c e with z | ⟨_,z⟩
    ·obtain⟨v,q⟩:=I.cell x c z;exact⟨v,q.keeps hk⟩
    ·exact⟨_,z⟩
  · rcases hcl x c e with z | ⟨z,_⟩
    ·exact I.p8 x c z
    ·exact I.hok.fresh (by omega)
  · rw[List.append_nil] at hp;obtain⟨e,n,ne,nf,d⟩:=I.pin p hp;refine⟨hk _ _ e,n,Nat.ne_of_lt (Heap.lt_size e),fun z=>?_,d⟩
    rcases List.mem_cons.mp (I.Gn p.1 z) with q | q
    ·exact ne q
    ·exact nf q
  ·show(stC own caps σ).length=N.length;rw[S.names];simp[stC]
theorem qad (I:Inv X p_ σ H s) (hf:∀b∈fp,Gp X p_ H b) {C:Addr} {pn:List (Addr×Obj)} {Mf:List (Addr×Obj)} {σ':St} {H':Hp} {s':Shared} (I':Inv (g_ X sc N C s H fp pn) Mf σ' H' s'):Inv X p_ σ H' s':=
  I.call' (ch:=fp) I'.os I'.base I'.hok I'.bare fun b hb=>⟨(hf b hb).2.2.2.1,(hf b hb).2.1,(hf b hb).2.2.2.2.1,(hf b hb).2.2.2.2.2⟩
end
def PTs (X:Cx) (ifs:List Expr) (t:TT):Prop:=
  ∀(p_:List (Addr×Obj)) (s:Shared) (σ:St) (H:Hp) (Q:Bool→Hp→Prop),Inv X p_ σ H s→t σ H Q→
    wpAny (model X.prog X.w) X.A (forIn ifs true fun c r=>if r=true then do let ok ← isTrue c X.env (eval c X.env);pure (ForInStep.yield ok) else pure (ForInStep.yield r)) (TP X p_ σ Q) X.xe s
def qiA:TT:=fun _ H Q=>Q true H
theorem eV {X:Cx}:PTs X [] qiA:=fun _ _ _ H _ I h=>wpAny_tests_nil ⟨H,I,h⟩
theorem RL {X:Cx} {c:Expr} {t:TT} (h:PT X c t):PTs X [c] t:=fun p_ s σ H Q I hw=>wpAny_tests_one (h p_ s σ H Q I hw)
def vR (own:List Str) (caps:List Nat) (J:It) (g:TG) (tt:TT) (te:TE) (D:Addr) (σ:St) (H:Hp) (Q:Hp→Prop):Prop:=
  ∃jV:Nat→Nat→St→Hp→Prop,(∃m,jV 0 m (stC own caps σ) H)∧∀i m σ' H',jV i m σ' H'→
    (J.stop i H'∧Q H')∨(J.go i H'∧∃N:St→Hp→Prop,(∀σ2 H2,N σ2 H2→∃m',m'<m∧jV (i+1) m' σ2 H2)∧∀x H2,J.yld i H' x H2→g x σ' H2 fun σ2 H3=>tt σ2 H3 fun b H4=>
      if b=true then te σ2 H4 fun y H5=>∃ys,H5 D=some (.lst ys)∧ys.length<sizeLine∧N σ2 (upd H5 D (.lst (ys++[y]))) else N σ2 H4)
def qby (own:List Str) (caps:List Nat) (wi:TI) (g:TG) (tt:TT) (te:TE):TE:=fun σ H Q=>wi σ H fun J H1=>∀D,H1 D=none→vR own caps J g tt te D σ (upd H1 D (.lst [])) (Q (.ref D))
theorem RM {M:Model} {A:Around} {E:Value→Shared→Prop} {s:Shared} {sc:Scope} {g:Addr} {cl:List (Str×Addr)} {qual:Str} {env:Env} {Q:Env→Shared→Prop}
    (h:Q (newEnv sc s.heap.objs.size g (cellsFrom (s.heap.objs.size+1) sc.names cl) qual none .none (some env) builtinsNs) (blockAt sc s)):wpAny M A (newFunctionEnv sc g cl [] qual none .none (some env)) Q E s:=by
  simp only[newFunctionEnv,Option.isSome_some,if_true];refine wpAny_bind (wpAny_alloc ?_);refine wpAny_bind (wpAny_layCells _ (fun name kind cells=>by cases hkc:kind == NameKind.cell <;> simp[hkc]) _ _ _ _ ?_);rw[show({s with heap:=s.heap.push {cls:=.type "dict",data:=.dict #[]}}:Shared).heap.objs.size=s.heap.objs.size+1 from Heap.size_push ..];rw[List.forIn_nil];exact wpAny_bind (wpAny_pure (wpAny_pure h))
def U7 (X:Cx) (p_:List (Addr×Obj)) (σ:St) (Q:Hp→Prop) (C:Addr) (r:Result) (s':Shared):Prop:=
  ∃H',r = .ok .next∧Inv X p_ σ H' s'∧(∃m,s'.heap.Ns C m)∧Gp X p_ H' C∧Q H'
section
variable {X:Cx} {ps sc:Scope} {own pN:List Str} {caps:List Nat} {N:List Str}
theorem Mq {p_:List (Addr×Obj)} {σ:St} {H:Hp} {s:Shared} {E:Value→Shared→Prop} {elt tg iter:Expr} {ifs:List Expr} {pos:Pos} {J:It} {fp:List Addr} {it D:Addr} {tn:Nat→Heap→Prop} {g:TG} {tt:TT} {te:TE} {Q:Hp→Prop}
    (I:Inv X p_ σ H s) (hps:X.env.scope=ps) (hpN:X.N=pN) (S:bL ps sc pN own caps N) (T:Turn X.prog X.w X.K tg J fp it tn) (st:tn 0 s.heap) (hf:∀b∈fp,Gp X p_ H b) (hc:X.calm=true)
    (hg:∀C s H fp pn,PG (g_ X sc N C s H fp pn) tg g) (ht:∀C s H fp pn,PTs (g_ X sc N C s H fp pn) ifs tt) (he:∀C s H fp pn,PE (g_ X sc N C s H fp pn) elt te)
    (h:vR own caps J g tt te D σ H Q) :
    wpAny (model X.prog X.w) X.A (newFunctionEnv sc X.env.globals (U5 X.env sc.names) [] X.env.qual none .none (some X.env)) (fun cenv s4=>
      codeAny (model X.prog X.w) X.A (.compStart (.ListComp elt [⟨tg,iter,ifs,0⟩] sc pos) 0 (.ref it) (.ref D) {cenv with scope:=relabel sc X.env}) (U7 X p_ σ Q cenv.locals) s4) E s:=by
  obtain⟨jV,⟨m0,w0⟩,turn⟩:=h;refine RM ?_;have ho:=T.obj 0 _ st;have I0:=qbx I hps hpN S hf ho;have ok':=YT I hps S hf ho;have hk:∀b o,s.heap.get? b=some o→(blockAt sc s).heap.get? b=some o:=fun b o e=>pushCells_keeps _ _ b o (Heap.get?_push_of_some _ e);have st0:tn 0 (blockAt sc s).heap:=T.keep 0 _ _ st fun b _ o e=>hk b o e;have stat:∀{H':Hp},(∀b∈fp,H' b=none)→∀b∈fp,Gp (g_ X sc N s.heap.objs.size s H fp (X.pn++p_)) [] H' b:=fun hn b hb=>
    ⟨hn b hb,(ok'.exf b hb).1,ok'.Uv b hb,.inl hb,(ok'.exf b hb).2,fun p hp=>(hf b hb).2.2.2.2.2 p (by rw[List.append_nil] at hp;exact hp)⟩
  have loop:codeAny (model X.prog X.w) X.A (.compLoop (.ListComp elt [⟨tg,iter,ifs,0⟩] sc pos) 0 (.ref it) (.ref D) (g_ X sc N s.heap.objs.size s H fp (X.pn++p_)).env) (U7 X p_ σ Q s.heap.objs.size) (blockAt sc s):=by
    refine U6 (fun n s'=>∃i σ' H',Inv (g_ X sc N s.heap.objs.size s H fp (X.pn++p_)) [] σ' H' s'∧tn i s'.heap∧(∀b∈fp,H' b=none)∧jV i n σ' H') ?_ m0 ⟨0,_,H,I0,st0,fun b hb=>(hf b hb).1,w0⟩;rintro n s3 ⟨i,σ3,H3,I3,st3,fr3,w3⟩
    rcases turn i n σ3 H3 w3 with⟨stop,qn⟩ | ⟨go,N',hN,step⟩
    ·refine d9 (T.done (g_ X sc N s.heap.objs.size s H fp (X.pn++p_)) rfl rfl rfl hc i [] s3 σ3 H3 NoE I3 (stat fr3) st3 stop) fun r s4 zz=>?_;obtain⟨hr,I4⟩:=zz;subst hr;obtain⟨m,hn,_⟩:=I4.loc;exact⟨H3,rfl,qad I hf I4,⟨m,hn⟩,I.Ru (Nat.le_refl _) I4.free,qn⟩
    · refine d9 (T.item (g_ X sc N s.heap.objs.size s H fp (X.pn++p_)) rfl rfl rfl hc i [] s3 σ3 H3 NoE I3 (stat fr3) st3 go) fun r s4 zz=>?_;obtain⟨u,hr,h4⟩:=zz;subst hr;refine d9 h4 fun _ s5 zz=>?_;obtain⟨x,H5,I5,r5,y5,st5,fr5⟩:=zz;have I5':=I5.pinned (stat fr5) (T.obj _ _ st5);refine d9 (hg _ _ _ _ _ _ s5 σ3 H5 x u _ I5' r5 (step x H5 y5)) fun _ s6 zz=>?_;obtain⟨σ6,H6,I6,q6⟩:=zz;refine d9 (ht _ _ _ _ _ _ s6 σ6 H6 _ I6 q6) fun b s7 zz=>?_;obtain⟨H7,I7,q7⟩:=zz;have again:∀{σ8:St} {H8:Hp} {s8:Shared},Inv (g_ X sc N s.heap.objs.size s H fp (X.pn++p_)) ([]++Mi fp s5.heap) σ8 H8 s8→N' σ8 H8→
          ∃m,m<n∧∃i σ' H',Inv (g_ X sc N s.heap.objs.size s H fp (X.pn++p_)) [] σ' H' s8∧tn i s8.heap∧(∀b∈fp,H' b=none)∧jV i m σ' H':=fun {σ8 H8 s8} I8 n8=>by
        obtain⟨m',hm,w8⟩:=hN σ8 H8 n8;refine⟨m',hm,i+1,σ8,H8,I8.Ht,T.keep _ _ _ st5 fun b hb o e=>(I8.pin (b,o) (List.mem_append_right _ (List.mem_append_right _ (Bl hb e)))).1,fun b hb=>?_,w8⟩;obtain⟨o,e,d⟩:=T.obj _ _ st5 b hb;exact(I8.pin (b,o) (List.mem_append_right _ (List.mem_append_right _ (Bl hb e)))).2.1
      cases b with
      | false=>
        rw[if_neg Bool.false_ne_true] at q7 ⊢;exact again I7 q7
      | true=>
        rw[if_pos rfl] at q7 ⊢;refine d9 (he _ _ _ _ _ _ s7 σ6 H7 _ I7 q7) fun v s8 zz=>?_;obtain⟨y,H8,I8,r8,ys,hD,hz,n8⟩:=zz;refine d9 (Qu (X:=g_ X sc N s.heap.objs.size s H fp (X.pn++p_)) _ s8 σ6 H8 (.ref D) [y] (.ref D) [v] (fun _ H9=>N' σ6 H9) I8 rfl (.cons r8 .nil) ⟨D,ys,y,rfl,rfl,hD,hz,n8⟩) fun _ s9 zz=>?_;obtain⟨_,H9,I9,_,n9⟩:=zz;exact again I9 n9
  exact codeAny_compStart_list loop (T.self X.A 0 _ _ _ st0 loop)
variable {elt tg iter:Expr} {ifs:List Expr} {pos:Pos} {wi:TI} {g:TG} {tt:TT} {te:TE}
theorem bL.locs (S:bL ps sc pN own caps N):∀x∈sc.names,x.2 = .local→sc.names.lookup x.1=some .local:=fun x hx e=>by rw[← e];exact S.uniq x hx
theorem fL (hps:X.env.scope=ps) (hpN:X.N=pN) (S:bL ps sc pN own caps N) (hc:X.calm=true) (hi:PI X tg iter wi)
    (hg:∀C s H fp pn,PG (g_ X sc N C s H fp pn) tg g) (ht:∀C s H fp pn,PTs (g_ X sc N C s H fp pn) ifs tt) (he:∀C s H fp pn,PE (g_ X sc N C s H fp pn) elt te)
    (hs:∀x,foldedSetIterable iter X.env x=pure x:=by intro _;rfl):PE X (.ListComp elt [⟨tg,iter,ifs,0⟩] sc pos) (qby own caps wi g tt te):=by
  intro p_ s σ H Q I h;rw[eval_ListComp];refine wpAny_comprehension_free (use:=none) rfl hs (CT (S.cells hps I.ok)) S.kind S.locs (d9 (hi p_ s σ H _ I h) fun v s1 h1=>d9 h1 fun itv s2 h2=>?_);obtain⟨it,fp,tn,J,H2,e,I2,T,st2,f2,q⟩:=h2;subst e;have fr:H2 s2.heap.objs.size=none:=I2.fresh;refine wpAny_newObj_type ?_;have I3:Inv X p_ σ (upd H2 s2.heap.objs.size (.lst [])) {s2 with heap:=s2.heap.push {cls:=.type "list",data:=.seq ([]:List Value).toArray},toks:=s2.toks}:=I2.qdG (its:=[]) (ys:=[]) .nil (Nat.zero_le _);have f3:∀b∈fp,Gp X p_ (upd H2 s2.heap.objs.size (.lst [])) b:=fun b hb=>by
    obtain⟨o,e,_⟩:=T.obj 0 _ st2 b hb;exact⟨by rw[aV (Nat.ne_of_lt (Heap.lt_size e))];exact(f2 b hb).1,(f2 b hb).2⟩
  refine d9 (Mq (iter:=iter) (pos:=pos) I3 hps hpN S T (T.keep 0 _ _ st2 fun b _ o e=>Heap.get?_push_of_some _ e) f3 hc hg ht he (q _ fr)) fun cenv s4 h4=>?_;refine codeAny_mono h4 fun r s5 ⟨H5,hr,I5,⟨m,hn⟩,f5,q5⟩=>?_;subst hr;refine⟨m,hn,fun h' hs'=>?_⟩;have I6:Inv X p_ σ H5 {s5 with heap:=h',toks:=s5.toks}:=I5.turned (it:=cenv.locals) (fun b o hb e=>(hs'.2 b hb).trans e) f5.1 f5.2.1 f5.2.2.2.1 f5.2.2.2.2.1 f5.2.2.2.2.2;exact⟨.ref s2.heap.objs.size,H5,I6,rfl,q5⟩
theorem wY {i:Nat} {y:Str} {py spos:Pos} (hN:X.N.Nodup) (hy:X.N[i]? = some y) (hl:X.env.scope.names.lookup y=some .local) (hps:X.env.scope=ps) (hpN:X.N=pN) (S:bL ps sc pN own caps N) (hc:X.calm=true) (hi:PI X tg iter wi)
    (hg:∀C s H fp pn,PG (g_ X sc N C s H fp pn) tg g) (ht:∀C s H fp pn,PTs (g_ X sc N C s H fp pn) ifs tt) (he:∀C s H fp pn,PE (g_ X sc N C s H fp pn) elt te)
    (hsw:swapsWith (.ListComp elt [⟨tg,iter,ifs,0⟩] sc pos) (some (.Name y py)) spos.line X.env=pure true:=by rfl)
    (hs:∀x,foldedSetIterable iter X.env x=pure x:=by intro _;rfl):PS X (.Assign [.Name y py] (.ListComp elt [⟨tg,iter,ifs,0⟩] sc pos) spos) (qa9 (qby own caps wi g tt te) (Ux i)):=by
  intro p_ s σ H D0 I h;rw[exec_Assign_Name_used _ _ _ _ hsw];refine wpAny_bind (wpAny_standAt (wpAny_bind ?_));show wpAny _ X.A (do let _ ← comprehension (.ListComp elt [⟨tg,iter,ifs,0⟩] sc pos) sc X.env _ (newList []) false (eval iter X.env) (some (assign (.Name y py) X.env))) _ _ s
  refine wpAny_bind (wpAny_mono (wpAny_comprehension_free (use:=some (assign (.Name y py) X.env)) (Q:=fun _ s'=>SP X p_ D0 .next s') rfl hs (CT (S.cells hps I.ok)) S.kind S.locs
    (d9 (hi p_ s σ H _ I h) fun v s1 h1=>d9 h1 fun itv s2 h2=>?_)) (fun _ s' hq=>wpAny_pure (wpAny_pure hq)) fun _ _ e=>e)
  obtain⟨it,fp,tn,J,H2,e,I2,T,st2,f2,q⟩:=h2;subst e;have fr:H2 s2.heap.objs.size=none:=I2.fresh;refine wpAny_newObj_type ?_;have I3:Inv X p_ σ (upd H2 s2.heap.objs.size (.lst [])) {s2 with heap:=s2.heap.push {cls:=.type "list",data:=.seq ([]:List Value).toArray},toks:=s2.toks}:=I2.qdG (its:=[]) (ys:=[]) .nil (Nat.zero_le _);have f3:∀b∈fp,Gp X p_ (upd H2 s2.heap.objs.size (.lst [])) b:=fun b hb=>by
    obtain⟨o,e,_⟩:=T.obj 0 _ st2 b hb;exact⟨by rw[aV (Nat.ne_of_lt (Heap.lt_size e))];exact(f2 b hb).1,(f2 b hb).2⟩
  refine d9 (Mq (iter:=iter) (pos:=pos) I3 hps hpN S T (T.keep 0 _ _ st2 fun b _ o e=>Heap.get?_push_of_some _ e) f3 hc hg ht he (q _ fr)) fun cenv s4 h4=>?_;refine codeAny_mono h4 fun r s5 ⟨H5,hr,I5,⟨m,hn⟩,f5,q5⟩=>?_;subst hr;show wpAny _ X.A (assign (.Name y py) X.env (.ref s2.heap.objs.size)) _ _ _;refine wpAny_assign_Name (E_ I5 hN hy (.inl hl) (v:=.ref s2.heap.objs.size) rfl (fun s6 I6 hsb=>?_) (.inr hl));obtain⟨a,sb,ha⟩:=hsb;have hne:cenv.locals≠a:=by
    rcases ha with z | z
    ·rw[z];exact f5.2.1
    ·exact fun e=>f5.2.2.2.2.1 y a z e.symm
  refine⟨m,hn.sameBut sb hne,fun h' hs'=>?_⟩;have I7:Inv X p_ (σ.set i (some (.ref s2.heap.objs.size))) H5 {s6 with heap:=h',toks:=s6.toks}:=I6.turned (it:=cenv.locals) (fun b o hb e=>(hs'.2 b hb).trans e) f5.1 f5.2.1 f5.2.2.2.1 f5.2.2.2.2.1 f5.2.2.2.2.2;exact⟨_,H5,I7,q5⟩
end
section
variable {X:Cx} {p_:List (Addr×Obj)} {σ:St} {H:Hp} {s:Shared} {h':Heap}
theorem Inv.Fb {t':Nat} {ch:List Addr} (I:Inv X p_ σ H s) (k:∀b o,b∉ch→s.heap.get? b=some o→h'.get? b=some o) (hf:∀b∈ch,Gp X p_ H b):Inv X p_ σ H {s with heap:=h',toks:=t'}:=by
  refine I.step (g':=s.gens) (d':=s.drawn) (ch:=ch) (fun b hb=>⟨(hf b hb).2.2.2.1,(hf b hb).2.1,(hf b hb).2.2.2.2.1,(hf b hb).2.2.2.2.2⟩) (fun b o _ _ hc e _=>k b o hc e) (fun b o _ _ hc e _=>⟨o.slots,k b o hc e⟩) (fun _ _ _ _ n=>n)
    (fun b o hc e=>⟨o,k b o hc e⟩) (fun _ _ e=>e) (fun _ _ _ e=>e) (fun b ps e=>⟨#[],by rw[e];simp⟩) (fun m hm=>?_) (fun b u e=>?_) I.bare
  ·obtain⟨o,es,ep,ho,r⟩:=hm;exact⟨o,es,ep,k _ o (fun z=>(hf _ z).2.1 rfl) ho,r⟩
  · refine(I.hok b u e).stay (fun c v hc q=>k c v (fun z=>?_) q) (fun _ q=>q) fun _ _ q=>q;have hn:=(hf c z).1
    rcases hc with y | y
    ·rw[y,e] at hn;cases hn
    ·rw[y] at hn;cases hn
end
def Its (x:Str):It:=⟨fun i _=>i<x.cps.size,fun i H v H'=>H'=H∧∃c,x.cps[i]? = some c∧v = .str ⟨#[c]⟩,fun i _=>x.cps.size≤i⟩
theorem qbz {P:Program} {w:World} {K:W.Frag} {tg:Expr} (x:Str) (t:Tok) (it:Addr):Turn P w K tg (Its x) [it] it (fun i h=>h.IsStrIter it (strIterType x) x t i) where
  mem:=by simp
  obj:=fun i h st b hb=>by
    have e:b=it:=by simpa using hb
    subst e;obtain⟨o,e,c,d⟩:=st;exact⟨o,e,fun v z=>by rw[d] at z;cases z⟩
  keep:=fun i h h' st k=>by
    obtain⟨o,e,c,d⟩:=st;exact⟨o,k it (by simp) o e,c,d⟩
  item:=by
    intro X hP hw hK hc i p_ s σ H E I hf st hg;subst hP hw hK;obtain⟨f0,f1,f2,f3,f4,f5⟩:=hf it (by simp);have hx:x.cps[i]? = some (x.cps[i]'hg):=Array.getElem?_eq_getElem hg;have fin:∀h',h'.IsStrIter it (strIterType x) x t (i+1)→Heap.SameBut it s.heap h'→∃u,(some (Value.str ⟨#[x.cps[i]'hg]⟩ s.toks))=some u∧
        wpAny (model X.prog X.w) X.A (letOwnedTupleGo tg (.ref it) u) (fun _ s2=>∃y H',Inv X p_ σ H' s2∧RelV y u∧(Its x).yld i H y H'∧s2.heap.IsStrIter it (strIterType x) x t (i+1)∧∀b∈[it],H' b=none) E {s with heap:=h',toks:=s.toks+1}:=fun h' st' sb=>by
      have I1:Inv X p_ σ H {s with heap:=h',toks:=s.toks+1}:=I.turned (fun b o hb e=>(sb.2 b hb).trans e) f0 f1 f3 f4 f5;refine⟨_,rfl,?_⟩;have res:∃y H',Inv X p_ σ H' {s with heap:=h',toks:=s.toks+1}∧RelV y (Value.str ⟨#[x.cps[i]'hg]⟩ s.toks)∧(Its x).yld i H y H'∧h'.IsStrIter it (strIterType x) x t (i+1)∧∀b∈[it],H' b=none:=
        ⟨.str ⟨#[x.cps[i]'hg]⟩,H,I1,⟨_,rfl⟩,⟨rfl,_,hx,rfl⟩,st',fun b hb=>(hf b hb).1⟩
      unfold letOwnedTupleGo;cases tg <;> exact wpAny_pure res
    by_cases ha:x.cps.all (· < 128)=true
    · have ey:strIterType x = "str_ascii_iterator" :=by unfold strIterType;rw[if_pos ha]
      rw[ey] at st;exact wpAny_pyNext_ascii_item st hx fun h' st' sb=>fin h' (by rw[ey];exact st') sb
    · have ey:strIterType x = "str_iterator" :=by unfold strIterType;rw[if_neg ha]
      rw[ey] at st;exact wpAny_pyNext_wide_item st hx fun h' st' sb=>fin h' (by rw[ey];exact st') sb
  done:=by
    intro X hP hw hK hc i p_ s σ H E I hf st hg;subst hP hw hK;obtain⟨f0,f1,f2,f3,f4,f5⟩:=hf it (by simp);have hx:x.cps[i]? = none:=Array.getElem?_eq_none hg
    by_cases ha:x.cps.all (· < 128)=true
    · have ey:strIterType x = "str_ascii_iterator" :=by unfold strIterType;rw[if_pos ha]
      rw[ey] at st;exact wpAny_pyNext_ascii_end (I.ok.hd hc) st hx fun h' eb=>⟨rfl,I.turned (t':=s.toks) (fun b o hb e=>eb b o hb e) f0 f1 f3 f4 f5⟩
    · have ey:strIterType x = "str_iterator" :=by unfold strIterType;rw[if_neg ha]
      rw[ey] at st;exact wpAny_pyNext_wide_end (I.ok.hd hc) st hx fun h' eb=>⟨rfl,I.turned (t':=s.toks) (fun b o hb e=>eb b o hb e) f0 f1 f3 f4 f5⟩
  self:=fun A i s Q E st h=>by
    by_cases ha:x.cps.all (· < 128)=true
    · have ey:strIterType x = "str_ascii_iterator" :=by unfold strIterType;rw[if_pos ha]
      rw[ey] at st;exact wpAny_pyIter_striter_ascii st h
    · have ey:strIterType x = "str_iterator" :=by unfold strIterType;rw[if_neg ha]
      rw[ey] at st;exact wpAny_pyIter_striter_wide st h
section
variable {X:Cx} {tg:Expr}
def qf6 (tl:TE):TI:=fun σ H R=>tl σ H fun x H1=>∃z,x = .str z∧R (Its z) H1
theorem W5 {l:Expr} {tl:TE} (hl:PE X l tl):PI X tg l (qf6 tl):=by
  intro p_ s σ H R I h;refine d9 (hl p_ s σ H _ I h) fun v s1 zz=>?_;obtain⟨x,H1,I1,r1,q1⟩:=zz;obtain⟨z,e,q⟩:=q1;subst e;obtain⟨t,rfl⟩:=r1;refine wpAny_pyIter_strU ?_;refine⟨s1.heap.objs.size,[s1.heap.objs.size],_,_,H1,rfl,I1.kept (t':=s1.toks) fun b o e=>Heap.get?_push_of_some _ e,qbz z t _,⟨_,Heap.get?_push_size _ rfl,rfl,rfl⟩,fun b hb=>?_,q⟩;have e:b=s1.heap.objs.size:=by simpa using hb
  subst e;exact I1.Ru (Nat.le_refl _) (I1.hok.fresh (Nat.le_refl _))
end
def Itz (K:W.Frag) (a b:Addr):It:=
  ⟨fun i H=>∃xs ys x y,cj K H a xs∧cj K H b ys∧xs[i]? = some x∧ys[i]? = some y,
   fun i H v H'=>∃t x y,v = .ref t∧H t=none∧H'=upd H t (.tup [x,y])∧(∀xs,cj K H a xs→xs[i]? = some x)∧∀ys,cj K H b ys→ys[i]? = some y,
   fun i H=>∃xs ys,cj K H a xs∧cj K H b ys∧(xs.length≤i∨ys.length≤i)⟩
structure qiB (z TI TO i1 i2 a b:Addr) (i:Nat) (h:Heap):Prop where
  hz:IsZip h z TI TO .none
  hI:IsPair h TI (.ref i1) (.ref i2)
  hO:∃p q,IsPair h TO p q
  h1:h.IsListIter i1 a i
  h2:h.IsListIter i2 b i
theorem eO {h:Heap} {a b:Addr} {o u:Obj} {T U:String} (ha:h.get? a=some o) (hb:h.get? b=some u) (ca:o.cls = .type T) (cb:u.cls = .type U) (hne:T≠U):a≠b:=fun e=>by
  subst e;rw[ha] at hb;cases hb;rw[ca] at cb;injection cb with e2;exact hne e2
theorem qbA {P:Program} {w:World} {K:W.Frag} {es:List Expr} {k:Nat} {pos:Pos} {z TI TO i1 i2 a b:Addr} (n12:i1≠i2) (nT:TI≠TO) :
    Turn P w K (.Tuple es k pos) (Itz K a b) [z,TI,TO,i1,i2] z (qiB z TI TO i1 i2 a b) where
  mem:=by simp
  obj:=fun i h st c hc=>by
    simp only[List.mem_cons,List.not_mem_nil,or_false] at hc
    rcases hc with rfl | rfl | rfl | rfl | rfl
    ·exact⟨_,st.hz,fun v e=>nomatch e⟩
    ·exact⟨_,st.hI,fun v e=>nomatch e⟩
    ·obtain⟨p,q,e⟩:=st.hO;exact⟨_,e,fun v e=>nomatch e⟩
    ·obtain⟨o,e,_,d⟩:=st.h1;exact⟨o,e,fun v y=>by rw[d] at y;cases y⟩
    ·obtain⟨o,e,_,d⟩:=st.h2;exact⟨o,e,fun v y=>by rw[d] at y;cases y⟩
  keep:=fun i h h' st kk=>by
    obtain⟨p,q,e⟩:=st.hO;exact⟨kk z (by simp) _ st.hz,kk TI (by simp) _ st.hI,⟨p,q,kk TO (by simp) _ e⟩,st.h1.at fun o e=>kk i1 (by simp) o e,st.h2.at fun o e=>kk i2 (by simp) o e⟩
  item:=by
    intro X hP hw hK hc i p_ s σ H E I hf st hg;subst hP hw hK;obtain⟨xs,ys,x,y,qa,qb,hx,hy⟩:=hg;obtain⟨its,rv,pl,hz1⟩:=I.list qa;obtain⟨its',rv',pl',hz2⟩:=I.list qb;obtain⟨u,hu,ru⟩:=rv.get hx;obtain⟨u',hu',ru'⟩:=rv'.get hy;obtain⟨p,q,hTO⟩:=st.hO;obtain⟨oa,ea,ca,_⟩:=id pl.isList;obtain⟨ob,eb,cb,_⟩:=id pl'.isList;obtain⟨o1,e1,c1,_⟩:=id st.h1;obtain⟨o2,e2,c2,_⟩:=id st.h2;have D:ZipApart z TI TO i1 i2 a b:=
      ⟨eO st.hI st.hz rfl rfl (by decide),eO hTO st.hz rfl rfl (by decide),eO e1 st.hz c1 rfl (by decide),eO e2 st.hz c2 rfl (by decide),nT,eO st.hI e1 rfl c1 (by decide),eO st.hI e2 rfl c2 (by decide),
        eO hTO e1 rfl c1 (by decide),eO hTO e2 rfl c2 (by decide),n12,eO ea st.hz ca rfl (by decide),eO ea hTO ca rfl (by decide),eO ea e1 ca c1 (by decide),eO ea e2 ca c2 (by decide),
        eO eb st.hz cb rfl (by decide),eO eb hTO cb rfl (by decide),eO eb e1 cb c1 (by decide),eO eb e2 cb c2 (by decide)⟩
    refine wpAny_pyNext_zip_item D st.hz st.hI hTO st.h1 st.h2 pl.isList pl'.isList (x:=u) (y:=u') (by simpa using hu) (by simpa using hu') fun h' a1 a2 a3 a4 a5 a6 kk=>?_;refine⟨_,rfl,wpAny_letOwnedTupleGo_zip a1 fun h2 b1 sb=>?_⟩;have lt:∀{c o},s.heap.get? c=some o→s.heap.objs.size≠c:=fun e=>Nat.ne_of_gt (Heap.lt_size e);have hn:H s.heap.objs.size=none:=I.hok.fresh (Nat.le_refl _);have kk2:∀c o,c∉[z,TI,TO,i1,i2]→s.heap.get? c=some o→h2.get? c=some o:=fun c o hc e=>by
      simp only[List.mem_cons,List.not_mem_nil,or_false,not_or] at hc;exact(sb.2 c hc.1).trans (kk c o hc.1 hc.2.2.1 hc.2.2.2.1 hc.2.2.2.2 e)
    have I1:Inv X p_ σ H {s with heap:=h2,toks:=s.toks}:=I.Fb kk2 hf;have Mr:IsPair h2 s.heap.objs.size u u':=sb.extBut _ _ (lt st.hz) a5;have I2:Inv X p_ σ (upd H s.heap.objs.size (.tup [x,y])) {s with heap:=h2,toks:=s.toks}:=by
      have hfr:H s.heap.objs.size=none:=hn;refine⟨I1.ok,I1.os,I1.bare,⟨I1.base.keep,I1.base.slot,fun c o e n hx=>?_,I1.base.there,fun c zs e=>?_,fun c o v e=>?_,fun c qs e=>?_⟩,I1.loc,I1.cell,?_,fun v c e=>?_,fun v hv=>?_,?_,I1.len⟩
      · rw[aV (fun e'=>?_)]
        ·exact I1.base.free c o e n hx
        ·exact absurd (Nat.lt_of_lt_of_le (Heap.lt_size e) I.sz) (by rw[e'];exact Nat.lt_irrefl _)
      ·have e':=I1.base.tups c zs e;rw[aV (aY e' hfr)];exact e'
      ·have e':=I1.base.Gm c o v e;rw[aV (aY e' hfr)];exact e'
      ·obtain⟨m,e'⟩:=I1.base.Hq c qs e;exact⟨m,by rw[aV (aY e' hfr)];exact e'⟩
      ·rw[aV (Nat.ne_of_lt I.lt)];exact I1.free
      ·obtain⟨w',qc⟩:=I.cell v c e;rw[aV (Nat.ne_of_lt qc.lt)];exact I1.p8 v c e
      ·obtain⟨f1,f2,f3⟩:=I1.pin v hv;refine⟨f1,?_,f3⟩;rw[aV (Nat.ne_of_lt (Heap.lt_size (I.pin v hv).1))];exact f2
      · intro c v e
        by_cases hcs:c=s.heap.objs.size
        ·subst hcs;rw[aA] at e;cases e;exact⟨by show 2≤sizeLine;rw[sizeLine_eq];decide,[u,u'],.cons ru (.cons ru' .nil),⟨_,Mr,rfl,0,rfl⟩⟩
        · rw[aV hcs] at e;refine(I1.hok c v e).stay (fun _ _ _ qq=>qq) (fun d qd=>?_) fun d zs qd=>?_
          ·rw[aV (aY qd hfr)];exact qd
          ·rw[aV (aY qd hfr)];exact qd
    refine⟨.ref s.heap.objs.size,_,I2,rfl,⟨s.heap.objs.size,x,y,rfl,hn,rfl,fun xs' q'=>by rw[I.Dw q' qa];exact hx,fun ys' q'=>by rw[I.Dw q' qb];exact hy⟩,?_,fun c hcm=>?_⟩
    ·exact⟨b1,sb.extBut _ _ D.TIz (kk _ _ D.TIz D.TITO D.TIi1 D.TIi2 st.hI),⟨_,_,sb.extBut _ _ D.TOz a2⟩,a3.extBut sb.extBut D.i1z,a4.extBut sb.extBut D.i2z⟩
    · have hne:c≠s.heap.objs.size:=by
        simp only[List.mem_cons,List.not_mem_nil,or_false] at hcm
        rcases hcm with rfl | rfl | rfl | rfl | rfl
        ·exact(lt st.hz).symm
        ·exact(lt st.hI).symm
        ·exact(lt hTO).symm
        ·exact(lt e1).symm
        ·exact(lt e2).symm
      rw[aV hne];exact(hf c hcm).1
  done:=by
    intro X hP hw hK hc i p_ s σ H E I hf st hg;subst hP hw hK;obtain⟨xs,ys,qa,qb,hl⟩:=hg;obtain⟨its,rv,pl,hz1⟩:=I.list qa;obtain⟨its',rv',pl',hz2⟩:=I.list qb;obtain⟨p,q,hTO⟩:=st.hO;obtain⟨oa,ea,ca,_⟩:=id pl.isList;obtain⟨ob,eb,cb,_⟩:=id pl'.isList;obtain⟨o1,e1,c1,_⟩:=id st.h1;obtain⟨o2,e2,c2,_⟩:=id st.h2;have D:ZipApart z TI TO i1 i2 a b:=
      ⟨eO st.hI st.hz rfl rfl (by decide),eO hTO st.hz rfl rfl (by decide),eO e1 st.hz c1 rfl (by decide),eO e2 st.hz c2 rfl (by decide),nT,eO st.hI e1 rfl c1 (by decide),eO st.hI e2 rfl c2 (by decide),
        eO hTO e1 rfl c1 (by decide),eO hTO e2 rfl c2 (by decide),n12,eO ea st.hz ca rfl (by decide),eO ea hTO ca rfl (by decide),eO ea e1 ca c1 (by decide),eO ea e2 ca c2 (by decide),
        eO eb st.hz cb rfl (by decide),eO eb hTO cb rfl (by decide),eO eb e1 cb c1 (by decide),eO eb e2 cb c2 (by decide)⟩
    have l1:=rv.length;have l2:=rv'.length;refine wpAny_pyNext_zip_end (I.ok.hd hc) D st.hz st.hI hTO st.h1 st.h2 pl.isList pl'.isList ?_ fun h' kk=>⟨rfl,I.Fb (t':=s.toks) (fun c o hcm e=>?_) hf⟩
    · rcases hl with hl | hl
      ·exact .inl (by simp;omega)
      ·exact .inr (by simp;omega)
    ·simp only[List.mem_cons,List.not_mem_nil,or_false,not_or] at hcm;exact kk c o hcm.1 hcm.2.2.1 hcm.2.2.2.1 hcm.2.2.2.2 e
  self:=fun _ _ _ _ _ st h=>wpAny_pyIter_zip st.hz h
section
variable {X:Cx}
def qdI (K:W.Frag) (t:TA):TI:=fun σ H R=>t σ H fun vs H1=>∃a b xs ys,vs=[.ref a,.ref b]∧cj K H1 a xs∧cj K H1 b ys∧R (Itz K a b) H1
theorem boot_zip:bootBuiltins "zip" = some (.type "zip"):=by decide+kernel
theorem qf7 {es:List Expr} {k:Nat} {pos':Pos} {a b:Expr} {ta:TA} {p pos:Pos} (hg:Gl X "zip") (hm:X.mg "zip" = none) (ha:PA X [a,b] ta)
    (hs:starEach [a,b] X.env=[(false,eval a X.env),(false,eval b X.env)]:=by rfl) (hs2:starEach [b] X.env=[(false,eval b X.env)]:=by rfl) :
    PI X (.Tuple es k pos') (.Call (.Name "zip" p) [a,b] [] pos) (qdI X.K ta):=by
  intro p_ s σ H R I h;refine Call_ (uP I hg hm boot_zip (PyProof.Rows.callWith_type1 (d9 (ha pos p_ s σ H _ I h) fun us s1 zz=>?_) (by rw[hs,hs2]) (by rw[hs2];rfl)));obtain⟨vs,H1,I1,r1,q1⟩:=zz;obtain⟨l1,l2,xs,ys,e,qa,qb,q⟩:=q1;subst e;obtain⟨u,v,rfl,r,r'⟩:=r1.two;obtain rfl:u=Value.ref l1:=r;obtain rfl:v=Value.ref l2:=r';obtain⟨its,rv,pl,hz1⟩:=I1.list qa;obtain⟨its',rv',pl',hz2⟩:=I1.list qb;refine call_zip_2 pl.isList pl'.isList fun h' b1 b2 b3 b4 b5 b6 kk=>?_;refine wpAny_pyIter_zip (s:={s1 with heap:=h'}) b1 ?_;have I2:Inv X p_ σ H1 {s1 with heap:=h'}:=I1.kept (t':=s1.toks) kk;refine⟨s1.heap.objs.size+4,[s1.heap.objs.size+4,s1.heap.objs.size+2,s1.heap.objs.size+3,s1.heap.objs.size,s1.heap.objs.size+1],_,_,H1,rfl,I2,qbA (Nat.ne_of_lt (Nat.lt_succ_self _)) (Nat.ne_of_lt (Nat.lt_succ_self (s1.heap.objs.size+2))),⟨b1,b2,⟨_,_,b3⟩,b4,b5⟩,fun c hc=>?_,q⟩;have hle:s1.heap.objs.size≤c:=by
    simp only[List.mem_cons,List.not_mem_nil,or_false] at hc
    rcases hc with rfl | rfl | rfl | rfl | rfl <;> first | exact Nat.le_add_right _ _ | exact Nat.le_refl _
  exact I1.Ru hle (I1.hok.fresh hle)
end
section
variable {X:Cx} {p_:List (Addr×Obj)} {σ:St} {H:Hp} {s:Shared}
theorem uR.kit {x:V} {u t:Value} (I:Inv X p_ σ H s) (rx:RelV x u) (ty:uR X.K H x t):∃Φ,W.KitX X.K u t Φ∧Φ s.heap∧u≠.builtin "__main__.__loader__#opaque" :=by
  cases ty with
  | non=>cases (show u=Value.none from rx);exact⟨_,W.kitx_none,True.intro,fun z=>nomatch z⟩
  | bl y=>cases (show u=Value.bool y from rx);exact⟨_,W.kitx_bool,True.intro,fun z=>nomatch z⟩
  | int i=>obtain⟨t,q⟩:=(show ∃t,u=Value.int i t from rx);cases q;exact⟨_,W.kitx_int,True.intro,fun z=>nomatch z⟩
  | str y=>obtain⟨t,q⟩:=(show ∃t,u=Value.str y t from rx);cases q;exact⟨_,W.kitx_str,True.intro,fun z=>nomatch z⟩
  | flt y=>obtain⟨t,q⟩:=(show ∃t,u=Value.float y t from rx);cases q;exact⟨_,W.kitx_float,True.intro,fun z=>nomatch z⟩
  | @lst a xs ea=>
    cases (show u=Value.ref a from rx);obtain⟨_,_,n,_,h1⟩:=(show d8 X.prog X.w H s.heap a (.lst xs) from I.hok a _ ea);exact⟨_,W.kitx_list,⟨_,h1,rfl⟩,fun z=>nomatch z⟩
  | @Ut a ob xs ea=>
    cases (show u=Value.ref a from rx);obtain⟨_,_,_,n,_,h1⟩:=(show d8 X.prog X.w H s.heap a (.Ut ob (.lst xs)) from I.hok a _ ea);exact⟨_,W.kitx_list,⟨_,h1,rfl⟩,fun z=>nomatch z⟩
  | @tup a xs ea=>
    cases (show u=Value.ref a from rx);obtain⟨_,_,_,p⟩:=(show d8 X.prog X.w H s.heap a (.tup xs) from I.hok a _ ea);obtain⟨o,h1,h2,_⟩:=p;exact⟨_,W.kitx_tuple,⟨o,h1,h2⟩,fun z=>nomatch z⟩
  | @dK a kvs ea=>
    cases (show u=Value.ref a from rx);obtain⟨_,_,vs,_,p⟩:=(show d8 X.prog X.w H s.heap a (.dK kvs) from I.hok a _ ea);obtain⟨o,es,ep,h1,h2,_⟩:=p;exact⟨_,W.kitx_dict,⟨o,h1,h2.1⟩,fun z=>nomatch z⟩
  | @dT a kvs ea=>
    cases (show u=Value.ref a from rx);obtain⟨_,_,xs,_,o,es,ep,h1,h2,_⟩:=(show d8 X.prog X.w H s.heap a (.dT kvs) from I.hok a _ ea);exact⟨_,W.kitx_dict,⟨o,h1,h2.1⟩,fun z=>nomatch z⟩
  | @ins a C dx fs ea cl ha hn htk hm=>
    cases (show u=Value.ref a from rx);obtain⟨mA,O,_⟩:=Hu I.hok ea;obtain⟨od,J,_⟩:=O.look;exact⟨_,W.kitx_own (cl.get _) cl.hd ha hn htk hm,J,fun z=>nomatch z⟩
theorem qae:dD X (.builtin "isinstance") (fun xs H Q=>∃x n t b,xs=[x,.ty n]∧uR X.K H x t∧W.kitOne X.K t (.type n)=some b∧Q (.bl b) H):=by
  intro p_ s σ H xs us Q I r h;obtain⟨x,n,t,b,rfl,ty,e,q⟩:=h;obtain⟨u,v,rfl,rx,rc⟩:=r.two;obtain rfl:v=Value.type n:=rc;exact Z8 I rx ty e fun tk=>⟨.bl b,H,I.tok tk,rfl,q⟩
theorem qaf:dD X (.builtin "isinstance") (fun xs H Q=>∃x p m n t b,xs=[x,.ref p]∧H p=some (.tup [.ty m,.ty n])∧uR X.K H x t∧W.kitAny X.K t [.type m,.type n]=some b∧Q (.bl b) H):=by
  intro p_ s σ H xs us Q I r h;obtain⟨x,p,m,n,t,b,rfl,hp,ty,e,q⟩:=h;obtain⟨u,v,rfl,rx,rc⟩:=r.two;obtain rfl:v=Value.ref p:=rc;obtain⟨Φ,Z,hΦ,hne⟩:=ty.kit I rx;obtain⟨_,its,rv,o,e1,e2,k,e3⟩:=(show d8 X.prog X.w H s.heap p (.tup [.ty m,.ty n]) from I.hok p _ hp);obtain⟨u1,u2,rfl,r1,r2⟩:=rv.two;obtain rfl:u1=Value.type m:=r1;obtain rfl:u2=Value.type n:=r2;obtain⟨c,dd,dt,sl⟩:=o;replace e2:c = .type "tuple" :=e2;replace e3:dt = .seq [Value.type m,Value.type n].toArray k:=e3;subst e2 e3;exact W.kia_tup Z I.FJ hΦ e1 e hne fun tk=>⟨.bl b,H,I.tok tk,rfl,q⟩
theorem boot_isinstance:bootBuiltins "isinstance" = some (.builtin "isinstance"):=by decide+kernel
theorem boot_str:bootBuiltins "str" = some (.type "str"):=by decide+kernel
theorem boot_list:bootBuiltins "list" = some (.type "list"):=by decide+kernel
theorem boot_tuple:bootBuiltins "tuple" = some (.type "tuple"):=by decide+kernel
theorem JB:bootBuiltins "int" = some (.type "int"):=by decide+kernel
theorem W6:bootBuiltins "bool" = some (.type "bool"):=by decide+kernel
theorem W7:bootBuiltins "dict" = some (.type "dict"):=by decide+kernel
theorem Fd:bootBuiltins "set" = some (.type "set"):=by decide+kernel
end
mutual
def Is (K:W.Frag) (H:Hp):PyData→V→Prop
  | .none,v=>v = .non
  | .bool b,v=>v = .bl b
  | .int i,v=>v = .int i
  | .str x,v=>v = .str x
  | .list ds,v=>∃a xs,v = .ref a∧cj K H a xs∧CV K H ds xs
  | .tuple ds,v=>∃a xs,v = .ref a∧lR K H a xs∧CV K H ds xs
  | .dict _,_=>False
def CV (K:W.Frag) (H:Hp):List PyData→List V→Prop
  | [],vs=>vs=[]
  | d::ds,vs=>∃v r,vs=v::r∧Is K H d v∧CV K H ds r
end
section
variable {X:Cx} {p_:List (Addr×Obj)} {σ:St} {H:Hp} {s:Shared}
mutual
theorem Is.reads (I:Inv X p_ σ H s):∀(d:PyData) (v:V) (u:Value),Is X.K H d v→RelV v u→∃as,Reads s.heap u d as
  | .none,v,u,h,r=>by
    simp only[Is] at h;subst h;cases r;exact⟨_,.none⟩
  | .bool b,v,u,h,r=>by
    simp only[Is] at h;subst h;cases r;exact⟨_,.bool b⟩
  | .int i,v,u,h,r=>by
    simp only[Is] at h;subst h;obtain⟨t,rfl⟩:=r;exact⟨_,.int i t⟩
  | .str x,v,u,h,r=>by
    simp only[Is] at h;subst h;obtain⟨t,rfl⟩:=r;exact⟨_,.str x t⟩
  | .list ds,v,u,h,r=>by
    simp only[Is] at h;obtain⟨a,xs,rfl,hq,hs⟩:=h;cases r;obtain⟨its,rv,pl,hz⟩:=I.list hq;obtain⟨o,e,c,n,dt⟩:=pl.isList;obtain⟨as,ra⟩:=CV.reads I ds xs its hs rv;exact⟨_,.list e c dt (by simpa using ra)⟩
  | .tuple ds,v,u,h,r=>by
    simp only[Is] at h;obtain⟨a,xs,rfl,hq,hs⟩:=h;cases r;obtain⟨its,rv,pl,hz⟩:=I.tuple hq;obtain⟨o,e,c,n,dt⟩:=pl;obtain⟨as,ra⟩:=CV.reads I ds xs its hs rv;exact⟨_,.tuple e c dt (by simpa using ra)⟩
  | .dict _,v,u,h,r=>by
    simp only[Is] at h
theorem CV.reads (I:Inv X p_ σ H s):∀(ds:List PyData) (vs:List V) (us:List Value),CV X.K H ds vs→Vals vs us→∃as,ReadsAll s.heap us ds as
  | [],vs,us,h,r=>by
    simp only[CV] at h;subst h;cases r;exact⟨_,.nil⟩
  | d::ds,vs,us,h,r=>by
    simp only[CV] at h;obtain⟨v,vr,rfl,h1,h2⟩:=h;cases r with
    | cons r1 r2=>
      obtain⟨as,ra⟩:=Is.reads I d v _ h1 r1;obtain⟨bs,rb⟩:=CV.reads I ds vr _ h2 r2;exact⟨_,.cons ra rb⟩
end
theorem qf8:mR X (compareOp .NotEq) (fun x y H Q=>∃d e,Is X.K H d x∧Is X.K H e y∧d.canLay0=true∧e.canLay0=true∧X.A.units+min d.depth e.depth<cLine∧Q (.bl (!PyData.eqv d e)) H):=by
  intro p_ s σ H x y v u Q I rx ry h;obtain⟨d,e,hx,hy,h1,h2,hu,q⟩:=h;obtain⟨as,ra⟩:=hx.reads I d x v rx;obtain⟨bs,rb⟩:=hy.reads I e y u ry;exact SeqAt.compareNe_reads ra rb h1 h2 hu ⟨.bl _,H,I,rfl,q⟩
end
section
variable {X:Cx}
def RN:V→List V→Hp→VK→Prop:=fun x vs H Q=>∃l xs i y,x = .ref l∧vs=[.int i,y]∧H l=some (.lst xs)∧0≤i∧i≤xs.length∧xs.length<sizeLine∧Q .non (upd H l (.lst (xs.take i.toNat++y::xs.drop i.toNat)))
theorem Vals.ins {y:V} {u:Value} (ru:RelV y u):∀{xs:List V} {us:List Value} (i:Nat),Vals xs us→Vals (xs.take i++y::xs.drop i) (us.take i++u::us.drop i):=fun i r=>(r.take i).append (.cons ru (r.drop i))
theorem qag:MtM X "list.insert" RN:=by
  intro p_ s σ H x vs v us Q I rx rv h;obtain⟨l,xs,i,y,rfl,rfl,hH,h0,hi,hz,q⟩:=h;cases rx;obtain⟨u1,u,rfl,⟨t,rfl⟩,ru⟩:=rv.two;obtain⟨z,its,n,r,hl,e⟩:=I.U3 hH;have hn:=Gq;have hfit:¬(!Builtin.List.listFitsIndex i)=true:=by
    unfold Builtin.List.listFitsIndex;simp;omega
  refine call_meets F.slot_list_insert ⟨_,e,rfl⟩ F.entry_list_insert (F.args_list_insert_3 _ _ _) (PySem.AutoListH.list_insert_list_int_val_1 l its.toArray n i t u hfit (by rw[List.size_toArray];omega)) ⟨e,?_⟩;refine⟨.non,_,I.qf3 (its':=its.take i.toNat++u::its.drop i.toNat) hH e ?_ (r.ins ru i.toNat) ?_,rfl,q⟩
  · have hm:min i.toNat its.length=i.toNat:=by omega
    simp only[List.size_toArray];rw[if_neg (by omega),hm];apply Array.toList_inj.mp;simp;exact List.take_of_length_le (by simp)
  ·simp;omega
end
section
variable {X:Cx}
def yD:List V→List Bool→Prop
  | [],bs=>bs=[]
  | x::xs,bs=>∃b r,bs=b::r∧x = .bl b∧yD xs r
theorem yD.get:∀{xs:List V} {bs:List Bool} {its:List Value},yD xs bs→Vals xs its→xs.length=bs.length∧∀(i:Nat) (v:Value),its[i]? = some v→v = .bool (bs.getD i false)
  | [],bs,its,h,r=>by
    cases h;cases r;exact⟨rfl,fun i v e=>by simp at e⟩
  | x::xs,bs,its,h,r=>by
    obtain⟨b,br,rfl,rfl,h⟩:=h;cases r with
    | cons r1 r2=>
      obtain⟨h1,h2⟩:=yD.get h r2;refine⟨by simp[h1],fun i v e=>?_⟩;cases i with
      | zero=>
        simp at e;subst e;exact r1
      | succ i=>
        simp at e;simpa using h2 i v e
theorem range_all (bs:List Bool):(List.range bs.length).all (fun i=>bs.getD i false)=bs.all id:=by
  rw[Bool.eq_iff_iff,List.all_eq_true,List.all_eq_true];constructor
  ·intro h b hb;obtain⟨i,hi,rfl⟩:=List.mem_iff_getElem.mp hb;have:=h i (List.mem_range.mpr hi);simpa [List.getD,hi] using this
  ·intro h i hi;have hi':=List.mem_range.mp hi;have:=h bs[i] (List.getElem_mem hi');simpa [List.getD,hi'] using this
theorem qah (hc:X.calm=true):dD X (.builtin "all") (fun xs H Q=>∃a ys bs,xs=[.ref a]∧H a=some (.lst ys)∧yD ys bs∧Q (.bl (bs.all id)) H):=by
  intro p_ s σ H xs us Q I r h;obtain⟨a,ys,bs,rfl,ha,hb,q⟩:=h;obtain⟨u,rfl,ru⟩:=r.one;obtain rfl:u=Value.ref a:=ru;obtain⟨z,its,n,rv,hl,e⟩:=I.U3 ha;obtain⟨h1,h2⟩:=hb.get rv;have hL:s.heap.IsList a its.toArray:=⟨_,e,rfl,n,rfl⟩;refine call_all_walk ?_;refine wpAny_pyIter_list hL ?_;have hne:a≠s.heap.objs.size:=Nat.ne_of_lt (Heap.lt_size e);have hL2:(s.heap.push {cls:=.type "list_iterator",data:=.fields #[.ref a,.int 0 0]}).IsList a its.toArray:=⟨_,Heap.get?_push_of_some _ e,rfl,n,rfl⟩;refine⟨s.heap.objs.size,_,_,_,_,_,fun i=>bs.getD i false,rfl,Walks.list (by exact I.ok.hd hc) s.heap.objs.size a hne its.toArray,⟨⟨_,Heap.get?_push_size _ rfl,rfl,rfl⟩,hL2⟩,fun i v s' Q' E' hP hQ=>?_,fun h' tk kk=>?_⟩
  ·obtain rfl:=h2 i v (by simpa using hP);exact wpAny_truthy_bool hQ
  · have e2:(List.range its.toArray.size).all (fun i=>bs.getD i false)=bs.all id:=by
      rw[List.size_toArray,← hl,h1];exact range_all bs
    rw[e2];refine⟨.bl _,H,?_,rfl,q⟩;exact I.kept (h':=h') (t':=tk) fun b o eb=>kk b o (by simp;exact Nat.ne_of_lt (Heap.lt_size eb)) (Heap.get?_push_of_some _ eb)
end
def Ms (l:List Key) (k:Key):Bool:=l.any fun x=>decide (x=k)
theorem Mt {l:List Key} {k:Key}:Ms l k=true↔k∈l:=by
  unfold Ms;rw[List.any_eq_true];constructor
  ·rintro⟨x,hx,e⟩;have e':=of_decide_eq_true e;subst e';exact hx
  ·intro h;exact⟨k,h,decide_eq_true rfl⟩
theorem qbB (l:List Key) (x k:Key):Ms (l++[x]) k=(Ms l k || decide (k=x)):=by
  unfold Ms;rw[List.any_append];simp only[List.any_cons,List.any_nil,Bool.or_false];congr 1;exact decide_eq_decide.mpr ⟨fun e=>e.symm,fun e=>e.symm⟩
def DK (acc:List Key) (k:Key):List Key:=if Ms acc k=true then acc else acc++[k]
def JC (val:Nat→Key) (i:Nat):List Key:=((List.range i).map val).foldl DK []
theorem zZ (val:Nat→Key) (i:Nat):JC val (i+1)=DK (JC val i) (val i):=by
  unfold JC;rw[List.range_succ,List.map_append,List.foldl_append];rfl
theorem W8 (val:Nat→Key):∀i,(JC val i).length≤i
  | 0=>Nat.le_refl _
  | i+1=>by
    rw[zZ];have ih:=W8 val i;unfold DK;split
    ·omega
    ·rw[List.length_append,List.length_singleton];omega
theorem W9 (val:Nat→Key):∀n,(∀i j,i<n→j<n→val i=val j→i=j)→(JC val n).length=n∧∀k,k∈JC val n→∃i,i<n∧val i=k
  | 0,_=>⟨rfl,fun k h=>by simp[JC] at h⟩
  | n+1,h=>by
    obtain⟨h1,h2⟩:=W9 val n fun i j hi hj=>h i j (by omega) (by omega);have hnot:¬Ms (JC val n) (val n)=true:=fun hm=>by
      obtain⟨i,hi,e⟩:=h2 _ (Mt.mp hm);have:=h i n (by omega) (by omega) e;omega
    rw[zZ];unfold DK;rw[if_neg hnot];refine⟨by simp[h1],fun k hk=>?_⟩
    rcases List.mem_append.mp hk with z | z
    ·obtain⟨i,hi,e⟩:=h2 k z;exact⟨i,by omega,e⟩
    ·exact⟨n,by omega,(List.mem_singleton.mp z).symm⟩
theorem qdJ {k:Key} {v:Value} (h:CQ k v=true):v.scannable=true:=by
  rcases fH h with⟨i,t,rfl,rfl⟩ | ⟨x,t,rfl,rfl⟩ <;> rfl
theorem U8 {P:Program} {w:World} {h:Heap} {a:Addr} {S S':Key→Bool} {n n':Nat} (x:h.SetOf (cD P w) a S n) (e:∀k,S k=S' k) (en:n=n'):h.SetOf (cD P w) a S' n':=by
  have:S=S':=funext e;subst this;subst en;exact x
abbrev yE (P:Program) (w:World) (h:Heap) (a:Addr) (l:List Key):Prop:=h.SetOf (cD P w) a (Ms l) l.length
theorem yE.at {P:Program} {w:World} {h h':Heap} {a:Addr} {l:List Key} (x:yE P w h a l) (k:∀o,h.get? a=some o→h'.get? a=some o):yE P w h' a l:=by
  obtain⟨o,es,ep,t,e,r⟩:=x;exact⟨o,es,ep,t,k o e,r⟩
theorem Qw {P:Program} {w:World} {h:Heap} {a:Addr} {led:Bool} (e:h.get? a=some {cls:=.type "set",dict:=none,data:=.set #[] 0 (.fresh 0 0 led)}):yE P w h a []:=
  ⟨_,#[],0,.fresh 0 0 led,e,⟨rfl,rfl,rfl⟩,rfl,(fun x hx=>by simp at hx),(fun k=>by simp[Ms]),(by unfold scanBound;decide),(by cases led <;> rfl),rfl⟩
section
variable {P:Program} {w:World} {A:Around} {R:Result→Shared→Prop} {I:Addr} {fp wr:List Addr} {n:Nat} {PP:Nat→Value→Prop} {St:Nat→Heap→Prop}
theorem U9 (jV:Walks P w A.in1 I fp wr n PP St) (S:Addr) (hSf:S∉fp) (val:Nat→Key) (hval:∀i v,PP i v→CQ (val i) v=true) (hb:n+1<scanBound) :
    ∀(k i:Nat) (s:Shared),n - i=k→i≤n→St i s.heap→yE P w s.heap S (JC val i)→
      (∀h' tk,(∀b o,b≠S→b∉wr→s.heap.get? b=some o→h'.get? b=some o)→yE P w h' S (JC val n)→R (.ok (.ret .none)) {s with heap:=h',toks:=tk})→
      codeAny (model P w) A (.builtin "set.update.loop" ⟨[.ref S,.ref I],[]⟩) R s:=by
  have hSw:S∉wr:=fun h=>hSf (jV.sub _ h);intro k
  induction k with
  | zero=>
    intro i s hk hi hst hS hR;obtain rfl:i=n:=by omega
    refine codeAny_builtin PyProof.Rows.F.entry_set_update_loop ?_;rw[Around.under_plainId PyProof.Rows.F.plain_set_update_loop _];show wpAny _ A.in1 (pyNext (.ref I) >>= _) _ _ s;refine wpAny_bind (jV.done s _ _ hst fun h' tk hm=>?_);exact wpAny_pure (hR h' tk (fun b o _ hb e=>hm b o hb e) (hS.at fun o e=>hm S o hSw e))
  | succ k ih=>
    intro i s hk hi hst hS hR;have hlt:i<n:=by omega
    refine codeAny_builtin PyProof.Rows.F.entry_set_update_loop ?_;rw[Around.under_plainId PyProof.Rows.F.plain_set_update_loop _];show wpAny _ A.in1 (pyNext (.ref I) >>= _) _ _ s;refine wpAny_bind (jV.item i s _ _ hlt hst fun v h' tk hP hst' hm=>?_);have hkey:(cD P w).is (val i) v=true:=hval i v hP;have hS':yE P w h' S (JC val i):=hS.at fun o e=>hm S o hSw e;show wpAny _ A.in1 (holding [v] (setAdd S v) >>= _) _ _ _;refine wpAny_bind (wpAny_holding ?_);unfold setAdd;refine wpAny_holding (wpAny_bind ((cD P w).pyHash (k:=val i) hkey ?_));have hroom:(JC val i).length+1<scanBound:=by have:=W8 val i;omega
    refine wpAny_setAddHashed_of (knd:=cD P w) (s:={s with heap:=h',toks:=tk+1}) hkey (qdJ (hval i v hP)) hS' hroom fun h2 hsb hS2=>?_;have hSi:yE P w h2 S (JC val (i+1)):=by
      refine U8 hS2 (fun k'=>?_) ?_
      · rw[zZ];unfold DK;split
        · rename_i hm1
          by_cases e:k'=val i
          ·rw[e,hm1];rfl
          ·rw[decide_eq_false e,Bool.or_false]
        ·exact(qbB _ _ _).symm
      · rw[zZ];unfold DK;split
        ·rfl
        ·rw[List.length_append,List.length_singleton]
    refine wpAny_pure ⟨plainId_quiet PyProof.Rows.F.plain_set_update_loop _,ih (i+1) _ (by omega) hlt (jV.frame _ h' _ hst' fun b hb o e=>?_) hSi fun h3 tk3 hm3 hS3=>?_⟩
    ·exact(hsb.2 b (fun z:b=S=>hSf (by rw[← z];exact hb))).trans e
    ·refine hR h3 tk3 (fun b o hbS hbw e=>hm3 b o hbS hbw ?_) hS3;exact(hsb.2 b hbS).trans (hm b o hbw e)
end
theorem Pn:isSubtype (.type "list") (.type "set")=pure false:=by rw[isSubtype_type];kernel_rfl
theorem JD:isSubtype (.type "list") (.type "frozenset")=pure false:=by rw[isSubtype_type];kernel_rfl
set_option maxHeartbeats 4000000 in
theorem U_ {P:Program} {w:World} {A:Around} {E:Value→Shared→Prop} {s:Shared} {l:Addr} {its:Array Value} {val:Nat→Key} {Q:Value→Shared→Prop}
    (hh:A.handled=none) (hl:s.heap.IsList l its) (hval:∀i v,its[i]? = some v→CQ (val i) v=true) (hb:its.size+1<scanBound)
    (h:∀(g:Heap) (tk:Nat),yE P w g s.heap.objs.size (JC val its.size)→(∀b o,s.heap.get? b=some o→g.get? b=some o)→Q (.ref s.heap.objs.size) {s with heap:=g,toks:=tk}) :
    wpAny (model P w) A (call (.type "set") [.ref l]) Q E s:=by
  obtain⟨c,tl,hmro⟩:=PySem.F.called_set.mro;have q1:=PySem.F.called_set.made;have q2:=PySem.F.called_set.sub;refine wpAny_call (codeAny_of_tree ?_);show wpAny _ _ (callAny (.type "set") _) _ _ s;refine wpAny_pure ⟨Code.quiet_builtin _ (by decide+kernel),codeAny_builtin PySem.F.entry_type_call ?_⟩;rw[Around.under_plain (weight_type_call_type "set" [.ref l] []) rfl];have q3:=PySem.F.called_set.notType;have q4:=PySem.F.called_set.canCreate;have q5:=PySem.F.typeCall_set_1 (.ref l)
  repeat (any_goals (first | assumption | wp_step))
  refine codeAny_mono (code_set_new_1 (.ref l) (E:=E) (Q₁:=fun ob s1=>∃led:Bool,ob = .ref s.heap.objs.size∧s1={s with heap:=s.heap.push {cls:=.type "set",dict:=none,data:=.set #[] 0 (.fresh 0 0 led)}}) fun led=>⟨led,rfl,rfl⟩) fun r s1 hr=>?_;cases r with
  | error e=>exact hr
  | ok fl=>
    cases fl with
    | ret ob=>
      obtain⟨led,rfl,rfl⟩:=hr;have new:(s.heap.push {cls:=.type "set",dict:=none,data:=.set #[] 0 (.fresh 0 0 led)}).get? s.heap.objs.size=some {cls:=.type "set",dict:=none,data:=.set #[] 0 (.fresh 0 0 led)}:=Heap.get?_push_size _ rfl;have ty:Shared.TypeIs {s with heap:=s.heap.push {cls:=.type "set",dict:=none,data:=.set #[] 0 (.fresh 0 0 led)}} (.ref s.heap.objs.size) "set" :=⟨_,new,rfl⟩;have q6:=PySem.F.called_set.init.lookup;have q7:=PySem.F.called_set.init.bind (.ref s.heap.objs.size)
      repeat (any_goals (first | assumption | wp_step))
      refine codeAny_mono (codeAny_call_builtin (R:=wants (fun r s2=>r = .none∧∃g tk,s2={s with heap:=g,toks:=tk}∧yE P w g s.heap.objs.size (JC val its.size)∧(∀b o,s.heap.get? b=some o→g.get? b=some o)) E)
        PySem.F.called_set.init.plain PySem.F.entry_set_init (check_set_init_1 ty ?_)) fun r2 s2 hr2=>?_
      · obtain⟨ol,ho,hcl,nl,hdl⟩:=hl;obtain⟨oc,od,odt,osl⟩:=ol;simp only at hcl hdl;subst hcl;subst hdl;have ho2:(s.heap.push {cls:=.type "set",dict:=none,data:=.set #[] 0 (.fresh 0 0 led)}).get? l=some {cls:=.type "list",dict:=od,data:=.seq its nl,slots:=osl}:=Heap.get?_push_of_some _ ho;have q8:=Pn;have q9:=JD;have q10:(Value.type "list" == Value.type "dict")=false:=by decide
        have hl1:(s.heap.push {cls:=.type "set",dict:=none,data:=.set #[] 0 (.fresh 0 0 led)}).IsList l its:=⟨_,ho2,rfl,nl,rfl⟩;unfold Builtin.«set.__init__» noKeywords Builtin.Frozenset.updateFrom;generalize hPI:pyIter=PI
        wp_walk
        subst hPI;refine wpAny_pyIter_list hl1 ?_;refine wpAny_bind (wpAny_runValue ?_);have lt1:l<s.heap.objs.size:=Heap.lt_size ho;have hh3:A.in1.in1.in1.handled=none:=by simp[hh]
        have ne1:l≠(s.heap.push {cls:=.type "set",dict:=none,data:=.set #[] 0 (.fresh 0 0 led)}).objs.size:=by
          rw[Heap.size_push];exact Nat.ne_of_lt (Nat.lt_succ_of_lt lt1)
        have nf:s.heap.objs.size∉[(s.heap.push {cls:=.type "set",dict:=none,data:=.set #[] 0 (.fresh 0 0 led)}).objs.size,l]:=by
          rw[Heap.size_push];simp only[List.mem_cons,List.mem_singleton,List.not_mem_nil,or_false,not_or];exact⟨Nat.ne_of_lt (Nat.lt_succ_self _),Nat.ne_of_gt lt1⟩
        refine U9 (Walks.list hh3 _ l ne1 its) s.heap.objs.size nf val hval hb (its.size - 0) 0 _ (by omega) (Nat.zero_le _) ⟨⟨_,Heap.get?_push_size _ rfl,rfl,rfl⟩,hl1.push _⟩ ?hS0 ?hR
        case hS0=>
          have hget:((s.heap.push {cls:=.type "set",dict:=none,data:=.set #[] 0 (.fresh 0 0 led)}).push {cls:=.type "list_iterator",data:=.fields #[.ref l,.int 0 0]}).get? s.heap.objs.size
              = some {cls:=.type "set",dict:=none,data:=.set #[] 0 (.fresh 0 0 led)}:=Heap.get?_push_of_some _ new
          exact Qw hget
        case hR=>
          intro g tk hm hS;show wpAny _ _ _ _ _ _;refine wpAny_pure ?_;show wpAny _ _ (ret Value.none) _ _ _;refine wpAny_pure ⟨rfl,g,tk,rfl,hS,fun b o e=>?_⟩;have lb:b<s.heap.objs.size:=Heap.lt_size e;refine hm b o (Nat.ne_of_lt lb) ?_ (Heap.get?_push_of_some _ (Heap.get?_push_of_some _ e));simp only[List.mem_cons,List.not_mem_nil,or_false];rw[Heap.size_push];exact Nat.ne_of_lt (Nat.lt_succ_of_lt lb)
      · cases r2 with
        | error e=>exact hr2
        | ok fl2=>
          cases fl2 with
          | ret r=>
            obtain⟨rfl,g,tk,rfl,hS,hk⟩:=hr2
            repeat (any_goals (first | assumption | wp_step))
            exact h _ _ hS hk
          | _=>exact hr2.elim
    | _=>exact hr.elim
theorem Mu:isSubtype (.type "tuple") (.type "set")=pure false:=by rw[isSubtype_type];kernel_rfl
theorem Hx:isSubtype (.type "tuple") (.type "frozenset")=pure false:=by rw[isSubtype_type];kernel_rfl
set_option maxHeartbeats 4000000 in
theorem RP {P:Program} {w:World} {A:Around} {E:Value→Shared→Prop} {s:Shared} {l:Addr} {its:Array Value} {val:Nat→Key} {Q:Value→Shared→Prop}
    (hh:A.handled=none) (hl:s.heap.IsTuple l its) (hval:∀i v,its[i]? = some v→CQ (val i) v=true) (hb:its.size+1<scanBound)
    (h:∀(g:Heap) (tk:Nat),yE P w g s.heap.objs.size (JC val its.size)→(∀b o,s.heap.get? b=some o→g.get? b=some o)→Q (.ref s.heap.objs.size) {s with heap:=g,toks:=tk}) :
    wpAny (model P w) A (call (.type "set") [.ref l]) Q E s:=by
  obtain⟨c,tl,hmro⟩:=PySem.F.called_set.mro;have q1:=PySem.F.called_set.made;have q2:=PySem.F.called_set.sub;refine wpAny_call (codeAny_of_tree ?_);show wpAny _ _ (callAny (.type "set") _) _ _ s;refine wpAny_pure ⟨Code.quiet_builtin _ (by decide+kernel),codeAny_builtin PySem.F.entry_type_call ?_⟩;rw[Around.under_plain (weight_type_call_type "set" [.ref l] []) rfl];have q3:=PySem.F.called_set.notType;have q4:=PySem.F.called_set.canCreate;have q5:=PySem.F.typeCall_set_1 (.ref l)
  repeat (any_goals (first | assumption | wp_step))
  refine codeAny_mono (code_set_new_1 (.ref l) (E:=E) (Q₁:=fun ob s1=>∃led:Bool,ob = .ref s.heap.objs.size∧s1={s with heap:=s.heap.push {cls:=.type "set",dict:=none,data:=.set #[] 0 (.fresh 0 0 led)}}) fun led=>⟨led,rfl,rfl⟩) fun r s1 hr=>?_;cases r with
  | error e=>exact hr
  | ok fl=>
    cases fl with
    | ret ob=>
      obtain⟨led,rfl,rfl⟩:=hr;have new:(s.heap.push {cls:=.type "set",dict:=none,data:=.set #[] 0 (.fresh 0 0 led)}).get? s.heap.objs.size=some {cls:=.type "set",dict:=none,data:=.set #[] 0 (.fresh 0 0 led)}:=Heap.get?_push_size _ rfl;have ty:Shared.TypeIs {s with heap:=s.heap.push {cls:=.type "set",dict:=none,data:=.set #[] 0 (.fresh 0 0 led)}} (.ref s.heap.objs.size) "set" :=⟨_,new,rfl⟩;have q6:=PySem.F.called_set.init.lookup;have q7:=PySem.F.called_set.init.bind (.ref s.heap.objs.size)
      repeat (any_goals (first | assumption | wp_step))
      refine codeAny_mono (codeAny_call_builtin (R:=wants (fun r s2=>r = .none∧∃g tk,s2={s with heap:=g,toks:=tk}∧yE P w g s.heap.objs.size (JC val its.size)∧(∀b o,s.heap.get? b=some o→g.get? b=some o)) E)
        PySem.F.called_set.init.plain PySem.F.entry_set_init (check_set_init_1 ty ?_)) fun r2 s2 hr2=>?_
      · obtain⟨ol,ho,hcl,nl,hdl⟩:=hl;obtain⟨oc,od,odt,osl⟩:=ol;simp only at hcl hdl;subst hcl;subst hdl;have ho2:(s.heap.push {cls:=.type "set",dict:=none,data:=.set #[] 0 (.fresh 0 0 led)}).get? l=some {cls:=.type "tuple",dict:=od,data:=.seq its nl,slots:=osl}:=Heap.get?_push_of_some _ ho;have q8:=Mu;have q9:=Hx;have q10:(Value.type "tuple" == Value.type "dict")=false:=by decide
        have hl1:(s.heap.push {cls:=.type "set",dict:=none,data:=.set #[] 0 (.fresh 0 0 led)}).IsTuple l its:=⟨_,ho2,rfl,nl,rfl⟩;unfold Builtin.«set.__init__» noKeywords Builtin.Frozenset.updateFrom;generalize hPI:pyIter=PI
        wp_walk
        subst hPI;refine wpAny_pyIter_tuple hl1 ?_;refine wpAny_bind (wpAny_runValue ?_);have lt1:l<s.heap.objs.size:=Heap.lt_size ho;have hh3:A.in1.in1.in1.handled=none:=by simp[hh]
        have ne1:l≠(s.heap.push {cls:=.type "set",dict:=none,data:=.set #[] 0 (.fresh 0 0 led)}).objs.size:=by
          rw[Heap.size_push];exact Nat.ne_of_lt (Nat.lt_succ_of_lt lt1)
        have nf:s.heap.objs.size∉[(s.heap.push {cls:=.type "set",dict:=none,data:=.set #[] 0 (.fresh 0 0 led)}).objs.size,l]:=by
          rw[Heap.size_push];simp only[List.mem_cons,List.mem_singleton,List.not_mem_nil,or_false,not_or];exact⟨Nat.ne_of_lt (Nat.lt_succ_self _),Nat.ne_of_gt lt1⟩
        refine U9 (Walks.tuple hh3 _ l ne1 its) s.heap.objs.size nf val hval hb (its.size - 0) 0 _ (by omega) (Nat.zero_le _) ⟨⟨_,Heap.get?_push_size _ rfl,rfl,rfl⟩,⟨_,Heap.get?_push_of_some _ ho2,rfl,nl,rfl⟩⟩ ?hS0 ?hR
        case hS0=>
          have hget:((s.heap.push {cls:=.type "set",dict:=none,data:=.set #[] 0 (.fresh 0 0 led)}).push {cls:=.type "tuple_iterator",data:=.fields #[.ref l,.int 0 0]}).get? s.heap.objs.size
              = some {cls:=.type "set",dict:=none,data:=.set #[] 0 (.fresh 0 0 led)}:=Heap.get?_push_of_some _ new
          exact Qw hget
        case hR=>
          intro g tk hm hS;show wpAny _ _ _ _ _ _;refine wpAny_pure ?_;show wpAny _ _ (ret Value.none) _ _ _;refine wpAny_pure ⟨rfl,g,tk,rfl,hS,fun b o e=>?_⟩;have lb:b<s.heap.objs.size:=Heap.lt_size e;refine hm b o (Nat.ne_of_lt lb) ?_ (Heap.get?_push_of_some _ (Heap.get?_push_of_some _ e));simp only[List.mem_cons,List.not_mem_nil,or_false];rw[Heap.size_push];exact Nat.ne_of_lt (Nat.lt_succ_of_lt lb)
      · cases r2 with
        | error e=>exact hr2
        | ok fl2=>
          cases fl2 with
          | ret r=>
            obtain⟨rfl,g,tk,rfl,hS,hk⟩:=hr2
            repeat (any_goals (first | assumption | wp_step))
            exact h _ _ hS hk
          | _=>exact hr2.elim
    | _=>exact hr.elim
def qdK (P:Program) (w:World) (a:Addr) (l:List Key):HO:=.ext fun h=>yE P w h a l
section
variable {X:Cx}
def keysOf:List V→List Key
  | []=>[]
  | .int i::r=>.inl i::keysOf r
  | .str x::r=>.inr x::keysOf r
  | _::r=>keysOf r
def isKey:V→Bool
  | .int _=>true
  | .str _=>true
  | _=>false
theorem RQ:∀{xs:List V} {its:List Value},xs.all isKey=true→Vals xs its→(keysOf xs).length=its.length∧∀(i:Nat) (v:Value),its[i]? = some v→CQ ((keysOf xs).getD i (.inl 0)) v=true
  | [],_,_,.nil=>⟨rfl,fun i v e=>by simp at e⟩
  | x::xs,u::us,h,.cons r1 r2=>by
    rw[List.all_cons,Bool.and_eq_true] at h;obtain⟨h1,h2⟩:=RQ h.2 r2;cases x with
    | int i=>
      obtain⟨t,rfl⟩:=r1;refine⟨by simp[keysOf,h1],fun j v e=>?_⟩;cases j with
      | zero=>simp at e;subst e;exact Qi i t
      | succ j=>simp at e;simpa [keysOf] using h2 j v e
    | str z=>
      obtain⟨t,rfl⟩:=r1;refine⟨by simp[keysOf,h1],fun j v e=>?_⟩;cases j with
      | zero=>simp at e;subst e;exact Qj z t
      | succ j=>simp at e;simpa [keysOf] using h2 j v e
    | _=>exact absurd (show false=true from h.1) Bool.false_ne_true
theorem Fe (hc:X.calm=true):dD X (.type "set") (fun xs H Q=>∃a ys,xs=[.ref a]∧(cj X.K H a ys∨lR X.K H a ys)∧ys.all isKey=true∧ys.length+1<scanBound∧
    ∀p,H p=none→Q (.ref p) (upd H p (qdK X.prog X.w p (JC (fun i=>(keysOf ys).getD i (.inl 0)) ys.length)))):=by
  intro p_ s σ H xs us Q I r h;obtain⟨a,ys,rfl,hq,hk,hb,q⟩:=h;obtain⟨u,rfl,ru⟩:=r.one;obtain rfl:u=Value.ref a:=ru;have fin:∀(g:Heap) (tk:Nat),yE X.prog X.w g s.heap.objs.size (JC (fun i=>(keysOf ys).getD i (.inl 0)) ys.length)→(∀b o,s.heap.get? b=some o→g.get? b=some o)→EP X p_ σ Q (.ref s.heap.objs.size) {s with heap:=g,toks:=tk}:=fun g tk hS kk=>by
    have hn:H s.heap.objs.size=none:=I.hok.fresh (Nat.le_refl _);refine⟨.ref s.heap.objs.size,_,I.laid (o:=qdK X.prog X.w s.heap.objs.size (JC (fun i=>(keysOf ys).getD i (.inl 0)) ys.length)) (fun b o e=>kk b o e) (Nat.le_refl _) ⟨hS,?_,fun h1 h2 p k=>p.at k⟩,rfl,q _ hn⟩;obtain⟨o,_,_,_,e,_⟩:=hS;exact⟨o,e⟩
  rcases hq with hq | hq
  · obtain⟨its,rv,pl,hz⟩:=I.list hq;obtain⟨h1,h2⟩:=RQ hk rv;have hl:=rv.length;refine U_ (val:=fun i=>(keysOf ys).getD i (.inl 0)) (I.ok.hd hc) pl.isList (fun i v e=>h2 i v (by simpa using e)) (by rw[List.size_toArray];omega) fun g tk hS kk=>fin g tk ?_ kk;have ez:its.toArray.size=ys.length:=by rw[List.size_toArray,hl]
    rw[ez] at hS;exact hS
  · obtain⟨its,rv,pl,hz⟩:=I.tuple hq;obtain⟨h1,h2⟩:=RQ hk rv;have hl:=rv.length;refine RP (val:=fun i=>(keysOf ys).getD i (.inl 0)) (I.ok.hd hc) (show s.heap.IsTuple a its.toArray from pl) (fun i v e=>h2 i v (by simpa using e)) (by rw[List.size_toArray];omega) fun g tk hS kk=>fin g tk ?_ kk;have ez:its.toArray.size=ys.length:=by rw[List.size_toArray,hl]
    rw[ez] at hS;exact hS
theorem Fg:dD X (.builtin "len") (fun xs H Q=>∃a l,xs=[.ref a]∧H a=some (qdK X.prog X.w a l)∧Q (.int l.length) H):=by
  intro p_ s σ H xs us Q I r h;obtain⟨a,l,rfl,ha,q⟩:=h;obtain⟨u,rfl,ru⟩:=r.one;obtain rfl:u=Value.ref a:=ru;obtain⟨⟨o,es,ep,t,e,ex,hd,_,_,hsz,hf,hn⟩,_⟩:=(show d8 X.prog X.w H s.heap a (qdK X.prog X.w a l) from I.hok a _ ha);refine call_len_set e ex hd hf (by unfold scanBound at hsz;omega) ⟨.int l.length,H,I.tok _,⟨_,by rw[hn]⟩,q⟩
end
section
variable {X:Cx}
def qiC:R2:=fun x y H Q=>∃i j,x = .str i∧y = .str j∧i.length+j.length≤sizeLine∧Q (.str (i++j)) H
def qn9:R2:=fun x y H Q=>∃i j,x = .str i∧y = .str j∧Q (.bl (!(Builtin.Str.occurrences j i 0 j.length 1).isEmpty)) H
def qdL:R2:=fun x y H Q=>∃i j,x = .str i∧y = .str j∧Q (.bl (!(!(Builtin.Str.occurrences j i 0 j.length 1).isEmpty))) H
def qdM (K:W.Frag):R2:=fun x y H Q=>rIn K false x y H Q∨qn9 x y H Q
def RV (K:W.Frag):R2:=fun x y H Q=>rIn K true x y H Q∨qdL x y H Q
theorem qf9:mR X (compareOp .In) (qdM X.K):=qaa.or Z1
theorem qai:mR X (compareOp .NotIn) (RV X.K):=Rz.or RB
def qf_ (K:W.Frag):R2:=fun x y H Q=>∃p xs i v,x = .ref p∧y = .int i∧(cj K H p xs∨lR K H p xs)∧Lh xs i=some v∧Q v H
theorem ixQ:IxR X (qf_ X.K):=by
  intro value slice p_ s σ H x y v u Q I rx ry h hs;obtain⟨p,xs,i,z,e1,e2,hq | hq,e3,q⟩:=h
  ·exact qdC value slice p_ s σ H x y v u Q I rx ry ⟨p,xs,i,z,e1,e2,hq,e3,q⟩ hs
  ·exact qfY value slice p_ s σ H x y v u Q I rx ry ⟨p,xs,i,z,e1,e2,hq,e3,q⟩ hs
def qeU (K:W.Frag):List V→Hp→VK→Prop:=fun xs H Q=>∃p ys,xs=[.ref p]∧(cj K H p ys∨lR K H p ys)∧Q (.int ys.length) H
def qeV:List V→Hp→VK→Prop:=fun xs H Q=>∃z,xs=[.str z]∧z.length≤sizeLine∧Q (.int z.length) H
variable {K:W.Frag}
theorem qn_ (hK:X.K=K):IxR X (qf_ K):=by subst hK;exact ixQ
theorem inK (hK:X.K=K):mR X (compareOp .In) (qdM K):=by subst hK;exact qf9
theorem qga (hK:X.K=K):mR X (compareOp .NotIn) (RV K):=by subst hK;exact qai
theorem qiD (hK:X.K=K):dD X (.builtin "len") (qeU K):=by subst hK;exact RD
theorem qiE:dD X (.builtin "len") qeV:=RG
def YW (K:W.Frag):List V→Hp→VK→Prop:=fun xs H Q=>∃p ys,xs=[.ref p]∧(cj K H p ys∨lR K H p ys)∧∀l,H l=none→Q (.ref l) (upd H l (.lst ys))
theorem qdN (hK:X.K=K):dD X (.type "list") (YW K):=by subst hK;exact RJ
def qeW (K:W.Frag):List V→Hp→VK→Prop:=fun xs H Q=>∃x n t b,xs=[x,.ty n]∧uR K H x t∧W.kitOne K t (.type n)=some b∧Q (.bl b) H
theorem qiF (hK:X.K=K):dD X (.builtin "isinstance") (qeW K):=by subst hK;exact qae
def qeX (K:W.Frag):List V→Hp→VK→Prop:=fun xs H Q=>∃x p m n t b,xs=[x,.ref p]∧H p=some (.tup [.ty m,.ty n])∧uR K H x t∧W.kitAny K t [.type m,.type n]=some b∧Q (.bl b) H
theorem qiG (hK:X.K=K):dD X (.builtin "isinstance") (qeX K):=by subst hK;exact qaf
theorem oA (hK:X.K=K) {es:List Expr} {k:Nat} {pos:Pos} {t:Uo} {n:Nat} (hc:X.calm=true) (h:vN X es t)
    (hn:(assignEach es X.env).length=n:=by rfl) (hst:(assignEach es X.env).findIdx? (·.1)=none:=by rfl):PG X (.Tuple es k pos) (qdr K n t):=by subst hK;exact qfG hc h hn hst
theorem nO (hK:X.K=K) {tg l:Expr} {tl:TE} (hl:PE X l tl):PI X tg l (YG K tl):=by subst hK;exact qds hl
theorem RW (hK:X.K=K) {e:Expr} {ta:TE} {f:Str} {pos:Pos} (he:PE X e ta) (hb:attributeBase e f X.env (eval e X.env)=eval e X.env):PE X (.Attribute e f pos) (qdA K ta f):=by subst hK;exact qfV he hb
theorem jz (hK:X.K=K) {o e:Expr} {es:List Expr} {to:TE} {t:TA} {name:Str} {apos cpos:Pos} {T id:String} {r:V→List V→Hp→VK→Prop} (pa:PlainAttrs T) (slot:Slot T name id) (hty:typeOf (.builtin id)=pure (.type "method_descriptor")) (hm:Wr X id r) (ho:PE X o to) (ha:PA X (e::es) t)
    (hbase:attributeBase o name X.env (eval o X.env)=eval o X.env:=by rfl)
    (hfew:((backTo cpos (starEach (e::es) X.env)).all (fun x=>!x.1) && (backToKw cpos (keywordEach [] X.env)).all (fun x=>x.1.isSome)
      && decide ((e::es).length+([]:List Keyword).length+(if ([]:List Keyword).isEmpty then 0 else 1)<30))=true:=by rfl)
    (hline:(apos.endLine == cpos.line)=true:=by rfl) (hs:starEach (e::es) X.env=(false,eval e X.env)::starEach es X.env:=by rfl) (hplain:(backTo cpos (starEach es X.env)).any (·.1)=false:=by rfl) :
    PE X (.Call (.Attribute o name apos) (e::es) [] cpos) (tBM K T r to t):=by subst hK;exact qiv pa slot hty hm ho ha hbase hfew hline hs hplain
theorem pK:bootBuiltins "all" = some (.builtin "all"):=by decide+kernel
theorem Qx:bootBuiltins "any" = some (.builtin "any"):=by decide+kernel
theorem boot_max:bootBuiltins "max" = some (.builtin "max"):=by decide+kernel
theorem boot_min:bootBuiltins "min" = some (.builtin "min"):=by decide+kernel
theorem boot_abs:bootBuiltins "abs" = some (.builtin "abs"):=by decide+kernel
theorem boot_divmod:bootBuiltins "divmod" = some (.builtin "divmod"):=by decide+kernel
end
structure Nm (mg:Str→Option Value):Prop where
  len:mg "len" = none
  max:mg "max" = none
  min:mg "min" = none
  abs:mg "abs" = none
  divmod:mg "divmod" = none
  range:mg "range" = none
  zip:mg "zip" = none
  list:mg "list" = none
  tuple:mg "tuple" = none
  int:mg "int" = none
  str:mg "str" = none
  set:mg "set" = none
  all:mg "all" = none
  isinstance:mg "isinstance" = none
section
variable {K:W.Frag} {own:List Str} {caps:List Nat} {g:TG} {tt:TT} {te:TE} {D:Addr} {σ:St} {H:Hp} {Q:Hp→Prop}
abbrev Qy (g:TG) (tt:TT) (te:TE) (D:Addr) (N:St→Hp→Prop) (x:V) (σ:St) (H:Hp):Prop:=
  g x σ H fun σ2 H3=>tt σ2 H3 fun b H4=>if b=true then te σ2 H4 fun y H5=>∃ys,H5 D=some (.lst ys)∧ys.length<sizeLine∧N σ2 (upd H5 D (.lst (ys++[y]))) else N σ2 H4
theorem Qz {l:Addr} {xs:List V} (Pv:Nat→St→Hp→Prop) (h0:Pv 0 (stC own caps σ) H) (hl:∀i σ H,i≤xs.length→Pv i σ H→cj K H l xs)
    (hs:∀i x σ H,xs[i]? = some x→Pv i σ H→Qy g tt te D (Pv (i+1)) x σ H) (hd:∀σ H,Pv xs.length σ H→Q H):vR own caps (Itl K l) g tt te D σ H Q:=by
  refine⟨fun i m σ H=>m=xs.length - i∧i≤xs.length∧Pv i σ H,⟨xs.length,by simp,Nat.zero_le _,h0⟩,?_⟩;rintro i m σ H ⟨rfl,hi,p⟩;have q:=hl i σ H hi p
  by_cases hlt:i<xs.length
  ·refine .inr ⟨⟨xs,xs[i],q,by simp[hlt]⟩,Pv (i+1),fun σ' H' p'=>⟨xs.length - (i+1),by omega,rfl,hlt,p'⟩,fun x H' y=>?_⟩;obtain⟨e,y⟩:=y;subst e;exact hs i x σ _ (y xs q) p
  · have e:i=xs.length:=by omega
    subst e;exact .inl ⟨⟨xs,q,Nat.le_refl _⟩,hd σ H p⟩
theorem qbC {l:Addr} {xs:List V} (Pv:Nat→St→Hp→Prop) (h0:Pv 0 (stC own caps σ) H) (hl:∀i σ H,i≤xs.length→Pv i σ H→lR K H l xs)
    (hs:∀i x σ H,xs[i]? = some x→Pv i σ H→Qy g tt te D (Pv (i+1)) x σ H) (hd:∀σ H,Pv xs.length σ H→Q H):vR own caps (Itt K l) g tt te D σ H Q:=by
  refine⟨fun i m σ H=>m=xs.length - i∧i≤xs.length∧Pv i σ H,⟨xs.length,by simp,Nat.zero_le _,h0⟩,?_⟩;rintro i m σ H ⟨rfl,hi,p⟩;have q:=hl i σ H hi p
  by_cases hlt:i<xs.length
  ·refine .inr ⟨⟨xs,xs[i],q,by simp[hlt]⟩,Pv (i+1),fun σ' H' p'=>⟨xs.length - (i+1),by omega,rfl,hlt,p'⟩,fun x H' y=>?_⟩;obtain⟨e,y⟩:=y;subst e;exact hs i x σ _ (y xs q) p
  · have e:i=xs.length:=by omega
    subst e;exact .inl ⟨⟨xs,q,Nat.le_refl _⟩,hd σ H p⟩
theorem W_ {lo:Int} {n:Nat} (Pv:Nat→St→Hp→Prop) (h0:Pv 0 (stC own caps σ) H)
    (hs:∀i σ H,i<n→Pv i σ H→Qy g tt te D (Pv (i+1)) (.int (lo+i)) σ H) (hd:∀σ H,Pv n σ H→Q H):vR own caps (Wq lo n) g tt te D σ H Q:=by
  refine⟨fun i m σ H=>m=n - i∧i≤n∧Pv i σ H,⟨n,by simp,Nat.zero_le _,h0⟩,?_⟩;rintro i m σ H ⟨rfl,hi,p⟩
  by_cases hlt:i<n
  ·refine .inr ⟨hlt,Pv (i+1),fun σ' H' p'=>⟨n - (i+1),by omega,rfl,hlt,p'⟩,fun x H' y=>?_⟩;obtain⟨e,y⟩:=y;subst e y;exact hs i σ _ hlt p
  · have e:i=n:=by omega
    subst e;exact .inl ⟨Nat.le_refl _,hd σ H p⟩
theorem qbD {z:Str} (Pv:Nat→St→Hp→Prop) (h0:Pv 0 (stC own caps σ) H)
    (hs:∀i c σ H,z.cps[i]? = some c→Pv i σ H→Qy g tt te D (Pv (i+1)) (.str ⟨#[c]⟩) σ H) (hd:∀σ H,Pv z.cps.size σ H→Q H):vR own caps (Its z) g tt te D σ H Q:=by
  refine⟨fun i m σ H=>m=z.cps.size - i∧i≤z.cps.size∧Pv i σ H,⟨z.cps.size,by simp,Nat.zero_le _,h0⟩,?_⟩;rintro i m σ H ⟨rfl,hi,p⟩
  by_cases hlt:i<z.cps.size
  ·refine .inr ⟨hlt,Pv (i+1),fun σ' H' p'=>⟨z.cps.size - (i+1),by omega,rfl,hlt,p'⟩,fun x H' y=>?_⟩;obtain⟨e,c,hc,rfl⟩:=y;subst e;exact hs i c σ _ hc p
  · have e:i=z.cps.size:=by omega
    subst e;exact .inl ⟨Nat.le_refl _,hd σ H p⟩
theorem qbE {l1 l2:Addr} {xs ys:List V} (Pv:Nat→St→Hp→Prop) (h0:Pv 0 (stC own caps σ) H) (he:xs.length=ys.length) (hl:∀i σ H,i≤xs.length→Pv i σ H→cj K H l1 xs∧cj K H l2 ys)
    (hs:∀i x y t σ H,xs[i]? = some x→ys[i]? = some y→H t=none→Pv i σ H→Qy g tt te D (Pv (i+1)) (.ref t) σ (upd H t (.tup [x,y]))) (hd:∀σ H,Pv xs.length σ H→Q H):vR own caps (Itz K l1 l2) g tt te D σ H Q:=by
  refine⟨fun i m σ H=>m=xs.length - i∧i≤xs.length∧Pv i σ H,⟨xs.length,by simp,Nat.zero_le _,h0⟩,?_⟩;rintro i m σ H ⟨rfl,hi,p⟩;obtain⟨q1,q2⟩:=hl i σ H hi p
  by_cases hlt:i<xs.length
  · have hlt2:i<ys.length:=by omega
    refine .inr ⟨⟨xs,ys,xs[i],ys[i],q1,q2,by simp[hlt],by simp[hlt2]⟩,Pv (i+1),fun σ' H' p'=>⟨xs.length - (i+1),by omega,rfl,hlt,p'⟩,fun x H' y=>?_⟩;obtain⟨t,u,v,rfl,ht,rfl,e1,e2⟩:=y;exact hs i u v t σ H (e1 xs q1) (e2 ys q2) ht p
  · have e:i=xs.length:=by omega
    subst e;exact .inl ⟨⟨xs,ys,q1,q2,.inl (Nat.le_refl _)⟩,hd σ H p⟩
end
def RX (b:Bool) (K:W.Frag) (H:Hp) (p:Addr) (xs:List V):Prop:=match b with | true=>cj K H p xs | false=>lR K H p xs
def Itq (b:Bool) (K:W.Frag) (p:Addr):It:=match b with | true=>Itl K p | false=>Itt K p
def qgb (K:W.Frag) (tl:TE):TI:=fun σ H R=>tl σ H fun x H1=>∃b p,x = .ref p∧(∃xs,RX b K H1 p xs)∧R (Itq b K p) H1
theorem tU {X:Cx} {K:W.Frag} (hK:X.K=K) {tg l:Expr} {tl:TE} (hl:PE X l tl):PI X tg l (qgb K tl):=by
  intro p_ s σ H R I h;refine d9 (hl p_ s σ H _ I h) fun v s1 zz=>?_;obtain⟨x,H1,I1,r1,q1⟩:=zz;obtain⟨b,p,e,hq,q⟩:=q1;subst e;subst hK;cases b with
  | true=>
    cases r1;obtain⟨xs,hq⟩:=hq;obtain⟨its,rv,pl,hz⟩:=I1.list hq;refine wpAny_pyIter_list pl.isList ?_;refine⟨s1.heap.objs.size,[s1.heap.objs.size],_,_,H1,rfl,I1.kept (t':=s1.toks) fun b o e=>Heap.get?_push_of_some _ e,Ql p _,⟨_,Heap.get?_push_size _ rfl,rfl,rfl⟩,fun b hb=>?_,q⟩;have e:b=s1.heap.objs.size:=by simpa using hb
    subst e;exact I1.Ru (Nat.le_refl _) (I1.hok.fresh (Nat.le_refl _))
  | false=>
    cases r1;obtain⟨xs,hq⟩:=hq;obtain⟨its,rv,pl,hz⟩:=I1.tuple hq;refine wpAny_pyIter_tuple (show s1.heap.IsTuple p its.toArray from pl) ?_;refine⟨s1.heap.objs.size,[s1.heap.objs.size],_,_,H1,rfl,I1.kept (t':=s1.toks) fun b o e=>Heap.get?_push_of_some _ e,Wx p _,⟨_,Heap.get?_push_size _ rfl,rfl,rfl⟩,fun b hb=>?_,q⟩;have e:b=s1.heap.objs.size:=by simpa using hb
    subst e;exact I1.Ru (Nat.le_refl _) (I1.hok.fresh (Nat.le_refl _))
section
variable {K:W.Frag} {own:List Str} {caps:List Nat} {g:TG} {tt:TT} {te:TE} {D:Addr} {σ:St} {H:Hp} {Q:Hp→Prop}
theorem qbF {b:Bool} {l:Addr} {xs:List V} (Pv:Nat→St→Hp→Prop) (h0:Pv 0 (stC own caps σ) H) (hl:∀i σ H,i≤xs.length→Pv i σ H→RX b K H l xs)
    (hs:∀i x σ H,xs[i]? = some x→Pv i σ H→Qy g tt te D (Pv (i+1)) x σ H) (hd:∀σ H,Pv xs.length σ H→Q H):vR own caps (Itq b K l) g tt te D σ H Q:=by
  cases b with
  | true=>exact Qz Pv h0 hl hs hd
  | false=>exact qbC Pv h0 hl hs hd
theorem qdO {b:Bool} {l:Addr} {xs:List V} {tb:TS} {D:Ends} (Pv:Nat→St→Hp→Prop) (h0:Pv 0 σ H) (hl:∀i σ H,i≤xs.length→Pv i σ H→RX b K H l xs)
    (hs:∀i x σ H,xs[i]? = some x→Pv i σ H→g x σ H fun σ2 H2=>tb {D with nx:=Pv (i+1),ct:=Pv (i+1),bk:=D.nx} σ2 H2) (hd:∀σ H,Pv xs.length σ H→D.nx σ H) :
    ∃jV:Nat→Nat→St→Hp→Prop,(∃m,jV 0 m σ H)∧∀i m σ H,jV i m σ H→
      ((Itq b K l).stop i H∧D.nx σ H)∨((Itq b K l).go i H∧∃N:St→Hp→Prop,(∀σ' H',N σ' H'→∃m',m'<m∧jV (i+1) m' σ' H')∧∀x H',(Itq b K l).yld i H x H'→g x σ H' fun σ2 H2=>tb {D with nx:=N,ct:=N,bk:=D.nx} σ2 H2):=by
  cases b with
  | true=>exact Uz Pv h0 hl hs hd
  | false=>exact qdt Pv h0 hl hs hd
end
theorem aB {H:Hp} {p:Addr} {o:HO} (h:H p=none):Same H (upd H p o):=fun b u e=>by rw[aV (aY e h)];exact e
theorem cU {H H':Hp} {p:Addr} {o:HO} (s:Same H H') (h:H p=none):Same H (upd H' p o):=fun b u e=>by rw[aV (aY e h)];exact s b u e
def Sq (H:Hp) (p:Addr) (xs:List V):Prop:=H p=some (.lst xs)∨H p=some (.tup xs)
theorem Sq.q {K:W.Frag} {H:Hp} {p:Addr} {xs:List V} (h:Sq H p xs):cj K H p xs∨lR K H p xs:=h.elim (fun e=>.inl (cj.of e)) fun e=>.inr (lR.of e)
theorem Sq.b {H:Hp} {p:Addr} {xs:List V} (h:Sq H p xs):∃b,∀K H',Same H H'→RX b K H' p xs:=h.elim (fun e=>⟨true,fun _ _ s=>cj.of (s _ _ e)⟩) fun e=>⟨false,fun _ _ s=>lR.of (s _ _ e)⟩
theorem Sq.same {H H':Hp} {p:Addr} {xs:List V} (h:Sq H p xs) (s:Same H H'):Sq H' p xs:=h.elim (fun e=>.inl (s _ _ e)) fun e=>.inr (s _ _ e)
theorem Sq.ty {K:W.Frag} {H:Hp} {p:Addr} {xs:List V} (h:Sq H p xs):uR K H (.ref p) (.type "list")∨uR K H (.ref p) (.type "tuple"):=h.elim (fun e=>.inl (.lst e)) fun e=>.inr (.tup e)
theorem rT {α:Type} (f:α→Bool):∀l:List α,yD (l.map fun c=>.bl (f c)) (l.map f)
  | []=>rfl
  | c::l=>⟨f c,l.map f,rfl,rfl,rT f l⟩
theorem Xa {α:Type} (f:α→Bool) (l:List α):(l.map f).all id=l.all f:=by
  rw[List.all_map];rfl
theorem take_one {α:Type} {l:List α} {i:Nat} {x:α} (h:l[i]? = some x):l.take (i+1)=l.take i++[x]:=by
  rw[List.take_succ,h];rfl
def YX:List V→Hp→VK→Prop:=fun xs H Q=>∃p ys,xs=[.ref p]∧Sq H p ys∧∀l H',H' l=some (.tup ys)→Same H H'→Q (.ref l) H'
theorem qbG {X:Cx}:dD X (.type "tuple") YX:=by
  intro p_ s σ H xs us Q I r h;obtain⟨p,ys,rfl,hq,q⟩:=h;refine Pk p_ s σ H _ us Q I r ⟨p,ys,rfl,?_⟩
  rcases hq with e | e
  ·exact .inl ⟨cj.of e,fun l hl=>q l _ aA (aB hl)⟩
  ·exact .inr ⟨lR.of e,q p H e (Same.refl H)⟩
def qgc (J:It) (g:TG) (tb:TS):TS:=fun D σ H=>∃jV:Nat→Nat→St→Hp→Prop,(∃m,jV 0 m σ H)∧∀i m σ H,jV i m σ H→
      (J.stop i H∧D.nx σ H)∨(J.go i H∧∃N:St→Hp→Prop,(∀σ' H',N σ' H'→∃m',m'<m∧jV (i+1) m' σ' H')∧∀x H',J.yld i H x H'→g x σ H' fun σ2 H2=>tb {D with nx:=N,ct:=N,bk:=D.nx} σ2 H2)
theorem dz {H:Hp} {b p:Addr} {o u:HO} (h:H b=some o) (n:H p=none):upd H p u b=some o:=by rw[aV (aY h n)];exact h
theorem Li {H:Hp} {b p:Addr} {o o' u:HO} (h:H b=some o) (n:H p=some o') (d:o≠o'):upd H p u b=some o:=by
  rw[aV (fun e=>d (by subst e;rw[h] at n;exact Option.some.inj n))];exact h
theorem nP {H H':Hp} {b:Addr} (s:Same H H') (h:H' b=none):H b=none:=by
  cases e:H b with
  | none=>rfl
  | some o=>rw[s b o e] at h;cases h
def But (p:Addr) (H H':Hp):Prop:=∀b o,b≠p→H b=some o→H' b=some o
theorem But.refl (p:Addr) (H:Hp):But p H H:=fun _ _ _ e=>e
theorem But.trans {p:Addr} {H H1 H2:Hp} (x:But p H H1) (y:But p H1 H2):But p H H2:=fun b o hb e=>y b o hb (x b o hb e)
theorem But.new {p q:Addr} {H H':Hp} {u:HO} (x:But p H H') (h:H q=none):But p H (upd H' q u):=fun b o hb e=>by
  rw[aV (aY e h)];exact x b o hb e
theorem But.of {p:Addr} {H H':Hp} (x:Same H H'):But p H H':=fun b o _ e=>x b o e
theorem But.same {p:Addr} {H H1 H2:Hp} (x:But p H H1) (y:Same H1 H2):But p H H2:=fun b o hb e=>y b o (x b o hb e)
theorem But.none {p b:Addr} {H H':Hp} {u:HO} (x:But p H H') (hp:H' p=some u) (h:H' b = .none):H b = .none:=by
  cases e:H b with
  | none=>rfl
  | some o=>
    have hb:b≠p:=fun z=>by subst z;rw[hp] at h;cases h
    rw[x b o hb e] at h;cases h
theorem YZ {α:Type} {xs:List α} {i:Int} (h0:0≤i) (h1:i<xs.length):∃v,xs[i.toNat]? = some v∧Lh xs i=some v:=by
  obtain⟨j,rfl⟩:∃j:Nat,i=j:=⟨i.toNat,by omega⟩;have hj:j<xs.length:=by omega
  exact⟨xs[j],by simp[hj],dj (by simp[hj])⟩
theorem RZ {i:Int} {n:Nat} (h0:0≤i) (h1:i<n):seqIndex? i n=some i.toNat:=by
  have e:¬i<0:=by omega
  simp[seqIndex?,e,h0,h1]
theorem qaj {α β:Type} (f:α→β) (l:List α) (k:Nat):(l.map f).eraseIdx k=(l.eraseIdx k).map f:=by
  rw[List.eraseIdx_eq_take_drop_succ,List.eraseIdx_eq_take_drop_succ,List.map_append,List.map_take,List.map_drop]
theorem Xb {α:Type} {l:List α} {k:Nat} {x:α} (h:l[k]? = some x):(x::l.eraseIdx k).Perm l:=by
  obtain⟨hk,e⟩:=List.getElem?_eq_some_iff.mp h;rw[List.eraseIdx_eq_take_drop_succ];refine List.perm_middle.symm.trans ?_;rw[← e,List.getElem_cons_drop,List.take_append_drop]
theorem qgd {d e n:Int} (h0:0≤d) (h1:d<n) (h2:0≤e) (h3:e<n - 1):0≤(d+1+e) % n∧(d+1+e) % n<n∧(d+1+e) % n≠d:=by
  refine⟨Int.emod_nonneg _ (by omega),Int.emod_lt_of_pos _ (by omega),?_⟩
  by_cases h:d+1+e<n
  ·rw[Int.emod_eq_of_lt (by omega) h];omega
  · have z:d+1+e=(d+1+e - n)+n * 1:=by omega
    rw[z,Int.add_mul_emod_self_left,Int.emod_eq_of_lt (by omega) (by omega)];omega
theorem Gs {xs:List Str} {i:Nat} {x:V} (h:(xs.map V.str)[i]? = some x):∃z,xs[i]? = some z∧x = .str z:=by
  rw[List.getElem?_map] at h;cases e:xs[i]? with
  | none=>rw[e] at h;cases h
  | some z=>rw[e] at h;exact⟨z,rfl,(Option.some.inj h).symm⟩
theorem Mv {α:Type} {xs:List α} (h:xs.Nodup) {i j:Nat} {x:α} (hi:xs[i]? = some x) (hj:xs[j]? = some x):i=j:=by
  obtain⟨h1,e1⟩:=List.getElem?_eq_some_iff.mp hi;obtain⟨h2,e2⟩:=List.getElem?_eq_some_iff.mp hj;exact(List.getElem_inj h).mp (e1.trans e2.symm)
def Y0 (c:Nat):Bool:=!(Builtin.Str.occurrences ("abcdefghijklmnopqrstuvwxyz" : Str) ⟨#[c]⟩ 0 ("abcdefghijklmnopqrstuvwxyz" : Str).length 1).isEmpty
def nameB (x:Str):Bool:=decide (1≤x.length) && decide (x.length≤4) && x.cps.toList.all Y0
theorem qbH:∀n<26,Y0 (97+n)=true:=by decide+kernel
theorem Xc:∀n:Nat,n<26→Lh (Str.ofString "abcdefghijklmnopqrstuvwxyz").cps.toList (n:Int)=some (97+n):=by decide+kernel
theorem DN:(Str.ofString "abcdefghijklmnopqrstuvwxyz").length≤sizeLine:=by decide+kernel
theorem yF {i:Int} (h0:0≤i) (h1:i<26):∃n:Nat,i=n∧n<26∧Lh (Str.ofString "abcdefghijklmnopqrstuvwxyz").cps.toList i=some (97+n):=
  ⟨i.toNat,by omega,by omega,by
    obtain⟨n,rfl⟩:∃n:Nat,i=n:=⟨i.toNat,by omega⟩;exact Xc n (by omega)⟩
def Hy (c d:Nat):List Str:=
  let p:Str:=⟨#[c]⟩
  let q:Str:=⟨#[d]⟩
  [p,p++p,p++q,p++p++q,q,q++p,p++p++p,p++q++p,q++q,p++p++p++q,p++q++q,q++p++p]
theorem Xd:∀n<26,(Hy (97+n) (97+(n+1) % 26)).Nodup∧∀x∈Hy (97+n) (97+(n+1) % 26),nameB x=true:=by decide+kernel
structure Bm (c:Nat) (k:Nat) (x:Str):Prop where
  len:x.length=k
  fst:x.cps[0]? = some c
  all:x.cps.toList.all Y0=true
theorem Bm.one {n:Nat} (h:n<26):Bm (97+n) 1 ⟨#[97+n]⟩:=⟨rfl,rfl,by simp[qbH n h]⟩
theorem Bm.name {c k:Nat} {x:Str} (h:Bm c k x) (h1:1≤k) (h4:k≤4):nameB x=true:=by
  unfold nameB;rw[h.len,h.all];simp;omega
section
variable {κ:Type} [DecidableEq κ]
def vU (kvs:List (κ×V)) (k:κ):Option V:=(kvs.find? fun kv=>decide (kv.1=k)).map (·.2)
def putK (kvs:List (κ×V)) (k:κ) (v:V):List (κ×V):=
  if (kvs.any fun kv=>decide (kv.1=k))=true then kvs.map (fun kv=>if kv.1=k then (kv.1,v) else kv) else kvs++[(k,v)]
theorem Hz {p:κ×V} {r:List (κ×V)} {k:κ} (e:p.1=k):vU (p::r) k=some p.2:=by simp[vU,List.find?_cons,e]
theorem HB {p:κ×V} {r:List (κ×V)} {k:κ} (e:¬p.1=k):vU (p::r) k=vU r k:=by simp[vU,List.find?_cons,e]
theorem Mw (k:κ):∀kvs:List (κ×V),(kvs.any fun kv=>decide (kv.1=k))=(vU kvs k).isSome
  | []=>rfl
  | p::r=>by
    rw[List.any_cons]
    by_cases e:p.1=k
    ·simp only[Hz e,decide_eq_true e,Bool.true_or,Option.isSome_some]
    ·rw[HB e,decide_eq_false e,Bool.false_or];exact Mw k r
theorem DP (kvs:List (κ×V)) (k:κ) (v:V):(putK kvs k v).length≤kvs.length+1:=by
  unfold putK;split
  ·rw[List.length_map];omega
  ·rw[List.length_append,List.length_cons,List.length_nil];omega
theorem qbI {kvs:List (κ×V)} {k:κ} (v:V) (h:vU kvs k=none):putK kvs k v=kvs++[(k,v)]:=by
  unfold putK;rw[Mw,h];exact if_neg (by decide)
theorem Dq.z6 {o:Option V} {u:Option Value} (r:Dq o u):o.isSome=u.isSome:=by
  cases o with
  | none=>cases u with
    | none=>rfl
    | some _=>exact(show False from r).elim
  | some _=>cases u with
    | none=>exact(show False from r).elim
    | some _=>rfl
theorem Dq.getD {o:Option V} {u:Option Value} {d:V} {d':Value} (r:Dq o u) (rd:RelV d d'):RelV (o.getD d) (u.getD d'):=by
  cases o with
  | none=>cases u with
    | none=>exact rd
    | some _=>exact(show False from r).elim
  | some _=>cases u with
    | none=>exact(show False from r).elim
    | some _=>exact r
theorem KV.val {kvs:List (κ×V)} {vs:List (κ×Value)} (r:KV kvs vs) (k:κ):Dq (vU kvs k) (valueAt vs k):=by
  unfold KV at r
  induction r with
  | nil=>exact True.intro
  | @cons p q ps qs h t ih=>
    obtain⟨h1,h2⟩:=h
    by_cases e:p.1=k
    · have e':q.1=k:=h1.symm.trans e;have b:valueAt (q::qs) k=some q.2:=by simp[valueAt,List.find?_cons,e']
      rw[Hz e,b];exact h2
    · have e':¬q.1=k:=fun z=>e (h1.trans z);have b:valueAt (q::qs) k=valueAt qs k:=by simp[valueAt,List.find?_cons,e']
      rw[HB e,b];exact ih
theorem KV.any {kvs:List (κ×V)} {vs:List (κ×Value)} (r:KV kvs vs) (k:κ):(kvs.any fun kv=>decide (kv.1=k))=vs.any fun kv=>decide (kv.1=k):=by
  unfold KV at r
  induction r with
  | nil=>rfl
  | cons h t ih=>rw[List.any_cons,List.any_cons,ih,h.1]
theorem KV.repl {kvs:List (κ×V)} {vs:List (κ×Value)} (r:KV kvs vs) (k:κ) {y:V} {u:Value} (ry:RelV y u) :
    KV (kvs.map fun kv=>if kv.1=k then (kv.1,y) else kv) (vs.map fun kv=>if kv.1=k then (kv.1,u) else kv):=by
  unfold KV at r ⊢
  induction r with
  | nil=>exact .nil
  | @cons p q ps qs h t ih=>
    rw[List.map_cons,List.map_cons];refine .cons ?_ ih;obtain⟨h1,h2⟩:=h
    by_cases e:p.1=k
    ·rw[if_pos e,if_pos (h1.symm.trans e)];exact⟨h1,ry⟩
    ·rw[if_neg e,if_neg (fun z=>e (h1.trans z))];exact⟨h1,h2⟩
theorem KV.put {kvs:List (κ×V)} {vs:List (κ×Value)} (r:KV kvs vs) (k:κ) {y:V} {u:Value} (ry:RelV y u):KV (putK kvs k y) (stored vs k u):=by
  unfold putK stored;rw[r.any k]
  by_cases e:(vs.any fun kv=>decide (kv.1=k))=true
  ·rw[if_pos e,if_pos e];exact r.repl k ry
  ·rw[if_neg e,if_neg e];exact Paired.snoc r ⟨rfl,ry⟩
theorem KV.length {kvs:List (κ×V)} {vs:List (κ×Value)} (r:KV kvs vs):kvs.length=vs.length:=Paired.length r
end
theorem Kz {P:Program} {w:World} {k:Key} {u:Value} (r:RelV (kV k) u):(cD P w).is k u=true:=by
  cases k with
  | inl i=>obtain⟨t,e⟩:=(show ∃t,u=Value.int i t from r);subst e;exact Ku P w i t
  | inr x=>obtain⟨t,e⟩:=(show ∃t,u=Value.str x t from r);subst e;exact Us P w x t
theorem QB {P:Program} {w:World}:∀{ks:List Key} {us:List Value},Vals (ks.map kV) us→ItemsAre (cD P w) ks us
  | [],_,r=>by rw[List.map_nil] at r;cases r;exact .nil
  | k::ks,_,r=>by
    rw[List.map_cons] at r;cases r with
    | cons h t=>exact .cons (Kz h) (QB t)
abbrev KT (H:Hp):List (List Key×V)→List (List Key×Addr×Value)→Prop:=Paired fun p q=>p.1=q.1∧H q.2.1=some (.tup (p.1.map kV))∧RelV p.2 q.2.2
theorem KT.val {H:Hp} {kvs:List (List Key×V)} {xs:List (List Key×Addr×Value)} (r:KT H kvs xs) (k:List Key):Dq (vU kvs k) ((atKey xs k).map (·.2)):=by
  induction r with
  | nil=>exact True.intro
  | @cons p q ps qs h t ih=>
    obtain⟨h1,_,h2⟩:=h
    by_cases e:p.1=k
    · have e':q.1=k:=h1.symm.trans e;have b:atKey (q::qs) k=some q.2:=by simp[atKey,List.find?_cons,e']
      rw[Hz e,b];exact h2
    · have e':¬q.1=k:=fun z=>e (h1.trans z);have b:atKey (q::qs) k=atKey qs k:=by simp[atKey,List.find?_cons,e']
      rw[HB e,b];exact ih
theorem KT.repl {H:Hp} {kvs:List (List Key×V)} {xs:List (List Key×Addr×Value)} (r:KT H kvs xs) (k:List Key) {y:V} {u:Value} (ry:RelV y u) :
    KT H (kvs.map fun kv=>if kv.1=k then (kv.1,y) else kv) (xs.map (putAt k u)):=by
  induction r with
  | nil=>exact .nil
  | @cons p q ps qs h t ih=>
    rw[List.map_cons,List.map_cons];refine .cons ?_ ih;obtain⟨h1,h2,h3⟩:=h;unfold putAt
    by_cases e:p.1=k
    ·rw[if_pos e,if_pos (h1.symm.trans e)];exact⟨h1,h2,ry⟩
    ·rw[if_neg e,if_neg (fun z=>e (h1.trans z))];exact⟨h1,h2,h3⟩
theorem KT.put {H:Hp} {kvs:List (List Key×V)} {xs:List (List Key×Addr×Value)} (r:KT H kvs xs) (k:List Key) {b:Addr} {y:V} {u:Value} (hb:H b=some (.tup (k.map kV))) (ry:RelV y u) :
    KT H (putK kvs k y) (storedH xs k b u):=by
  have e:(kvs.any fun kv=>decide (kv.1=k))=(atKey xs k).isSome:=by
    rw[Mw,(r.val k).z6,Option.isSome_map]
  unfold putK storedH;rw[e]
  by_cases q:(atKey xs k).isSome=true
  ·rw[if_pos q,if_pos q];exact r.repl k ry
  ·rw[if_neg q,if_neg q];exact Paired.snoc r ⟨rfl,hb,ry⟩
theorem KT.keeps {H H':Hp} {kvs:List (List Key×V)} {xs:List (List Key×Addr×Value)} (r:KT H kvs xs) (ht:∀b ys,H b=some (.tup ys)→H' b=some (.tup ys)):KT H' kvs xs:=
  Paired.qfy r fun _ _ z=>⟨z.1,ht _ _ z.2.1,z.2.2⟩
section
variable {P:Program} {w:World} {H:Hp} {h:Heap} {a:Addr}
theorem qeY {u:HO} (ok:Du P w H h) (e:Rd H a u):d8 P w H h a u:=e.ok ok
theorem KC {kvs:List (Key×V)} (ok:Du P w H h) (e:Rd H a (.dK kvs)):kvs.length≤sizeLine∧(a == sysModules)=false∧∃vs,KV kvs vs∧h.DictOf (cD P w) a vs:=
  show d8 P w H h a (.dK kvs) from qeY ok e
theorem Y4 {kvs:List (Key×V)} (ok:Du P w H h) (e:H a=some (.dK kvs)):kvs.length≤sizeLine∧(a == sysModules)=false∧∃vs,KV kvs vs∧h.DictOf (cD P w) a vs:=KC ok (.inl e)
theorem Gu {ks:List Key} (ok:Du P w H h) (e:H a=some (.tup (ks.map kV))):(tupleKind (cD P w)).is h ks a:=by
  obtain⟨_,its,r,o,h1,h2,n,h3⟩:=(show d8 P w H h a (.tup (ks.map kV)) from ok a _ e);exact⟨o,its.toArray,n,h1,h2,h3,by simpa using QB r⟩
theorem KD {kvs:List (List Key×V)} (ok:Du P w H h) (e:Rd H a (.dT kvs)):kvs.length≤sizeLine∧(a == sysModules)=false∧
    ∃xs,KT H kvs xs∧h.DictOfH (tupleKind (cD P w)) a xs:=by
  obtain⟨z,y,xs,r,o,es,ep,h1,h2,h3,h4,h5⟩:=(show d8 P w H h a (.dT kvs) from qeY ok e);refine⟨z,y,xs,r,o,es,ep,h1,h2,h3,h4,fun x hx=>?_,h5⟩;have all:∀{l:List (List Key×V)} {m:List (List Key×Addr×Value)},KT H l m→∀x∈m,(tupleKind (cD P w)).is h x.1 x.2.1:=by
    intro l m q
    induction q with
    | nil=>intro x hx;exact nomatch hx
    | @cons p q ps qs hq t ih=>
      intro x hx
      rcases List.mem_cons.mp hx with e | hx
      ·subst e;exact Gu ok (by rw[← hq.1];exact hq.2.1)
      ·exact ih x hx
  exact all r x hx
theorem qeZ {kvs:List (List Key×V)} (ok:Du P w H h) (e:H a=some (.dT kvs)):kvs.length≤sizeLine∧(a == sysModules)=false∧
    ∃xs,KT H kvs xs∧h.DictOfH (tupleKind (cD P w)) a xs:=KD ok (.inl e)
end
def nQ (H:Hp) (a:Addr) (y:V) (r:Option V):Prop:=
  (∃kvs k,Rd H a (.dK kvs)∧y=kV k∧r=vU kvs k)∨∃kvs k b,Rd H a (.dT kvs)∧y = .ref b∧H b=some (.tup (k.map kV))∧r=vU kvs k
def R0 (H:Hp) (a:Addr) (y v:V) (H':Hp):Prop:=
  (∃kvs k,H a=some (.dK kvs)∧y=kV k∧kvs.length<sizeLine∧H'=upd H a (.dK (putK kvs k v)))∨
  ∃kvs k b,H a=some (.dT kvs)∧y = .ref b∧H b=some (.tup (k.map kV))∧kvs.length<sizeLine∧H'=upd H a (.dT (putK kvs k v))
theorem nQ.k {H:Hp} {a:Addr} {kvs:List (Key×V)} {k:Key} (e:H a=some (.dK kvs)):nQ H a (kV k) (vU kvs k):=.inl ⟨kvs,k,.inl e,rfl,rfl⟩
theorem R0.k {H:Hp} {a:Addr} {kvs:List (Key×V)} {k:Key} {v:V} (e:H a=some (.dK kvs)) (hl:kvs.length<sizeLine):R0 H a (kV k) v (upd H a (.dK (putK kvs k v))):=.inl ⟨kvs,k,e,rfl,hl,rfl⟩
section
variable {X:Cx} {p_:List (Addr×Obj)} {σ:St} {H:Hp} {s:Shared} {a:Addr} {y v:V} {u r:Value} {o:Option V} {A:Around} {E:Value→Shared→Prop}
theorem Inv.big (I:Inv X p_ σ H s):sysModules<s.heap.objs.size:=by
  have h:mainGlobals<s.heap.objs.size:=(I.mod.glob.keeps I.bk).lt;exact Nat.lt_trans (by decide) h
theorem qak {Q:Value→Shared→Prop} (hu:A.units+1<cLine) (I:Inv X p_ σ H s) (g:nQ H a y (some v)) (ry:RelV y u) (h:∀w' s',Inv X p_ σ H s'→RelV v w'→Q w' s') :
    wpAny (model X.prog X.w) A (getItem (.ref a) u) Q E s:=by
  rcases g with⟨kvs,k,e,ey,l⟩ | ⟨kvs,k,b,e,ey,eb,l⟩
  ·subst ey;obtain⟨z,hd,vs,rel,dd⟩:=KC I.hok e;obtain⟨w',hw,Rr⟩:=Dq.some_of (v:=v) (o:=valueAt vs k) (by rw[l];exact rel.val k);exact wpAny_getItem_of (Kz ry) dd.mapOf hw (h w' _ (I.tok _) Rr)
  · subst ey;cases (show u=Value.ref b from ry);obtain⟨z,hd,xs,rel,dd⟩:=KD I.hok e;obtain⟨w',hw,Rr⟩:=Dq.some_of (v:=v) (o:=(atKey xs k).map (·.2)) (by rw[l];exact rel.val k);obtain⟨p,hp,hp2⟩:=Option.map_eq_some_iff.mp hw;refine wpAny_getItem_heap (tupleKind_room_in1 hu) (Gu I.hok eb) dd hp ?_;rw[hp2];exact h w' _ (I.tok _) Rr
theorem qoa {Q:Value→Shared→Prop} (hu:A.units+1<cLine) (I:Inv X p_ σ H s) (g:nQ H a y o) (ry:RelV y u) (h:∀s',Inv X p_ σ H s'→Q (.bool o.isSome) s') :
    wpAny (model X.prog X.w) A (compareOp .In u (.ref a)) Q E s:=by
  rcases g with⟨kvs,k,e,ey,l⟩ | ⟨kvs,k,b,e,ey,eb,l⟩
  ·subst ey;obtain⟨z,hd,vs,rel,dd⟩:=KC I.hok e;refine wpAny_in_of (Kz ry) hd dd.mapOf ?_;rw[← (rel.val k).z6,← l];exact h _ (I.tok _)
  ·subst ey;cases (show u=Value.ref b from ry);obtain⟨z,hd,xs,rel,dd⟩:=KD I.hok e;refine wpAny_in_heap (tupleKind_room_in1 hu) (Gu I.hok eb) hd dd ?_;have q:=(rel.val k).z6;rw[Option.isSome_map] at q;rw[← q,← l];exact h _ (I.tok _)
theorem qdP {Q:Value→Shared→Prop} (hu:A.units+1<cLine) (I:Inv X p_ σ H s) (g:nQ H a y o) (ry:RelV y u) (h:∀s',Inv X p_ σ H s'→Q (.bool (!o.isSome)) s') :
    wpAny (model X.prog X.w) A (compareOp .NotIn u (.ref a)) Q E s:=by
  rcases g with⟨kvs,k,e,ey,l⟩ | ⟨kvs,k,b,e,ey,eb,l⟩
  ·subst ey;obtain⟨z,hd,vs,rel,dd⟩:=KC I.hok e;refine wpAny_notIn_of (Kz ry) hd dd.mapOf ?_;rw[← (rel.val k).z6,← l];exact h _ (I.tok _)
  ·subst ey;cases (show u=Value.ref b from ry);obtain⟨z,hd,xs,rel,dd⟩:=KD I.hok e;refine wpAny_notIn_heap (tupleKind_room_in1 hu) (Gu I.hok eb) hd dd ?_;have q:=(rel.val k).z6;rw[Option.isSome_map] at q;rw[← q,← l];exact h _ (I.tok _)
theorem R3 {h':Heap} {t':Nat} {ob:HO} (I:Inv X p_ σ H s) (mu:Mut (H a)) (hs:Heap.SameBut a s.heap h') (he:∃q,h'.get? a=some q) (new:d8 X.prog X.w (upd H a ob) h' a ob) :
    Inv X p_ σ (upd H a ob) {s with heap:=h',toks:=t'}:=
  I.write (x:=a) (e:=a) mu (.inl rfl) (fun b q hb z=>(hs.2 b hb).trans z) he new
theorem qbJ {P:Program} {w:World} {H':Hp} {h':Heap} {kvs:List (Key×V)} {vs:List (Key×Value)} (z:kvs.length≤sizeLine) (hd:(a == sysModules)=false) (rel:KV kvs vs) (dd:h'.DictOf (cD P w) a vs) :
    d8 P w H' h' a (.dK kvs):=⟨z,hd,vs,rel,dd⟩
theorem qal {H':Hp} {Q:Unit→Shared→Prop} (hu:A.units+1<cLine) (I:Inv X p_ σ H s) (g:R0 H a y v H') (ry:RelV y u) (rv:RelV v r) (h:∀s',Inv X p_ σ H' s'→Q () s') :
    wpAny (model X.prog X.w) A (setItem (.ref a) u r) Q E s:=by
  rcases g with⟨kvs,k,e,ey,l,eH⟩ | ⟨kvs,k,b,e,ey,eb,l,eH⟩
  · subst ey eH;obtain⟨z,hd,vs,rel,dd⟩:=Y4 I.hok e;have hz:vs.length≤sizeLine:=by rw[← rel.length];exact z
    have hl:(putK kvs k v).length≤sizeLine:=by have:=DP kvs k v;omega
    refine wpAny_setItem_pairs (hsz:=hz) (Kz ry) dd fun h' dd' hs=>h _ ?_;have he:∃q,h'.get? a=some q:=let ⟨q,_,_,hq,_⟩:=dd';⟨q,hq⟩;exact R3 I (by rw[e];exact True.intro) hs he (qbJ hl hd (rel.put k rv) dd')
  · subst ey eH;cases (show u=Value.ref b from ry);obtain⟨z,hd,xs,rel,dd⟩:=qeZ I.hok e;have hz:xs.length≤sizeLine:=by rw[← Paired.length rel];exact z
    have hl:(putK kvs k v).length≤sizeLine:=by have:=DP kvs k v;omega
    refine wpAny_setItem_heap (hsz:=hz) (tupleKind_room_in1 hu) (Gu I.hok eb) dd fun h' dd' hs=>h _ ?_;obtain⟨q,es,ep,hq,h2,h3,h4,_,h5⟩:=dd';refine R3 I (by rw[e];exact True.intro) hs ⟨q,hq⟩ ⟨hl,hd,_,(rel.put k eb rv).keeps fun c ys ec=>?_,q,es,ep,hq,h2,h3,h4,h5⟩;rw[aV (Ma ec e (fun z=>nomatch z))];exact ec
end
def qiH (i:Expr):Prop:=∀ov iv,subscripted i false ov iv=operate [ov,iv] (getItem ov iv)
theorem qdQ {prog:Program} {w:World} {A:Around} {E:Value→Shared→Prop} {s:Shared} {env:Env} {value slice:Expr} {pos:Pos} {T id:String} {Q:Value→Shared→Prop}
    (hl:typeLookup (.type T) "__getitem__" = pure (some (.builtin id))) (hs:qiH slice)
    (h:wpAny (model prog w) A (eval value env) (fun o s₁=>wpAny (model prog w) A (eval slice env) (fun i s₂=>s₂.TypeIs o T∧wpAny (model prog w) A (getItem o i) Q E s₂) E s₁) E s) :
    wpAny (model prog w) A (eval (.Subscript value slice pos) env) Q E s:=by
  refine Subscript_ (wpAny_mono h (fun o s₁ h₁=>wpAny_mono h₁ (fun i s₂ h₂=>?_) fun _ _ x=>x) fun _ _ x=>x);obtain⟨hT,h₂⟩:=h₂;unfold subscriptTail;refine wpAny_bind ?_;rw[getitemInPython_of_ne hT.not_modules];refine wpAny_bind (wpAny_specialOf hT hl ?_);have fin:wpAny (model prog w) A (subscripted slice false o i) (fun r s₃=>wpAny (model prog w) A (letTemporaryGo value o r >>= fun _=>pure r) Q E s₃) E s₂:=by
    rw[hs o i];exact wpAny_operating (wpAny_mono h₂ (fun r s₃ h₃=>wpAny_bind (wpAny_letTemporaryGo (wpAny_pure h₃))) fun _ _ x=>x)
  first
    | exact wpAny_pure (wpAny_bind fin)
    | exact wpAny_bind (wpAny_pure (wpAny_bind fin))
    | exact wpAny_bind fin
theorem Va {X:Cx} {p_:List (Addr×Obj)} {σ:St} {H:Hp} {s:Shared} {a:Addr} {y:V} {o:Option V} (I:Inv X p_ σ H s) (g:nQ H a y o):s.TypeIs (.ref a) "dict" :=by
  rcases g with⟨kvs,k,e,_,_⟩ | ⟨kvs,k,b,e,_,_,_⟩
  ·obtain⟨_,_,vs,_,dd⟩:=KC I.hok e;exact dd.typeIs
  ·obtain⟨_,_,xs,_,dd⟩:=KD I.hok e;exact dd.typeIs
def qbK (td ty:TE):TE:=fun σ H Q=>td σ H fun x H1=>ty σ H1 fun y H2=>∃a v,x = .ref a∧nQ H2 a y (some v)∧Q v H2
def qge (ty td:TE):TE:=fun σ H Q=>ty σ H fun y H1=>td σ H1 fun x H2=>∃a o,x = .ref a∧nQ H2 a y o∧Q (.bl o.isSome) H2
def R4 (ty td:TE):TE:=fun σ H Q=>ty σ H fun y H1=>td σ H1 fun x H2=>∃a o,x = .ref a∧nQ H2 a y o∧Q (.bl (!o.isSome)) H2
def qbL (td ty tv:TE):TS:=fun D σ H=>tv σ H fun v H1=>td σ H1 fun x H2=>ty σ H2 fun y H3=>∃a H4,x = .ref a∧R0 H3 a y v H4∧D.nx σ H4
section
variable {X:Cx} {o i e value:Expr} {pos pos' tpos:Pos} {td ty tv:TE}
theorem qdR (hu:X.A.units+1<cLine) (ho:PE X o td) (hi:PE X i ty) (hs:qiH i):PE X (.Subscript o i pos) (qbK td ty):=by
  intro p_ s σ H Q I h;refine qdQ PySem.F.slot_dict_getitem.lookup hs (d9 (ho p_ s σ H _ I h) fun u s1 ⟨x,H1,I1,rx,q1⟩=>d9 (hi p_ s1 σ H1 _ I1 q1) fun iv s2 ⟨y,H2,I2,ry,a,v,ex,g,q2⟩=>?_);subst ex;obtain rfl:u=Value.ref a:=rx;exact⟨Va I2 g,qak hu I2 g ry fun w' s3 I3 Rr=>⟨v,H2,I3,Rr,q2⟩⟩
theorem qgf (hu:X.A.units+1<cLine) (hi:PE X i ty) (ho:PE X o td):PC X .In i o (qge ty td):=by
  intro p_ s σ H Q I h;refine d9 (hi p_ s σ H _ I h) fun iv s1 ⟨y,H1,I1,ry,q1⟩=>d9 (ho p_ s1 σ H1 _ I1 q1) fun u s2 ⟨x,H2,I2,rx,a,ov,ex,g,q2⟩=>?_;subst ex;obtain rfl:u=Value.ref a:=rx;exact qoa hu I2 g ry fun s3 I3=>⟨.bl ov.isSome,H2,I3,rfl,q2⟩
theorem qam (hu:X.A.units+1<cLine) (hi:PE X i ty) (ho:PE X o td):PC X .NotIn i o (R4 ty td):=by
  intro p_ s σ H Q I h;refine d9 (hi p_ s σ H _ I h) fun iv s1 ⟨y,H1,I1,ry,q1⟩=>d9 (ho p_ s1 σ H1 _ I1 q1) fun u s2 ⟨x,H2,I2,rx,a,ov,ex,g,q2⟩=>?_;subst ex;obtain rfl:u=Value.ref a:=rx;exact qdP hu I2 g ry fun s3 I3=>⟨.bl (!ov.isSome),H2,I3,rfl,q2⟩
theorem qdS (hu:X.A.units+1<cLine) (ho:PE X o td) (hi:PE X i ty) (hv:PE X value tv) (hs:swapsWith value (some (.Subscript o i pos')) pos.line X.env=pure false) :
    PS X (.Assign [.Subscript o i pos'] value pos) (qbL td ty tv):=by
  intro p_ s σ H D I h;refine wpAny_Assign_Subscript (d9 (hv p_ s σ H _ I h) fun r s1 ⟨v,H1,I1,rv,q1⟩=>d9 (ho p_ s1 σ H1 _ I1 q1) fun u s2 ⟨x,H2,I2,rx,q2⟩=>d9 (hi p_ s2 σ H2 _ I2 q2) fun iv s3 ⟨y,H3,I3,ry,a,H4,ex,g,q3⟩=>?_) hs;subst ex;obtain rfl:u=Value.ref a:=rx;exact qal hu I3 g ry rv fun s4 I4=>⟨σ,H4,I4,q3⟩
end
theorem Vb {P:Program} {w:World} {H:Hp} (h:Heap) (hb:sysModules<h.objs.size):d8 P w H (h.push {cls:=.type "dict",data:=.dict #[]}) h.objs.size (.dK []):=
  ⟨Nat.zero_le _,beq_eq_false_iff_ne.mpr (Ne.symm (Nat.ne_of_lt hb)),[],.nil,Heap.DictOf.new h⟩
def Xe:TE:=fun _ H Q=>∀p,H p=none→Q (.ref p) (upd H p (.dK []))
section
variable {X:Cx} {pos:Pos}
theorem HD:PE X (.Dict [] [] pos) Xe:=fun p_ s σ H Q I h=>
  wpAny_Dict_empty ⟨.ref s.heap.objs.size,_,I.laid (a:=s.heap.objs.size) (o:=.dK []) (t':=s.toks) (fun _ _ q=>Heap.get?_push_of_some _ q) (Nat.le_refl _) (Vb s.heap I.big),rfl,h _ (I.hok.fresh (Nat.le_refl _))⟩
end
def Gv:List (TE×TE)→St→Hp→(List (V×V)→Hp→Prop)→Prop
  | [],_,H,Q=>Q [] H
  | (tk,tv)::r,σ,H,Q=>tk σ H fun x H1=>tv σ H1 fun y H2=>Gv r σ H2 fun ps H3=>Q ((x,y)::ps) H3
abbrev VV:List (V×V)→List (Value×Value)→Prop:=Paired fun p q=>RelV p.1 q.1∧RelV p.2 q.2
def PPs (X:Cx) (pos:Pos) (keys:List (Option Expr)) (values:List Expr) (trs:List (TE×TE)):Prop:=
  ∀(p_:List (Addr×Obj)) (s:Shared) (σ:St) (H:Hp) (Q:List (V×V)→Hp→Prop),Inv X p_ σ H s→Gv trs σ H Q→
    wpAny (model X.prog X.w) X.A (evalPairs (pairTrees keys values X.env pos)) (fun vs s'=>∃ps H',Inv X p_ σ H' s'∧VV ps vs∧Q ps H') X.xe s
theorem qdT {X:Cx} {pos:Pos}:PPs X pos [] [] []:=fun p_ s σ H Q I h=>pairTrees_nil_walk ⟨[],H,I,.nil,h⟩
theorem qbM {X:Cx} {pos:Pos} {k v:Expr} {ks:List (Option Expr)} {vs:List Expr} {tk tv:TE} {trs:List (TE×TE)} (hk:PE X k tk) (hv:PE X v tv) (hr:PPs X pos ks vs trs) :
    PPs X pos (some k::ks) (v::vs) ((tk,tv)::trs):=fun p_ s σ H Q I h=>
  pairTrees_cons_walk (d9 (hk p_ s σ H _ I h) fun u s1 ⟨x,H1,I1,rx,q1⟩=>d9 (hv p_ s1 σ H1 _ I1 q1) fun w2 s2 ⟨y,H2,I2,ry,q2⟩=>
    d9 (hr p_ s2 σ H2 _ I2 q2) fun ws s3 ⟨ps,H3,I3,rel,q3⟩=>⟨(x,y)::ps,H3,I3,.cons ⟨rx,ry⟩ rel,q3⟩)
def Gw (kvs more:List (Key×V)):List (Key×V):=more.foldl (fun acc kv=>putK acc kv.1 kv.2) kvs
theorem KV.merge:∀{more:List (Key×V)} {rs:List (Key×Value)} {kvs:List (Key×V)} {vs:List (Key×Value)},KV more rs→KV kvs vs→KV (Gw kvs more) (merged vs rs):=by
  intro more rs kvs vs r;unfold KV at r
  induction r generalizing kvs vs with
  | nil=>intro q;exact q
  | @cons p q ps qs h t ih=>
    intro r0;have e:KV (putK kvs p.1 p.2) (stored vs q.1 q.2):=by
      have:=r0.put p.1 h.2;rw[← h.1];exact this
    exact ih e
theorem FT:∀(more kvs:List (Key×V)),(Gw kvs more).length≤kvs.length+more.length
  | [],kvs=>by show kvs.length≤kvs.length+0;omega
  | p::r,kvs=>by
    have h1:=FT r (putK kvs p.1 p.2);have h2:=DP kvs p.1 p.2;show(Gw (putK kvs p.1 p.2) r).length≤_;rw[List.length_cons];omega
theorem Mx {P:Program} {w:World}:∀{kvs:List (Key×V)} {ws:List (Value×Value)},VV (kvs.map fun kv=>(kV kv.1,kv.2)) ws→∃rs,Carries (cD P w) ws rs∧KV kvs rs
  | [],_,r=>by rw[List.map_nil] at r;cases r;exact⟨[],True.intro,.nil⟩
  | p::kvs,_,r=>by
    rw[List.map_cons] at r;cases r with
    | @cons a b as bs h t=>
      obtain⟨rs,c,q⟩:=Mx (P:=P) (w:=w) t;obtain⟨b1,b2⟩:=b;exact⟨(p.1,b2)::rs,⟨Kz h.1,rfl,c⟩,.cons ⟨rfl,h.2⟩ q⟩
def qe0 (trs:List (TE×TE)):TE:=fun σ H Q=>∀p,H p=none→Gv trs σ (upd H p (.dK [])) fun ps H2=>H2 p=some (.dK [])∧∃kvs:List (Key×V),ps=kvs.map (fun kv=>(kV kv.1,kv.2))∧kvs.length≤15∧Q (.ref p) (upd H2 p (.dK (Gw [] kvs)))
theorem qdU {X:Cx} {pos:Pos} {keys:List (Option Expr)} {values:List Expr} {trs:List (TE×TE)} (h:PPs X pos keys values trs) (hall:keys.all (·.isSome)=true) (hl:keys.length=values.length) (h0:keys≠[])
    (h15:keys.length≤15):PE X (.Dict keys values pos) (qe0 trs):=by
  intro p_ s σ H Q I q;have hn:=I.hok.fresh (Nat.le_refl s.heap.objs.size);have I1:=I.laid (a:=s.heap.objs.size) (o:=.dK []) (h':=s.heap.push {cls:=.type "dict",data:=.dict #[]}) (t':=s.toks) (fun _ _ q=>Heap.get?_push_of_some _ q) (Nat.le_refl _) (Vb s.heap I.big);refine wpAny_Dict_walk (knd:=cD X.prog X.w) hall hl h0 h15 (d9 (h p_ _ σ _ _ I1 (q _ hn)) fun ws s2 zz=>?_);obtain⟨ps,H2,I2,rel,e,kvs,ep,lk,q2⟩:=zz;subst ep;obtain⟨rs,c,rk⟩:=Mx (P:=X.prog) (w:=X.w) rel;obtain⟨z,hd,vs0,r0,dd⟩:=Y4 I2.hok e;cases r0;refine⟨rs,c,dd,fun h' dd' hs=>⟨.ref s.heap.objs.size,_,?_,rfl,q2⟩⟩;have hz:(Gw [] kvs).length≤sizeLine:=by
    have h1:=FT kvs [];rw[List.length_nil] at h1;rw[sizeLine_eq];omega
  have he:∃q,h'.get? s.heap.objs.size=some q:=let ⟨q,_,_,hq,_⟩:=dd';⟨q,hq⟩;exact R3 I2 (by rw[e];exact True.intro) hs he (qbJ hz hd (rk.merge .nil) dd')
structure M1 (X:Cx) (o:Expr) (m:Str) (apos:Pos) (e:Expr) (cpos:Pos):Prop where
  base:attributeBase o m X.env (eval o X.env)=eval o X.env
  few:((backTo cpos (starEach [e] X.env)).all (fun x=>!x.1) && (backToKw cpos (keywordEach [] X.env)).all (fun x=>x.1.isSome)
    && decide (([e]:List Expr).length+([]:List Keyword).length+(if ([]:List Keyword).isEmpty then 0 else 1)<30))=true
  line:(apos.endLine == cpos.line)=true
  trees:backTo cpos (starEach [e] X.env)=[(false,eval e X.env)]
structure M2 (X:Cx) (o:Expr) (m:Str) (apos:Pos) (e f:Expr) (cpos:Pos):Prop where
  base:attributeBase o m X.env (eval o X.env)=eval o X.env
  few:((backTo cpos (starEach [e,f] X.env)).all (fun x=>!x.1) && (backToKw cpos (keywordEach [] X.env)).all (fun x=>x.1.isSome)
    && decide (([e,f]:List Expr).length+([]:List Keyword).length+(if ([]:List Keyword).isEmpty then 0 else 1)<30))=true
  line:(apos.endLine == cpos.line)=true
  trees:backTo cpos (starEach [e,f] X.env)=[(false,eval e X.env),(false,eval f X.env)]
def IsD (H:Hp) (a:Addr):Prop:=(∃kvs,Rd H a (.dK kvs))∨∃kvs,Rd H a (.dT kvs)
theorem qbN {X:Cx} {p_:List (Addr×Obj)} {σ:St} {H:Hp} {s:Shared} {a:Addr} (I:Inv X p_ σ H s) (d:IsD H a) :
    s.TypeIs (.ref a) "dict" ∧(∀b,Value.ref a = .ref b→∃ob,s.heap.get? b=some ob∧ob.dict=none)∧(a == sysModules)=false:=by
  rcases d with⟨kvs,e⟩ | ⟨kvs,e⟩
  ·obtain⟨_,hd,vs,_,dd⟩:=KC I.hok e;refine⟨dd.typeIs,fun b q=>?_,hd⟩;cases q;obtain⟨ob,_,_,h1,h2,_⟩:=dd;exact⟨ob,h1,h2.2.1⟩
  ·obtain⟨_,hd,xs,_,dd⟩:=KD I.hok e;refine⟨dd.typeIs,fun b q=>?_,hd⟩;cases q;obtain⟨ob,_,_,h1,h2,_⟩:=dd;exact⟨ob,h1,h2.2.1⟩
section
variable {X:Cx} {p_:List (Addr×Obj)} {σ:St} {H:Hp} {s:Shared} {a:Addr} {y d:V} {u r:Value} {o:Option V} {A:Around} {E:Value→Shared→Prop}
theorem qgg {Q:Value→Shared→Prop} (hu:A.units+1<cLine) (I:Inv X p_ σ H s) (g:nQ H a y o) (ry:RelV y u) (h:∀w' s',Inv X p_ σ H s'→RelV (o.getD .non) w'→Q w' s') :
    wpAny (model X.prog X.w) A (call (.builtin "dict.get") [.ref a,u]) Q E s:=by
  rcases g with⟨kvs,k,e,ey,l⟩ | ⟨kvs,k,b,e,ey,eb,l⟩
  ·subst ey;obtain⟨z,hd,vs,rel,dd⟩:=KC I.hok e;refine call_meetsIn PySem.F.slot_dict_get dd.typeIs PySem.F.entry_dict_get (PySem.F.args_dict_get_2 _ _) (meets_dict_get (cD X.prog X.w) a (Kz ry) hd) ⟨_,dd.mapOf,h _ _ (I.tok _) ?_⟩;rw[l];exact(rel.val k).getD rfl
  ·subst ey;cases (show u=Value.ref b from ry);obtain⟨z,hd,xs,rel,dd⟩:=KD I.hok e;refine call_meetsIn PySem.F.slot_dict_get dd.typeIs PySem.F.entry_dict_get (PySem.F.args_dict_get_2 _ _) (meetsH_dict_get (tupleKind (cD X.prog X.w)) a b hd) ⟨tupleKind_room_in1 hu,k,xs,Gu I.hok eb,dd,h _ _ (I.tok _) ?_⟩;rw[l];exact(rel.val k).getD rfl
theorem qgh {Q:Value→Shared→Prop} (hu:A.units+1<cLine) (I:Inv X p_ σ H s) (g:nQ H a y o) (ry:RelV y u) (rd:RelV d r) (h:∀w' s',Inv X p_ σ H s'→RelV (o.getD d) w'→Q w' s') :
    wpAny (model X.prog X.w) A (call (.builtin "dict.get") [.ref a,u,r]) Q E s:=by
  rcases g with⟨kvs,k,e,ey,l⟩ | ⟨kvs,k,b,e,ey,eb,l⟩
  ·subst ey;obtain⟨z,hd,vs,rel,dd⟩:=KC I.hok e;refine call_meetsIn PySem.F.slot_dict_get dd.typeIs PySem.F.entry_dict_get (PySem.F.args_dict_get_3 _ _ _) (meets_dict_get_default (cD X.prog X.w) a (Kz ry) hd r) ⟨_,dd.mapOf,h _ _ (I.tok _) ?_⟩;rw[l];exact(rel.val k).getD rd
  ·subst ey;cases (show u=Value.ref b from ry);obtain⟨z,hd,xs,rel,dd⟩:=KD I.hok e;refine call_meetsIn PySem.F.slot_dict_get dd.typeIs PySem.F.entry_dict_get (PySem.F.args_dict_get_3 _ _ _) (meetsH_dict_get_default (tupleKind (cD X.prog X.w)) a b hd r) ⟨tupleKind_room_in1 hu,k,xs,Gu I.hok eb,dd,h _ _ (I.tok _) ?_⟩;rw[l];exact(rel.val k).getD rd
end
def Xf (td ty:TE):TE:=fun σ H Q=>td σ H fun x H1=>∃a,x = .ref a∧IsD H1 a∧ty σ H1 fun y H2=>∃o,nQ H2 a y o∧Q (o.getD .non) H2
def Xg (td ty tx:TE):TE:=fun σ H Q=>td σ H fun x H1=>∃a,x = .ref a∧IsD H1 a∧ty σ H1 fun y H2=>tx σ H2 fun z H3=>∃o,nQ H3 a y o∧Q (o.getD z) H3
section
variable {X:Cx} {o e f:Expr} {apos cpos:Pos} {td ty tx:TE}
theorem qbO (hu:X.A.units+1<cLine) (ho:PE X o td) (he:PE X e ty) (m:M1 X o "get" apos e cpos):PE X (.Call (.Attribute o "get" apos) [e] [] cpos) (Xf td ty):=by
  intro p_ s σ H Q I h;refine wpAny_Call_method m.base m.few m.line PySem.F.plainAttrs_dict PySem.F.slot_dict_get PySem.F.type_dict_get (d9 (ho p_ s σ H _ I h) fun u s1 zz=>?_);obtain⟨x,H1,I1,rx,a,ex,d,q1⟩:=zz;subst ex;obtain rfl:u=Value.ref a:=rx;obtain⟨t1,t2,_⟩:=qbN I1 d;refine⟨t1,t2,?_⟩;rw[m.trees];refine Calls.callWith_builtin rfl (Calls.evalArgs_plain (Calls.spliced_cons (d9 (he p_ s1 σ H1 _ I1 q1) fun iv s2 zz=>?_)));obtain⟨y,H2,I2,ry,ov,g,q2⟩:=zz;refine Calls.spliced_nil ?_;exact qgg hu I2 g ry fun w' s3 I3 Rr=>⟨_,H2,I3,Rr,q2⟩
theorem Vc (hu:X.A.units+1<cLine) (ho:PE X o td) (he:PE X e ty) (hf:PE X f tx) (m:M2 X o "get" apos e f cpos):PE X (.Call (.Attribute o "get" apos) [e,f] [] cpos) (Xg td ty tx):=by
  intro p_ s σ H Q I h;refine wpAny_Call_method m.base m.few m.line PySem.F.plainAttrs_dict PySem.F.slot_dict_get PySem.F.type_dict_get (d9 (ho p_ s σ H _ I h) fun u s1 zz=>?_);obtain⟨x,H1,I1,rx,a,ex,d,q1⟩:=zz;subst ex;obtain rfl:u=Value.ref a:=rx;obtain⟨t1,t2,_⟩:=qbN I1 d;refine⟨t1,t2,?_⟩;rw[m.trees];refine Calls.callWith_builtin rfl (Calls.evalArgs_plain (Calls.spliced_cons (d9 (he p_ s1 σ H1 _ I1 q1) fun iv s2 ⟨y,H2,I2,ry,q2⟩=>
    Calls.spliced_cons (d9 (hf p_ s2 σ H2 _ I2 q2) fun fv s3 ⟨z,H3,I3,rz,ov,g,q3⟩=>Calls.spliced_nil ?_))))
  exact qgh hu I3 g ry rz fun w' s4 I4 Rr=>⟨_,H3,I4,Rr,q3⟩
end
structure Nm2 (mg:Str→Option Value):Prop where
  enumerate:mg "enumerate" = none
  any:mg "any" = none
  dict:mg "dict" = none
  sorted:mg "sorted" = none
  repr:mg "repr" = none
  bool:mg "bool" = none
theorem Inv.Y5 {X:Cx} {p_:List (Addr×Obj)} {σ:St} {H:Hp} {s:Shared} {h2:Heap} {t':Nat} {x y:V} {u u':Value} (I:Inv X p_ σ H s) (I1:Inv X p_ σ H {s with heap:=h2,toks:=t'}) (ru:RelV x u) (ru':RelV y u')
    (Mr:h2.get? s.heap.objs.size=some {cls:=.type "tuple",data:=.seq #[u,u']}):Inv X p_ σ (upd H s.heap.objs.size (.tup [x,y])) {s with heap:=h2,toks:=t'}:=by
  have hfr:H s.heap.objs.size=none:=I.hok.fresh (Nat.le_refl _);refine⟨I1.ok,I1.os,I1.bare,⟨I1.base.keep,I1.base.slot,fun c o e n hx=>?_,I1.base.there,fun c zs e=>?_,fun c o v e=>?_,fun c qs e=>?_⟩,I1.loc,I1.cell,?_,fun v c e=>?_,fun v hv=>?_,?_,I1.len⟩
  · rw[aV (fun e'=>?_)]
    ·exact I1.base.free c o e n hx
    ·exact absurd (Nat.lt_of_lt_of_le (Heap.lt_size e) I.sz) (by rw[e'];exact Nat.lt_irrefl _)
  ·have e':=I1.base.tups c zs e;rw[aV (aY e' hfr)];exact e'
  ·have e':=I1.base.Gm c o v e;rw[aV (aY e' hfr)];exact e'
  ·obtain⟨m,e'⟩:=I1.base.Hq c qs e;exact⟨m,by rw[aV (aY e' hfr)];exact e'⟩
  ·rw[aV (Nat.ne_of_lt I.lt)];exact I1.free
  ·obtain⟨w',qc⟩:=I.cell v c e;rw[aV (Nat.ne_of_lt qc.lt)];exact I1.p8 v c e
  ·obtain⟨f1,f2,f3⟩:=I1.pin v hv;refine⟨f1,?_,f3⟩;rw[aV (Nat.ne_of_lt (Heap.lt_size (I.pin v hv).1))];exact f2
  · intro c v e
    by_cases hcs:c=s.heap.objs.size
    ·subst hcs;rw[aA] at e;cases e;exact⟨by show 2≤sizeLine;rw[sizeLine_eq];decide,[u,u'],.cons ru (.cons ru' .nil),⟨_,Mr,rfl,0,rfl⟩⟩
    · rw[aV hcs] at e;refine(I1.hok c v e).stay (fun _ _ _ qq=>qq) (fun d qd=>?_) fun d zs qd=>?_
      ·rw[aV (aY qd hfr)];exact qd
      ·rw[aV (aY qd hfr)];exact qd
def Ite (K:W.Frag) (a:Addr):It:=
  ⟨fun i H=>∃xs x,cj K H a xs∧xs[i]? = some x,
   fun i H v H'=>∃t x,v = .ref t∧H t=none∧H'=upd H t (.tup [.int i,x])∧∀xs,cj K H a xs→xs[i]? = some x,
   fun i H=>∃xs,cj K H a xs∧xs.length≤i⟩
structure qgi (e it a:Addr) (i:Nat) (h:Heap):Prop where
  he:∃old,IsEnum h e it i old
  hi:h.IsListIter it a i
theorem qan {P:Program} {w:World} {K:W.Frag} {es:List Expr} {k:Nat} {pos:Pos} {e it a:Addr} (nei:e≠it) :
    Turn P w K (.Tuple es k pos) (Ite K a) [e,it] e (qgi e it a) where
  mem:=by simp
  obj:=fun i h st c hc=>by
    simp only[List.mem_cons,List.not_mem_nil,or_false] at hc
    rcases hc with rfl | rfl
    ·obtain⟨old,q⟩:=st.he;exact⟨_,q,fun v e=>nomatch e⟩
    ·obtain⟨o,e,_,d⟩:=st.hi;exact⟨o,e,fun v y=>by rw[d] at y;cases y⟩
  keep:=fun i h h' st kk=>by
    obtain⟨old,q⟩:=st.he;exact⟨⟨old,kk e (by simp) _ q⟩,st.hi.at fun o z=>kk it (by simp) o z⟩
  item:=by
    intro X hP hw hK hc i p_ s σ H E I hf st hg;subst hP hw hK;obtain⟨xs,x,qa,hx⟩:=hg;obtain⟨its,rv,pl,hz1⟩:=I.list qa;obtain⟨u,hu,ru⟩:=rv.get hx;obtain⟨old,hE⟩:=st.he;obtain⟨o1,e1,c1,_⟩:=id st.hi;refine wpAny_pyNext_enum_item hE st.hi pl.isList (x:=u) (by simpa using hu) nei fun h' a1 a2 a3 a4 kk=>?_;refine⟨_,rfl,wpAny_letOwnedTupleGo_enum a1 fun h2 b1 sb=>?_⟩;have lt:∀{c o},s.heap.get? c=some o→s.heap.objs.size≠c:=fun e=>Nat.ne_of_gt (Heap.lt_size e);have hn:H s.heap.objs.size=none:=I.hok.fresh (Nat.le_refl _);have kk2:∀c o,c∉[e,it]→s.heap.get? c=some o→h2.get? c=some o:=fun c o hc z=>by
      simp only[List.mem_cons,List.not_mem_nil,or_false,not_or] at hc;exact(sb.2 c hc.1).trans (kk c o hc.1 hc.2 z)
    have I1:Inv X p_ σ H {s with heap:=h2,toks:=s.toks+1}:=I.Fb kk2 hf;have Mr:=sb.extBut _ _ (lt hE) a3;have I2:Inv X p_ σ (upd H s.heap.objs.size (.tup [.int i,x])) {s with heap:=h2,toks:=s.toks+1}:=I.Y5 I1 ⟨_,rfl⟩ ru Mr;refine⟨.ref s.heap.objs.size,_,I2,rfl,⟨s.heap.objs.size,x,rfl,hn,rfl,fun xs' q'=>by rw[I.Dw q' qa];exact hx⟩,?_,fun c hcm=>?_⟩
    ·exact⟨⟨_,b1⟩,a2.extBut sb.extBut nei.symm⟩
    · have hne:c≠s.heap.objs.size:=by
        simp only[List.mem_cons,List.not_mem_nil,or_false] at hcm
        rcases hcm with rfl | rfl
        ·exact(lt hE).symm
        ·exact(lt e1).symm
      rw[aV hne];exact(hf c hcm).1
  done:=by
    intro X hP hw hK hc i p_ s σ H E I hf st hg;subst hP hw hK;obtain⟨xs,qa,hl⟩:=hg;obtain⟨its,rv,pl,hz1⟩:=I.list qa;obtain⟨old,hE⟩:=st.he;have l1:=rv.length;refine wpAny_pyNext_enum_end (I.ok.hd hc) hE st.hi pl.isList (by simp;omega) fun h' kk=>⟨rfl,I.Fb (t':=s.toks) (fun c o hcm z=>?_) hf⟩;simp only[List.mem_cons,List.not_mem_nil,or_false,not_or] at hcm;exact kk c o hcm.2 z
  self:=fun _ _ _ _ _ st h=>by
    obtain⟨old,q⟩:=st.he;exact wpAny_pyIter_enum q h
section
variable {X:Cx} {K:W.Frag}
def qbP (K:W.Frag) (t:TA):TI:=fun σ H R=>t σ H fun vs H1=>∃a xs,vs=[.ref a]∧cj K H1 a xs∧R (Ite K a) H1
theorem JF:bootBuiltins "enumerate" = some (.type "enumerate"):=by decide+kernel
theorem qdV (hK:X.K=K) {es:List Expr} {k:Nat} {pos':Pos} {a:Expr} {ta:TA} {p pos:Pos} (hg:Gl X "enumerate") (hm:X.mg "enumerate" = none) (ha:PA X [a] ta)
    (hs:starEach [a] X.env=[(false,eval a X.env)]:=by rfl) :
    PI X (.Tuple es k pos') (.Call (.Name "enumerate" p) [a] [] pos) (qbP K ta):=by
  subst hK;intro p_ s σ H R I h;refine Call_ (uP I hg hm JF (PyProof.Rows.callWith_type1 (d9 (ha pos p_ s σ H _ I h) fun us s1 zz=>?_) (by rw[hs];rfl) (by rfl)));obtain⟨vs,H1,I1,r1,q1⟩:=zz;obtain⟨l1,xs,e,qa,q⟩:=q1;subst e;obtain⟨u,rfl,r⟩:=vals1 r1;obtain rfl:u=Value.ref l1:=r;obtain⟨its,rv,pl,hz1⟩:=I1.list qa;refine call_enumerate_list pl.isList fun h' b1 b2 b3 kk=>?_;refine wpAny_pyIter_enum (s:={s1 with heap:=h'}) b1 ?_;have I2:Inv X p_ σ H1 {s1 with heap:=h'}:=I1.kept (t':=s1.toks) kk;refine⟨s1.heap.objs.size+1,[s1.heap.objs.size+1,s1.heap.objs.size],_,_,H1,rfl,I2,qan (Nat.succ_ne_self _),⟨⟨_,b1⟩,b2⟩,fun c hc=>?_,q⟩;have hle:s1.heap.objs.size≤c:=by
    simp only[List.mem_cons,List.not_mem_nil,or_false] at hc
    rcases hc with rfl | rfl <;> first | exact Nat.le_add_right _ _ | exact Nat.le_refl _
  exact I1.Ru hle (I1.hok.fresh hle)
end
section
variable {X:Cx} {K:W.Frag} {tg:Expr}
theorem qdW (hK:X.K=K) {es:List Expr} {k:Nat} {pos':Pos} {a b:Expr} {ta:TA} {p pos:Pos} (hg:Gl X "zip") (hm:X.mg "zip" = none) (ha:PA X [a,b] ta)
    (hs:starEach [a,b] X.env=[(false,eval a X.env),(false,eval b X.env)]:=by rfl) (hs2:starEach [b] X.env=[(false,eval b X.env)]:=by rfl) :
    PI X (.Tuple es k pos') (.Call (.Name "zip" p) [a,b] [] pos) (qdI K ta):=by subst hK;exact qf7 hg hm ha hs hs2
theorem qdX (hK:X.K=K) {o:Expr} {to:TE} {name:Str} {apos cpos:Pos} {T id:String} {r:V→List V→Hp→VK→Prop} (pa:PlainAttrs T) (slot:Slot T name id) (hty:typeOf (.builtin id)=pure (.type "method_descriptor")) (hm:Wr X id r) (ho:PE X o to)
    (hbase:attributeBase o name X.env (eval o X.env)=eval o X.env:=by rfl) (hline:(apos.endLine == cpos.line)=true:=by rfl):PE X (.Call (.Attribute o name apos) [] [] cpos) (qdF K T r to):=by subst hK;exact qf2 pa slot hty hm ho hbase hline
theorem Y6 (hK:X.K=K) {o value:Expr} {ta tv:TE} {f:Str} {pos pos':Pos} (ha:PE X o ta) (hv:PE X value tv) (hs:swapsWith value (some (.Attribute o f pos')) pos.line X.env=pure false):PS X (.Assign [.Attribute o f pos'] value pos) (qfU K ta tv f):=by subst hK;exact qfW ha hv hs
end
@[simp ↓] theorem qob (i:Nat) σ H Q:qfz i σ H Q=(∃v,σ[i]? = some (some v)∧Q v H):=rfl
@[simp ↓] theorem qrF (v:V) z0 H Q:tC v z0 H Q=(Q v H):=rfl
@[simp ↓] theorem qrG (t:TE) σ H Q:tB t σ H Q=(t σ H fun x H1=>∃c,x = .bl c∧Q c H1):=rfl
@[simp ↓] theorem qoc (t:TT) σ H Q:qil t σ H Q=(t σ H fun c H1=>Q (!c) H1):=rfl
@[simp ↓] theorem qmV (ta:TE) σ H Q:qa5 ta σ H Q=(ta σ H fun x H1=>∃c,x = .bl c∧Q (.bl (!c)) H1):=rfl
@[simp ↓] theorem qmW D σ H:qeQ  D σ H=(D.nx σ H):=rfl
@[simp ↓] theorem qod (t u:TS) D σ H:qdp t u D σ H=(t {D with nx:=u D} σ H):=rfl
@[simp ↓] theorem qmX (te:TE) D σ H:qeR te D σ H=(te σ H fun _ H1=>D.nx σ H1):=rfl
@[simp ↓] theorem qoe (te:TE) D σ H:qa6 te D σ H=(te σ H D.rt):=rfl
@[simp ↓] theorem qiI z0 z1 z2:Ww  z0 z1 z2=(False):=rfl
@[simp ↓] theorem qmY (i:Nat) v σ H Q:Ux i v σ H Q=(Q (σ.set i (some v)) H):=rfl
@[simp ↓] theorem qof vs σ H Q:qfF  vs σ H Q=(vs=[]∧Q σ H):=rfl
@[simp ↓] theorem qmZ (t:TG) (u:Uo) vs σ H Q:qa7 t u vs σ H Q=(∃v r,vs=v::r∧t v σ H fun σ' H'=>u r σ' H' Q):=rfl
@[simp ↓] theorem qog (K:W.Frag) (n:Nat) (t:Uo) v σ H Q:qdr K n t v σ H Q=(∃a xs,v = .ref a∧lR K H a xs∧xs.length=n∧t xs σ H Q):=rfl
@[simp ↓] theorem qoh (to ti:TE) (t:ZR) v σ H Q:qim to ti t v σ H Q=(to σ H fun o H1=>ti σ H1 fun i H2=>t o i v H2 fun H3=>Q σ H3):=rfl
@[simp ↓] theorem qoi (te:TE) (g:TG) D σ H:qa9 te g D σ H=(te σ H fun x H1=>g x σ H1 D.nx):=rfl
@[simp ↓] theorem qoj (i j:Nat) (ta:TA) D σ H:qfH i j ta D σ H=(ta σ H fun vs H1=>∃v w,vs=[v,w]∧D.nx ((σ.set i (some v)).set j (some w)) H1):=rfl
@[simp ↓] theorem qok (i:Nat) (te:TE) (ti:TIp) D σ H:qfJ i te ti D σ H=(∃x,σ[i]? = some (some x)∧te σ H fun y H1=>ti x y H1 fun z H2=>D.nx (σ.set i (some z)) H2):=rfl
@[simp ↓] theorem qrf (f:Int→Int→Int) x y H Q:ipI f x y H Q=(∃i j,x = .int i∧y = .int j∧Q (.int (f i j)) H):=rfl
@[simp ↓] theorem qm0 (K:W.Frag) (tl:TE) σ H R:YG K tl σ H R=(tl σ H fun x H1=>∃a,x = .ref a∧(∃xs,cj K H1 a xs)∧R (Itl K a) H1):=rfl
@[simp ↓] theorem qm1 (ta:TA) σ H R:qbb ta σ H R=(ta σ H fun vs H1=>∃j:Int,vs=[.int j]∧-(2 ^ 62)≤j∧j<2 ^ 62∧R (Wq 0 j.toNat) H1):=rfl
@[simp ↓] theorem qm2 (ta:TA) σ H R:qbc ta σ H R=(ta σ H fun vs H1=>∃i j:Int,vs=[.int i,.int j]∧(-(2 ^ 62)≤i∧i<2 ^ 62∧-(2 ^ 62)≤j∧j<2 ^ 62)∧R (Wq i (j - i).toNat) H1):=rfl
@[simp ↓] theorem qrg (r:R2) (ta tb:TE) σ H Q:K6 r ta tb σ H Q=(ta σ H fun x H1=>tb σ H1 fun y H2=>r x y H2 Q):=rfl
@[simp ↓] theorem qrh (r:V→Hp→VK→Prop) (ta:TE) σ H Q:tUn r ta σ H Q=(ta σ H fun x H1=>r x H1 Q):=rfl
@[simp ↓] theorem qm3 (t:TE) σ H Q:YL t σ H Q=(t σ H fun x H'=>∃k,x = .bl k∧Q k H'):=rfl
@[simp ↓] theorem qol (K:W.Frag) (ta:TE) (f:Str) σ H Q:qdA K ta f σ H Q=(ta σ H fun x H1=>∃a C dx fs v,x = .ref a∧H1 a=some (.ins C dx fs)∧Cls K C∧uQ K C f∧fs.lookup f=some v∧Q v H1):=rfl
@[simp ↓] theorem qom (K:W.Frag) (ta tv:TE) (f:Str) D σ H:qfU K ta tv f D σ H=(tv σ H fun y H1=>ta σ H1 fun x H2=>∃a C dx fs,x = .ref a∧H2 a=some (.ins C dx fs)∧Cls K C∧uQ K C f∧fs.length<1000∧D.nx σ (upd H2 a (.ins C dx (zY f y fs)))):=rfl
@[simp ↓] theorem qon z0 H Q:vO  z0 H Q=(Q [] H):=rfl
@[simp ↓] theorem qm4 (ta:TE) (tr:TA) σ H Q:bY ta tr σ H Q=(ta σ H fun x H1=>tr σ H1 fun xs H2=>Q (x::xs) H2):=rfl
@[simp ↓] theorem qoo (t:TA) σ H Q:WT t σ H Q=(t σ H fun xs H1=>xs.length≤sizeLine∧∀p,H1 p=none→Q (.ref p) (upd H1 p (.tup xs))):=rfl
@[simp ↓] theorem qop (t:TA) σ H Q:Z9 t σ H Q=(t σ H fun xs H1=>xs.length≤sizeLine∧∀p,H1 p=none→Q (.ref p) (upd H1 p (.lst xs))):=rfl
@[simp ↓] theorem qri (r:List V→Hp→VK→Prop) (t:TA) σ H Q:tCB r t σ H Q=(t σ H fun vs H1=>r vs H1 Q):=rfl
@[simp ↓] theorem qh6 z0 H Q:Lg  z0 H Q=(Q none H):=rfl
@[simp ↓] theorem qm5 (t:TE) σ H Q:qbp t σ H Q=(t σ H fun x H1=>∃i,x = .int i∧Q (some i) H1):=rfl
@[simp ↓] theorem qrj (r:V→Option Int→Option Int→Hp→VK→Prop) (te:TE) (tl th:TO) σ H Q:tSl r te tl th σ H Q=(te σ H fun x H1=>tl σ H1 fun l H2=>th σ H2 fun u H3=>r x l u H3 Q):=rfl
@[simp ↓] theorem qoq (K:W.Frag) (T:String) (r:V→List V→Hp→VK→Prop) (to:TE) σ H Q:qdF K T r to σ H Q=(to σ H fun x H1=>tyV K T x H1∧r x [] H1 Q):=rfl
@[simp ↓] theorem qrk (K:W.Frag) (T:String) (r:V→List V→Hp→VK→Prop) (to:TE) (t:TA) σ H Q:tBM K T r to t σ H Q=(to σ H fun x H1=>tyV K T x H1∧t σ H1 fun xs H2=>r x xs H2 Q):=rfl
@[simp ↓] theorem qiJ x vs H Q:qbt  x vs H Q=(∃l xs i k y,x = .ref l∧vs=[.int i]∧H l=some (.lst xs)∧-(2 ^ 63)≤i∧i<2 ^ 63∧seqIndex? i xs.length=some k∧xs[k]? = some y∧Q y (upd H l (.lst (xs.eraseIdx k)))):=rfl
@[simp ↓] theorem qor z0 H Q:qiA  z0 H Q=(Q true H):=rfl
@[simp ↓] theorem qos (tl:TE) σ H R:qf6 tl σ H R=(tl σ H fun x H1=>∃z,x = .str z∧R (Its z) H1):=rfl
@[simp ↓] theorem qot (K:W.Frag) (t:TA) σ H R:qdI K t σ H R=(t σ H fun vs H1=>∃a b xs ys,vs=[.ref a,.ref b]∧cj K H1 a xs∧cj K H1 b ys∧R (Itz K a b) H1):=rfl
@[simp ↓] theorem qou (K:W.Frag) (tl:TE) σ H R:qgb K tl σ H R=(tl σ H fun x H1=>∃b p,x = .ref p∧(∃xs,RX b K H1 p xs)∧R (Itq b K p) H1):=rfl
structure qov (Q:VK) where
  n:Nat
structure qgj (g:TG) (tb:TS) (D:Ends) where
  n:Nat
structure qiK (c:TT) (tb:TS) (D:Ends) where
  n:Nat
structure qgk (g:TG) (tt:TT) (te:TE) (Q:Hp→Prop) where
  n:Nat
structure Xh (A B:Prop) where
  n:Nat
def tSp (sp:Sp) (vs:List V) (H:Hp) (Q:VK) (d:qov Q) (E:XK):Prop:=sp vs H Q E
def tFr (J:It) (g:TG) (tb:TS) (D:Ends) (d:qgj g tb D) (σ:St) (H:Hp):Prop:=qgc J g tb D σ H
def tWh (c:TT) (tb:TS) (D:Ends) (d:qiK c tb D) (σ:St) (H:Hp):Prop:=Rt c tb D σ H
def tCm (own:List Str) (caps:List Nat) (J:It) (g:TG) (tt:TT) (te:TE) (Q:Hp→Prop) (d:qgk g tt te Q) (D:Addr) (σ:St) (H:Hp):Prop:=vR own caps J g tt te D σ H Q
def g8 (b:Bool) (A B:Prop) (d:Xh A B):Prop:=if b=true then A else B
@[simp] theorem qrl (A B:Prop) (d:Xh A B):g8 true A B d=A:=rfl
@[simp] theorem qrm (A B:Prop) (d:Xh A B):g8 false A B d=B:=rfl
theorem g8.of {b:Bool} {A B:Prop} {d:Xh A B} (h1:b=true→A) (h2:b=false→B):g8 b A B d:=by
  cases b with
  | true=>exact h1 rfl
  | false=>exact h2 rfl
theorem g8.pos {b:Bool} {A B:Prop} {d:Xh A B} (h:b=true) (h1:A):g8 b A B d:=by subst h;exact h1
theorem g8.neg {b:Bool} {A B:Prop} {d:Xh A B} (h:b=false) (h1:B):g8 b A B d:=by subst h;exact h1
@[simp ↓] theorem qm6 (sp:Sp) (Jv:List V) (E:XK) (t:TA) (σ:St) (H:Hp) (Q:VK):qbk sp Jv E t σ H Q=t σ H fun vs H1=>tSp sp (vs++Jv) H1 Q ⟨0⟩ E:=rfl
@[simp ↓] theorem qm7 (C:Addr) (m:Str) (sp:Sp) (Jv:List V) (E:XK) (ta:TE) (t:TA) (σ:St) (H:Hp) (Q:VK):qbl C m sp Jv E ta t σ H Q=ta σ H fun x H1=>∃a dx fs,x = .ref a∧H1 a=some (.ins C dx fs)∧fs.lookup m=none∧t σ H1 fun vs H2=>tSp sp (x::(vs++Jv)) H2 Q ⟨0⟩ E:=rfl
@[simp ↓] theorem qm8 (C:Addr) (sp:Sp) (Jv:List V) (E:XK) (t:TA) (σ:St) (H:Hp) (Q:VK):qbm C sp Jv E t σ H Q=t σ H fun vs H1=>∀x dx,H1 x=none→H1 dx=none→dx≠x→
  tSp sp (.ref x::(vs++Jv)) (upd (upd H1 dx (.own x)) x (.ins C dx [])) (fun v H2=>v = .non∧Q (.ref x) H2) ⟨0⟩ E:=rfl
@[simp ↓] theorem qow (wi:TI) (g:TG) (tb:TS) (D:Ends) (σ:St) (H:Hp):qin wi g tb D σ H=wi σ H fun J H1=>tFr J g tb D ⟨0⟩ σ H1:=rfl
@[simp ↓] theorem qiL (c:TT) (tb:TS) (D:Ends) (σ:St) (H:Hp):Rt c tb D σ H=tWh c tb D ⟨0⟩ σ H:=rfl
@[simp ↓] theorem qm9 (own:List Str) (caps:List Nat) (wi:TI) (g:TG) (tt:TT) (te:TE) (σ:St) (H:Hp) (Q:VK):qby own caps wi g tt te σ H Q=wi σ H fun J H1=>∀D,H1 D=none→tCm own caps J g tt te (Q (.ref D)) ⟨0⟩ D σ (upd H1 D (.lst [])):=rfl
@[simp ↓] theorem qox (c:TT) (t u:TS) (D:Ends) (σ:St) (H:Hp):qdq c t u D σ H=c σ H fun b H1=>g8 b (t D σ H1) (u D σ H1) ⟨0⟩:=rfl
@[simp ↓] theorem qrn (c:TT) (t u:TE) (σ:St) (H:Hp) (Q:VK):tIf c t u σ H Q=c σ H fun b H1=>g8 b (t σ H1 Q) (u σ H1 Q) ⟨0⟩:=rfl
@[simp ↓] theorem qoy (t u:TT) (σ:St) (H:Hp) (Q:Bool→Hp→Prop):qik t u σ H Q=t σ H fun c H1=>g8 c (u σ H1 Q) (Q false H1) ⟨0⟩:=rfl
@[simp ↓] theorem qro (t u:TT) (σ:St) (H:Hp) (Q:Bool→Hp→Prop):tOr t u σ H Q=t σ H fun c H1=>g8 c (Q true H1) (u σ H1 Q) ⟨0⟩:=rfl
@[simp ↓] theorem qm_ (ta tb:TE) (σ:St) (H:Hp) (Q:VK):qa4 ta tb σ H Q=ta σ H fun x H1=>∃c,x = .bl c∧g8 c (tb σ H1 Q) (Q (.bl false) H1) ⟨0⟩:=rfl
@[simp ↓] theorem qiM (r r':R2) (ta tb tc:TE) (σ:St) (H:Hp) (Q:VK):Rv r r' ta tb tc σ H Q=ta σ H fun x H1=>tb σ H1 fun y H2=>r x y H2 fun z H3=>∃k,z = .bl k∧g8 k (tc σ H3 fun z H4=>r' y z H4 Q) (Q (.bl false) H3) ⟨0⟩:=rfl
def Mz (g:TG) (tt:TT) (te:TE) (D:Addr) (N:St→Hp→Prop) (x:V) (σ:St) (H:Hp):Prop:=
  g x σ H fun σ2 H3=>tt σ2 H3 fun b H4=>g8 b (te σ2 H4 fun y H5=>∃ys,H5 D=some (.lst ys)∧ys.length<sizeLine∧N σ2 (upd H5 D (.lst (ys++[y])))) (N σ2 H4) ⟨0⟩
@[simp ↓] theorem qna (g:TG) (tt:TT) (te:TE) (D:Addr) (N:St→Hp→Prop) (x:V) (σ:St) (H:Hp):Mz g tt te D N x σ H =
  (g x σ H fun σ2 H3=>tt σ2 H3 fun b H4=>g8 b (te σ2 H4 fun y H5=>∃ys,H5 D=some (.lst ys)∧ys.length<sizeLine∧N σ2 (upd H5 D (.lst (ys++[y])))) (N σ2 H4) ⟨0⟩):=rfl
@[simp ↓] theorem qoz {α:Type} (a b:α) (R:α→α→Prop):(∃v w,[a,b]=[v,w]∧R v w)=R a b:=by
  refine propext ⟨?_,fun h=>⟨a,b,rfl,h⟩⟩;rintro⟨_,_,e,h⟩;cases e;exact h
@[simp] theorem qnb {α β:Type} (a:α) (b:β) (R:α→β→Prop):(∃v w,(a=v∧b=w)∧R v w)=R a b:=by
  refine propext ⟨?_,fun h=>⟨a,b,⟨rfl,rfl⟩,h⟩⟩;rintro⟨_,_,⟨rfl,rfl⟩,h⟩;exact h
@[simp] theorem sz0:(0≤sizeLine)=True:=eq_true (by decide)
@[simp] theorem sz1:(1≤sizeLine)=True:=eq_true (by decide)
@[simp] theorem sz2:(2≤sizeLine)=True:=eq_true (by decide)
@[simp] theorem sz3:(3≤sizeLine)=True:=eq_true (by decide)
@[simp] theorem sz4:(4≤sizeLine)=True:=eq_true (by decide)
@[simp] theorem sz5:(5≤sizeLine)=True:=eq_true (by decide)
@[simp] theorem sz6:(6≤sizeLine)=True:=eq_true (by decide)
@[simp] theorem sz7:(7≤sizeLine)=True:=eq_true (by decide)
@[simp] theorem sz8:(8≤sizeLine)=True:=eq_true (by decide)
@[simp] theorem sz9:(9≤sizeLine)=True:=eq_true (by decide)
@[simp] theorem qrH:(10≤sizeLine)=True:=eq_true (by decide)
@[simp] theorem qrI:(11≤sizeLine)=True:=eq_true (by decide)
@[simp] theorem qoA:(12≤sizeLine)=True:=eq_true (by decide)
@[simp] theorem qrJ:(13≤sizeLine)=True:=eq_true (by decide)
@[simp] theorem qrK:(14≤sizeLine)=True:=eq_true (by decide)
@[simp] theorem qrL:(15≤sizeLine)=True:=eq_true (by decide)
@[simp] theorem qrM:(16≤sizeLine)=True:=eq_true (by decide)
@[simp] theorem qrN:(17≤sizeLine)=True:=eq_true (by decide)
@[simp] theorem qrO:(18≤sizeLine)=True:=eq_true (by decide)
@[simp] theorem qrP:(19≤sizeLine)=True:=eq_true (by decide)
@[simp] theorem K_:(20≤sizeLine)=True:=eq_true (by decide)
@[simp] theorem qnc (i j:Int):K7 (.int i) (.int j)=true:=rfl
@[simp] theorem qnd (i j:Str):K7 (.str i) (.str j)=true:=rfl
@[simp] theorem qne (i j:Bool):K7 (.bl i) (.bl j)=true:=rfl
@[simp] theorem qnf (i:Int) (j:Str):K7 (.int i) (.str j)=true:=rfl
@[simp] theorem qng (i:Int) (j:Str):K7 (.str j) (.int i)=true:=rfl
@[simp] theorem qiN (K:W.Frag) (p:Addr) (H:Hp):tyV K "list" (.ref p) H=(∃xs,cj K H p xs):=by simp[tyV]
@[simp] theorem qnh (K:W.Frag) (p:Str) (H:Hp):tyV K "str" (.str p) H=True:=by simp[tyV]
section
variable {K:W.Frag} {l:Addr} {xs:List V} {g:TG} {tb:TS} {D:Ends} {d:qgj g tb D} {σ:St} {H:Hp}
theorem frL (xs:List V) (Pv:Nat→St→Hp→Prop) (h0:Pv 0 σ H) (hl:∀i σ H,i≤xs.length→Pv i σ H→cj K H l xs)
    (hs:∀i x σ H,xs[i]? = some x→Pv i σ H→g x σ H fun σ2 H2=>tb {D with nx:=Pv (i+1),ct:=Pv (i+1),bk:=D.nx} σ2 H2) (hd:∀σ H,Pv xs.length σ H→D.nx σ H):tFr (Itl K l) g tb D d σ H:=Uz Pv h0 hl hs hd
theorem frQ {b:Bool} (xs:List V) (Pv:Nat→St→Hp→Prop) (h0:Pv 0 σ H) (hl:∀i σ H,i≤xs.length→Pv i σ H→RX b K H l xs)
    (hs:∀i x σ H,xs[i]? = some x→Pv i σ H→g x σ H fun σ2 H2=>tb {D with nx:=Pv (i+1),ct:=Pv (i+1),bk:=D.nx} σ2 H2) (hd:∀σ H,Pv xs.length σ H→D.nx σ H):tFr (Itq b K l) g tb D d σ H:=qdO Pv h0 hl hs hd
theorem frR {lo:Int} {n:Nat} (Pv:Nat→St→Hp→Prop) (h0:Pv 0 σ H)
    (hs:∀i σ H,i<n→Pv i σ H→g (.int (lo+i)) σ H fun σ2 H2=>tb {D with nx:=Pv (i+1),ct:=Pv (i+1),bk:=D.nx} σ2 H2) (hd:∀σ H,Pv n σ H→D.nx σ H):tFr (Wq lo n) g tb D d σ H:=ZX Pv h0 hs hd
end
section
variable {K:W.Frag} {own:List Str} {caps:List Nat} {g:TG} {tt:TT} {te:TE} {D l l1 l2:Addr} {σ:St} {H:Hp} {Q:Hp→Prop} {d:qgk g tt te Q}
theorem cmL (xs:List V) (Pv:Nat→St→Hp→Prop) (h0:Pv 0 (stC own caps σ) H) (hl:∀i σ H,i≤xs.length→Pv i σ H→cj K H l xs)
    (hs:∀i x σ H,xs[i]? = some x→Pv i σ H→Mz g tt te D (Pv (i+1)) x σ H) (hd:∀σ H,Pv xs.length σ H→Q H):tCm own caps (Itl K l) g tt te Q d D σ H:=Qz Pv h0 hl hs hd
theorem cmQ {b:Bool} (xs:List V) (Pv:Nat→St→Hp→Prop) (h0:Pv 0 (stC own caps σ) H) (hl:∀i σ H,i≤xs.length→Pv i σ H→RX b K H l xs)
    (hs:∀i x σ H,xs[i]? = some x→Pv i σ H→Mz g tt te D (Pv (i+1)) x σ H) (hd:∀σ H,Pv xs.length σ H→Q H):tCm own caps (Itq b K l) g tt te Q d D σ H:=qbF Pv h0 hl hs hd
theorem cmR {lo:Int} {n:Nat} (Pv:Nat→St→Hp→Prop) (h0:Pv 0 (stC own caps σ) H)
    (hs:∀i σ H,i<n→Pv i σ H→Mz g tt te D (Pv (i+1)) (.int (lo+i)) σ H) (hd:∀σ H,Pv n σ H→Q H):tCm own caps (Wq lo n) g tt te Q d D σ H:=W_ Pv h0 hs hd
theorem cmS {z:Str} (Pv:Nat→St→Hp→Prop) (h0:Pv 0 (stC own caps σ) H)
    (hs:∀i c σ H,z.cps[i]? = some c→Pv i σ H→Mz g tt te D (Pv (i+1)) (.str ⟨#[c]⟩) σ H) (hd:∀σ H,Pv z.cps.size σ H→Q H):tCm own caps (Its z) g tt te Q d D σ H:=qbD Pv h0 hs hd
theorem cmZ (xs ys:List V) (Pv:Nat→St→Hp→Prop) (h0:Pv 0 (stC own caps σ) H) (he:xs.length=ys.length) (hl:∀i σ H,i≤xs.length→Pv i σ H→cj K H l1 xs∧cj K H l2 ys)
    (hs:∀i x y t σ H,xs[i]? = some x→ys[i]? = some y→H t=none→Pv i σ H→Mz g tt te D (Pv (i+1)) (.ref t) σ (upd H t (.tup [x,y]))) (hd:∀σ H,Pv xs.length σ H→Q H):tCm own caps (Itz K l1 l2) g tt te Q d D σ H:=qbE Pv h0 he hl hs hd
end
theorem MF {c:Bool} {t u:TS} {D:Ends} {σ:St} {H:Hp} {d:Xh (t D σ H) (u D σ H)} (R:St→Hp→Prop) (hc:∀σ H,R σ H→D.nx σ H)
    (h:∀N:St→Hp→Prop,(∀σ H,R σ H→N σ H)→g8 c (t {D with nx:=N} σ H) (u {D with nx:=N} σ H) ⟨0⟩):g8 c (t D σ H) (u D σ H) d:=h D.nx hc
theorem HF {α β:Type} {f:α→β} {ys zs:List β} (h:ys.Perm zs):∀l:List α,zs=l.map f→∃l':List α,l'.Perm l∧ys=l'.map f:=by
  induction h with
  | nil=>
    intro l e;cases l with
    | nil=>exact⟨[],.nil,rfl⟩
    | cons a l=>cases e
  | cons x _ ih=>
    intro l e;cases l with
    | nil=>cases e
    | cons a l=>
      simp only[List.map_cons,List.cons.injEq] at e;obtain⟨l',p,e'⟩:=ih l e.2;exact⟨a::l',p.cons a,by rw[e',e.1,List.map_cons]⟩
  | swap x y _=>
    intro l e
    match l,e with
    | a::b::l,e=>
      simp only[List.map_cons,List.cons.injEq] at e;exact⟨b::a::l,.swap ..,by rw[e.1,e.2.1,e.2.2];rfl⟩
  | trans _ _ ih1 ih2=>
    intro l e;obtain⟨l',p,e'⟩:=ih2 l e;obtain⟨l2,p2,e2⟩:=ih1 l' e';exact⟨l2,p2.trans p,e2⟩
theorem qbQ {α:Type} {xs:List α} {k:Nat} (h2:2≤xs.length) (hk:k<xs.length):∃j x,j≠k∧xs[j]? = some x∧Lh xs ((k:Int) - 1)=some x:=by
  cases k with
  | zero=>
    have hj:xs.length - 1<xs.length:=by omega
    refine⟨xs.length - 1,xs[xs.length - 1],by omega,by simp[hj],?_⟩;unfold Lh ixN;rw[if_neg (by omega),if_pos (by omega)];have e:(((0:Nat):Int) - 1+xs.length).toNat=xs.length - 1:=by omega
    show xs[(((0:Nat):Int) - 1+xs.length).toNat]? = _;rw[e];simp[hj]
  | succ k=>
    have hj:k<xs.length:=by omega
    have e:((k+1:Nat):Int) - 1=(k:Int):=by omega
    rw[e];exact⟨k,xs[k],by omega,by simp[hj],dj (by simp[hj])⟩
end L2
namespace L2
open PySem
theorem R5 (K:W.Frag):W.kitOne K (.type "list") (.type "str")=some false:=by simp[W.kitOne];rfl
theorem R6 (K:W.Frag):W.kitOne K (.type "list") (.type "int")=some false:=by simp[W.kitOne];rfl
theorem Pq (K:W.Frag):W.kitOne K (.type "list") (.type "bool")=some false:=by simp[W.kitOne];rfl
theorem Pr (K:W.Frag):W.kitOne K (.type "tuple") (.type "str")=some false:=by simp[W.kitOne];rfl
theorem Pu (K:W.Frag):W.kitOne K (.type "tuple") (.type "int")=some false:=by simp[W.kitOne];rfl
theorem MJ (K:W.Frag):W.kitOne K (.type "tuple") (.type "bool")=some false:=by simp[W.kitOne];rfl
theorem KH (K:W.Frag):W.kitOne K (.type "str") (.type "str")=some true:=by simp[W.kitOne]
theorem Vd (K:W.Frag):W.kitOne K (.type "str") (.type "int")=some false:=by simp[W.kitOne];rfl
theorem R7 (K:W.Frag):W.kitOne K (.type "str") (.type "bool")=some false:=by simp[W.kitOne];rfl
theorem Ve (K:W.Frag):W.kitOne K (.type "int") (.type "str")=some false:=by simp[W.kitOne];rfl
theorem Vf (K:W.Frag):W.kitOne K (.type "int") (.type "int")=some true:=by simp[W.kitOne]
theorem R8 (K:W.Frag):W.kitOne K (.type "int") (.type "bool")=some false:=by simp[W.kitOne];rfl
theorem R9 (K:W.Frag):W.kitOne K (.type "bool") (.type "str")=some false:=by simp[W.kitOne];rfl
theorem R_ (K:W.Frag):W.kitOne K (.type "bool") (.type "int")=some true:=by simp[W.kitOne];rfl
theorem Px (K:W.Frag):W.kitOne K (.type "bool") (.type "bool")=some true:=by simp[W.kitOne]
theorem Sd (K:W.Frag):W.kitOne K (.type "dict") (.type "str")=some false:=by simp[W.kitOne];rfl
theorem Sg (K:W.Frag):W.kitOne K (.type "dict") (.type "int")=some false:=by simp[W.kitOne];rfl
theorem Py (K:W.Frag):W.kitOne K (.type "dict") (.type "bool")=some false:=by simp[W.kitOne];rfl
theorem JG (K:W.Frag):W.kitOne K (.type "NoneType") (.type "str")=some false:=by simp[W.kitOne];rfl
theorem JH (K:W.Frag):W.kitOne K (.type "NoneType") (.type "int")=some false:=by simp[W.kitOne];rfl
theorem HJ (K:W.Frag):W.kitOne K (.type "NoneType") (.type "bool")=some false:=by simp[W.kitOne];rfl
end L2
namespace L2
open PySem PySem.Spec PyProof.Rows
section
variable {X:Cx} {K:W.Frag}
def qiO (K:W.Frag):R2:=fun x y H Q=>∃d e,Is K H d x∧Is K H e y∧d.canLay0=true∧e.canLay0=true∧d.depth≤64∧Q (.bl (!PyData.eqv d e)) H
theorem qgl (hK:X.K=K) (hu:X.A.units+64<cLine):mR X (compareOp .NotEq) (qiO K):=by
  subst hK;intro p_ s σ H x y v u Q I rx ry h;obtain⟨d,e,h1,h2,h3,h4,h5,q⟩:=h;exact qf8 p_ s σ H x y v u Q I rx ry ⟨d,e,h1,h2,h3,h4,by omega,q⟩
end
def iR (ps:List (Str×Str)):List PyData:=ps.map fun e=>.tuple [.str e.1,.str e.2]
theorem Y7 (c:Nat):Y0 c=decide (c∈("abcdefghijklmnopqrstuvwxyz" : Str).cps.toList):=PySem.StrLaws.found_one _ c
theorem qbR {c:Nat} (h:Y0 c=true):c<128:=by
  rw[Y7] at h;have h':=of_decide_eq_true h;have key:∀x∈("abcdefghijklmnopqrstuvwxyz" : Str).cps.toList,x<128:=by decide+kernel
  exact key c h'
theorem Y8 {x:Str} (h:nameB x=true):PyData.strOk x=true:=by
  unfold nameB at h;simp only[Bool.and_eq_true] at h;have h2:=h.2;unfold PyData.strOk;rw[← Array.all_toList];rw[List.all_eq_true] at h2 ⊢;intro c hc;have:=qbR (h2 c hc);exact decide_eq_true (by omega)
theorem QC:∀ps:List (Str×Str),(∀e∈ps,PyData.strOk e.1=true∧PyData.strOk e.2=true)→PyData.canLayAll0 (iR ps)=true
  | [],_=>by simp[iR,PyData.canLayAll0]
  | x::xs,h=>by
    have:=QC xs fun y hy=>h y (List.mem_cons_of_mem _ hy);simp[iR] at this;simp[iR,PyData.canLayAll0,PyData.canLay0,this,h x List.mem_cons_self]
theorem QD:∀ps:List (Str×Str),PyData.depthAll (iR ps)≤2
  | []=>by simp[iR,PyData.depthAll]
  | x::xs=>by
    have:=QD xs;simp[iR] at this;simp[iR,PyData.depthAll,PyData.depth];omega
@[simp ↓] theorem qni (td ty:TE) (σ:St) (H:Hp) (Q:VK):qbK td ty σ H Q=(td σ H fun x H1=>ty σ H1 fun y H2=>∃a v,x = .ref a∧nQ H2 a y (some v)∧Q v H2):=rfl
@[simp ↓] theorem qoB (ty td:TE) (σ:St) (H:Hp) (Q:VK):qge ty td σ H Q=(ty σ H fun y H1=>td σ H1 fun x H2=>∃a o,x = .ref a∧nQ H2 a y o∧Q (.bl o.isSome) H2):=rfl
@[simp ↓] theorem qh7 (ty td:TE) (σ:St) (H:Hp) (Q:VK):R4 ty td σ H Q=(ty σ H fun y H1=>td σ H1 fun x H2=>∃a o,x = .ref a∧nQ H2 a y o∧Q (.bl (!o.isSome)) H2):=rfl
@[simp ↓] theorem qnj (td ty tv:TE) (D:Ends) (σ:St) (H:Hp):qbL td ty tv D σ H=(tv σ H fun v H1=>td σ H1 fun x H2=>ty σ H2 fun y H3=>∃a H4,x = .ref a∧R0 H3 a y v H4∧D.nx σ H4):=rfl
@[simp ↓] theorem qiP (σ:St) (H:Hp) (Q:VK):Xe σ H Q=(∀p,H p=none→Q (.ref p) (upd H p (.dK []))):=rfl
@[simp ↓] theorem qnk (trs:List (TE×TE)) (σ:St) (H:Hp) (Q:VK):qe0 trs σ H Q=(∀p,H p=none→Gv trs σ (upd H p (.dK [])) fun ps H2=>H2 p=some (.dK [])∧∃kvs:List (Key×V),ps=kvs.map (fun kv=>(kV kv.1,kv.2))∧kvs.length≤15∧Q (.ref p) (upd H2 p (.dK (Gw [] kvs)))):=rfl
@[simp ↓] theorem qiQ (σ:St) (H:Hp) (Q:List (V×V)→Hp→Prop):Gv [] σ H Q=Q [] H:=rfl
@[simp ↓] theorem qiR (tk tv:TE) (r:List (TE×TE)) (σ:St) (H:Hp) (Q:List (V×V)→Hp→Prop):Gv ((tk,tv)::r) σ H Q=(tk σ H fun x H1=>tv σ H1 fun y H2=>Gv r σ H2 fun ps H3=>Q ((x,y)::ps) H3):=rfl
@[simp ↓] theorem qiS (td ty:TE) (σ:St) (H:Hp) (Q:VK):Xf td ty σ H Q=(td σ H fun x H1=>∃a,x = .ref a∧IsD H1 a∧ty σ H1 fun y H2=>∃o,nQ H2 a y o∧Q (o.getD .non) H2):=rfl
@[simp ↓] theorem qiT (td ty tx:TE) (σ:St) (H:Hp) (Q:VK):Xg td ty tx σ H Q=(td σ H fun x H1=>∃a,x = .ref a∧IsD H1 a∧ty σ H1 fun y H2=>tx σ H2 fun z H3=>∃o,nQ H3 a y o∧Q (o.getD z) H3):=rfl
@[simp ↓] theorem qnl (K:W.Frag) (t:TA) (σ:St) (H:Hp) (R:It→Hp→Prop):qbP K t σ H R=(t σ H fun vs H1=>∃a xs,vs=[.ref a]∧cj K H1 a xs∧R (Ite K a) H1):=rfl
theorem qiU {H:Hp} {a:Addr} {kvs:List (Key×V)} (i:Int) (e:H a=some (.dK kvs)):nQ H a (.int i) (vU kvs (Sum.inl i)):=nQ.k (k:=Sum.inl i) e
theorem qdY {H:Hp} {a:Addr} {kvs:List (Key×V)} (x:Str) (e:H a=some (.dK kvs)):nQ H a (.str x) (vU kvs (Sum.inr x)):=nQ.k (k:=Sum.inr x) e
theorem qoC {H:Hp} {a:Addr} {kvs:List (Key×V)} {v:V} (x:Str) (e:H a=some (.dK kvs)) (hl:kvs.length<sizeLine):R0 H a (.str x) v (upd H a (.dK (putK kvs (Sum.inr x) v))):=R0.k (k:=Sum.inr x) e hl
theorem isD {H:Hp} {a:Addr} {kvs:List (Key×V)} (e:H a=some (.dK kvs)):IsD H a:=.inl ⟨kvs,.inl e⟩
theorem range_any (bs:List Bool):(List.range bs.length).any (fun i=>bs.getD i false)=bs.any id:=by
  rw[Bool.eq_iff_iff,List.any_eq_true,List.any_eq_true];constructor
  ·rintro⟨i,hi,h⟩;have hi':=List.mem_range.mp hi;refine⟨bs[i],List.getElem_mem hi',?_⟩;simpa [List.getD,hi'] using h
  ·rintro⟨b,hb,h⟩;obtain⟨i,hi,rfl⟩:=List.mem_iff_getElem.mp hb;exact⟨i,List.mem_range.mpr hi,by simpa [List.getD,hi] using h⟩
section
variable {X:Cx} {K:W.Frag}
def qe1:List V→Hp→VK→Prop:=fun xs H Q=>∃a ys bs,xs=[.ref a]∧H a=some (.lst ys)∧yD ys bs∧Q (.bl (bs.any id)) H
theorem qao (hc:X.calm=true):dD X (.builtin "any") qe1:=by
  intro p_ s σ H xs us Q I r h;obtain⟨a,ys,bs,rfl,ha,hb,q⟩:=h;obtain⟨u,rfl,ru⟩:=r.one;obtain rfl:u=Value.ref a:=ru;obtain⟨z,its,n,rv,hl,e⟩:=I.U3 ha;obtain⟨h1,h2⟩:=hb.get rv;have hL:s.heap.IsList a its.toArray:=⟨_,e,rfl,n,rfl⟩;refine call_any_walk ?_;refine wpAny_pyIter_list hL ?_;have hne:a≠s.heap.objs.size:=Nat.ne_of_lt (Heap.lt_size e);have hL2:(s.heap.push {cls:=.type "list_iterator",data:=.fields #[.ref a,.int 0 0]}).IsList a its.toArray:=⟨_,Heap.get?_push_of_some _ e,rfl,n,rfl⟩;refine⟨s.heap.objs.size,_,_,_,_,_,fun i=>bs.getD i false,rfl,Walks.list (by exact I.ok.hd hc) s.heap.objs.size a hne its.toArray,⟨⟨_,Heap.get?_push_size _ rfl,rfl,rfl⟩,hL2⟩,fun i v s' Q' E' hP hQ=>?_,fun h' tk kk=>?_⟩
  ·obtain rfl:=h2 i v (by simpa using hP);exact wpAny_truthy_bool hQ
  · have e2:(List.range its.toArray.size).any (fun i=>bs.getD i false)=bs.any id:=by
      rw[List.size_toArray,← hl,h1];exact range_any bs
    rw[e2];refine⟨.bl _,H,?_,rfl,q⟩;exact I.kept (h':=h') (t':=tk) fun b o eb=>kk b o (by simp;exact Nat.ne_of_lt (Heap.lt_size eb)) (Heap.get?_push_of_some _ eb)
end
section
variable {K:W.Frag} {l:Addr} {g:TG} {tb:TS} {D:Ends} {d:qgj g tb D} {σ:St} {H:Hp}
theorem frE (xs:List V) (Pv:Nat→St→Hp→Prop) (h0:Pv 0 σ H) (hl:∀i σ H,i≤xs.length→Pv i σ H→cj K H l xs)
    (hs:∀i x t σ H,xs[i]? = some x→H t=none→Pv i σ H→g (.ref t) σ (upd H t (.tup [.int i,x])) fun σ2 H2=>tb {D with nx:=Pv (i+1),ct:=Pv (i+1),bk:=D.nx} σ2 H2) (hd:∀σ H,Pv xs.length σ H→D.nx σ H):tFr (Ite K l) g tb D d σ H:=by
  refine⟨fun i m σ H=>m=xs.length - i∧i≤xs.length∧Pv i σ H,⟨xs.length,by simp,Nat.zero_le _,h0⟩,?_⟩;rintro i m σ H ⟨rfl,hi,p⟩;have q:=hl i σ H hi p
  by_cases hlt:i<xs.length
  ·refine .inr ⟨⟨xs,xs[i],q,by simp[hlt]⟩,Pv (i+1),fun σ' H' p'=>⟨xs.length - (i+1),by omega,rfl,hlt,p'⟩,fun x H' y=>?_⟩;obtain⟨t,u,rfl,ht,rfl,e⟩:=y;exact hs i u t σ H (e xs q) ht p
  · have e:i=xs.length:=by omega
    subst e;exact .inl ⟨⟨xs,q,Nat.le_refl _⟩,hd σ H p⟩
end
section
variable {c:TT} {tb:TS} {D:Ends} {d:qiK c tb D} {σ:St} {H:Hp}
theorem whB (Pv:St→Hp→Prop) (μ:St→Hp→Nat) (h0:Pv σ H)
    (hs:∀σ H,Pv σ H→c σ H fun b H1=>g8 b (tb {D with nx:=fun σ' H'=>Pv σ' H'∧μ σ' H'<μ σ H,ct:=fun σ' H'=>Pv σ' H'∧μ σ' H'<μ σ H,bk:=D.nx} σ H1) (D.nx σ H1) ⟨0⟩)
    (mono:∀σ H Q Q',(∀b H1,Q b H1→Q' b H1)→c σ H Q→c σ H Q'):tWh c tb D d σ H:=qbd Pv μ h0 hs mono
end
end L2
namespace L2
open PySem
inductive RT {α:Type} (R:α→α→Prop):α→α→Prop where
  | refl (a:α):RT R a a
  | tail {a b c:α}:RT R a b→R b c→RT R a c
abbrev yG:=Nat×Str×Str
def MK (S:List yG) (a b:Str):Prop:=∃n,(n,a,b)∈S
def Sh (fx:Nat→Option Int) (e:Str×Str) (k:Nat):List yG:=
  (if (fx k).getD 0=0 then [(k,e.1,e.2)] else [])++(if (fx k).getD 1=1 then [(k,e.2,e.1)] else [])
def iT (fx:Nat→Option Int):List (Str×Str)→Nat→List yG
  | [],_=>[]
  | e::r,k=>Sh fx e k++iT fx r (k+1)
theorem DQ (fx:Nat→Option Int):∀(l m:List (Str×Str)) (k:Nat),iT fx (l++m) k=iT fx l k++iT fx m (k+l.length)
  | [],m,k=>by simp[iT]
  | e::l,m,k=>by
    simp only[List.cons_append,iT,DQ fx l m (k+1),List.append_assoc,List.length_cons];rw[show k+1+l.length=k+(l.length+1) by omega]
theorem Ss (fx:Nat→Option Int) {ps:List (Str×Str)} {i:Nat} {e:Str×Str} (h:ps[i]? = some e):iT fx (ps.take (i+1)) 0=iT fx (ps.take i) 0++Sh fx e i:=by
  have hi:i<ps.length:=(List.getElem?_eq_some_iff.mp h).1;rw[take_one h,DQ,List.length_take,Nat.min_eq_left (Nat.le_of_lt hi),Nat.zero_add];simp[iT]
end L2
namespace L2
open PySem PySem.Spec PyProof.Rows
def yH {β:Type} (R:Hp→V→β→Prop) (H:Hp) (vs:List V) (bs:List β):Prop:=vs.length=bs.length∧∀(i:Nat) v b,vs[i]? = some v→bs[i]? = some b→R H v b
section
variable {β:Type} {R:Hp→V→β→Prop} {H H':Hp} {vs:List V} {bs:List β}
theorem yH.nil:yH R H [] []:=⟨rfl,fun i v b h=>by simp at h⟩
theorem yH.keep (h:yH R H vs bs) (k:∀v b,R H v b→R H' v b):yH R H' vs bs:=⟨h.1,fun i v b h1 h2=>k v b (h.2 i v b h1 h2)⟩
theorem yH.at (h:yH R H vs bs) {i:Nat} {v:V} (hv:vs[i]? = some v):∃b,bs[i]? = some b∧R H v b:=by
  have hi:i<bs.length:=by rw[← h.1];exact(List.getElem?_eq_some_iff.mp hv).1
  exact⟨bs[i],by simp[hi],h.2 i v _ hv (by simp[hi])⟩
theorem yH.snoc {v:V} {b:β} (h:yH R H vs bs) (hv:R H v b):yH R H (vs++[v]) (bs++[b]):=by
  refine⟨by simp[h.1],fun i u d h1 h2=>?_⟩
  by_cases hi:i<vs.length
  ·rw[List.getElem?_append_left hi] at h1;rw[List.getElem?_append_left (by rw[← h.1];exact hi)] at h2;exact h.2 i u d h1 h2
  · rw[List.getElem?_append_right (by omega)] at h1;rw[List.getElem?_append_right (by rw[← h.1];omega),← h.1] at h2;cases hk:i - vs.length with
    | zero=>
      rw[hk] at h1 h2;cases h1;cases h2;exact hv
    | succ j=>
      rw[hk] at h1;simp at h1
end
def Vg (H:Hp) (v:V) (s:yG):Prop:=∃t,v = .ref t∧H t=some (.tup [.int s.1,.str s.2.1,.str s.2.2])
abbrev gD:=yH Vg
def gF (H H':Hp):Prop:=∀b xs,H b=some (.tup xs)→H' b=some (.tup xs)
theorem gF.of {H H':Hp} (s:Same H H'):gF H H':=fun b xs e=>s b _ e
theorem gF.set {H:Hp} {p:Addr} {o u:HO} (h:H p=some o) (hn:∀xs,o≠.tup xs):gF H (upd H p u):=fun b xs e=>by
  rw[aV (fun z=>by subst z;rw[h] at e;exact hn xs (Option.some.inj e))];exact e
theorem Vg.keep {H H':Hp} (k:gF H H'):∀v s,Vg H v s→Vg H' v s:=fun v s ⟨t,e,h⟩=>⟨t,e,k _ _ h⟩
theorem gD.keep {H H':Hp} {vs:List V} {S:List yG} (h:gD H vs S) (k:gF H H'):gD H' vs S:=yH.keep h (Vg.keep k)
def qiV (H:Hp) (d:Addr) (fx:Nat→Option Int):Prop:=∃kvs,H d=some (.dK kvs)∧∀k:Nat,vU kvs (Sum.inl (k:Int))=(fx k).map V.int
theorem Vh (o:Option Int) (x:Int):(o.map V.int).getD (.int x) = .int (o.getD x):=by cases o <;> rfl
end L2
namespace L2
open PySem
inductive KJ (S:List yG) (a:Str):List Nat→List Str→Str→Prop where
  | nil:KJ S a [] [a] a
  | snoc {w:List Nat} {vs:List Str} {b c:Str} {n:Nat}:KJ S a w vs b→(n,b,c)∈S→KJ S a (w++[n]) (vs++[c]) c
theorem KJ.reach {S:List yG} {a:Str} {w:List Nat} {vs:List Str} {b:Str} (h:KJ S a w vs b):RT (MK S) a b:=by
  induction h with
  | nil=>exact .refl _
  | snoc _ q ih=>exact .tail ih ⟨_,q⟩
inductive Walk (S:List yG) (a:Str):Nat→Str→Prop where
  | nil:Walk S a 0 a
  | snoc {k:Nat} {b c:Str} {n:Nat}:Walk S a k b→(n,b,c)∈S→Walk S a (k+1) c
theorem Walk.of {S:List yG} {a b:Str} (h:RT (MK S) a b):∃k,Walk S a k b:=by
  induction h with
  | refl=>exact⟨0,.nil⟩
  | tail _ q ih=>
    obtain⟨k,hk⟩:=ih;obtain⟨n,hn⟩:=q;exact⟨k+1,.snoc hk hn⟩
abbrev BR:=List (Str×List Nat)
structure Ws (S:List yG) (a:Str) (at_:Nat) (R:BR):Prop where
  st:R[0]? = some (a,[])
  nd:(R.map (·.1)).Nodup
  pth:∀y w,(y,w)∈R→∃vs,KJ S a w vs y∧vs.Nodup∧∀v∈vs,v∈R.map (·.1)
  cl:∀(i:Nat) y w,i<at_→R[i]? = some (y,w)→∀n c,(n,y,c)∈S→∃w',(c,w')∈R∧w'.length≤w.length+1
  mono:∀(i j:Nat) y w z u,i≤j→R[i]? = some (y,w)→R[j]? = some (z,u)→w.length≤u.length
  bd:∀(y:Str) (w:List Nat) z u,R[at_]? = some (y,w)→(z,u)∈R→u.length≤w.length+1
structure uT (S T:List yG) (a:Str) (at_:Nat) (h:Str) (wh:List Nat) (R:BR):Prop where
  bf:Ws S a at_ R
  hr:R[at_]? = some (h,wh)
  md:∀n c,(n,h,c)∈T→∃w',(c,w')∈R∧w'.length≤wh.length+1
theorem Ws.begin (S:List yG) (a:Str):Ws S a 0 [(a,[])]:=by
  refine⟨rfl,by simp,?_,by intro i y w h;omega,?_,?_⟩
  ·intro y w h;simp at h;obtain⟨rfl,rfl⟩:=h;exact⟨[y],.nil,by simp,by simp⟩
  · intro i j y w z u hij h1 h2;have hi:i=0:=by have:=(List.getElem?_eq_some_iff.mp h1).1;simp at this;omega
    have hj:j=0:=by have:=(List.getElem?_eq_some_iff.mp h2).1;simp at this;omega
    subst hi hj;rw[h1] at h2;cases h2;exact Nat.le_refl _
  ·intro y w z u h1 h2;simp at h1 h2;rw[h2.2,← h1.2];simp
theorem uT.enter {S:List yG} {a:Str} {at_:Nat} {h:Str} {wh:List Nat} {R:BR} (b:Ws S a at_ R) (hr:R[at_]? = some (h,wh)):uT S [] a at_ h wh R:=⟨b,hr,by simp⟩
theorem uT.skip {S T:List yG} {a:Str} {at_:Nat} {h:Str} {wh:List Nat} {R:BR} (b:uT S T a at_ h wh R) {s:yG} (hs:s.2.1=h→s.2.2∈R.map (·.1)):uT S (T++[s]) a at_ h wh R:=by
  refine⟨b.bf,b.hr,fun n c hm=>?_⟩
  rcases List.mem_append.mp hm with q | q
  ·exact b.md n c q
  ·simp at q;subst q;obtain⟨⟨c',w'⟩,hw,e⟩:=List.mem_map.mp (hs rfl);simp only at e;subst e;exact⟨w',hw,b.bf.bd _ _ _ _ b.hr hw⟩
theorem uT.add {S T:List yG} {a:Str} {at_:Nat} {h:Str} {wh:List Nat} {R:BR} (b:uT S T a at_ h wh R) {n:Nat} {c:Str} (hS:(n,h,c)∈S) (hc:¬c∈R.map (·.1)):uT S (T++[(n,h,c)]) a at_ h wh (R++[(c,wh++[n])]):=by
  obtain⟨⟨st,nd,pth,cl,mono,bd⟩,hr,md⟩:=b;have hat:at_<R.length:=(List.getElem?_eq_some_iff.mp hr).1;have ml:∀{i:Nat} {x},i<R.length→(R++[(c,wh++[n])])[i]? = some x→R[i]? = some x:=fun hi e=>by rwa [List.getElem?_append_left hi] at e
  have last:∀{i:Nat} {x},¬i<R.length→(R++[(c,wh++[n])])[i]? = some x→x=(c,wh++[n]):=fun hi e=>by
    rw[List.getElem?_append_right (by omega)] at e;cases hk:_ - R.length with
    | zero=>rw[hk] at e;simp at e;exact e.symm
    | succ k=>rw[hk] at e;simp at e
  refine⟨⟨?_,?_,?_,?_,?_,?_⟩,?_,?_⟩
  ·rw[List.getElem?_append_left (by omega)];exact st
  ·rw[List.map_append,List.nodup_append];refine⟨nd,by simp,?_⟩;intro x hx y hy e;simp at hy;subst hy;exact hc (e▸hx)
  · intro y w hy
    rcases List.mem_append.mp hy with q | q
    ·obtain⟨vs,h1,h2,h3⟩:=pth y w q;exact⟨vs,h1,h2,fun v hv=>by rw[List.map_append];exact List.mem_append_left _ (h3 v hv)⟩
    · simp at q;obtain⟨rfl,rfl⟩:=q;obtain⟨vs,h1,h2,h3⟩:=pth h wh (List.mem_of_getElem? hr);refine⟨vs++[y],.snoc h1 hS,?_,?_⟩
      ·rw[List.nodup_append];refine⟨h2,by simp,?_⟩;intro x hx z hz e;simp at hz;subst hz;exact hc (e▸h3 x hx)
      · intro v hv;rw[List.map_append]
        rcases List.mem_append.mp hv with q | q
        ·exact List.mem_append_left _ (h3 v q)
        ·simp at q;subst q;simp
  ·intro i y w hi e m c' hm;obtain⟨w',q1,q2⟩:=cl i y w hi (ml (by omega) e) m c' hm;exact⟨w',List.mem_append_left _ q1,q2⟩
  · intro i j y w z u hij h1 h2
    by_cases hj:j<R.length
    ·exact mono i j y w z u hij (ml (by omega) h1) (ml hj h2)
    · have e2:=last hj h2;cases e2
      by_cases hi:i<R.length
      ·have:=bd h wh y w hr (List.mem_of_getElem? (ml hi h1));simp;exact this
      ·have e1:=last hi h1;cases e1;exact Nat.le_refl _
  · intro y w z u h1 h2;have h1':=ml hat h1;rw[hr] at h1';cases h1'
    rcases List.mem_append.mp h2 with q | q
    ·exact bd _ _ z u hr q
    ·simp at q;rw[q.2];simp
  ·rw[List.getElem?_append_left hat];exact hr
  · intro m c' hm
    rcases List.mem_append.mp hm with q | q
    ·obtain⟨w',q1,q2⟩:=md m c' q;exact⟨w',List.mem_append_left _ q1,q2⟩
    ·simp at q;obtain⟨rfl,rfl⟩:=q;exact⟨wh++[m],by simp,by simp⟩
theorem uT.leave {S:List yG} {a:Str} {at_:Nat} {h:Str} {wh:List Nat} {R:BR} (b:uT S S a at_ h wh R):Ws S a (at_+1) R:=by
  obtain⟨⟨st,nd,pth,cl,mono,bd⟩,hr,md⟩:=b;refine⟨st,nd,pth,?_,mono,?_⟩
  · intro i y w hi e n c hm
    by_cases hia:i=at_
    ·subst hia;rw[hr] at e;cases e;exact md n c hm
    ·exact cl i y w (by omega) e n c hm
  ·intro y w z u h1 h2;have q1:=bd h wh z u hr h2;have q2:=mono at_ (at_+1) h wh y w (by omega) hr h1;omega
theorem Ws.all {S:List yG} {a:Str} {R:BR} (b:Ws S a R.length R) {k:Nat} {y:Str} (h:Walk S a k y):∃w,(y,w)∈R∧w.length≤k:=by
  induction h with
  | nil=>exact⟨[],List.mem_of_getElem? b.st,Nat.le_refl _⟩
  | @snoc k b' c n _ q ih=>
    obtain⟨w,h1,h2⟩:=ih;obtain⟨i,hi⟩:=List.mem_iff_getElem?.mp h1;obtain⟨w',h3,h4⟩:=b.cl i b' w (List.getElem?_eq_some_iff.mp hi).1 hi n c q;exact⟨w',h3,by omega⟩
theorem Ws.iff {S:List yG} {a:Str} {R:BR} (b:Ws S a R.length R) (y:Str):y∈R.map (·.1)↔RT (MK S) a y:=by
  constructor
  ·intro h;obtain⟨⟨z,w⟩,h1,e⟩:=List.mem_map.mp h;simp only at e;subst e;obtain⟨vs,p,_⟩:=b.pth z w h1;exact p.reach
  ·intro h;obtain⟨k,hk⟩:=Walk.of h;obtain⟨w,h1,_⟩:=b.all hk;exact List.mem_map.mpr ⟨(y,w),h1,rfl⟩
theorem Ws.sub {S:List yG} {a:Str} {i:Nat} {R:BR} (b:Ws S a i R) {xs:List Str} (ha:a∈xs) (hS:∀s∈S,s.2.2∈xs):∀y∈R.map (·.1),y∈xs:=by
  intro y h;obtain⟨⟨z,w⟩,h1,e⟩:=List.mem_map.mp h;simp only at e;subst e;obtain⟨vs,p,_⟩:=b.pth z w h1;cases p with
  | nil=>exact ha
  | snoc _ q=>exact hS _ q
theorem wJ {α:Type} [DecidableEq α]:∀{l xs:List α},l.Nodup→(∀y∈l,y∈xs)→l.length≤xs.length
  | [],_,_,_=>Nat.zero_le _
  | y::l,xs,hn,hs=>by
    obtain⟨h1,h2⟩:=List.nodup_cons.mp hn;have hy:y∈xs:=hs y List.mem_cons_self;have:=wJ (l:=l) (xs:=xs.erase y) h2 fun z hz=>(List.mem_erase_of_ne (fun(e:z=y)=>h1 (e▸hz))).mpr (hs z (List.mem_cons_of_mem _ hz));rw[List.length_erase_of_mem hy] at this;have h0:0<xs.length:=List.length_pos_of_mem hy;simp only[List.length_cons];omega
theorem KJ.len {S:List yG} {a:Str} {w:List Nat} {vs:List Str} {b:Str} (h:KJ S a w vs b):vs.length=w.length+1:=by
  induction h with
  | nil=>rfl
  | snoc _ _ ih=>simp[ih]
theorem Ws.qoD {S:List yG} {a:Str} {i:Nat} {R:BR} (b:Ws S a i R) {y:Str} {w:List Nat} (h:(y,w)∈R):w.length<R.length:=by
  obtain⟨vs,p,nd,sub⟩:=b.pth y w h;have h1:=wJ nd sub;have h2:=p.len;simp at h1;omega
def qoE (H:Hp) (kv:Key×V) (yw:Str×List Nat):Prop:=kv.1=Sum.inr yw.1∧∃p,kv.2 = .ref p∧H p=some (.lst (yw.2.map fun n:Nat=>V.int n))
structure h_ (H:Hp) (kvs:List (Key×V)) (R:BR):Prop where
  len:kvs.length=R.length
  ok:∀(i:Nat) kv yw,kvs[i]? = some kv→R[i]? = some yw→qoE H kv yw
theorem h_.keep {H H':Hp} {kvs:List (Key×V)} {R:BR} (h:h_ H kvs R) (k:∀(p:Addr) (w:List Nat),H p=some (.lst (w.map fun n:Nat=>V.int n))→H' p=some (.lst (w.map fun n:Nat=>V.int n))):h_ H' kvs R:=
  ⟨h.len,fun i kv yw h1 h2=>by
    obtain⟨e,p,e2,q⟩:=h.ok i kv yw h1 h2;exact⟨e,p,e2,k _ _ q⟩⟩
theorem h_.none {H:Hp} {kvs:List (Key×V)} {R:BR} (h:h_ H kvs R) {y:Str} (hy:¬y∈R.map (·.1)):vU kvs (Sum.inr y)=Option.none:=by
  unfold vU;rw[List.find?_eq_none.mpr]
  ·rfl
  · intro kv hk;obtain⟨i,hi⟩:=List.mem_iff_getElem?.mp hk;have hl:i<R.length:=by rw[← h.len];exact(List.getElem?_eq_some_iff.mp hi).1
    obtain⟨e,_⟩:=h.ok i kv R[i] hi (by simp[hl]);simp only[decide_eq_true_eq];intro z;rw[e] at z;cases z;exact hy (List.mem_map.mpr ⟨R[i],List.getElem_mem hl,rfl⟩)
theorem h_.some {H:Hp} {kvs:List (Key×V)} {R:BR} (h:h_ H kvs R) (nd:(R.map (·.1)).Nodup) {y:Str} {w:List Nat} (hy:(y,w)∈R):∃p,vU kvs (Sum.inr y)=Option.some (.ref p)∧H p=Option.some (.lst (w.map fun n:Nat=>V.int n)):=by
  obtain⟨i,hi⟩:=List.mem_iff_getElem?.mp hy;have hl:i<kvs.length:=by rw[h.len];exact(List.getElem?_eq_some_iff.mp hi).1
  have hk:kvs[i]? = Option.some kvs[i]:=by simp[hl]
  unfold vU;have hf:∃kv,kvs.find? (fun kv=>decide (kv.1=Sum.inr y))=Option.some kv:=by
    cases e:kvs.find? (fun kv=>decide (kv.1=Sum.inr y)) with
    | some kv=>exact⟨kv,rfl⟩
    | none=>
      have:=List.find?_eq_none.mp e kvs[i] (List.getElem_mem hl);obtain⟨e1,_⟩:=h.ok i _ _ hk hi;simp[e1] at this
  obtain⟨kv,hkv⟩:=hf;rw[hkv];have hm:=List.mem_of_find?_eq_some hkv;have hp:=List.find?_some hkv;simp only[decide_eq_true_eq] at hp;obtain⟨j,hj⟩:=List.mem_iff_getElem?.mp hm;have hlj:j<R.length:=by rw[← h.len];exact(List.getElem?_eq_some_iff.mp hj).1
  obtain⟨e1,p,e2,e3⟩:=h.ok j kv R[j] hj (by simp[hlj]);rw[hp] at e1;have ey:R[j].1=y:=(Sum.inr.inj e1).symm;have ej:j=i:=Mv nd (x:=y) (by rw[List.getElem?_map,show R[j]? = Option.some R[j] by simp[hlj]];simp[ey]) (by rw[List.getElem?_map,hi];rfl);subst ej;have:R[j]=(y,w):=by
    have:=hi;simp[hlj] at this;exact this
  rw[this] at e3;exact⟨p,by simp[e2],e3⟩
theorem h_.has {H:Hp} {kvs:List (Key×V)} {R:BR} (h:h_ H kvs R) (nd:(R.map (·.1)).Nodup) (y:Str):(vU kvs (Sum.inr y)).isSome=decide (y∈R.map (·.1)):=by
  by_cases hy:y∈R.map (·.1)
  ·obtain⟨⟨z,w⟩,h1,e⟩:=List.mem_map.mp hy;simp only at e;subst e;obtain⟨p,e,_⟩:=h.some nd h1;rw[e,decide_eq_true hy];rfl
  ·rw[h.none hy,decide_eq_false hy];rfl
theorem h_.qoF {H:Hp} {kvs:List (Key×V)} {R:BR} (h:h_ H kvs R) (nd:(R.map (·.1)).Nodup) (y:Str):(vU kvs (Sum.inr y)).isNone = !decide (y∈R.map (·.1)):=by
  rw[← h.has nd y];cases vU kvs (Sum.inr y) <;> rfl
theorem h_.snoc {H:Hp} {kvs:List (Key×V)} {R:BR} {y:Str} {w:List Nat} {p:Addr} (h:h_ H kvs R) (hp:H p=Option.some (.lst (w.map fun n:Nat=>V.int n))):h_ H (kvs++[(Sum.inr y,.ref p)]) (R++[(y,w)]):=by
  refine⟨by simp[h.len],fun i kv yw h1 h2=>?_⟩
  by_cases hi:i<kvs.length
  ·rw[List.getElem?_append_left hi] at h1;rw[List.getElem?_append_left (by rw[← h.len];exact hi)] at h2;exact h.ok i kv yw h1 h2
  · rw[List.getElem?_append_right (by omega)] at h1;rw[List.getElem?_append_right (by rw[← h.len];omega),← h.len] at h2;cases hk:i - kvs.length with
    | zero=>
      rw[hk] at h1 h2;cases h1;cases h2;exact⟨rfl,p,rfl,hp⟩
    | succ j=>
      rw[hk] at h1;simp at h1
def qiW (i:Nat) (σ:St):Nat:=match σ[i]? with | some (some (V.int n))=>(10 - n).toNat | _=>0
theorem DR (x:Str) (xs:List Str):inV (.str x) (xs.map V.str)=decide (x∈xs):=by
  unfold inV;rw[List.any_map,Bool.eq_iff_iff,List.any_eq_true,decide_eq_true_eq];constructor
  ·rintro⟨y,hy,e⟩;simp[WX] at e;exact e▸hy
  ·intro h;exact⟨x,h,by simp[WX]⟩
theorem JK (xs:List Str):(xs.map V.str).all nJ=true:=by
  rw[List.all_map,List.all_eq_true];intro x _;rfl
open Classical in
def Sv (S:List yG) (xs:List Str) (x:Str):List Str:=xs.filter fun y=>decide (RT (MK S) x y)
theorem qdZ {S:List yG} {xs:List Str} {x:Str}:(Sv S xs x).length≤xs.length:=List.length_filter_le _ _
theorem qbS {S:List yG} {xs:List Str} {x y:Str} {i:Nat} (h:xs[i]? = some y) (b:Bool) (hb:b=true↔RT (MK S) x y):Sv S (xs.take (i+1)) x=Sv S (xs.take i) x++if b=true then [y] else []:=by
  unfold Sv;rw[take_one h,List.filter_append];congr 1
  by_cases hr:RT (MK S) x y
  ·rw[if_pos (hb.mpr hr)];simp[hr]
  ·rw[if_neg fun z=>hr (hb.mp z)];simp[hr]
end L2
namespace L2
open PySem PySem.Spec PyProof.Rows
@[simp] theorem qnm (i:Int):K7 (.int i) .non=true:=rfl
@[simp] theorem qnn (i:Int):K7 .non (.int i)=true:=rfl
@[simp] theorem qnp (i:Str):K7 (.str i) .non=true:=rfl
end L2
namespace L2
open PySem
end L2
set_option maxHeartbeats 4000000
namespace L2
open PySem PySem.Spec PyProof.Rows
section
variable {prog:Program} {w:World} {A:Around} {E:Value→Shared→Prop} {s:Shared}
theorem qbT {a:Addr} {Q:Option Obj→Shared→Prop} (h:Q (s.heap.get? a) s):wpAny (model prog w) A (loadIfAlive a) Q E s:=fun Γ p _=>by
  show Sem.wp _ _ (Sem.loadIfAlive a Sem.pure) _ _ _ _;rw[Sem.wp_loadIfAlive];exact h
def um (b:Bool) (it l:Addr) (items:Array Value) (i:Nat) (h:Heap):Prop:=match b with
  | true=>h.IsListIter it l i∧h.IsList l items
  | false=>h.IsTupleIter it l i∧h.IsTuple l items
theorem qgm {b:Bool} {it l:Addr} {items:Array Value} {i:Nat} {h:Heap} (st:um b it l items i h):l≠it:=by
  cases b with
  | true=>
    obtain⟨⟨o,e,c,_⟩,⟨u,e',c',_⟩⟩:=st;exact eO e' e c' c (by decide)
  | false=>
    obtain⟨⟨o,e,c,_⟩,⟨u,e',c',_⟩⟩:=st;exact eO e' e c' c (by decide)
theorem qbU {b:Bool} {it l:Addr} {items:Array Value} {i:Nat} {h:Heap} (st:um b it l items i h):∃o T,h.get? it=some o∧o.cls = .type T∧T≠ "enumerate" :=by
  cases b with
  | true=>obtain⟨⟨o,e,c,_⟩,_⟩:=st;exact⟨o,_,e,c,by decide⟩
  | false=>obtain⟨⟨o,e,c,_⟩,_⟩:=st;exact⟨o,_,e,c,by decide⟩
theorem qe2 {b:Bool} {it l:Addr} {items:Array Value} {i:Nat} {h:Heap} (st:um b it l items i h):∃o T,h.get? l=some o∧o.cls = .type T∧T≠ "enumerate" :=by
  cases b with
  | true=>obtain⟨_,⟨o,e,c,_⟩⟩:=st;exact⟨o,_,e,c,by decide⟩
  | false=>obtain⟨_,⟨o,e,c,_⟩⟩:=st;exact⟨o,_,e,c,by decide⟩
theorem HN {b:Bool} {it l:Addr} {items:Array Value} {i:Nat} {h h':Heap} (st:um b it l items i h) (k1:∀o,h.get? it=some o→h'.get? it=some o) (k2:∀o,h.get? l=some o→h'.get? l=some o):um b it l items i h':=by
  cases b with
  | true=>obtain⟨⟨o,e,c⟩,⟨u,e',c'⟩⟩:=st;exact⟨⟨o,k1 _ e,c⟩,⟨u,k2 _ e',c'⟩⟩
  | false=>obtain⟨⟨o,e,c⟩,⟨u,e',c'⟩⟩:=st;exact⟨⟨o,k1 _ e,c⟩,⟨u,k2 _ e',c'⟩⟩
theorem qbV {b:Bool} {it l:Addr} {items:Array Value} {i:Nat} {x:Value} {Q:Value→Shared→Prop} (st:um b it l items i s.heap) (hx:items[i]? = some x)
    (hQ:∀h',um b it l items (i+1) h'→Heap.SameBut it s.heap h'→Q x {s with heap:=h'}):wpAny (model prog w) A (Builtin.SmallTypes.nextOf (.ref it)) Q E s:=by
  have ne:=qgm st;cases b with
  | true=>
    obtain⟨h1,h2⟩:=st;refine wpAny_nextOf_list_item h1 h2 hx fun h' a1 a2=>hQ h' ⟨a1,?_⟩ a2;obtain⟨u,e',c'⟩:=h2;exact⟨u,(a2.2 _ ne).trans e',c'⟩
  | false=>
    obtain⟨h1,h2⟩:=st;obtain⟨o,ho,hc,hd⟩:=id h1;obtain⟨ol,hol,hcl,nl,hdl⟩:=id h2;unfold Builtin.SmallTypes.nextOf;refine wpAny_bind (wpAny_callSpecial?_slot (name:=Str.ofString "__next__") h1.typeIs F.slot_tuple_iterator_next (wpAny_call_entry F.slot_tuple_iterator_next h1.typeIs F.entry_tuple_iterator_next ?_ (F.args_tuple_iterator_next_1 _)));show wpAny (model prog w) _ (field (.ref it) 0 >>= _) _ _ s;refine wpAny_bind (wpAny_field ho hd (x:=.ref l) rfl ?_);show wpAny (model prog w) _ (if (Value.ref l == Value.none)=true then _ else _) _ _ s
    rw[if_neg (fun z=>by cases z)];show wpAny (model prog w) _ (field (.ref it) 1 >>= _) _ _ s;refine wpAny_bind (wpAny_field ho hd (x:=.int i 0) rfl ?_);show wpAny (model prog w) _ (seqItems? (.ref l) >>= _) _ _ s;refine wpAny_bind (wpAny_seqItems hol hdl ?_);simp only[Int.toNat_natCast,hx];refine wpAny_bind (wpAny_setField ho hd (by simp) (wpAny_pure ⟨x,rfl,wpAny_pure (hQ _ ⟨?_,?_⟩ (Heap.SameBut.update ..))⟩))
    ·exact⟨_,Heap.get?_update_self _ ho (Obj.isFreed_of_fields (Obj.data_mapFields hd _)),(Obj.cls_mapFields ..).trans hc,by rw[Obj.data_mapFields hd];simp[rawInt]⟩
    ·exact⟨ol,((Heap.SameBut.update ..).2 _ ne).trans hol,hcl,nl,hdl⟩
theorem qbW {b:Bool} {it l:Addr} {items:Array Value} {i:Nat} {Q:Value→Shared→Prop} (hh:A.handled=none) (st:um b it l items i s.heap) (hx:items[i]? = none)
    (hE:∀h' e,Heap.ExtBut it s.heap h'→(∃o,h'.get? e=some o∧o.cls = .type "StopIteration")→E (.ref e) {s with heap:=h'}):wpAny (model prog w) A (Builtin.SmallTypes.nextOf (.ref it)) Q E s:=by
  cases b with
  | true=>exact wpAny_nextOf_list_end hh st.1 st.2 hx hE
  | false=>
    obtain⟨h1,h2⟩:=st;obtain⟨o,ho,hc,hd⟩:=id h1;obtain⟨ol,hol,hcl,nl,hdl⟩:=id h2;unfold Builtin.SmallTypes.nextOf;refine wpAny_bind (wpAny_callSpecial?_slot (name:=Str.ofString "__next__") h1.typeIs F.slot_tuple_iterator_next (wpAny_call_entry F.slot_tuple_iterator_next h1.typeIs F.entry_tuple_iterator_next ?_ (F.args_tuple_iterator_next_1 _)));show wpAny (model prog w) _ (field (.ref it) 0 >>= _) _ _ s;refine wpAny_bind (wpAny_field ho hd (x:=.ref l) rfl ?_);show wpAny (model prog w) _ (if (Value.ref l == Value.none)=true then _ else _) _ _ s
    rw[if_neg (fun z=>by cases z)];show wpAny (model prog w) _ (field (.ref it) 1 >>= _) _ _ s;refine wpAny_bind (wpAny_field ho hd (x:=.int i 0) rfl ?_);show wpAny (model prog w) _ (seqItems? (.ref l) >>= _) _ _ s;refine wpAny_bind (wpAny_seqItems hol hdl ?_);simp only[Int.toNat_natCast,hx];refine wpAny_bind (wpAny_rule (wpAny_bind (wpAny_setField ho hd (by simp) ?_)));show wpAny (model prog w) _ (newExc (.type "StopIteration") [] >>= _) _ _ _;refine wpAny_bind ?_;simp only[newExc,newTuple];refine wpAny_bind (wpAny_newObj_type ?_ (by size_fits));refine wpAny_bind (m:=firstArgMember _ _) (wpAny_of_eq (a:=Value.none) (by first | rfl | (simp only[firstArgMember];rfl)) ?_)
    refine wpAny_newObj_type ?_ (by size_fits);simp only[raiseNew];refine wpAny_bind (wpAny_handled ?_)
    first | rw[show A.in1.handled=none from hh] | rw[hh]
    refine wpAny_bind (wpAny_pure (wpAny_throw ?_));exact hE _ _ (((Heap.SameBut.update ..).extBut.push _).push _) ⟨_,Heap.get?_push_size _ rfl,rfl⟩
def oE (h:Heap) (e it:Addr) (i:Int):Prop:=∃f0 f1 old,h.get? e=some {cls:=.type "enumerate",dict:=none,data:=.fields #[f0,f1,.ref it,rawInt i,.none,old],slots:=#[]}∧(f0 = .none∨∃a:Int,f0=rawInt a)
theorem qd0 {e it r:Addr} {i:Int} {x f0 f1 old:Value} {Q:PySem.Fin→Shared→Prop} (he:s.heap.get? e=some {cls:=.type "enumerate",dict:=none,data:=.fields #[f0,f1,.ref it,rawInt i,.none,old],slots:=#[]}) (hf:f0 = .none∨∃a:Int,f0=rawInt a)
    (hQ:∀h',oE h' e it i→Heap.SameBut e s.heap h'→Q (.done (.ret (.ref r))) {s with heap:=h'}) :
    wpAny (model prog w) A (Builtin.SmallTypes.ownedTupleIsFree (.ref e) >>= fun b=>if b=true then (rule "enumerate.__next__.owned-tuple-again" >>= fun _=>field (.ref e) 5 >>= fun o=>setField (.ref e) 5 x >>= fun _=>Builtin.SmallTypes.ownedTupleHandOut (.ref e) (.ref r) >>= fun _=>letGo [o] [.ref r] >>= fun _=>ret (.ref r)) else ret (.ref r)) Q E s:=by
  have out:wpAny (model prog w) A (rule "enumerate.__next__.owned-tuple-again" >>= fun _=>field (.ref e) 5 >>= fun o=>setField (.ref e) 5 x >>= fun _=>Builtin.SmallTypes.ownedTupleHandOut (.ref e) (.ref r) >>= fun _=>letGo [o] [.ref r] >>= fun _=>ret (.ref r)) Q E s:=by
    refine wpAny_bind (wpAny_rule ?_);refine wpAny_bind (wpAny_field he rfl (x:=old) rfl ?_);refine wpAny_bind (wpAny_setField_rec he (by simp) fun h5 he5 hs5=>?_);refine wpAny_bind ?_;unfold Builtin.SmallTypes.ownedTupleHandOut;refine wpAny_bind (wpAny_setField_rec he5 (by simp) fun h6 he6 hs6=>?_);refine wpAny_setField_rec he6 (by simp) fun h7 he7 hs7=>?_;refine wpAny_bind (wpAny_letGo (wpAny_pure (hQ h7 ⟨rawInt r,.bool false,x,he7,.inr ⟨_,rfl⟩⟩ ?_)));exact⟨hs7.1.trans (hs6.1.trans hs5.1),fun c hc=>(hs7.2 c hc).trans ((hs6.2 c hc).trans (hs5.2 c hc))⟩
  refine wpAny_bind ?_;unfold Builtin.SmallTypes.ownedTupleIsFree;refine wpAny_bind (wpAny_field he rfl (x:=f0) rfl ?_)
  rcases hf with rfl | ⟨a,rfl⟩
  ·exact wpAny_pure out
  · show wpAny (model prog w) A (loadIfAlive a.toNat >>= _) _ _ s;refine wpAny_bind (qbT ?_);cases hl:s.heap.get? a.toNat with
    | none=>exact wpAny_pure out
    | some ob=>
      show wpAny (model prog w) A (field (.ref e) 1 >>= _) _ _ s;refine wpAny_bind (wpAny_field he rfl (x:=f1) rfl ?_)
      by_cases hb:(f1 != .bool true)=true
      ·rw[if_pos hb];refine wpAny_bind (wpAny_setField_rec he (by simp) fun h5 he5 hs5=>?_);exact wpAny_pure (wpAny_pure (hQ h5 ⟨rawInt a,.bool true,old,he5,.inr ⟨_,rfl⟩⟩ hs5))
      ·rw[if_neg hb];exact wpAny_pure (wpAny_pure (hQ s.heap ⟨rawInt a,f1,old,he,.inr ⟨_,rfl⟩⟩ ⟨rfl,fun _ _=>rfl⟩))
theorem MN {b:Bool} {e it l:Addr} {i:Nat} {items:Array Value} {x:Value} {Q:Option Value→Shared→Prop}
    (he:oE s.heap e it i) (st:um b it l items i s.heap) (hx:items[i]? = some x)
    (hQ:∀h',oE h' e it ((i:Int)+1)→um b it l items (i+1) h'→h'.get? s.heap.objs.size=some {cls:=.type "tuple",data:=.seq #[.int i s.toks,x]}→
      (∀c o,c≠e→c≠it→s.heap.get? c=some o→h'.get? c=some o)→Q (some (.ref s.heap.objs.size)) {s with heap:=h',toks:=s.toks+1}) :
    wpAny (model prog w) A (pyNext (.ref e)) Q E s:=by
  obtain⟨f0,f1,old,he,hf⟩:=he;obtain⟨oi,Ti,hoi,hci,hTi⟩:=qbU st;obtain⟨ol,Tl,hol,hcl,hTl⟩:=qe2 st;have hne:it≠e:=eO hoi he hci rfl hTi;have hnl:l≠e:=eO hol he hcl rfl hTl;have hT:s.TypeIs (.ref e) "enumerate" :=⟨_,he,rfl⟩;unfold pyNext;refine wpAny_bind (wpAny_attempt (wpAny_callSpecial?_slot (name:=Str.ofString "__next__") hT F.slot_enumerate_next (wpAny_call_entry F.slot_enumerate_next hT F.entry_enumerate_next ?_ (F.args_enumerate_next_1 _))));obtain⟨hp,g,d,tk,os⟩:=s;show wpAny (model prog w) _ (field (.ref e) 2 >>= _) _ _ _;refine wpAny_bind (wpAny_field he rfl (x:=.ref it) rfl ?_);refine wpAny_bind (qbV st hx fun h1 st1 hs1=>?_);replace hs1:Heap.SameBut it hp h1:=hs1;have Sw:=(hs1.2 e hne.symm).trans he;show wpAny (model prog w) _ (field (.ref e) 3 >>= _) _ _ ⟨h1,g,d,tk,os⟩;refine wpAny_bind (wpAny_field Sw rfl (x:=rawInt i) rfl ?_);show wpAny (model prog w) _ (field (.ref e) 4 >>= _) _ _ ⟨h1,g,d,tk,os⟩;refine wpAny_bind (wpAny_field Sw rfl (x:=.none) rfl ?_);show wpAny (model prog w) _ (mkInt i >>= _) _ _ ⟨h1,g,d,tk,os⟩;refine wpAny_bind (wpAny_mkInt ?_);show wpAny (model prog w) _ (setField (.ref e) 3 (rawInt ((i:Int)+1)) >>= _) _ _ ⟨h1,g,d,tk+1,os⟩;refine wpAny_bind (wpAny_setField_rec Sw (by simp) fun h2 he2 hs2=>?_);replace hs2:Heap.SameBut e h1 h2:=hs2;show wpAny (model prog w) _ (setField (.ref e) 4 .none >>= _) _ _ ⟨h2,g,d,tk+1,os⟩;refine wpAny_bind (wpAny_setField_rec he2 (by simp) fun h3 he3 hs3=>?_);replace hs3:Heap.SameBut e h2 h3:=hs3;show wpAny (model prog w) _ (newTuple [.int i tk,x] >>= _) _ _ ⟨h3,g,d,tk+1,os⟩;refine wpAny_bind (wpAny_newTuple ?_);have hsz:h3.objs.size=hp.objs.size:=by rw[hs3.1,hs2.1,hs1.1]
  have hel:e<hp.objs.size:=Heap.lt_size he;have he4:(h3.push {cls:=.type "tuple",data:=.seq #[.int i tk,x]}).get? e=some {cls:=.type "enumerate",dict:=none,data:=.fields #[f0,f1,.ref it,rawInt ((i:Int)+1),.none,old],slots:=#[]}:=Heap.get?_push_of_some _ he3;have ht4:(h3.push {cls:=.type "tuple",data:=.seq #[.int i tk,x]}).get? hp.objs.size=some {cls:=.type "tuple",data:=.seq #[.int i tk,x]}:=by rw[← hsz];exact Heap.get?_push_size _ rfl
  have hk4:∀c o,c≠e→c≠it→hp.get? c=some o→(h3.push {cls:=.type "tuple",data:=.seq #[.int i tk,x]}).get? c=some o:=fun c o h1 h2 h3=>Heap.get?_push_of_some _ (hs3.extBut c o h1 (hs2.extBut c o h1 (hs1.extBut c o h2 h3)));have st4:um b it l items (i+1) (h3.push {cls:=.type "tuple",data:=.seq #[.int i tk,x]}):=HN st1 (fun o z=>Heap.get?_push_of_some _ (hs3.extBut _ _ hne (hs2.extBut _ _ hne z))) (fun o z=>Heap.get?_push_of_some _ (hs3.extBut _ _ hnl (hs2.extBut _ _ hnl z)));refine qd0 (s:=⟨h3.push {cls:=.type "tuple",data:=.seq #[.int i tk,x]},g,d,tk+1,os⟩) he4 hf fun h5 hE5 hs5=>⟨_,rfl,wpAny_pure ?_⟩;rw[show(Shared.mk h3 g d (tk+1) os).heap.objs.size=hp.objs.size from hsz];refine hQ h5 hE5 (HN st4 (fun o z=>(hs5.2 _ hne).trans z) (fun o z=>(hs5.2 _ hnl).trans z)) ((hs5.2 _ (Nat.ne_of_gt hel)).trans ht4) fun c o h1 h2 h3=>(hs5.2 c h1).trans (hk4 c o h1 h2 h3)
end
end L2
namespace PySem
open Sem (wp)
theorem DW:typeLookup (.type "enumerate") "__getattr__" = pure none:=by rw[typeLookup_type,builtinLookup_eq_fast];kernel_rfl
theorem HS:typeLookup (.type "enumerate") "keys" = pure none:=by rw[typeLookup_type,builtinLookup_eq_fast];kernel_rfl
theorem wZ:entryFor table "enumerate.__getattribute__" = some Builtin.«object.__getattribute__»:=
  entryFor_alias (id':= "object.__getattribute__") (by kernel_rfl) (by decide+kernel) (by decide+kernel) (by kernel_rfl)
theorem Sx (a:Addr) (xs:Array Value) (sl:Array (Option Value)) (name:Str) (u:Tok) (hmiss:typeLookup (.type "enumerate") name=pure none) (hname:(["__module__", "__name__", "__qualname__", "__doc__", "__annotations__"]:List Str).contains name=false) (hsz:name.length+100≤sizeLine:=by size_fits) :
    Meets (Builtin.«object.__getattribute__» ⟨[.ref a,.str name u],[]⟩) (fun A R s=>s.heap.get? a=some {cls:=.type "enumerate",dict:=none,data:=.fields xs,slots:=sl}∧raisesAttr (.ref a) name A R s):=
  Meets.of_wp fun prog w A R s hs=>by
    obtain⟨hp,g,d,tk,os⟩:=s;obtain⟨hx,hs⟩:=hs;have hT:(⟨hp,g,d,tk,os⟩:Shared).TypeIs (.ref a) "enumerate" :=⟨_,hx,rfl⟩;unfold Builtin.«object.__getattribute__»
    repeat (any_goals (first | assumption | wp_step))
    simp only[hname,Bool.false_eq_true,if_false]
    repeat (any_goals (first | assumption | wp_step))
    exact wpAny_raiseAttrError hs.1 hs.2 (attrMsg_fits (by decide+kernel) hsz)
theorem Sy {prog:Program} {w:World} {A:Around} {E:Value→Shared→Prop} {s:Shared} {a:Addr} {xs:Array Value} {Q:Option Value→Shared→Prop}
    (hx:s.heap.get? a=some {cls:=.type "enumerate",dict:=none,data:=.fields xs,slots:=#[]}) (hA:A.handled=none)
    (h:∀h' tk,(∀b o,s.heap.get? b=some o→h'.get? b=some o)→Q none {s with heap:=h',toks:=tk}) :
    wpAny (model prog w) A (getAttr? (.ref a) "keys") Q E s:=by
  obtain⟨hp,g,d,tk,os⟩:=s;have hT:∀tk',(⟨hp,g,d,tk',os⟩:Shared).TypeIs (.ref a) "enumerate" :=fun _=>⟨_,hx,rfl⟩;have f1:=sub_AttributeError;have f3:=F.slot_enumerate_getattribute.lookup;have f4:=F.slot_enumerate_getattribute.bind (.ref a);have f5:=DW;have hname:(["__module__", "__name__", "__qualname__", "__doc__", "__annotations__"]:List Str).contains "keys" = false:=by decide
  unfold getAttr? getAttrBy? getAttrBy
  repeat (any_goals (first | assumption | exact hT _ | ((with_reducible show wpAny _ _ (call (Value.builtin "enumerate.__getattribute__") _ _) _ _ _);refine call_meets F.slot_enumerate_getattribute (hT _) wZ (F.args_enumerate_getattribute_2 _ _) (Sx a xs #[] "keys" _ HS hname) ⟨hx,hA,fun h' tk' e hx'=>?_⟩) | wp_step))
  obtain⟨t',u',he⟩:=hx'.there;show wpAny _ _ (getattributeRaised _ _ _ _ _ _ _) _ _ _;unfold getattributeRaised
  repeat (any_goals (first | assumption | wp_step))
  exact h _ _ hx'.of.keeps
end PySem
namespace PySem
open Sem (wp)
open AutoSeq1 (wpAny_loadPart')
theorem HW (l:Addr) (items:Array Value) (n:Nat) (dct:Option Addr) (sl:Array (Option Value)) :
    Meets (Builtin.«enumerate.__new__» ⟨[.type "enumerate",.ref l],[]⟩) (fun _ R s=>s.heap.get? l=some {cls:=.type "tuple",dict:=dct,data:=.seq items n,slots:=sl}∧
      R (.ok (.ret (.ref (s.heap.push {cls:=.type "tuple_iterator",data:=.fields #[.ref l,.int 0 0]}).objs.size)))
        {s with heap:=(s.heap.push {cls:=.type "tuple_iterator",data:=.fields #[.ref l,.int 0 0]}).push {cls:=.type "enumerate",data:=.fields #[.none,.bool false,.ref s.heap.objs.size,rawInt 0,.none,.none]}}):=
  .of_wp fun prog w A R s h=>by
    obtain⟨hp,g,d,tk,os⟩:=s;obtain⟨hl,h⟩:=h;have hsub:=sub_enumerate;have hL:Heap.IsTuple (Shared.heap ⟨hp,g,d,tk,os⟩) l items:=⟨_,hl,rfl,n,rfl⟩
    wp_walk using wpAny_loadPart' hl
    refine wpAny_stack_any fun st=>wpAny_pure ?_;split
    · rename_i c _ _ _ _ _;cases (c == Value.type "enumerate")
      · wp_walk using wpAny_loadPart' hl,wpAny_pyIter_tuple hL
        exact⟨_,rfl,h⟩
      · wp_walk using wpAny_loadPart' hl,wpAny_pyIter_tuple hL
        exact⟨_,rfl,h⟩
    · wp_walk using wpAny_loadPart' hl,wpAny_pyIter_tuple hL
      exact⟨_,rfl,h⟩
section
variable {prog:Program} {w:World} {A:Around} {E:Value→Shared→Prop} {s:Shared}
theorem yI {b:Bool} {l:Addr} {items:Array Value} {Q:Value→Shared→Prop} (hL:match b with | true=>s.heap.IsList l items | false=>s.heap.IsTuple l items)
    (h:∀h',L2.oE h' (s.heap.objs.size+1) s.heap.objs.size 0→L2.um b s.heap.objs.size l items 0 h'→h'.objs.size=s.heap.objs.size+2→
      (∀b o,s.heap.get? b=some o→h'.get? b=some o)→Q (.ref (s.heap.objs.size+1)) {s with heap:=h'}) :
    wpAny (model prog w) A (call (.type "enumerate") [.ref l]) Q E s:=by
  cases b with
  | true=>
    exact call_enumerate_list hL fun h' b1 b2 b3 kk=>h h' ⟨_,_,_,b1,.inl rfl⟩ ⟨b2,hL.at fun o z=>kk _ _ z⟩ b3 kk
  | false=>
    obtain⟨⟨c,dct,dt,sl⟩,hl,hc,n,hd⟩:=id hL;replace hc:c = .type "tuple" :=hc;replace hd:dt = .seq items n:=hd;subst hc hd;refine callType_new F.called_enumerate (by decide) (F.typeCall_enumerate_1 _) (F.newCall_enumerate_1 _) (fun obj=>F.args_object_init_2 obj _) F.entry_enumerate_new
      (HW l items n dct sl) ⟨hl,?_⟩
    have hz:(s.heap.push {cls:=.type "tuple_iterator",data:=.fields #[.ref l,.int 0 0]}).objs.size=s.heap.objs.size+1:=Heap.size_push ..;show _∧_;rw[hz];have he:L2.oE ((s.heap.push {cls:=.type "tuple_iterator",data:=.fields #[.ref l,.int 0 0]}).push
        {cls:=.type "enumerate",data:=.fields #[.none,.bool false,.ref s.heap.objs.size,rawInt 0,.none,.none]}) (s.heap.objs.size+1) s.heap.objs.size 0:=by
      have:=Heap.get?_push_size (s.heap.push {cls:=.type "tuple_iterator",data:=.fields #[.ref l,.int 0 0]})
        (o:={cls:=.type "enumerate",data:=.fields #[.none,.bool false,.ref s.heap.objs.size,rawInt 0,.none,.none]}) rfl
      rw[hz] at this;exact⟨_,_,_,this,.inl rfl⟩
    obtain⟨_,_,_,he',_⟩:=id he;have kk:∀b o,s.heap.get? b=some o→((s.heap.push {cls:=.type "tuple_iterator",data:=.fields #[.ref l,.int 0 0]}).push
        {cls:=.type "enumerate",data:=.fields #[.none,.bool false,.ref s.heap.objs.size,rawInt 0,.none,.none]}).get? b=some o:=fun b o x=>Heap.get?_push_of_some _ (Heap.get?_push_of_some _ x)
    refine⟨⟨_,he',rfl⟩,h _ he ⟨⟨_,Heap.get?_push_of_some _ (Heap.get?_push_size _ rfl),rfl,rfl⟩,⟨_,kk _ _ hl,rfl,n,rfl⟩⟩ (by rw[Heap.size_push,hz]) kk⟩
end
end PySem
namespace L2
open PySem PySem.Spec PyProof.Rows
section
variable {prog:Program} {w:World} {A:Around} {E:Value→Shared→Prop} {s:Shared}
theorem MP {b:Bool} {e it l:Addr} {i:Nat} {items:Array Value} {Q:Option Value→Shared→Prop} (hh:A.handled=none)
    (he:oE s.heap e it i) (st:um b it l items i s.heap) (hx:items[i]? = none)
    (hQ:∀h',Heap.ExtBut it s.heap h'→Q none {s with heap:=h'}):wpAny (model prog w) A (pyNext (.ref e)) Q E s:=by
  obtain⟨f0,f1,old,he,hf⟩:=he;have hT:s.TypeIs (.ref e) "enumerate" :=⟨_,he,rfl⟩;unfold pyNext;refine wpAny_bind (wpAny_attempt (wpAny_callSpecial?_slot (name:=Str.ofString "__next__") hT F.slot_enumerate_next
    (wpAny_call_entry F.slot_enumerate_next hT F.entry_enumerate_next ?_ (F.args_enumerate_next_1 _))))
  show wpAny _ _ (field (.ref e) 2 >>= _) _ _ _;refine wpAny_bind (wpAny_field he rfl (x:=.ref it) rfl ?_);refine wpAny_bind (qbW hh st hx fun h' x he' hx'=>?_);obtain⟨o,ho,hc⟩:=hx';refine wpAny_bind (wpAny_isInstance (T:= "StopIteration") (b:=true) ⟨o,ho,hc⟩ isSubtype_stop ?_);exact wpAny_pure (hQ _ he')
end
theorem HX:entryFor table "dict.update.loop" = some Builtin.«dict.update.loop»:=entryFor_of_fast (by kernel_rfl)
theorem vV:plainId "dict.update.loop" = true:=by decide+kernel
def nums {α:Type}:Nat→List α→List (Key×α)
  | _,[]=>[]
  | n,x::xs=>(Sum.inl (n:Int),x)::nums (n+1) xs
theorem M4 {α:Type}:∀(n:Nat) (xs:List α),(nums n xs).length=xs.length
  | _,[]=>rfl
  | n,x::xs=>by rw[nums,List.length_cons,List.length_cons,M4]
theorem Vi {α:Type}:∀(n:Nat) (xs:List α) (y:α),nums n (xs++[y])=nums n xs++[(Sum.inl ((n+xs.length:Nat):Int),y)]
  | n,[],y=>rfl
  | n,x::xs,y=>by
    rw[List.cons_append,nums,Vi (n+1) xs y,nums,List.cons_append,List.length_cons,Nat.add_right_comm,Nat.add_assoc]
theorem Vj {α:Type}:∀(n:Nat) (xs:List α) (m:Nat),(nums n xs).any (fun kv=>decide (kv.1=(Sum.inl (m:Int):Key)))=true→n≤m∧m<n+xs.length
  | n,[],m,h=>by simp[nums] at h
  | n,x::xs,m,h=>by
    rw[nums,List.any_cons,Bool.or_eq_true] at h
    rcases h with h | h
    · have h1:=of_decide_eq_true h;injection h1 with h1;have h2:n=m:=by omega
      subst h2;simp
    ·have:=Vj (n+1) xs m h;rw[List.length_cons];omega
theorem qd1:∀{ys:List V} {its:List Value} (n:Nat),Vals ys its→KV (nums n ys) (nums n its):=by
  intro ys its n r
  induction r generalizing n with
  | nil=>exact .nil
  | cons h t ih=>exact .cons ⟨rfl,h⟩ (ih (n+1))
section
variable {P:Program} {w:World} {A:Around} {R:Result→Shared→Prop} {b:Bool} {e it l D:Addr} {its:List Value}
theorem qd2 (hh:A.handled=none) (h1:D≠e) (h2:D≠it) (h3:D≠l) (hs:its.length≤sizeLine) :
    ∀(k i:Nat) (s:Shared),its.length - i=k→i≤its.length→oE s.heap e it i→um b it l its.toArray i s.heap→s.heap.DictOf (cD P w) D (nums 0 (its.take i))→
      (∀h' tk,(∀c o,c≠D→c≠e→c≠it→s.heap.get? c=some o→h'.get? c=some o)→h'.DictOf (cD P w) D (nums 0 its)→R (.ok (.ret .none)) {s with heap:=h',toks:=tk})→
      codeAny (model P w) A (.builtin "dict.update.loop" ⟨[.ref D,.ref e,rawInt i,.none],[]⟩) R s:=by
  intro k
  induction k with
  | zero=>
    intro i s hk hi hE hst hD hR;obtain rfl:i=its.length:=by omega
    refine codeAny_builtin HX ?_;rw[Around.under_plainId vV _];show wpAny _ A.in1 (pyNext (.ref e) >>= _) _ _ s;refine wpAny_bind (MP (A:=A.in1) hh hE hst (by simp) fun h' hm=>?_);refine wpAny_bind (wpAny_pure ?_);refine wpAny_pure (hR h' s.toks (fun c o c1 c2 c3 z=>hm c o c3 z) ?_);rw[List.take_length] at hD;exact hD.extBut hm h2
  | succ k ih=>
    intro i s hk hi hE hst hD hR;have hlt:i<its.length:=by omega
    refine codeAny_builtin HX ?_;rw[Around.under_plainId vV _];show wpAny _ A.in1 (pyNext (.ref e) >>= _) _ _ s;refine wpAny_bind (MN hE hst (x:=its[i]) (by simp[hlt]) fun h' hE' hst' ht hm=>?_);have hT:(Shared.mk h' s.gens s.drawn (s.toks+1) s.os).TypeIs (.ref s.heap.objs.size) "tuple" :=⟨_,ht,rfl⟩;show wpAny _ A.in1 (holding _ _ >>= _) _ _ _;refine wpAny_bind (wpAny_holding ?_);refine wpAny_bind (wpAny_tryCatch ?_);unfold Builtin.Dict.pairItems;refine wpAny_bind (wpAny_typeOf hT ?_);rw[if_pos (by decide)];refine wpAny_bind (wpAny_seqItems ht rfl ?_);refine wpAny_pure ?_;show wpAny _ A.in1 (holding _ (dictSet D (.int i s.toks) its[i])) _ _ _;refine wpAny_holding ?_;have hD':h'.DictOf (cD P w) D (nums 0 (its.take i)):=by
      obtain⟨o,es,ep,ho,r⟩:=hD;exact⟨o,es,ep,hm D o h1 h2 ho,r⟩
    refine wpAny_dictSet_pairs (knd:=cD P w) (k:=Sum.inl (i:Int)) (s:=Shared.mk h' s.gens s.drawn (s.toks+1) s.os) (Ku P w i s.toks) hD' (fun h2' hD2 hsb=>?_) (by rw[M4,List.length_take];omega);have ei:(i:Int)+1=((i+1:Nat):Int):=by omega
    have est:stored (nums 0 (its.take i)) (Sum.inl (i:Int)) its[i]=nums 0 (its.take (i+1)):=by
      unfold stored;rw[if_neg (fun z=>?_)]
      ·rw[List.take_succ_eq_append_getElem hlt,Vi,List.length_take,Nat.min_eq_left (by omega),Nat.zero_add]
      ·have:=Vj _ _ _ z;rw[List.length_take] at this;omega
    rw[est] at hD2;rw[ei] at hE';refine wpAny_pure ⟨plainId_quiet vV _,?_⟩;show codeAny _ A (.builtin "dict.update.loop" ⟨[.ref D,.ref e,rawInt ((i:Int)+1),.none],[]⟩) _ _;rw[ei];refine ih (i+1) _ (by omega) hlt ?_ (HN hst' (fun o z=>(hsb.2 _ h2.symm).trans z) (fun o z=>(hsb.2 _ h3.symm).trans z)) hD2 fun h3' tk hm3 Xi=>?_
    ·obtain⟨f0,f1,old,q,hf⟩:=hE';exact⟨f0,f1,old,(hsb.2 _ h1.symm).trans q,hf⟩
    ·exact hR h3' tk (fun c o c1 c2 c3 z=>hm3 c o c1 c2 c3 ((hsb.2 c c1).trans (hm c o c2 c3 z))) Xi
end
section
variable {P:Program} {w:World} {A:Around} {E:Value→Shared→Prop} {s:Shared} {b:Bool} {e it l:Addr} {its:List Value}
theorem SJ {Q:Value→Shared→Prop} (hT:s.TypeIs (.ref e) "enumerate") (h:Q (.ref e) s):wpAny (model P w) A (pyIter (.ref e)) Q E s:=by
  refine wpAny_pyIter_slot hT F.slot_enumerate_iter (wpAny_call_entry F.slot_enumerate_iter hT F.entry_enumerate_iter ?_ (F.args_enumerate_iter_1 _));show wpAny _ _ (ret (.ref e)) _ _ s;exact wpAny_pure ⟨_,rfl, "enumerate",_,hT,F.slot_enumerate_next.lookup,h⟩
theorem qd3 {Q:Value→Shared→Prop} (hh:A.handled=none) (hE:oE s.heap e it 0) (hst:um b it l its.toArray 0 s.heap) (hs:its.length≤sizeLine)
    (h:∀h' tk,(∀c o,c≠e→c≠it→s.heap.get? c=some o→h'.get? c=some o)→h'.DictOf (cD P w) s.heap.objs.size (nums 0 its)→Q (.ref s.heap.objs.size) {s with heap:=h',toks:=tk}) :
    wpAny (model P w) A (call (.type "dict") [.ref e]) Q E s:=by
  obtain⟨f0,f1,old,he,hf⟩:=hE;obtain⟨oi,Ti,hoi,hci,hTi⟩:=qbU hst;obtain⟨ol,Tl,hol,hcl,hTl⟩:=qe2 hst;refine callType_codes (Q₁:=fun obj s₁=>obj = .ref s.heap.objs.size∧s₁={s with heap:=s.heap.push {cls:=.type "dict",data:=.dict #[]}}) F.kt_called_dict (F.kt_typeCall_dict_1 _) F.entry_dict_init (kt_code_dict_new _ ⟨rfl,rfl⟩) ?_;rintro obj s₁ ⟨rfl,rfl⟩;have hnew:(s.heap.push {cls:=.type "dict",data:=.dict #[]}).DictOf (cD P w) s.heap.objs.size []:=Heap.DictOf.new s.heap;have kp:∀c o,s.heap.get? c=some o→(s.heap.push {cls:=.type "dict",data:=.dict #[]}).get? c=some o:=fun c o z=>Heap.get?_push_of_some _ z;have ne:∀{c o},s.heap.get? c=some o→s.heap.objs.size≠c:=fun z=>Nat.ne_of_gt (Heap.lt_size z);have hT:(Shared.mk (s.heap.push {cls:=.type "dict",data:=.dict #[]}) s.gens s.drawn s.toks s.os).TypeIs (.ref e) "enumerate" :=⟨_,kp _ _ he,rfl⟩;refine⟨hnew.typeIs,F.args_dict_init_2 _ _,?_⟩;unfold Builtin.«dict.__init__»;refine wpAny_bind ?_;unfold Builtin.Dict.selfAndRest;refine wpAny_bind (wpAny_notOrdered_dict hnew.typeIs ?_);show wpAny _ _ (pure (s.heap.objs.size,[Value.ref e])) _ _ _;refine wpAny_pure ?_;show wpAny _ _ (Builtin.Dict.updateFrom "dict.__init__" s.heap.objs.size (.ref e) [] .none) _ _ _;unfold Builtin.Dict.updateFrom;refine wpAny_bind (wpAny_typeOf hT ?_);rw[if_pos (by decide)];show wpAny (model P w) A.in1.in1 (getAttr? (.ref e) "keys" >>= _) _ _ _;refine wpAny_bind (Sy (A:=A.in1.in1) (kp _ _ he) hh fun h1 tk1 k1=>?_);have Sw:=k1 _ _ (kp _ _ he);have hT1:(Shared.mk h1 s.gens s.drawn tk1 s.os).TypeIs (.ref e) "enumerate" :=⟨_,Sw,rfl⟩;simp only[Option.isNone_none,if_true];refine wpAny_bind (wpAny_rule ?_);refine wpAny_bind (SJ (s:=Shared.mk h1 s.gens s.drawn tk1 s.os) hT1 ?_);refine wpAny_pure ⟨plainId_quiet vV _,?_⟩;have hD1:h1.DictOf (cD P w) s.heap.objs.size []:=by
    obtain⟨o,es,ep,ho,r⟩:=hnew;exact⟨o,es,ep,k1 _ o ho,r⟩
  refine qd2 (A:=A.in1) (b:=b) (l:=l) (it:=it) hh (ne he) (ne hoi) (ne hol) hs its.length 0 _ (by omega) (Nat.zero_le _) ⟨f0,f1,old,Sw,hf⟩ (HN hst (fun o z=>k1 _ _ (kp _ _ z)) (fun o z=>k1 _ _ (kp _ _ z))) (by simpa [nums] using hD1) fun h' tk hm hD=>⟨rfl,h h' tk (fun c o c1 c2 z=>hm c o (ne z).symm c1 c2 (k1 _ _ (kp _ _ z))) hD⟩
end
section
variable {X:Cx} {K:W.Frag}
def tDE (K:W.Frag) (t:TA):TE:=fun σ H Q=>t σ H fun vs H1=>∃a xs,vs=[.ref a]∧(cj K H1 a xs∨lR K H1 a xs)∧∀p,H1 p=none→Q (.ref p) (upd H1 p (.dK (nums 0 xs)))
@[simp ↓] theorem qrp (K:W.Frag) (t:TA) σ H Q:tDE K t σ H Q=(t σ H fun vs H1=>∃a xs,vs=[.ref a]∧(cj K H1 a xs∨lR K H1 a xs)∧∀p,H1 p=none→Q (.ref p) (upd H1 p (.dK (nums 0 xs)))):=rfl
theorem Vk (hK:X.K=K) (hc:X.calm=true) {a:Expr} {ta:TA} {p p2 pos pos2:Pos} (hg1:Gl X "dict") (hm1:X.mg "dict" = none) (hg2:Gl X "enumerate") (hm2:X.mg "enumerate" = none) (ha:PA X [a] ta)
    (hs:starEach [a] X.env=[(false,eval a X.env)]:=by rfl)
    (hs1:starEach [.Call (.Name "enumerate" p2) [a] [] pos2] X.env=[(false,eval (.Call (.Name "enumerate" p2) [a] [] pos2) X.env)]:=by rfl) :
    PE X (.Call (.Name "dict" p) [.Call (.Name "enumerate" p2) [a] [] pos2] [] pos) (tDE K ta):=by
  subst hK;intro p_ s σ H Q I h;refine wpAny_Call_Name_kw (uP I hg1 hm1 W7 ?_ (by decide) (by decide));refine PyProof.Rows.callWith_type1 ?_ (by rw[hs1];rfl) (by rfl);rw[hs1];show wpAny _ _ (spliced ((false,eval (.Call (.Name "enumerate" p2) [a] [] pos2) X.env)::[])) _ _ s;refine Calls.spliced_cons ?_;refine wpAny_Call_Name_kw (uP I hg2 hm2 JF ?_ (by decide) (by decide));refine PyProof.Rows.callWith_type1 (d9 (ha pos2 p_ s σ H _ I h) fun us s1 zz=>?_) (by rw[hs];rfl) (by rfl);obtain⟨vs,H1,I1,r1,q1⟩:=zz;obtain⟨l1,xs,rfl,qa,q⟩:=q1;obtain⟨u,rfl,r⟩:=vals1 r1;obtain rfl:u=Value.ref l1:=r;have go:∃(b:Bool) (its:List Value),Vals xs its∧its.length≤sizeLine∧(match b with | true=>s1.heap.IsList l1 its.toArray | false=>s1.heap.IsTuple l1 its.toArray):=by
    rcases qa with qa | qa
    ·obtain⟨its,rv,pl,hz⟩:=I1.list qa;exact⟨true,its,rv,by rw[← rv.length];exact hz,pl.isList⟩
    ·obtain⟨its,rv,pl,hz⟩:=I1.tuple qa;exact⟨false,its,rv,by rw[← rv.length];exact hz,pl⟩
  obtain⟨b,its,rv,hz,hL⟩:=go;refine yI (b:=b) hL fun h' b1 b2 b3 kk=>?_;refine Calls.spliced_nil ?_;refine qd3 (s:={s1 with heap:=h'}) (b:=b) (I1.ok.hd hc) b1 b2 hz fun h2 tk km hD=>?_;have kk2:∀c o,s1.heap.get? c=some o→h2.get? c=some o:=fun c o z=>km c o (Nat.ne_of_lt (Nat.lt_succ_of_lt (Heap.lt_size z))) (Nat.ne_of_lt (Heap.lt_size z)) (kk c o z);have hle:s1.heap.objs.size≤h'.objs.size:=by rw[b3];omega
  have hf:H1 h'.objs.size=none:=I1.hok.fresh hle;refine⟨.ref h'.objs.size,_,I1.laid (o:=.dK (nums 0 xs)) (t':=tk) kk2 hle ?_,rfl,q _ hf⟩;refine(show d8 _ _ _ _ _ (.dK (nums 0 xs)) from⟨by rw[M4,rv.length];exact hz,?_,nums 0 its,qd1 0 rv,hD⟩);have h1:=I1.big;have h2:sysModules<h'.objs.size:=Nat.lt_of_lt_of_le h1 hle;exact beq_eq_false_iff_ne.mpr (Nat.ne_of_gt h2)
end
structure Nm3 (mg:Str→Option Value):Prop where
  sum:mg "sum" = none
theorem Vl:∀{ys:List Str} {us:List Value},Vals (ys.map V.str) us→StrsAre us ys
  | [],_,r=>by rw[List.map_nil] at r;cases r;exact .nil
  | y::ys,_,r=>by
    rw[List.map_cons] at r;cases r with
    | cons h t=>
      obtain⟨k,rfl⟩:=h;exact .cons y k (Vl t)
section
variable {X:Cx} {K:W.Frag}
def rJoin:V→List V→Hp→VK→Prop:=fun x xs H Q=>∃(sep:Str) (l:Addr) (ys:List Str),x = .str sep∧xs=[.ref l]∧H l=some (.lst (ys.map V.str))∧(ys.map (·.length)).sum+ys.length * sep.length≤16777216∧Q (.str (Txt.join sep ys)) H
theorem qd4:Wr X "str.join" rJoin:=by
  intro p_ s σ H x xs v us Q I rx rs q;obtain⟨sep,l,ys,rfl,rfl,hl,hz,q⟩:=q;obtain⟨u,rfl,ru⟩:=rs.one;obtain rfl:u=Value.ref l:=ru;obtain⟨t,rfl⟩:=rx;obtain⟨its,rv,pl,hz1⟩:=I.list (cj.of hl);exact join_list pl.isList (by simpa using Vl rv) hz fun t' k=>⟨.str _,H,I.tok _,⟨t',rfl⟩,q⟩
theorem qoG (hK:X.K=K):SlR X (qdD K):=by subst hK;exact qdE
@[simp ↓] theorem qnq (K:W.Frag) x lo hi H Q:qdD K x lo hi H Q=(∃a xs,x = .ref a∧cj K H a xs∧∀p,H p=none→Q (.ref p) (upd H p (.lst (K8 xs lo hi)))):=rfl
theorem QF:∀(xs:List Str) (a:Array Nat),(xs.foldl (fun acc p=>acc++(Str.ofString "").cps++p.cps) a).toList=a.toList++xs.flatMap (·.cps.toList)
  | [],a=>by simp
  | x::xs,a=>by
    rw[List.foldl_cons,QF xs];rw[show(Str.ofString "").cps = #[] from rfl,Array.append_empty];simp
theorem qap (ys:List Str):(Txt.join (Str.ofString "") ys).cps.toList=ys.flatMap (·.cps.toList):=by
  cases ys with
  | nil=>rfl
  | cons x xs=>
    show(List.foldl _ x.cps xs).toList=_;exact(QF xs x.cps).trans (by simp)
theorem DX:∀(ys:List Str),(∀y∈ys,∃n,n<26∧y=⟨#[97+n]⟩)→(ys.flatMap (·.cps.toList)).length=ys.length∧(ys.flatMap (·.cps.toList)).all Y0=true∧(ys.map (·.length)).sum=ys.length
  | [],_=>by simp
  | y::ys,h=>by
    obtain⟨n,hn,rfl⟩:=h y (List.mem_cons_self ..);obtain⟨h1,h2,h3⟩:=DX ys fun z hz=>h z (List.mem_cons_of_mem _ hz);refine⟨by simp only[List.flatMap_cons,List.length_append,List.length_cons,h1];simp;omega,by rw[List.flatMap_cons,List.all_append,h2];simp[qbH n hn],?_⟩;rw[List.map_cons,List.sum_cons,h3,List.length_cons];show 1+_=_;omega
theorem Bm.glue {c k:Nat} {x:Str} (h:Bm c k x) (hk:0<k) {ys:List Str} (hy:∀y∈ys,∃n,n<26∧y=⟨#[97+n]⟩):Bm c (k+ys.length) (x++Txt.join (Str.ofString "") ys):=by
  obtain⟨h1,h2,h3⟩:=h;obtain⟨y1,y2,_⟩:=DX ys hy;have e:=qap ys;have hs:x.cps.size=k:=h1;refine⟨?_,?_,?_⟩
  ·show(x.cps++(Txt.join (Str.ofString "") ys).cps).size=_;rw[Array.size_append,hs,← Array.length_toList,e,y1]
  ·show(x.cps++(Txt.join (Str.ofString "") ys).cps)[0]? = _;rw[Array.getElem?_append_left (by omega)];exact h2
  ·show(x.cps++(Txt.join (Str.ofString "") ys).cps).toList.all Y0=true;rw[Array.toList_append,List.all_append,h3,e,y2];rfl
end
def qg (ns:List Int):List PyData:=ns.map PyData.int
theorem Y9 {K:W.Frag} {H:Hp}:∀ns:List Int,CV K H (qg ns) (ns.map V.int)
  | []=>rfl
  | n::ns=>⟨_,_,rfl,rfl,Y9 ns⟩
theorem lay_ints:∀ns:List Int,PyData.canLayAll0 (qg ns)=true
  | []=>by simp[qg,PyData.canLayAll0]
  | x::xs=>by
    have:=lay_ints xs;simp[qg] at this;simp[qg,PyData.canLayAll0,PyData.canLay0,this]
theorem Vm:∀xs:List Int,PyData.depthAll (qg xs)≤1
  | []=>by simp[qg,PyData.depthAll]
  | x::xs=>by
    have:=Vm xs;simp[qg] at this;simp[qg,PyData.depthAll,PyData.depth,this]
theorem Vn:∀a b:List Int,PyData.eqvAll (qg a) (qg b)=decide (a=b)
  | [],[]=>rfl
  | [],y::b=>by simp[qg,PyData.eqvAll]
  | x::a,[]=>by simp[qg,PyData.eqvAll]
  | x::a,y::b=>by
    show(PyData.eqv (.int x) (.int y) && PyData.eqvAll (qg a) (qg b))=_;rw[Vn a b,Bool.eq_iff_iff];simp[PyData.eqv]
def qiX (n:Int) (e:Str×Str):Str:=if n=0 then e.1 else e.2
def qd5 (n:Int) (e:Str×Str):Str:=if n=0 then e.2 else e.1
def Xj:List Int→List (Str×Str)→Nat→List yG
  | n::ns,e::ps,k=>(k,qiX n e,qd5 n e)::Xj ns ps (k+1)
  | _,_,_=>[]
theorem qbX (fx:Nat→Option Int):∀(ps:List (Str×Str)) (ns:List Int) (k:Nat),(∀i,fx (k+i)=ns[i]?)→ns.length=ps.length→(∀n∈ns,0≤n∧n≤1)→iT fx ps k=Xj ns ps k
  | [],ns,k,_,hl,_=>by
    have:ns=[]:=List.length_eq_zero_iff.mp hl;subst this;rfl
  | e::ps,[],k,_,hl,_=>by simp at hl
  | e::ps,n::ns,k,hf,hl,h01=>by
    have h0:=hf 0;rw[Nat.add_zero] at h0;have hn:=h01 n List.mem_cons_self;have ih:=qbX fx ps ns (k+1) (fun i=>by rw[show k+1+i=k+(i+1) by omega,hf (i+1)];simp) (by simpa using hl) fun m hm=>h01 m (List.mem_cons_of_mem _ hm);rw[iT,Xj,ih];unfold Sh qiX qd5;rw[h0];have:n=0∨n=1:=by omega
    rcases this with rfl | rfl <;> simp
def FW:List Int→List (Str×Str)→List Str
  | n::ns,e::ps=>qd5 n e::FW ns ps
  | _,_=>[]
theorem Y_:∀(ns:List Int) (ps:List (Str×Str)) (k:Nat),(Xj ns ps k).map (·.2.2)=FW ns ps
  | [],_,_=>by simp[Xj,FW]
  | n::ns,[],_=>by simp[Xj,FW]
  | n::ns,e::ps,k=>by rw[Xj,FW,List.map_cons,Y_ ns ps]
section
variable {X:Cx} {K:W.Frag}
theorem boot_repr:bootBuiltins "repr" = some (.builtin "repr"):=by decide+kernel
end
def isInt (x:V) (R:Int→Prop):Prop:=match x with | .int i=>R i | _=>False
def isStr (x:V) (R:Str→Prop):Prop:=match x with | .str i=>R i | _=>False
def xg (x:V) (R:Bool→Prop):Prop:=match x with | .bl i=>R i | _=>False
def isRef (x:V) (R:Addr→Prop):Prop:=match x with | .ref i=>R i | _=>False
def qaq (x:V) (R:String→Prop):Prop:=match x with | .ty n=>R n | _=>False
def ar0 (xs:List V) (R:Prop):Prop:=match xs with | []=>R | _=>False
def ar1 (xs:List V) (R:V→Prop):Prop:=match xs with | [x]=>R x | _=>False
def ar2 (xs:List V) (R:V→V→Prop):Prop:=match xs with | [x,y]=>R x y | _=>False
def arH (xs:List V) (R:V→List V→Prop):Prop:=match xs with | x::r=>R x r | []=>False
def getSt:St→Nat→(V→Prop)→Prop
  | [],_,_=>False
  | o::_,0,R=>match o with | some v=>R v | none=>False
  | _::σ,n+1,R=>getSt σ n R
@[simp ↓] theorem qnr (i:Int) R:isInt (.int i) R=R i:=rfl
@[simp ↓] theorem qns (i:Str) R:isStr (.str i) R=R i:=rfl
@[simp ↓] theorem qoH (i:Bool) R:xg (.bl i) R=R i:=rfl
@[simp ↓] theorem qnt (i:Addr) R:isRef (.ref i) R=R i:=rfl
@[simp ↓] theorem qoI (i:String) R:qaq (.ty i) R=R i:=rfl
@[simp ↓] theorem qrq R:ar0 [] R=R:=rfl
@[simp ↓] theorem qrr x R:ar1 [x] R=R x:=rfl
@[simp ↓] theorem qrs x y R:ar2 [x,y] R=R x y:=rfl
@[simp ↓] theorem qrt x r R:arH (x::r) R=R x r:=rfl
@[simp ↓] theorem qnu v σ R:getSt (some v::σ) 0 R=R v:=rfl
@[simp ↓] theorem qnv o σ n R:getSt (o::σ) (n+1) R=getSt σ n R:=rfl
theorem isInt.out {x:V} {R} (h:isInt x R):∃i,x = .int i∧R i:=by cases x <;> first | exact⟨_,rfl,h⟩ | exact h.elim
theorem isStr.out {x:V} {R} (h:isStr x R):∃i,x = .str i∧R i:=by cases x <;> first | exact⟨_,rfl,h⟩ | exact h.elim
theorem xg.out {x:V} {R} (h:xg x R):∃i,x = .bl i∧R i:=by cases x <;> first | exact⟨_,rfl,h⟩ | exact h.elim
theorem isRef.out {x:V} {R} (h:isRef x R):∃i,x = .ref i∧R i:=by cases x <;> first | exact⟨_,rfl,h⟩ | exact h.elim
theorem qaq.out {x:V} {R} (h:qaq x R):∃i,x = .ty i∧R i:=by cases x <;> first | exact⟨_,rfl,h⟩ | exact h.elim
theorem ar0.out {xs:List V} {R} (h:ar0 xs R):xs=[]∧R:=by cases xs <;> first | exact⟨rfl,h⟩ | exact h.elim
theorem ar1.out {xs:List V} {R} (h:ar1 xs R):∃x,xs=[x]∧R x:=by
  match xs,h with
  | [x],h=>exact⟨x,rfl,h⟩
theorem ar2.out {xs:List V} {R} (h:ar2 xs R):∃x y,xs=[x,y]∧R x y:=by
  match xs,h with
  | [x,y],h=>exact⟨x,y,rfl,h⟩
theorem arH.out {xs:List V} {R} (h:arH xs R):∃x r,xs=x::r∧R x r:=by cases xs <;> first | exact⟨_,_,rfl,h⟩ | exact h.elim
theorem getSt.out:∀{σ:St} {i:Nat} {R},getSt σ i R→∃v,σ[i]? = some (some v)∧R v
  | [],_,_,h=>h.elim
  | some v::_,0,_,h=>⟨v,rfl,h⟩
  | none::_,0,_,h=>h.elim
  | _::σ,n+1,R,h=>by
    obtain⟨v,e,q⟩:=getSt.out (σ:=σ) (i:=n) h;exact⟨v,by simpa using e,q⟩
section
variable {X:Cx}
theorem PE.mono {e:Expr} {t t':TE} (o:PE X e t) (h:∀{σ H Q},t' σ H Q→t σ H Q):PE X e t':=fun p_ s σ H Q I q=>o p_ s σ H Q I (h q)
theorem PS.mono {e:Stmt} {t t':TS} (o:PS X e t) (h:∀{D σ H},t' D σ H→t D σ H):PS X e t':=fun p_ s σ H D I q=>o p_ s σ H D I (h q)
theorem vN.mono {e:List Expr} {t t':Uo} (o:vN X e t) (h:∀{v σ H Q},t' v σ H Q→t v σ H Q):vN X e t':=fun p_ s σ H v u Q I r q=>o p_ s σ H v u Q I r (h q)
theorem mR.mono {f:Value→Value→Sem Value} {r r':R2} (o:mR X f r) (h:∀{x y H Q},r' x y H Q→r x y H Q):mR X f r':=fun p_ s σ H x y v u Q I rx ry q=>o p_ s σ H x y v u Q I rx ry (h q)
theorem UnR.mono {f:Value→Sem Value} {r r':V→Hp→VK→Prop} (o:UnR X f r) (h:∀{x H Q},r' x H Q→r x H Q):UnR X f r':=fun p_ s σ H x v Q I rx q=>o p_ s σ H x v Q I rx (h q)
theorem dD.mono {f:Value} {r r':List V→Hp→VK→Prop} (o:dD X f r) (h:∀{x H Q},r' x H Q→r x H Q):dD X f r':=fun p_ s σ H x v Q I rx q=>o p_ s σ H x v Q I rx (h q)
theorem Wr.mono {f:String} {r r':V→List V→Hp→VK→Prop} (o:Wr X f r) (h:∀{x y H Q},r' x y H Q→r x y H Q):Wr X f r':=fun p_ s σ H x y v u Q I rx ry q=>o p_ s σ H x y v u Q I rx ry (h q)
theorem IxR.mono {r r':R2} (o:IxR X r) (h:∀{x y H Q},r' x y H Q→r x y H Q):IxR X r':=fun a b p_ s σ H x y v u Q I rx ry q z=>o a b p_ s σ H x y v u Q I rx ry (h q) z
theorem SlR.mono {r r':V→Option Int→Option Int→Hp→VK→Prop} (o:SlR X r) (h:∀{x lo hi H Q},r' x lo hi H Q→r x lo hi H Q):SlR X r':=fun p_ s σ H x v vl vu lo hi sl Q I rx z1 z2 z3 q=>o p_ s σ H x v vl vu lo hi sl Q I rx z1 z2 z3 (h q)
theorem PIp.mono {op:Operator} {r r':TIp} (o:PIp X op r) (h:∀{x y H Q},r' x y H Q→r x y H Q):PIp X op r':=fun p_ s σ H x y v u Q I rx ry q=>o p_ s σ H x y v u Q I rx ry (h q)
theorem ZS.mono {r r':ZR} (o:ZS X r) (h:∀{x y z H Q},r' x y z H Q→r x y z H Q):ZS X r':=fun p_ s σ H o' i v ov iv u Q I a b c q=>o p_ s σ H o' i v ov iv u Q I a b c (h q)
end
def fVar (i:Nat):TE:=fun σ H Q=>getSt σ i fun v=>Q v H
@[simp ↓] theorem qoJ (i:Nat) σ H Q:fVar i σ H Q=getSt σ i (fun v=>Q v H):=rfl
theorem qgn {i:Nat} {σ H Q} (h:fVar i σ H Q):qfz i σ H Q:=getSt.out h
def rW:List Str→List V→St
  | _::N,v::vs=>some v::rW N vs
  | _::N,[]=>none::rW N []
  | [],_=>[]
@[simp ↓] theorem qh8 n N v vs:rW (n::N) (v::vs)=some v::rW N vs:=rfl
@[simp ↓] theorem qh9 n N:rW (n::N) []=none::rW N []:=rfl
@[simp ↓] theorem qiY vs:rW [] vs=[]:=by cases vs <;> rfl
theorem z7:∀(N:List Str) (vs:List V),vs.length≤N.length→rW N vs=start N vs
  | [],[],_=>rfl
  | [],_::_,h=>by simp at h
  | n::N,[],_=>by
    rw[rW,z7 N [] (by simp)];simp[start,List.replicate_succ]
  | n::N,v::vs,h=>by
    rw[rW,z7 N vs (by simpa using h)];simp[start]
def fI0 (g:Int→Int→V):R2:=fun x y H Q=>isInt x fun i=>isInt y fun j=>Q (g i j) H
def fI (C:Int→Int→Prop) (g:Int→Int→V):R2:=fun x y H Q=>isInt x fun i=>isInt y fun j=>C i j∧Q (g i j) H
def fU (g:Int→V):V→Hp→VK→Prop:=fun x H Q=>isInt x fun i=>Q (g i) H
@[simp ↓] theorem qru g x y H Q:fI0 g x y H Q=(isInt x fun i=>isInt y fun j=>Q (g i j) H):=rfl
@[simp ↓] theorem qrQ C g x y H Q:fI C g x y H Q=(isInt x fun i=>isInt y fun j=>C i j∧Q (g i j) H):=rfl
@[simp ↓] theorem qrR g x H Q:fU g x H Q=(isInt x fun i=>Q (g i) H):=rfl
theorem Vo {g:Int→Int→V} {x y H Q} (h:fI0 g x y H Q):rI0 g x y H Q:=by
  obtain⟨i,rfl,h1⟩:=isInt.out h;obtain⟨j,rfl,h2⟩:=isInt.out h1;exact⟨i,j,rfl,rfl,h2⟩
theorem qd6 {C} {g:Int→Int→V} {x y H Q} (h:fI C g x y H Q):rI C g x y H Q:=by
  obtain⟨i,rfl,h1⟩:=isInt.out h;obtain⟨j,rfl,h2⟩:=isInt.out h1;exact⟨i,j,rfl,rfl,h2⟩
theorem qoK {g:Int→V} {x H Q} (h:fU g x H Q):rU g x H Q:=by
  obtain⟨i,rfl,h⟩:=isInt.out h;exact⟨i,rfl,h⟩
def fEq:R2:=fun x y H Q=>match x,y with
  | .int i,.int j=>Q (.bl (decide (i=j))) H
  | .str i,.str j=>Q (.bl (decide (i=j))) H
  | .bl i,.bl j=>Q (.bl (decide (i=j))) H
  | x,y=>K7 x y=true∧Q (.bl (decide (x=y))) H
def fNe:R2:=fun x y H Q=>match x,y with
  | .int i,.int j=>∃k,decide (i=j) = !k∧Q (.bl k) H
  | .str i,.str j=>∃k,decide (i=j) = !k∧Q (.bl k) H
  | .bl i,.bl j=>∃k,decide (i=j) = !k∧Q (.bl k) H
  | x,y=>K7 x y=true∧∃k,decide (x=y) = !k∧Q (.bl k) H
@[simp ↓] theorem qrv i j H Q:fEq (.int i) (.int j) H Q=Q (.bl (decide (i=j))) H:=rfl
@[simp ↓] theorem qrw i j H Q:fEq (.str i) (.str j) H Q=Q (.bl (decide (i=j))) H:=rfl
@[simp ↓] theorem qrx i j H Q:fEq (.bl i) (.bl j) H Q=Q (.bl (decide (i=j))) H:=rfl
@[simp ↓] theorem qry i j H Q:fNe (.int i) (.int j) H Q=∃k,decide (i=j) = !k∧Q (.bl k) H:=rfl
@[simp ↓] theorem qrz i j H Q:fNe (.str i) (.str j) H Q=∃k,decide (i=j) = !k∧Q (.bl k) H:=rfl
@[simp ↓] theorem qrA i j H Q:fNe (.bl i) (.bl j) H Q=∃k,decide (i=j) = !k∧Q (.bl k) H:=rfl
theorem JL {b:Bool} {R:Bool→Prop} (h:∃k,b = !k∧R k):R (!b):=by
  obtain⟨k,e,q⟩:=h;rw[e,Bool.not_not];exact q
theorem qiZ {x y H Q} (h:fEq x y H Q):rEq x y H Q:=by
  unfold fEq at h;split at h
  ·exact⟨rfl,by simpa using h⟩
  ·exact⟨rfl,by simpa using h⟩
  ·exact⟨rfl,by simpa using h⟩
  ·exact h
theorem qi0 {x y H Q} (h:fNe x y H Q):rNe x y H Q:=by
  unfold fNe at h;split at h
  ·exact⟨rfl,by simpa using JL (R:=fun k=>Q (.bl k) H) h⟩
  ·exact⟨rfl,by simpa using JL (R:=fun k=>Q (.bl k) H) h⟩
  ·exact⟨rfl,by simpa using JL (R:=fun k=>Q (.bl k) H) h⟩
  ·exact⟨h.1,JL (R:=fun k=>Q (.bl k) H) h.2⟩
def Za:R2:=fun x y H Q=>isStr x fun i=>isStr y fun j=>i.length+j.length≤sizeLine∧Q (.str (i++j)) H
@[simp ↓] theorem qnw x y H Q:Za x y H Q=(isStr x fun i=>isStr y fun j=>i.length+j.length≤sizeLine∧Q (.str (i++j)) H):=rfl
theorem qd7 {x y H Q} (h:Za x y H Q):qiC x y H Q:=by
  obtain⟨i,rfl,h1⟩:=isStr.out h;obtain⟨j,rfl,h2⟩:=isStr.out h1;exact⟨i,j,rfl,rfl,h2⟩
def qd8:R2:=fun x y H Q=>isRef x fun l=>isRef y fun b=>∃xs,H l=some (.lst xs)∧∃zs,H b=some (.lst zs)∧xs.length+zs.length≤sizeLine∧∀p,H p=none→Q (.ref p) (upd H p (.lst (xs++zs)))
@[simp ↓] theorem qoL x y H Q:qd8 x y H Q=(isRef x fun l=>isRef y fun b=>∃xs,H l=some (.lst xs)∧∃zs,H b=some (.lst zs)∧xs.length+zs.length≤sizeLine∧∀p,H p=none→Q (.ref p) (upd H p (.lst (xs++zs)))):=rfl
theorem qgo {x y H Q} (h:qd8 x y H Q):qiw x y H Q:=by
  obtain⟨i,rfl,h0⟩:=isRef.out h;obtain⟨j,rfl,xs,h1,zs,h2,h3⟩:=isRef.out h0;exact⟨i,j,xs,zs,rfl,rfl,h1,h2,h3⟩
def qgp:R2:=fun x y H Q=>isRef x fun l=>isInt y fun k=>∃xs,H l=some (.lst xs)∧-(2 ^ 63)≤k∧k<2 ^ 63∧xs.length * k.toNat≤sizeLine∧∀p,H p=none→Q (.ref p) (upd H p (.lst (List.replicate k.toNat xs).flatten))
def FZ (t:TE):TT:=fun σ H Q=>t σ H fun x H'=>xg x fun k=>Q k H'
@[simp ↓] theorem qnx (t:TE) σ H Q:FZ t σ H Q=(t σ H fun x H'=>xg x fun k=>Q k H'):=rfl
def qbY (ta:TE):TE:=fun σ H Q=>ta σ H fun x H1=>xg x fun c=>Q (.bl (!c)) H1
@[simp ↓] theorem qny (ta:TE) σ H Q:qbY ta σ H Q=(ta σ H fun x H1=>xg x fun c=>Q (.bl (!c)) H1):=rfl
def qbZ (ta tb:TE):TE:=fun σ H Q=>ta σ H fun x H1=>xg x fun c=>g8 c (tb σ H1 Q) (Q (.bl false) H1) ⟨0⟩
@[simp ↓] theorem qnz (ta tb:TE) σ H Q:qbZ ta tb σ H Q=(ta σ H fun x H1=>xg x fun c=>g8 c (tb σ H1 Q) (Q (.bl false) H1) ⟨0⟩):=rfl
def SM (r r':R2) (ta tb tc:TE):TE:=fun σ H Q=>ta σ H fun x H1=>tb σ H1 fun y H2=>r x y H2 fun z H3=>xg z fun k=>g8 k (tc σ H3 fun w' H4=>r' y w' H4 Q) (Q (.bl false) H3) ⟨0⟩
@[simp ↓] theorem qi1 (r r':R2) (ta tb tc:TE) σ H Q:SM r r' ta tb tc σ H Q=(ta σ H fun x H1=>tb σ H1 fun y H2=>r x y H2 fun z H3=>xg z fun k=>g8 k (tc σ H3 fun w' H4=>r' y w' H4 Q) (Q (.bl false) H3) ⟨0⟩):=rfl
section
variable {X:Cx} {K:W.Frag} {a b c:Expr} {ta tb tc:TE} {tA:TT} {pos:Pos}
theorem aL (i:Nat) {x:Str} {pos:Pos} (hN:X.N[i]? = some x:=by rfl) (hv:Vis X.env.scope x:=by first | exact Or.inl rfl | exact Or.inr (Or.inl rfl) | exact Or.inr (Or.inr rfl)) (hd:(x == ("__debug__" : Str))=false:=by decide)
    (hcd:(x == ("__classdict__" : Str))=false:=by decide):PE X (.Name x pos) (fVar i):=(qfA hN hv hd hcd).mono qgn
theorem oF:mR X (binaryOp .Add) (fI0 fun i j=>.int (i+j)):=qfO.mono Vo
theorem vW:mR X (binaryOp .Sub) (fI0 fun i j=>.int (i - j)):=qfP.mono Vo
theorem JM:mR X (compareOp .Lt) (fI0 fun i j=>.bl (decide (i<j))):=qir.mono Vo
theorem zA:mR X (compareOp .LtE) (fI0 fun i j=>.bl (decide (i≤j))):=qis.mono Vo
theorem JN:mR X (compareOp .Gt) (fI0 fun i j=>.bl (decide (j<i))):=qit.mono Vo
theorem jA:mR X (compareOp .Eq) fEq:=qip.mono qiZ
theorem ig:mR X (compareOp .NotEq) fNe:=qiq.mono qi0
theorem cu:mR X (binaryOp .Add) Za:=Wz.mono qd7
theorem oG:mR X (binaryOp .Add) qd8:=qf4.mono qgo
theorem Fi:UnR X (unaryOp .USub) (fU fun i=>.int (-i)):=qfT.mono qoK
theorem HY (x:V) (R:Bool→Prop):xg x R=(∃k,x = .bl k∧R k):=propext ⟨xg.out,fun⟨k,e,q⟩=>by subst e;exact q⟩
theorem qb0 (x:V) (R:Int→Prop):isInt x R=(∃k,x = .int k∧R k):=propext ⟨isInt.out,fun⟨k,e,q⟩=>by subst e;exact q⟩
theorem M5 (x:V) (R:Addr→Prop):isRef x R=(∃k,x = .ref k∧R k):=propext ⟨isRef.out,fun⟨k,e,q⟩=>by subst e;exact q⟩
theorem qb1 (x:V) (R:Str→Prop):isStr x R=(∃k,x = .str k∧R k):=propext ⟨isStr.out,fun⟨k,e,q⟩=>by subst e;exact q⟩
theorem qgq (x:List V) (R:V→V→Prop):ar2 x R=(∃k j,x=[k,j]∧R k j):=propext ⟨ar2.out,fun⟨k,j,e,q⟩=>by subst e;exact q⟩
theorem qgr (x:List V) (R:V→List V→Prop):arH x R=(∃k j,x=k::j∧R k j):=propext ⟨arH.out,fun⟨k,j,e,q⟩=>by subst e;exact q⟩
theorem Vp (t:TE):FZ t=YL t:=by
  funext σ H Q
  exact congrArg (t σ H) (funext fun x=>funext fun H'=>HY _ _)
theorem qe3 (t:TE):FZ t=tB t:=by
  funext σ H Q
  exact congrArg (t σ H) (funext fun x=>funext fun H'=>HY _ _)
theorem qb2 (t:TE):qbY t=qa5 t:=by
  funext σ H Q
  exact congrArg (t σ H) (funext fun x=>funext fun H'=>HY _ _)
theorem qb3 (t u:TE):qbZ t u=qa4 t u:=by
  funext σ H Q
  exact congrArg (t σ H) (funext fun x=>funext fun H'=>HY _ _)
theorem QG (r r':R2) (ta tb tc:TE):SM r r' ta tb tc=Rv r r' ta tb tc:=by
  funext σ H Q
  exact congrArg (ta σ H) (funext fun x=>funext fun H1=>congrArg (tb σ H1) (funext fun y=>funext fun H2=>congrArg (r x y H2) (funext fun z=>funext fun H3=>HY _ _)))
theorem bx {op:CmpOp} {r:R2} (ho:mR X (compareOp op) r) (ha:PE X a ta) (hb:PE X b tb) (hm:behindInMarks op b=false):PT X (.Compare a [op] [b] pos) (FZ (K6 r ta tb)):=Vp _▸qdx ho ha hb hm
theorem Zb {op:CmpOp} {t:TE} (h:PC X op a b t) (h1:behindInMarks op b=false:=by first | exact Uw _ (by decide) (by decide) | rfl):PT X (.Compare a [op] [b] pos) (FZ t):=qe3 _▸qfB h h1
theorem cB {e:Expr} {t:TE} (h:PE X e t) (he:∀whole,isTrue e X.env whole=(do let v ← whole;standAt e.pos;holding [v] (truthy v)):=by intro _;rfl):PT X e (FZ t):=qe3 _▸qfC h he
theorem JQ {op op':CmpOp} {r r':R2} (ho:mR X (compareOp op) r) (ho':mR X (compareOp op') r') (ha:PE X a ta) (hb:PE X b tb) (hc:PE X c tc)
    (hm:lastMarks [op,op'] [b,c]=false:=by with_unfolding_all rfl):PE X (.Compare a [op,op'] [b,c] pos) (SM r r' ta tb tc):=QG _ _ _ _ _▸qbf ho ho' ha hb hc hm
theorem JR {op op':CmpOp} {r r':R2} (ho:mR X (compareOp op) r) (ho':mR X (compareOp op') r') (ha:PE X a ta) (hb:PE X b tb) (hc:PE X c tc)
    (hm:lastMarks [op,op'] [b,c]=false:=by with_unfolding_all rfl):PT X (.Compare a [op,op'] [b,c] pos) (FZ (SM r r' ta tb tc)):=by
  rw[Vp,QG];exact qbg ho ho' ha hb hc hm
theorem Zc (ha:PE X a ta):PE X (.UnaryOp .Not a pos) (qbY ta):=qb2 _▸qfE ha
theorem vX {rest:List Expr} (ha:PE X a ta) (hb:PE X (.BoolOp .And (b::rest) pos) tb):PE X (.BoolOp .And (a::b::rest) pos) (qbZ ta tb):=qb3 _ _▸qfD ha hb
end
def Xk (K:W.Frag):R2:=fun x y H Q=>isRef x fun p=>isInt y fun i=>∃xs,(cj K H p xs∨lR K H p xs)∧∃v,Lh xs i=some v∧Q v H
@[simp ↓] theorem qoM (K:W.Frag) x y H Q:Xk K x y H Q=(isRef x fun p=>isInt y fun i=>∃xs,(cj K H p xs∨lR K H p xs)∧∃v,Lh xs i=some v∧Q v H):=rfl
theorem qgs {K:W.Frag} {x y H Q} (h:Xk K x y H Q):qf_ K x y H Q:=by
  obtain⟨p,rfl,h1⟩:=isRef.out h;obtain⟨i,rfl,xs,h2,v,h3,h4⟩:=isInt.out h1;exact⟨p,xs,i,v,rfl,rfl,h2,h3,h4⟩
def qgt  : R2:=fun x y H Q=>isStr x fun z=>isInt y fun i=>z.length≤sizeLine∧∃c,Lh z.cps.toList i=some c∧Q (.str ⟨#[c]⟩) H
@[simp ↓] theorem qoN  x y H Q:qgt x y H Q=(isStr x fun z=>isInt y fun i=>z.length≤sizeLine∧∃c,Lh z.cps.toList i=some c∧Q (.str ⟨#[c]⟩) H):=rfl
theorem qgu  {x y H Q} (h:qgt x y H Q):qiu x y H Q:=by
  obtain⟨z,rfl,h1⟩:=isStr.out h;obtain⟨i,rfl,h2,c,h3,h4⟩:=isInt.out h1;exact⟨z,i,c,rfl,rfl,h2,h3,h4⟩
def M6 (K:W.Frag):List V→Hp→VK→Prop:=fun xs H Q=>ar1 xs fun x=>isRef x fun p=>∃ys,(cj K H p ys∨lR K H p ys)∧Q (.int ys.length) H
@[simp ↓] theorem qnA (K:W.Frag) xs H Q:M6 K xs H Q=(ar1 xs fun x=>isRef x fun p=>∃ys,(cj K H p ys∨lR K H p ys)∧Q (.int ys.length) H):=rfl
theorem qd9 {K:W.Frag} {xs H Q} (h:M6 K xs H Q):qeU K xs H Q:=by
  obtain⟨x,rfl,h1⟩:=ar1.out h;obtain⟨p,rfl,ys,h2,h3⟩:=isRef.out h1;exact⟨p,ys,rfl,h2,h3⟩
def qb4  : List V→Hp→VK→Prop:=fun xs H Q=>ar1 xs fun x=>isStr x fun z=>z.length≤sizeLine∧Q (.int z.length) H
@[simp ↓] theorem qnB  xs H Q:qb4 xs H Q=(ar1 xs fun x=>isStr x fun z=>z.length≤sizeLine∧Q (.int z.length) H):=rfl
theorem qd_  {xs H Q} (h:qb4 xs H Q):qeV xs H Q:=by
  obtain⟨x,rfl,h1⟩:=ar1.out h;obtain⟨p,rfl,h2⟩:=isStr.out h1;exact⟨p,rfl,h2⟩
def SN (K:W.Frag):List V→Hp→VK→Prop:=fun xs H Q=>ar1 xs fun x=>isRef x fun p=>∃ys,(cj K H p ys∨lR K H p ys)∧∀l,H l=none→Q (.ref l) (upd H l (.lst ys))
@[simp ↓] theorem qh_ (K:W.Frag) xs H Q:SN K xs H Q=(ar1 xs fun x=>isRef x fun p=>∃ys,(cj K H p ys∨lR K H p ys)∧∀l,H l=none→Q (.ref l) (upd H l (.lst ys))):=rfl
theorem qar {K:W.Frag} {xs H Q} (h:SN K xs H Q):YW K xs H Q:=by
  obtain⟨x,rfl,h1⟩:=ar1.out h;obtain⟨p,rfl,ys,h2,h3⟩:=isRef.out h1;exact⟨p,ys,rfl,h2,h3⟩
def Lj  : List V→Hp→VK→Prop:=fun xs H Q=>ar1 xs fun x=>isRef x fun p=>∃ys,Sq H p ys∧∀l H',H' l=some (.tup ys)→Same H H'→Q (.ref l) H'
@[simp ↓] theorem qia  xs H Q:Lj xs H Q=(ar1 xs fun x=>isRef x fun p=>∃ys,Sq H p ys∧∀l H',H' l=some (.tup ys)→Same H H'→Q (.ref l) H'):=rfl
theorem qas  {xs H Q} (h:Lj xs H Q):YX xs H Q:=by
  obtain⟨x,rfl,h1⟩:=ar1.out h;obtain⟨p,rfl,ys,h2,h3⟩:=isRef.out h1;exact⟨p,ys,rfl,h2,h3⟩
def qb5 (K:W.Frag):List V→Hp→VK→Prop:=fun xs H Q=>ar2 xs fun x y=>qaq y fun n=>∃t,uR K H x t∧∃b,W.kitOne K t (.type n)=some b∧Q (.bl b) H
@[simp ↓] theorem qnC (K:W.Frag) xs H Q:qb5 K xs H Q=(ar2 xs fun x y=>qaq y fun n=>∃t,uR K H x t∧∃b,W.kitOne K t (.type n)=some b∧Q (.bl b) H):=rfl
theorem qea {K:W.Frag} {xs H Q} (h:qb5 K xs H Q):qeW K xs H Q:=by
  obtain⟨x,y,rfl,h1⟩:=ar2.out h;obtain⟨n,rfl,t,h2,b,h3,h4⟩:=qaq.out h1;exact⟨x,n,t,b,rfl,h2,h3,h4⟩
def qb6 (K:W.Frag):List V→Hp→VK→Prop:=fun xs H Q=>ar2 xs fun x y=>isRef y fun p=>∃m n,H p=some (.tup [.ty m,.ty n])∧∃t,uR K H x t∧∃b,W.kitAny K t [.type m,.type n]=some b∧Q (.bl b) H
@[simp ↓] theorem qnD (K:W.Frag) xs H Q:qb6 K xs H Q=(ar2 xs fun x y=>isRef y fun p=>∃m n,H p=some (.tup [.ty m,.ty n])∧∃t,uR K H x t∧∃b,W.kitAny K t [.type m,.type n]=some b∧Q (.bl b) H):=rfl
theorem qeb {K:W.Frag} {xs H Q} (h:qb6 K xs H Q):qeX K xs H Q:=by
  obtain⟨x,y,rfl,h1⟩:=ar2.out h;obtain⟨p,rfl,m,n,h0,t,h2,b,h3,h4⟩:=isRef.out h1;exact⟨x,p,m,n,t,b,rfl,h0,h2,h3,h4⟩
def fIn (K:W.Frag):R2:=fun x y H Q=>isRef y fun p=>∃xs,(cj K H p xs∨lR K H p xs)∧nJ x=true∧(∀z∈xs,nJ z=true)∧Q (.bl (inV x xs)) H
@[simp ↓] theorem qrB (K:W.Frag) x y H Q:fIn K x y H Q=(isRef y fun p=>∃xs,(cj K H p xs∨lR K H p xs)∧nJ x=true∧(∀z∈xs,nJ z=true)∧Q (.bl (inV x xs)) H):=rfl
theorem qi2 {K:W.Frag} {x y H Q} (h:fIn K x y H Q):qdM K x y H Q:=by
  obtain⟨p,rfl,xs,h1,h2,h3,h4⟩:=isRef.out h;exact .inl ⟨p,xs,rfl,h1,h2,List.all_eq_true.mpr h3,h4⟩
def Xl (K:W.Frag):R2:=fun x y H Q=>isRef y fun p=>∃xs,(cj K H p xs∨lR K H p xs)∧nJ x=true∧(∀z∈xs,nJ z=true)∧∃k,inV x xs = !k∧Q (.bl k) H
@[simp ↓] theorem qi3 (K:W.Frag) x y H Q:Xl K x y H Q=(isRef y fun p=>∃xs,(cj K H p xs∨lR K H p xs)∧nJ x=true∧(∀z∈xs,nJ z=true)∧∃k,inV x xs = !k∧Q (.bl k) H):=rfl
theorem qb7 {K:W.Frag} {x y H Q} (h:Xl K x y H Q):RV K x y H Q:=by
  obtain⟨p,rfl,xs,h1,h2,h3,h4⟩:=isRef.out h;exact .inl ⟨p,xs,rfl,h1,h2,List.all_eq_true.mpr h3,JL (R:=fun k=>Q (.bl k) H) h4⟩
def qgv (K:W.Frag):R2:=fun x y H Q=>isStr x fun i=>isStr y fun j=>Q (.bl (!(Builtin.Str.occurrences j i 0 j.length 1).isEmpty)) H
@[simp ↓] theorem qoO (K:W.Frag) x y H Q:qgv K x y H Q=(isStr x fun i=>isStr y fun j=>Q (.bl (!(Builtin.Str.occurrences j i 0 j.length 1).isEmpty)) H):=rfl
theorem qgw {K:W.Frag} {x y H Q} (h:qgv K x y H Q):qdM K x y H Q:=by
  obtain⟨i,rfl,h1⟩:=isStr.out h;obtain⟨j,rfl,h2⟩:=isStr.out h1;exact .inr ⟨i,j,rfl,rfl,h2⟩
def SQ  : V→List V→Hp→VK→Prop:=fun x vs H Q=>isRef x fun l=>ar1 vs fun y=>∃xs,H l=some (.lst xs)∧xs.length<sizeLine∧Q .non (upd H l (.lst (xs++[y])))
@[simp ↓] theorem qib  x vs H Q:SQ x vs H Q=(isRef x fun l=>ar1 vs fun y=>∃xs,H l=some (.lst xs)∧xs.length<sizeLine∧Q .non (upd H l (.lst (xs++[y])))):=rfl
theorem qat  {x vs H Q} (h:SQ x vs H Q):RK x vs H Q:=by
  obtain⟨l,rfl,h1⟩:=isRef.out h;obtain⟨y,rfl,xs,h2,h3⟩:=ar1.out h1;exact⟨l,xs,y,rfl,rfl,h2,h3⟩
def SX  : V→List V→Hp→VK→Prop:=fun x vs H Q=>isRef x fun l=>ar2 vs fun j y=>isInt j fun i=>∃xs,H l=some (.lst xs)∧0≤i∧i≤xs.length∧xs.length<sizeLine∧Q .non (upd H l (.lst (xs.take i.toNat++y::xs.drop i.toNat)))
@[simp ↓] theorem qic  x vs H Q:SX x vs H Q=(isRef x fun l=>ar2 vs fun j y=>isInt j fun i=>∃xs,H l=some (.lst xs)∧0≤i∧i≤xs.length∧xs.length<sizeLine∧Q .non (upd H l (.lst (xs.take i.toNat++y::xs.drop i.toNat)))):=rfl
theorem qau  {x vs H Q} (h:SX x vs H Q):RN x vs H Q:=by
  obtain⟨l,rfl,h1⟩:=isRef.out h;obtain⟨j,y,rfl,h2⟩:=ar2.out h1;obtain⟨i,rfl,xs,h3⟩:=isInt.out h2;exact⟨l,xs,i,y,rfl,rfl,h3⟩
def qb8  : V→List V→Hp→VK→Prop:=fun x vs H Q=>isStr x fun sep=>ar1 vs fun y=>isRef y fun l=>∃ys:List Str,H l=some (.lst (ys.map V.str))∧(ys.map (·.length)).sum+ys.length * sep.length≤16777216∧Q (.str (Txt.join sep ys)) H
@[simp ↓] theorem qnE  x vs H Q:qb8 x vs H Q=(isStr x fun sep=>ar1 vs fun y=>isRef y fun l=>∃ys:List Str,H l=some (.lst (ys.map V.str))∧(ys.map (·.length)).sum+ys.length * sep.length≤16777216∧Q (.str (Txt.join sep ys)) H):=rfl
theorem qec  {x vs H Q} (h:qb8 x vs H Q):rJoin x vs H Q:=by
  obtain⟨sep,rfl,h1⟩:=isStr.out h;obtain⟨y,rfl,h2⟩:=ar1.out h1;obtain⟨l,rfl,ys,h3⟩:=isRef.out h2;exact⟨sep,l,ys,rfl,rfl,h3⟩
def qgx (K:W.Frag):R2:=fun x y H Q=>∃d,Is K H d x∧∃e,Is K H e y∧d.canLay0=true∧e.canLay0=true∧d.depth≤64∧∃k,PyData.eqv d e = !k∧Q (.bl k) H
@[simp ↓] theorem qoP (K:W.Frag) x y H Q:qgx K x y H Q=(∃d,Is K H d x∧∃e,Is K H e y∧d.canLay0=true∧e.canLay0=true∧d.depth≤64∧∃k,PyData.eqv d e = !k∧Q (.bl k) H):=rfl
theorem qgy {K:W.Frag} {x y H Q} (h:qgx K x y H Q):qiO K x y H Q:=by
  obtain⟨d,h1,e,h2,h3,h4,h5,h6⟩:=h;exact⟨d,e,h1,h2,h3,h4,h5,JL (R:=fun k=>Q (.bl k) H) h6⟩
def qgz  : List V→Hp→VK→Prop:=fun xs H Q=>ar1 xs fun x=>isInt x fun i=>Q (.int (if i<0 then -i else i)) H
@[simp ↓] theorem qoQ  xs H Q:qgz xs H Q=(ar1 xs fun x=>isInt x fun i=>Q (.int (if i<0 then -i else i)) H):=rfl
theorem qgA  {xs H Q} (h:qgz xs H Q):(fun xs H Q=>∃i,xs=[.int i]∧Q (.int (if i<0 then -i else i)) H:List V→Hp→VK→Prop) xs H Q:=by
  obtain⟨x,rfl,h1⟩:=ar1.out h;obtain⟨i,rfl,h2⟩:=isInt.out h1;exact⟨i,rfl,h2⟩
def qb9  : List V→Hp→VK→Prop:=fun xs H Q=>ar2 xs fun x y=>isInt x fun i=>isInt y fun j=>Q (.int (if j > i then j else i)) H
@[simp ↓] theorem qnF  xs H Q:qb9 xs H Q=(ar2 xs fun x y=>isInt x fun i=>isInt y fun j=>Q (.int (if j > i then j else i)) H):=rfl
theorem qee  {xs H Q} (h:qb9 xs H Q):(fun xs H Q=>∃i j,xs=[.int i,.int j]∧Q (.int (if j > i then j else i)) H:List V→Hp→VK→Prop) xs H Q:=by
  obtain⟨x,y,rfl,h1⟩:=ar2.out h;obtain⟨i,rfl,h2⟩:=isInt.out h1;obtain⟨j,rfl,h3⟩:=isInt.out h2;exact⟨i,j,rfl,h3⟩
def qb_  : List V→Hp→VK→Prop:=fun xs H Q=>ar2 xs fun x y=>isInt x fun i=>isInt y fun j=>Q (.int (if j<i then j else i)) H
@[simp ↓] theorem qnG  xs H Q:qb_ xs H Q=(ar2 xs fun x y=>isInt x fun i=>isInt y fun j=>Q (.int (if j<i then j else i)) H):=rfl
theorem qef  {xs H Q} (h:qb_ xs H Q):(fun xs H Q=>∃i j,xs=[.int i,.int j]∧Q (.int (if j<i then j else i)) H:List V→Hp→VK→Prop) xs H Q:=by
  obtain⟨x,y,rfl,h1⟩:=ar2.out h;obtain⟨i,rfl,h2⟩:=isInt.out h1;obtain⟨j,rfl,h3⟩:=isInt.out h2;exact⟨i,j,rfl,h3⟩
def S7  : List V→Hp→VK→Prop:=fun xs H Q=>ar2 xs fun x y=>isInt x fun i=>isInt y fun j=>Z0 i j∧∀p,H p=none→Q (.ref p) (upd H p (.tup [.int (i / j),.int (i % j)]))
@[simp ↓] theorem qid  xs H Q:S7 xs H Q=(ar2 xs fun x y=>isInt x fun i=>isInt y fun j=>Z0 i j∧∀p,H p=none→Q (.ref p) (upd H p (.tup [.int (i / j),.int (i % j)]))):=rfl
theorem qav  {xs H Q} (h:S7 xs H Q):(fun xs H Q=>∃i j,xs=[.int i,.int j]∧Z0 i j∧∀p,H p=none→Q (.ref p) (upd H p (.tup [.int (i / j),.int (i % j)])):List V→Hp→VK→Prop) xs H Q:=by
  obtain⟨x,y,rfl,h1⟩:=ar2.out h;obtain⟨i,rfl,h2⟩:=isInt.out h1;obtain⟨j,rfl,h3⟩:=isInt.out h2;exact⟨i,j,rfl,h3⟩
def qgB  : List V→Hp→VK→Prop:=fun xs H Q=>ar1 xs fun x=>isRef x fun a=>∃ys,H a=some (.lst ys)∧∃bs,yD ys bs∧Q (.bl (bs.all id)) H
@[simp ↓] theorem qoR  xs H Q:qgB xs H Q=(ar1 xs fun x=>isRef x fun a=>∃ys,H a=some (.lst ys)∧∃bs,yD ys bs∧Q (.bl (bs.all id)) H):=rfl
theorem qgC  {xs H Q} (h:qgB xs H Q):(fun xs H Q=>∃a ys bs,xs=[.ref a]∧H a=some (.lst ys)∧yD ys bs∧Q (.bl (bs.all id)) H:List V→Hp→VK→Prop) xs H Q:=by
  obtain⟨x,rfl,h1⟩:=ar1.out h;obtain⟨a,rfl,ys,h2,bs,h3,h4⟩:=isRef.out h1;exact⟨a,ys,bs,rfl,h2,h3,h4⟩
def qgD  : List V→Hp→VK→Prop:=fun xs H Q=>ar1 xs fun x=>isRef x fun a=>∃ys,H a=some (.lst ys)∧∃bs,yD ys bs∧Q (.bl (bs.any id)) H
@[simp ↓] theorem qoS  xs H Q:qgD xs H Q=(ar1 xs fun x=>isRef x fun a=>∃ys,H a=some (.lst ys)∧∃bs,yD ys bs∧Q (.bl (bs.any id)) H):=rfl
theorem qgE  {xs H Q} (h:qgD xs H Q):qe1 xs H Q:=by
  obtain⟨x,rfl,h1⟩:=ar1.out h;obtain⟨a,rfl,ys,h2,bs,h3,h4⟩:=isRef.out h1;exact⟨a,ys,bs,rfl,h2,h3,h4⟩
def Zd:List V→Hp→VK→Prop:=fun xs H Q=>ar1 xs fun x=>match x with | .int i=>Q (.int i) H | .bl k=>Q (.int (if k=true then 1 else 0)) H | _=>False
@[simp ↓] theorem qnH i H Q:Zd [.int i] H Q=Q (.int i) H:=rfl
@[simp ↓] theorem qnI k H Q:Zd [.bl k] H Q=Q (.int (if k=true then 1 else 0)) H:=rfl
theorem qeg {xs H Q} (h:Zd xs H Q):(fun xs H Q=>(∃i,xs=[.int i]∧Q (.int i) H)∨∃k,xs=[.bl k]∧Q (.int (if k then 1 else 0)) H:List V→Hp→VK→Prop) xs H Q:=by
  obtain⟨x,rfl,h1⟩:=ar1.out h;cases x with
  | int i=>exact .inl ⟨i,rfl,h1⟩
  | bl k=>exact .inr ⟨k,rfl,h1⟩
  | _=>exact h1.elim
def qca:ZR:=fun o i v H Q=>isRef o fun p=>isInt i fun k=>∃xs,H p=some (.lst xs)∧∃j,ixN xs.length k=some j∧Q (upd H p (.lst (xs.set j v)))
@[simp ↓] theorem qnJ o i v H Q:qca o i v H Q=(isRef o fun p=>isInt i fun k=>∃xs,H p=some (.lst xs)∧∃j,ixN xs.length k=some j∧Q (upd H p (.lst (xs.set j v)))):=rfl
theorem qeh {o i v H Q} (h:qca o i v H Q):qeT o i v H Q:=by
  obtain⟨p,rfl,h1⟩:=isRef.out h;obtain⟨k,rfl,xs,h2,j,h3,h4⟩:=isInt.out h1;exact⟨p,xs,k,j,rfl,rfl,h2,h3,h4⟩
def qcb (K:W.Frag):V→Option Int→Option Int→Hp→VK→Prop:=fun x lo hi H Q=>isRef x fun a=>∃xs,cj K H a xs∧∀p,H p=none→Q (.ref p) (upd H p (.lst (K8 xs lo hi)))
@[simp ↓] theorem qoT (K:W.Frag) x lo hi H Q:qcb K x lo hi H Q=(isRef x fun a=>∃xs,cj K H a xs∧∀p,H p=none→Q (.ref p) (upd H p (.lst (K8 xs lo hi)))):=rfl
theorem qgF {K:W.Frag} {x lo hi H Q} (h:qcb K x lo hi H Q):qdD K x lo hi H Q:=by
  obtain⟨a,rfl,xs,h1⟩:=isRef.out h;exact⟨a,xs,rfl,h1⟩
def qi4:Uo:=fun vs σ H Q=>ar0 vs (Q σ H)
def qe4 (t:TG) (u:Uo):Uo:=fun vs σ H Q=>arH vs fun v r=>t v σ H fun σ' H'=>u r σ' H' Q
def qi5 (K:W.Frag) (n:Nat) (t:Uo):TG:=fun v σ H Q=>isRef v fun a=>∃xs,lR K H a xs∧xs.length=n∧t xs σ H Q
@[simp ↓] theorem qoU vs σ H Q:qi4 vs σ H Q=ar0 vs (Q σ H):=rfl
@[simp ↓] theorem qnK t u vs σ H Q:qe4 t u vs σ H Q=(arH vs fun v r=>t v σ H fun σ' H'=>u r σ' H' Q):=rfl
@[simp ↓] theorem qoV K n t v σ H Q:qi5 K n t v σ H Q=(isRef v fun a=>∃xs,lR K H a xs∧xs.length=n∧t xs σ H Q):=rfl
theorem uU {vs σ H Q} (h:qi4 vs σ H Q):qfF vs σ H Q:=ar0.out h
theorem cQ (t:TG) (u:Uo):qe4 t u=qa7 t u:=by
  funext vs σ H Q
  exact qgr _ _
theorem oH (K:W.Frag) (n:Nat) (t:Uo):qi5 K n t=qdr K n t:=by
  funext v σ H Q
  refine propext ⟨fun h=>?_,fun⟨a,xs,e,h⟩=>by subst e;exact⟨xs,h⟩⟩;obtain⟨a,rfl,xs,h1⟩:=isRef.out h;exact⟨a,xs,rfl,h1⟩
def qi6 (i j:Nat) (ta:TA):TS:=fun D σ H=>ta σ H fun vs H1=>ar2 vs fun v w=>D.nx ((σ.set i (some v)).set j (some w)) H1
@[simp ↓] theorem qoW i j ta D σ H:qi6 i j ta D σ H=(ta σ H fun vs H1=>ar2 vs fun v w=>D.nx ((σ.set i (some v)).set j (some w)) H1):=rfl
theorem qei (i j:Nat) (ta:TA):qi6 i j ta=qfH i j ta:=by
  funext D σ H
  exact congrArg (ta σ H) (funext fun vs=>funext fun H1=>qgq _ _)
def qgG (f:Int→Int→Int):TIp:=fun x y H Q=>isInt x fun i=>isInt y fun j=>Q (.int (f i j)) H
@[simp ↓] theorem qoX f x y H Q:qgG f x y H Q=(isInt x fun i=>isInt y fun j=>Q (.int (f i j)) H):=rfl
theorem qgH {f:Int→Int→Int} {x y H Q} (h:qgG f x y H Q):ipI f x y H Q:=by
  obtain⟨i,rfl,h1⟩:=isInt.out h;obtain⟨j,rfl,h2⟩:=isInt.out h1;exact⟨i,j,rfl,rfl,h2⟩
def qi7 (i:Nat) (te:TE) (ti:TIp):TS:=fun D σ H=>getSt σ i fun x=>te σ H fun y H1=>ti x y H1 fun z H2=>D.nx (σ.set i (some z)) H2
@[simp ↓] theorem qoY i te ti D σ H:qi7 i te ti D σ H=(getSt σ i fun x=>te σ H fun y H1=>ti x y H1 fun z H2=>D.nx (σ.set i (some z)) H2):=rfl
theorem qgI {i:Nat} {te:TE} {ti:TIp} {D σ H} (h:qi7 i te ti D σ H):qfJ i te ti D σ H:=getSt.out h
def qcc (K:W.Frag) (tl:TE):TI:=fun σ H R=>tl σ H fun x H1=>isRef x fun a=>(∃xs,cj K H1 a xs)∧R (Itl K a) H1
def qe5 (K:W.Frag) (tl:TE):TI:=fun σ H R=>tl σ H fun x H1=>isRef x fun p=>∃b,(∃xs,RX b K H1 p xs)∧R (Itq b K p) H1
def qe6 (tl:TE):TI:=fun σ H R=>tl σ H fun x H1=>isStr x fun z=>R (Its z) H1
def qcd (ta:TA):TI:=fun σ H R=>ta σ H fun vs H1=>ar1 vs fun v=>isInt v fun j=>-(2 ^ 62)≤j∧j<2 ^ 62∧R (Wq 0 j.toNat) H1
def qce (ta:TA):TI:=fun σ H R=>ta σ H fun vs H1=>ar2 vs fun v w=>isInt v fun i=>isInt w fun j=>(-(2 ^ 62)≤i∧i<2 ^ 62∧-(2 ^ 62)≤j∧j<2 ^ 62)∧R (Wq i (j - i).toNat) H1
def qe7 (K:W.Frag) (t:TA):TI:=fun σ H R=>t σ H fun vs H1=>ar2 vs fun x y=>isRef x fun a=>isRef y fun b=>(∃xs,cj K H1 a xs)∧(∃ys,cj K H1 b ys)∧R (Itz K a b) H1
def qcf (K:W.Frag) (t:TA):TI:=fun σ H R=>t σ H fun vs H1=>ar1 vs fun x=>isRef x fun a=>(∃xs,cj K H1 a xs)∧R (Ite K a) H1
@[simp ↓] theorem qi8 K tl σ H R:qcc K tl σ H R=(tl σ H fun x H1=>isRef x fun a=>(∃xs,cj K H1 a xs)∧R (Itl K a) H1):=rfl
@[simp ↓] theorem qnL K tl σ H R:qe5 K tl σ H R=(tl σ H fun x H1=>isRef x fun p=>∃b,(∃xs,RX b K H1 p xs)∧R (Itq b K p) H1):=rfl
@[simp ↓] theorem qnM tl σ H R:qe6 tl σ H R=(tl σ H fun x H1=>isStr x fun z=>R (Its z) H1):=rfl
@[simp ↓] theorem qi9 ta σ H R:qcd ta σ H R=(ta σ H fun vs H1=>ar1 vs fun v=>isInt v fun j=>-(2 ^ 62)≤j∧j<2 ^ 62∧R (Wq 0 j.toNat) H1):=rfl
@[simp ↓] theorem qi_ ta σ H R:qce ta σ H R=(ta σ H fun vs H1=>ar2 vs fun v w=>isInt v fun i=>isInt w fun j=>(-(2 ^ 62)≤i∧i<2 ^ 62∧-(2 ^ 62)≤j∧j<2 ^ 62)∧R (Wq i (j - i).toNat) H1):=rfl
@[simp ↓] theorem qnN K t σ H R:qe7 K t σ H R=(t σ H fun vs H1=>ar2 vs fun x y=>isRef x fun a=>isRef y fun b=>(∃xs,cj K H1 a xs)∧(∃ys,cj K H1 b ys)∧R (Itz K a b) H1):=rfl
@[simp ↓] theorem qja K t σ H R:qcf K t σ H R=(t σ H fun vs H1=>ar1 vs fun x=>isRef x fun a=>(∃xs,cj K H1 a xs)∧R (Ite K a) H1):=rfl
theorem ju (K:W.Frag) (tl:TE):qcc K tl=YG K tl:=by
  funext σ H R
  exact congrArg (tl σ H) (funext fun x=>funext fun H1=>M5 _ _)
theorem nR (K:W.Frag) (tl:TE):qe5 K tl=qgb K tl:=by
  funext σ H R
  refine congrArg (tl σ H) (funext fun x=>funext fun H1=>propext ⟨fun h=>?_,fun⟨b,p,e,h⟩=>by subst e;exact⟨b,h⟩⟩);obtain⟨p,rfl,b,h1⟩:=isRef.out h;exact⟨b,p,rfl,h1⟩
theorem M7 (tl:TE):qe6 tl=qf6 tl:=by
  funext σ H R
  exact congrArg (tl σ H) (funext fun x=>funext fun H1=>qb1 _ _)
theorem wK (ta:TA):qcd ta=qbb ta:=by
  funext σ H R
  refine congrArg (ta σ H) (funext fun x=>funext fun H1=>propext ⟨fun h=>?_,fun⟨b,e,h⟩=>by subst e;exact h⟩);obtain⟨v,rfl,h1⟩:=ar1.out h;obtain⟨i,rfl,h2⟩:=isInt.out h1;exact⟨i,rfl,h2⟩
theorem qaw (ta:TA):qce ta=qbc ta:=by
  funext σ H R
  refine congrArg (ta σ H) (funext fun x=>funext fun H1=>propext ⟨fun h=>?_,fun⟨b,c,e,h⟩=>by subst e;exact h⟩);obtain⟨v,w,rfl,h1⟩:=ar2.out h;obtain⟨i,rfl,h2⟩:=isInt.out h1;obtain⟨j,rfl,h3⟩:=isInt.out h2;exact⟨i,j,rfl,h3⟩
theorem qcg (K:W.Frag) (t:TA):qe7 K t=qdI K t:=by
  funext σ H R
  refine congrArg (t σ H) (funext fun x=>funext fun H1=>propext ⟨fun h=>?_,fun⟨a,b,xs,ys,e,h1,h2,h3⟩=>by subst e;exact⟨⟨xs,h1⟩,⟨ys,h2⟩,h3⟩⟩);obtain⟨v,w,rfl,h1⟩:=ar2.out h;obtain⟨i,rfl,h2⟩:=isRef.out h1;obtain⟨j,rfl,⟨xs,h3⟩,⟨ys,h4⟩,h5⟩:=isRef.out h2;exact⟨i,j,xs,ys,rfl,h3,h4,h5⟩
theorem qax (K:W.Frag) (t:TA):qcf K t=qbP K t:=by
  funext σ H R
  refine congrArg (t σ H) (funext fun x=>funext fun H1=>propext ⟨fun h=>?_,fun⟨a,xs,e,h1,h3⟩=>by subst e;exact⟨⟨xs,h1⟩,h3⟩⟩);obtain⟨v,rfl,h1⟩:=ar1.out h;obtain⟨i,rfl,⟨xs,h3⟩,h5⟩:=isRef.out h1;exact⟨i,xs,rfl,h3,h5⟩
def qe8 (sp:Sp) (E:XK) (t:TA):TE:=fun σ H Q=>t σ H fun vs H1=>tSp sp vs H1 Q ⟨0⟩ E
@[simp ↓] theorem qnO sp E t σ H Q:qe8 sp E t σ H Q=(t σ H fun vs H1=>tSp sp vs H1 Q ⟨0⟩ E):=rfl
theorem aK (sp:Sp) (E:XK) (t:TA):qe8 sp E t=qbk sp [] E t:=by
  funext σ H Q
  exact congrArg (t σ H) (funext fun vs=>funext fun H1=>by rw[List.append_nil];rfl)
def qe9 (C:Addr) (m:Str) (sp:Sp) (E:XK) (ta:TE) (t:TA):TE:=fun σ H Q=>ta σ H fun x H1=>isRef x fun a=>∃dx fs,H1 a=some (.ins C dx fs)∧fs.lookup m=none∧t σ H1 fun vs H2=>tSp sp (.ref a::vs) H2 Q ⟨0⟩ E
@[simp ↓] theorem qnP C m sp E ta t σ H Q:qe9 C m sp E ta t σ H Q=(ta σ H fun x H1=>isRef x fun a=>∃dx fs,H1 a=some (.ins C dx fs)∧fs.lookup m=none∧t σ H1 fun vs H2=>tSp sp (.ref a::vs) H2 Q ⟨0⟩ E):=rfl
theorem jX (C:Addr) (m:Str) (sp:Sp) (E:XK) (ta:TE) (t:TA):qe9 C m sp E ta t=qbl C m sp [] E ta t:=by
  funext σ H Q
  refine congrArg (ta σ H) (funext fun x=>funext fun H1=>propext ⟨fun h=>?_,fun⟨a,dx,fs,e,h1,h2,h3⟩=>?_⟩)
  ·obtain⟨a,rfl,dx,fs,h1,h2,h3⟩:=isRef.out h;refine⟨a,dx,fs,rfl,h1,h2,?_⟩;simp only[List.append_nil];exact h3
  ·subst e;refine⟨dx,fs,h1,h2,?_⟩;simp only[List.append_nil] at h3;exact h3
def qe_ (C:Addr) (sp:Sp) (E:XK) (t:TA):TE:=fun σ H Q=>t σ H fun vs H1=>∀x dx,H1 x=none→H1 dx=none→dx≠x→
  tSp sp (.ref x::vs) (upd (upd H1 dx (.own x)) x (.ins C dx [])) (fun v H2=>v = .non∧Q (.ref x) H2) ⟨0⟩ E
@[simp ↓] theorem qnQ C sp E t σ H Q:qe_ C sp E t σ H Q=(t σ H fun vs H1=>∀x dx,H1 x=none→H1 dx=none→dx≠x→
  tSp sp (.ref x::vs) (upd (upd H1 dx (.own x)) x (.ins C dx [])) (fun v H2=>v = .non∧Q (.ref x) H2) ⟨0⟩ E):=rfl
theorem qch (C:Addr) (sp:Sp) (E:XK) (t:TA):qe_ C sp E t=qbm C sp [] E t:=by
  funext σ H Q
  refine congrArg (t σ H) (funext fun vs=>funext fun H1=>?_);simp only[List.append_nil];rfl
def qjb (K:W.Frag) (ta:TE) (f:Str):TE:=fun σ H Q=>ta σ H fun x H1=>isRef x fun a=>∃C dx fs,H1 a=some (.ins C dx fs)∧Cls K C∧uQ K C f∧∃v,fs.lookup f=some v∧Q v H1
@[simp ↓] theorem qoZ K ta f σ H Q:qjb K ta f σ H Q=(ta σ H fun x H1=>isRef x fun a=>∃C dx fs,H1 a=some (.ins C dx fs)∧Cls K C∧uQ K C f∧∃v,fs.lookup f=some v∧Q v H1):=rfl
theorem S8 (K:W.Frag) (ta:TE) (f:Str):qjb K ta f=qdA K ta f:=by
  funext σ H Q
  refine congrArg (ta σ H) (funext fun x=>funext fun H1=>propext ⟨fun h=>?_,fun⟨a,C,dx,fs,v,e,h1,h2,h3,h4⟩=>by subst e;exact⟨C,dx,fs,h1,h2,h3,v,h4⟩⟩);obtain⟨a,rfl,C,dx,fs,h1,h2,h3,v,h4⟩:=isRef.out h;exact⟨a,C,dx,fs,v,rfl,h1,h2,h3,h4⟩
def qfa (td ty:TE):TE:=fun σ H Q=>td σ H fun x H1=>ty σ H1 fun y H2=>isRef x fun a=>∃v,nQ H2 a y (some v)∧Q v H2
def qjc (ty td:TE):TE:=fun σ H Q=>ty σ H fun y H1=>td σ H1 fun x H2=>isRef x fun a=>∃o,nQ H2 a y o∧Q (.bl o.isSome) H2
def Ze (ty td:TE):TE:=fun σ H Q=>ty σ H fun y H1=>td σ H1 fun x H2=>isRef x fun a=>∃o,nQ H2 a y o∧Q (.bl o.isNone) H2
def qfb (td ty tv:TE):TS:=fun D σ H=>tv σ H fun v H1=>td σ H1 fun x H2=>ty σ H2 fun y H3=>isRef x fun a=>∃H4,R0 H3 a y v H4∧D.nx σ H4
def qci (td ty:TE):TE:=fun σ H Q=>td σ H fun x H1=>isRef x fun a=>IsD H1 a∧ty σ H1 fun y H2=>∃o,nQ H2 a y o∧Q (o.getD .non) H2
def qcj (td ty tx:TE):TE:=fun σ H Q=>td σ H fun x H1=>isRef x fun a=>IsD H1 a∧ty σ H1 fun y H2=>tx σ H2 fun z H3=>∃o,nQ H3 a y o∧Q (o.getD z) H3
@[simp ↓] theorem qnR td ty σ H Q:qfa td ty σ H Q=(td σ H fun x H1=>ty σ H1 fun y H2=>isRef x fun a=>∃v,nQ H2 a y (some v)∧Q v H2):=rfl
@[simp ↓] theorem qo0 ty td σ H Q:qjc ty td σ H Q=(ty σ H fun y H1=>td σ H1 fun x H2=>isRef x fun a=>∃o,nQ H2 a y o∧Q (.bl o.isSome) H2):=rfl
@[simp ↓] theorem qie ty td σ H Q:Ze ty td σ H Q=(ty σ H fun y H1=>td σ H1 fun x H2=>isRef x fun a=>∃o,nQ H2 a y o∧Q (.bl o.isNone) H2):=rfl
@[simp ↓] theorem qnS td ty tv D σ H:qfb td ty tv D σ H=(tv σ H fun v H1=>td σ H1 fun x H2=>ty σ H2 fun y H3=>isRef x fun a=>∃H4,R0 H3 a y v H4∧D.nx σ H4):=rfl
@[simp ↓] theorem qjd td ty σ H Q:qci td ty σ H Q=(td σ H fun x H1=>isRef x fun a=>IsD H1 a∧ty σ H1 fun y H2=>∃o,nQ H2 a y o∧Q (o.getD .non) H2):=rfl
@[simp ↓] theorem qje td ty tx σ H Q:qcj td ty tx σ H Q=(td σ H fun x H1=>isRef x fun a=>IsD H1 a∧ty σ H1 fun y H2=>tx σ H2 fun z H3=>∃o,nQ H3 a y o∧Q (o.getD z) H3):=rfl
theorem S_ {x:V} {β:Type} {R:Addr→β→Prop}:(isRef x fun a=>∃b,R a b)=(∃a b,x = .ref a∧R a b):=propext ⟨fun h=>by obtain⟨a,rfl,b,h1⟩:=isRef.out h;exact⟨a,b,rfl,h1⟩,fun⟨a,b,e,h⟩=>by subst e;exact⟨b,h⟩⟩
theorem qck (td ty:TE):qfa td ty=qbK td ty:=by
  funext σ H Q
  exact congrArg (td σ H) (funext fun x=>funext fun H1=>congrArg (ty σ H1) (funext fun y=>funext fun H2=>S_))
theorem qej (ty td:TE):qjc ty td=qge ty td:=by
  funext σ H Q
  exact congrArg (ty σ H) (funext fun x=>funext fun H1=>congrArg (td σ H1) (funext fun y=>funext fun H2=>S_))
theorem Xm (ty td:TE):Ze ty td=R4 ty td:=by
  funext σ H Q
  refine congrArg (ty σ H) (funext fun x=>funext fun H1=>congrArg (td σ H1) (funext fun y=>funext fun H2=>?_));rw[S_];simp only[Option.not_isSome]
theorem qcl (td ty tv:TE):qfb td ty tv=qbL td ty tv:=by
  funext D σ H
  exact congrArg (tv σ H) (funext fun v=>funext fun H1=>congrArg (td σ H1) (funext fun x=>funext fun H2=>congrArg (ty σ H2) (funext fun y=>funext fun H3=>S_)))
theorem qay (td ty:TE):qci td ty=Xf td ty:=by
  funext σ H Q
  exact congrArg (td σ H) (funext fun x=>funext fun H1=>M5 _ _)
theorem QH (td ty tx:TE):qcj td ty tx=Xg td ty tx:=by
  funext σ H Q
  exact congrArg (td σ H) (funext fun x=>funext fun H1=>M5 _ _)
def Zf (t:TE):TO:=fun σ H Q=>t σ H fun x H1=>isInt x fun i=>Q (some i) H1
@[simp ↓] theorem qnT t σ H Q:Zf t σ H Q=(t σ H fun x H1=>isInt x fun i=>Q (some i) H1):=rfl
theorem qj (t:TE):Zf t=qbp t:=by
  funext σ H Q
  exact congrArg (t σ H) (funext fun x=>funext fun H1=>qb0 _ _)
section
variable {X:Cx} {K:W.Frag}
theorem PE.eqv {e:Expr} {t t':TE} (o:PE X e t) (h:t'=t):PE X e t':=h▸o
theorem PC.eqv {op:CmpOp} {a b:Expr} {t t':TE} (o:PC X op a b t) (h:t'=t):PC X op a b t':=h▸o
theorem PS.eqv {e:Stmt} {t t':TS} (o:PS X e t) (h:t'=t):PS X e t':=h▸o
theorem PG.eqv {e:Expr} {t t':TG} (o:PG X e t) (h:t'=t):PG X e t':=h▸o
theorem vN.eqv {e:List Expr} {t t':Uo} (o:vN X e t) (h:t'=t):vN X e t':=h▸o
theorem PI.eqv {tg e:Expr} {t t':TI} (o:PI X tg e t) (h:t'=t):PI X tg e t':=h▸o
theorem PO.eqv {e:Option Expr} {t t':TO} (o:PO X e t) (h:t'=t):PO X e t':=h▸o
theorem Lk:mR X (binaryOp .Mult) (fI qdv fun i j=>.int (i * j)):=qfQ.mono qd6
theorem qcm:mR X (binaryOp .FloorDiv) (fI Z0 fun i j=>.int (i / j)):=qdw.mono qd6
theorem Bo:mR X (binaryOp .Mod) (fI (fun _ j=>0<j) fun i j=>.int (i % j)):=qfR.mono qd6
theorem Zg:mR X (binaryOp .Pow) (fI qdu fun i j=>.int (i ^ j.toNat)):=qfS.mono qd6
theorem dB (hK:X.K=K):IxR X (Xk K):=(qn_ hK).mono qgs
theorem Ln:IxR X qgt:=qfZ.mono qgu
theorem qaz (hK:X.K=K):mR X (compareOp .In) (fIn K):=(inK hK).mono qi2
theorem qjf (hK:X.K=K):mR X (compareOp .In) (qgv K):=(inK hK).mono qgw
theorem Lq (hK:X.K=K):mR X (compareOp .NotIn) (Xl K):=(qga hK).mono qb7
theorem qcn (hK:X.K=K) (hu:X.A.units+64<cLine):mR X (compareOp .NotEq) (qgx K):=(qgl hK hu).mono qgy
theorem cN (hK:X.K=K):dD X (.builtin "len") (M6 K):=(qiD hK).mono qd9
theorem qco:dD X (.builtin "len") qb4:=qiE.mono qd_
theorem M8 (hK:X.K=K):dD X (.type "list") (SN K):=(qdN hK).mono qar
theorem z8:dD X (.type "tuple") Lj:=qbG.mono qas
theorem Tc (hK:X.K=K):dD X (.builtin "isinstance") (qb5 K):=(qiF hK).mono qea
theorem qcp (hK:X.K=K):dD X (.builtin "isinstance") (qb6 K):=(qiG hK).mono qeb
theorem pO (hc:X.calm=true):dD X (.builtin "all") qgB:=(qah hc).mono qgC
theorem QJ (hc:X.calm=true):dD X (.builtin "any") qgD:=(qao hc).mono qgE
theorem M9:dD X (.type "int") Zd:=Z5.mono qeg
theorem QK:dD X (.builtin "abs") qgz:=qbh.mono qgA
theorem M_ (hc:X.calm=true):dD X (.builtin "max") qb9:=(Z2 hc).mono qee
theorem Xn (hc:X.calm=true):dD X (.builtin "min") qb_:=(Z4 hc).mono qef
theorem Td:dD X (.builtin "divmod") S7:=UG.mono qav
theorem rY:Wr X "list.append" SQ:=Wr.mono (r:=RK) Qu qat
theorem Xo:Wr X "list.insert" SX:=Wr.mono (r:=RN) qag qau
theorem Vq:Wr X "str.join" qb8:=qd4.mono qec
theorem KN (hK:X.K=K):SlR X (qcb K):=(qoG hK).mono qgF
theorem QL:ZS X qca:=set_list.mono qeh
theorem qek:PIp X .Add (qgG fun i j=>i+j):=qfL.mono qgH
end
theorem getSt.imp {σ:St} {i:Nat} {R R':V→Prop} (f:∀v,R v→R' v):getSt σ i R→getSt σ i R':=by
  induction σ generalizing i with
  | nil=>exact fun h=>h.elim
  | cons o σ ih=>
    cases i with
    | zero=>cases o with
      | none=>exact fun h=>h.elim
      | some v=>exact f v
    | succ n=>exact ih
theorem isInt.imp {x:V} {R R':Int→Prop} (f:∀v,R v→R' v):isInt x R→isInt x R':=by cases x <;> first | exact f _ | exact fun h=>h.elim
theorem isRef.imp {x:V} {R R':Addr→Prop} (f:∀v,R v→R' v):isRef x R→isRef x R':=by cases x <;> first | exact f _ | exact fun h=>h.elim
theorem xg.imp {x:V} {R R':Bool→Prop} (f:∀v,R v→R' v):xg x R→xg x R':=by cases x <;> first | exact f _ | exact fun h=>h.elim
theorem Vr {K:W.Frag} {g:Int→Int→V} {i j:Nat}:∀(σ:St) (H:Hp) (Q Q':Bool→Hp→Prop),(∀(b:Bool) (H1:Hp),Q b H1→Q' b H1)→FZ (K6 (fI0 g) (fVar i) (tCB (M6 K) (bY (fVar j) vO))) σ H Q→FZ (K6 (fI0 g) (fVar i) (tCB (M6 K) (bY (fVar j) vO))) σ H Q':=
  fun _ _ _ _ f h=>getSt.imp (fun _ h=>getSt.imp (fun _ h=>isRef.imp (fun _ ⟨ys,h1,h2⟩=>⟨ys,h1,isInt.imp (fun _ h=>isInt.imp (fun _ h=>xg.imp (fun _ h=>f _ _ h) h) h) h2⟩) h) h) h
theorem p7.z9 {P:Program} {w:World} {K:W.Frag} {mg:Str→Option Value} {base:Heap} {x qual:Str} {st:Stmt} {f:Addr} {fd:FuncData} {N ps:List Str} {k:Nat} {sp:Sp} (F:p7 K x qual st f fd) (S:bF N ps (ao st)) (len:∀vs H Q E,sp vs H Q E→vs.length=ps.length)
    (hbody:∀(cdv:Value) (A:Around) (outer:List Env) (s:Shared) (H:Hp) (vs:List V) (Q:VK) (E:XK),nH k (A.deeper (envOfC qual (ao st) s.heap.objs.size f cdv))→sp vs H Q E→
      ∃t,Ph (aF rN P w K mg base N qual (ao st) f cdv A outer s H E).nox (aM st) t∧t {nx:=fun _ H'=>Q .non H',rt:=Q} (rW N vs) H):cT P w K mg base rN (k+1) f fd ps sp:=by
  refine F.ok S len fun cdv A outer s H vs Q E hr h=>?_;obtain⟨t,h1,h2⟩:=hbody cdv A outer s H vs Q E hr h;refine⟨t,h1,?_⟩;have hl:=len _ _ _ _ h;have hp:ps.length≤N.length:=by have:=congrArg List.length S.pre;rw[List.length_take] at this;omega
  rw[z7 N vs (by omega)] at h2;exact h2
end L2
namespace L2
open PySem
def H_ (T:List yG) (h:Str) (wh:List Nat) (R:BR):BR:=T.foldl (fun R s=>if s.2.1=h∧¬s.2.2∈R.map (·.1) then R++[(s.2.2,wh++[s.1])] else R) R
def JT (S:List yG) (a:Str):Nat→BR
  | 0=>[(a,[])]
  | n+1=>match (JT S a n)[n]? with
    | some x=>H_ S x.1 x.2 (JT S a n)
    | none=>JT S a n
theorem Xp (T:List yG) (s:yG) (h:Str) (wh:List Nat) (R:BR):H_ (T++[s]) h wh R=if s.2.1=h∧¬s.2.2∈(H_ T h wh R).map (·.1) then H_ T h wh R++[(s.2.2,wh++[s.1])] else H_ T h wh R:=by
  unfold H_;rw[List.foldl_append];rfl
theorem qaA {S:List yG} {a:Str} {n:Nat} {h:Str} {wh:List Nat} (e:(JT S a n)[n]? = some (h,wh)):JT S a (n+1)=H_ S h wh (JT S a n):=by
  show(match (JT S a n)[n]? with | some x=>H_ S x.1 x.2 (JT S a n) | none=>JT S a n)=_
  rw[e]
def qo1 (S:List yG) (a:Str) (R:BR):Prop:=JT S a R.length=R
def Bp (H:Hp) (kvs:List (Key×V)):Prop:=∀kv∈kvs,∀p,kv.2 = .ref p→H p=none
theorem Bp.snoc {H:Hp} {kvs:List (Key×V)} (h:Bp H kvs) {k:Key} {p:Addr} (hp:H p=none):Bp H (kvs++[(k,.ref p)]):=by
  intro kv hkv q hq
  rcases List.mem_append.mp hkv with z | z
  ·exact h kv z q hq
  ·simp at z;subst z;cases hq;exact hp
def qel (S:List yG) (f:List Str):Prop:=∀s∈S,s.2.1∈f→s.2.2∈f
structure Rch (S:List yG) (x:Str) (f:List Str):Prop where
  st:x∈f
  nd:f.Nodup
  rt:∀y∈f,RT (MK S) x y
structure qo2 (S T:List yG) (x:Str) (f0 f:List Str):Prop where
  r0:f0.Nodup
  r:Rch S x f
  sub:∀y∈f0,y∈f
  le:f0.length≤f.length
  md:∀s∈T,s.2.1∈f0→s.2.2∈f
  cl:qel S f0→f=f0
def Bq (S:List yG) (xs ys:List Str):Option Str:=ys.find? fun x=>decide ((L2.Sv S xs x).length<xs.length)
def restOf (S:List yG) (xs:List Str) (x:Str):List Str:=xs.filter fun y=>!decide (y∈L2.Sv S xs x)
theorem Vs {S:List yG} {xs:List Str} {i:Nat} {x:Str} (h0:Bq S xs (xs.take i)=none) (hx:xs[i]? = some x) (h:(L2.Sv S xs x).length<xs.length):Bq S xs xs=some x:=by
  have e:xs=xs.take i++x::xs.drop (i+1):=by
    have hi:=(List.getElem?_eq_some_iff.mp hx);obtain⟨h1,h2⟩:=hi;rw[← h2,List.getElem_cons_drop,List.take_append_drop]
  unfold Bq at h0 ⊢;generalize hp:(fun x=>decide ((L2.Sv S xs x).length<xs.length))=p at h0 ⊢;have hpx:p x=true:=by rw[← hp];exact decide_eq_true h
  conv=>lhs;arg 2;rw[e]
  rw[List.find?_append,h0];simp[List.find?_cons,hpx]
theorem Vt {S:List yG} {xs:List Str} {i:Nat} {x:Str} (h0:Bq S xs (xs.take i)=none) (hx:xs[i]? = some x) (h:¬(L2.Sv S xs x).length<xs.length):Bq S xs (xs.take (i+1))=none:=by
  unfold Bq at h0 ⊢;rw[List.take_add_one,hx,List.find?_append,h0];simp[List.find?_cons,h]
theorem qo3 {m:Nat} (h:1≤m):(0:Int)<m:=by omega
theorem zlt {m b:Nat} {c:Int} (h:m≤b) (hb:(b:Int)<c):(m:Int)<c:=by omega
theorem zlo {f:Int} (h:0≤f) : -4611686018427387904≤f:=by omega
theorem zhi {f c:Int} (h:f<c) (hc:c≤4611686018427387904):f<4611686018427387904:=Int.lt_of_lt_of_le h hc
theorem qo4 {f:Nat} : -4611686018427387904≤(f:Int):=by omega
theorem ztn {d:Int} {m b:Nat} (h0:0≤d) (h:d<m) (hb:m≤b):d.toNat+1≤b:=by omega
theorem qo5 {d:Int} (h:0≤d) (c:Int):c+d=max d 0+c:=by omega
theorem zsz {a b:Nat} (h:a<b) (hb:b≤20):a<sizeLine:=Nat.lt_of_lt_of_le h (Nat.le_trans hb (of_eq_true K_))
theorem qo6 {a b:Nat} (h:a≤b) (hb:b≤20):a≤sizeLine:=Nat.le_trans h (Nat.le_trans hb (of_eq_true K_))
theorem z01 {d:Int} (h:0≤d) (h2:d<2):d=0∨d=1:=by omega
theorem z2 {n:Nat} (h:(1:Int)<n):2≤n:=by omega
theorem zk1 {k t:Nat} (h:t≤k):(0:Int)<k - t+1:=by omega
theorem zk2 {k t:Nat} {c:Int} (h:k≤20) (hc:21<c):(k:Int) - t+1<c:=by omega
theorem zk3 {f:Int} {k t p:Nat} (h0:0≤f) (h:f<k - t+1) (e:t=p):p+f.toNat≤k+0:=by omega
theorem zk4 {t p f k i:Nat} (e:t=p) (h:p+f≤k+i) (hi:i<f) (hk:k≤20):t<sizeLine:=by
  have:=of_eq_true K_;omega
theorem zk5 {p f k i:Nat} (h:p+f≤k+i) (hi:i<f) (hk:k≤20):p≤19:=by omega
theorem zk6 {p f k i:Nat} (h:p+f≤k+i):p+1+f≤k+(i+1):=by omega
theorem zk7 {p f k:Nat} (h:p+f≤k+f):p≤k:=Nat.le_of_add_le_add_right h
theorem qo7 {lo i n:Nat} (h:i<n - lo):lo+i<n:=by omega
theorem zn1 {b i:Nat}:0≤((b:Int)+5 * i) % 26:=by omega
theorem zn2 {b i:Nat}:((b:Int)+5 * i) % 26<26:=by omega
theorem zn3 {b i c:Nat} (h:((b:Int)+5 * i) % 26=c):c=(b+5 * i) % 26:=by omega
theorem zn4 {j y:Nat} {e:Int} (h:j<e.toNat) (he:e<4) (hy:y=j):y<sizeLine:=by
  have:=of_eq_true K_;omega
theorem zn5 {y:Nat} {e:Int} (h:y=e.toNat) (he:e<4):y+y * 0≤16777216:=by omega
theorem zn6 {y:Nat} {e:Int} (h:y=e.toNat) (he:e<4):1+y≤4:=by omega
theorem zn7 {i j w b:Nat} (hi:i<w) (hj:j<w) (hij:i<j) (hw:w≤9) (z:(b+5 * j) % 26=(b+5 * i) % 26):False:=by omega
theorem zn8 {j w:Nat} (h:¬j<w) (h2:j - w=0):j=w:=by omega
theorem zpa (c:Int):0≤if 1000000000000000000<c then c - 1000000000000000000 else 0:=by split <;> omega
theorem zpb (c:Int) (k:Nat):0≤c % 2147483629+977 * (k:Int)+1:=by omega
theorem zpc (c:Int) {k:Nat} (h:k<100):c % 2147483629+977 * (k:Int)+1<4294967296:=by omega
theorem zs1 {s i t p:Nat} (h:s≤2 * i+1) (hi:i<t) (e:t=p) (hp:p≤20):s<sizeLine:=by
  have:60<sizeLine:=by decide
  omega
theorem zs2 {s i:Nat} (h:s≤2 * i+1):s+1≤2 * (i+1):=by omega
theorem zs3 {s t p:Nat} (h:s≤2 * t) (e:t=p) (hp:p≤20):s≤40:=by omega
end L2
namespace L2
open PySem PySem.Spec PyProof.Rows
mutual
def bW (H:Hp):PyData→V→Prop
  | .none,v=>v = .non
  | .bool b,v=>v = .bl b
  | .int i,v=>v = .int i
  | .str x,v=>v = .str x
  | .list ds,v=>∃a xs,v = .ref a∧H a=some (.lst xs)∧aX H ds xs
  | .tuple ds,v=>∃a xs,v = .ref a∧H a=some (.tup xs)∧aX H ds xs
  | .dict kvs,v=>kvs=[]∧∃a,v = .ref a∧H a=some (.dK [])
def aX (H:Hp):List PyData→List V→Prop
  | [],vs=>vs=[]
  | d::ds,vs=>∃v r,vs=v::r∧bW H d v∧aX H ds r
end
mutual
theorem bW.same {H H':Hp} (s:Same H H'):∀(d:PyData) (v:V),bW H d v→bW H' d v
  | .none,v,h=>by simp only[bW] at h ⊢;exact h
  | .bool b,v,h=>by simp only[bW] at h ⊢;exact h
  | .int i,v,h=>by simp only[bW] at h ⊢;exact h
  | .str x,v,h=>by simp only[bW] at h ⊢;exact h
  | .list ds,v,h=>by
    simp only[bW] at h ⊢;obtain⟨a,xs,e,h1,h2⟩:=h;exact⟨a,xs,e,s _ _ h1,aX.same s ds xs h2⟩
  | .tuple ds,v,h=>by
    simp only[bW] at h ⊢;obtain⟨a,xs,e,h1,h2⟩:=h;exact⟨a,xs,e,s _ _ h1,aX.same s ds xs h2⟩
  | .dict kvs,v,h=>by
    simp only[bW] at h ⊢;obtain⟨e0,a,e,h1⟩:=h;exact⟨e0,a,e,s _ _ h1⟩
theorem aX.same {H H':Hp} (s:Same H H'):∀(ds:List PyData) (vs:List V),aX H ds vs→aX H' ds vs
  | [],vs,h=>by simp only[aX] at h ⊢;exact h
  | d::ds,vs,h=>by
    simp only[aX] at h ⊢;obtain⟨v,r,e,h1,h2⟩:=h;exact⟨v,r,e,bW.same s d v h1,aX.same s ds r h2⟩
end
theorem aX.ints (H:Hp):∀ns:List Int,aX H (ns.map PyData.int) (ns.map V.int)
  | []=>by simp[aX]
  | n::ns=>by simp only[List.map_cons,aX];exact⟨_,_,rfl,by simp[bW],aX.ints H ns⟩
theorem aX.append {H:Hp}:∀{ds es:List PyData} {xs ys:List V},aX H ds xs→aX H es ys→aX H (ds++es) (xs++ys)
  | [],_,_,_,h,q=>by simp only[aX] at h;subst h;exact q
  | d::ds,_,_,_,h,q=>by
    simp only[aX] at h;obtain⟨v,r,rfl,h1,h2⟩:=h;simp only[List.cons_append,aX];exact⟨_,_,rfl,h1,aX.append h2 q⟩
theorem aX.length {H:Hp}:∀{ds:List PyData} {xs:List V},aX H ds xs→ds.length=xs.length
  | [],_,h=>by simp only[aX] at h;subst h;rfl
  | d::ds,_,h=>by
    simp only[aX] at h;obtain⟨v,r,rfl,h1,h2⟩:=h;simp[aX.length h2]
theorem aX.at {H:Hp}:∀{ds:List PyData} {xs:List V} {i:Nat} {v:V},aX H ds xs→xs[i]? = some v→∃d,ds[i]? = some d∧bW H d v
  | [],_,i,v,h,e=>by simp only[aX] at h;subst h;simp at e
  | d::ds,_,0,v,h,e=>by
    simp only[aX] at h;obtain⟨w,r,rfl,h1,h2⟩:=h;simp at e;subst e;exact⟨d,rfl,h1⟩
  | d::ds,_,i+1,v,h,e=>by
    simp only[aX] at h;obtain⟨w,r,rfl,h1,h2⟩:=h;exact aX.at (i:=i) h2 (by simpa using e)
def hid (p:Addr) (H:Hp):Hp:=fun b=>if b=p then none else H b
theorem iu {p:Addr} {H:Hp}:Same (hid p H) H:=fun b o e=>by
  unfold hid at e;split at e
  ·cases e
  ·exact e
theorem iU {p:Addr} {H H':Hp} (s:But p H H'):Same (hid p H) (hid p H'):=fun b o e=>by
  unfold hid at e ⊢;split at e
  ·cases e
  ·rename_i h;rw[if_neg h];exact s b o h e
theorem b_ {p:Addr} {H H':Hp} (s:Same H H'):Same (hid p H) (hid p H'):=iU fun b o _ e=>s b o e
theorem uV {p b:Addr} {H:Hp} {o:HO} (h:b≠p) (e:H b=some o):hid p H b=some o:=by
  unfold hid;rw[if_neg h];exact e
section
variable {X:Cx} {p_:List (Addr×Obj)} {σ:St} {H:Hp} {s:Shared} {K:W.Frag}
theorem Xq {P:Program} {w:World} {h:Heap} {a:Addr} (ok:Du P w H h) (e:H a=some (.dK [])):Reads h (.ref a) (.dict []) [a]∧(a == sysModules)=false:=by
  obtain⟨_,hd,vs,kv,o,es,ep,h1,h2,h3,_,h5,_⟩:=Y4 ok e;refine⟨?_,hd⟩;have ev:vs=[]:=by cases kv;rfl
  subst ev;have el:es.toList=[]:=by
    generalize es.toList=l at h5;cases h5;rfl
  have:=Reads.dict (kvs:=[]) (as:=[]) (bs:=[]) h1 h2.1 h3 (by rw[el];exact .nil) (by rw[el];exact .nil);exact this
mutual
theorem bW.reads (I:Inv X p_ σ H s):∀(d:PyData) (v:V) (u:Value),bW H d v→RelV v u→∃as,Reads s.heap u d as
  | .none,v,u,h,r=>by
    simp only[bW] at h;subst h;cases r;exact⟨_,.none⟩
  | .bool b,v,u,h,r=>by
    simp only[bW] at h;subst h;cases r;exact⟨_,.bool b⟩
  | .int i,v,u,h,r=>by
    simp only[bW] at h;subst h;obtain⟨t,rfl⟩:=r;exact⟨_,.int i t⟩
  | .str x,v,u,h,r=>by
    simp only[bW] at h;subst h;obtain⟨t,rfl⟩:=r;exact⟨_,.str x t⟩
  | .list ds,v,u,h,r=>by
    simp only[bW] at h;obtain⟨a,xs,rfl,hq,hs⟩:=h;cases r;obtain⟨its,rv,pl,hz⟩:=I.list (cj.of hq);obtain⟨o,e,c,n,dt⟩:=pl.isList;obtain⟨as,ra⟩:=aX.reads I ds xs its hs rv;exact⟨_,.list e c dt (by simpa using ra)⟩
  | .tuple ds,v,u,h,r=>by
    simp only[bW] at h;obtain⟨a,xs,rfl,hq,hs⟩:=h;cases r;obtain⟨its,rv,pl,hz⟩:=I.tuple (lR.of hq);obtain⟨o,e,c,n,dt⟩:=pl;obtain⟨as,ra⟩:=aX.reads I ds xs its hs rv;exact⟨_,.tuple e c dt (by simpa using ra)⟩
  | .dict kvs,v,u,h,r=>by
    simp only[bW] at h;obtain⟨rfl,a,rfl,h1⟩:=h;cases r;exact⟨_,(Xq I.hok h1).1⟩
theorem aX.reads (I:Inv X p_ σ H s):∀(ds:List PyData) (vs:List V) (us:List Value),aX H ds vs→Vals vs us→∃as,ReadsAll s.heap us ds as
  | [],vs,us,h,r=>by
    simp only[aX] at h;subst h;cases r;exact⟨_,.nil⟩
  | d::ds,vs,us,h,r=>by
    simp only[aX] at h;obtain⟨v,vr,rfl,h1,h2⟩:=h;cases r with
    | cons r1 r2=>
      obtain⟨as,ra⟩:=bW.reads I d v _ h1 r1;obtain⟨bs,rb⟩:=aX.reads I ds vr _ h2 r2;exact⟨_,.cons ra rb⟩
end
def tLR (ta:TA):TE:=fun σ H Q=>ta σ H fun vs H1=>ar1 vs fun v=>isInt v fun n=>0≤n∧n≤1000∧∀p,H1 p=none→Q (.ref p) (upd H1 p (.lst ((List.range n.toNat).map fun i=>V.int (i:Nat))))
@[simp ↓] theorem qrC ta σ H Q:tLR ta σ H Q=ta σ H fun vs H1=>ar1 vs fun v=>isInt v fun n=>0≤n∧n≤1000∧∀p,H1 p=none→Q (.ref p) (upd H1 p (.lst ((List.range n.toNat).map fun i=>V.int (i:Nat)))):=rfl
theorem Nb:∀(n lo:Nat) (l:List Value),l.length=n→(∀(j:Nat) v,l[j]? = some v→∃t,v = .int (((lo+j:Nat):Int)) t)→Vals ((List.range' lo n).map fun i=>V.int (i:Nat)) l
  | 0,lo,l,h,_=>by
    cases l with
    | nil=>exact .nil
    | cons _ _=>cases h
  | n+1,lo,l,h,q=>by
    cases l with
    | nil=>cases h
    | cons x r=>
      rw[List.range'_succ,List.map_cons];refine .cons ?_ (Nb n (lo+1) r (by simpa using h) fun j v e=>?_)
      ·obtain⟨t,rfl⟩:=q 0 x rfl;exact⟨t,rfl⟩
      ·obtain⟨t,rfl⟩:=q (j+1) v (by simpa using e);exact⟨t,by rw[show lo+(j+1)=lo+1+j by omega]⟩
theorem Tf (hc:X.calm=true) {a:Expr} {ta:TA} {p p2 pos pos2:Pos} (hg1:Gl X "list") (hm1:X.mg "list" = none) (hg2:Gl X "range") (hm2:X.mg "range" = none) (ha:PA X [a] ta)
    (hs:starEach [a] X.env=[(false,eval a X.env)]:=by rfl)
    (hs1:starEach [.Call (.Name "range" p2) [a] [] pos2] X.env=[(false,eval (.Call (.Name "range" p2) [a] [] pos2) X.env)]:=by rfl) :
    PE X (.Call (.Name "list" p) [.Call (.Name "range" p2) [a] [] pos2] [] pos) (tLR ta):=by
  intro p_ s σ H Q I h;refine wpAny_Call_Name_kw (uP I hg1 hm1 boot_list ?_ (by decide) (by decide));refine PyProof.Rows.callWith_type1 ?_ (by rw[hs1];rfl) (by rfl);rw[hs1];show wpAny _ _ (spliced ((false,eval (.Call (.Name "range" p2) [a] [] pos2) X.env)::[])) _ _ s;refine Calls.spliced_cons ?_;refine wpAny_Call_Name_kw (uP I hg2 hm2 boot_range ?_ (by decide) (by decide));refine PyProof.Rows.callWith_type1 (d9 (ha pos2 p_ s σ H _ I h) fun us s1 z=>?_) (by rw[hs];rfl) (by rfl);obtain⟨vs,H1,I1,r1,q1⟩:=z;obtain⟨v,rfl,q2⟩:=ar1.out q1;obtain⟨n,rfl,h0,h1,q⟩:=isInt.out q2;obtain⟨u,rfl,r⟩:=vals1 r1;obtain⟨t,rfl⟩:=r;refine call_range_1 (Calls.spliced_nil ?_);have hsz:(1000:Nat)≤sizeLine:=by decide
  have en:Builtin.Range.rangeSize 0 n 1=(n.toNat:Int):=by
    rw[rangeSize_one];split <;> omega
  refine call_list_range (n:=n.toNat) (I1.ok.hd hc) (IsRange.new ..) (small_one (by decide) (by decide) (by omega) (by omega)) en (by omega) fun h' tk acc' c' hk hD hit=>?_;have hle:s1.heap.objs.size≤(s1.heap.push {cls:=.type "range",data:=.fields #[.int 0 s1.toks,.int n t,.int 1 (s1.toks+1)]}).objs.size:=by rw[Heap.size_push];exact Nat.le_succ _
  have hf:=I1.hok.fresh hle;refine⟨.ref _,_,I1.laid (t':=tk) (fun b o e=>hk b o (Heap.get?_push_of_some _ e)) hle ?_,rfl,q _ hf⟩;refine(show d8 _ _ _ _ _ (.lst _) from⟨by simp;omega,acc'.toList,c',?_,by simpa using hD⟩);rw[List.range_eq_range'];refine Nb _ 0 _ (by simpa using hit.1) fun j v e=>?_;obtain⟨t,rfl⟩:=hit.2 j v (by simpa using e);exact⟨t,by simp⟩
end
section
variable {prog:Program} {w:World} {A:Around} {E:Value→Shared→Prop} {s:Shared}
theorem Nf {e it:Addr} {i:Int} {Q:Value→Shared→Prop} (he:oE s.heap e it i) (h:Q (.ref e) s):wpAny (model prog w) A (pyIter (.ref e)) Q E s:=by
  obtain⟨f0,f1,old,he,_⟩:=he;have hT:s.TypeIs (.ref e) "enumerate" :=⟨_,he,rfl⟩;refine wpAny_pyIter_slot hT F.slot_enumerate_iter (wpAny_call_entry F.slot_enumerate_iter hT F.entry_enumerate_iter (?_:wpAny _ _ (ret (.ref e)) _ _ s) (F.args_enumerate_iter_1 _));exact wpAny_pure ⟨_,rfl, "enumerate",_,hT,F.slot_enumerate_next.lookup,h⟩
theorem qcq {elts:List Expr} {x1} {pos:Pos} {e it a:Addr} {i:Int} {Q:Unit→Shared→Prop} (he:oE s.heap e it i)
    (hQ:∀h',oE h' e it i→Heap.SameBut e s.heap h'→Q () {s with heap:=h'}):wpAny (model prog w) A (letOwnedTupleGo (.Tuple elts x1 pos) (.ref e) (.ref a)) Q E s:=by
  obtain⟨f0,f1,old,he,hf⟩:=he;unfold letOwnedTupleGo;refine wpAny_bind (wpAny_load he ?_);dsimp only;split
  ·refine wpAny_bind (wpAny_rule ?_);exact wpAny_setField_rec (a:=e) he (by simp) fun h' z hs'=>hQ h' ⟨.none,f1,old,z,.inl rfl⟩ hs'
  ·exact wpAny_pure (hQ s.heap ⟨f0,f1,old,he,hf⟩ ⟨rfl,fun _ _=>rfl⟩)
end
def qem (b:Bool) (K:W.Frag) (a:Addr):It:=
  ⟨fun i H=>∃xs x,RX b K H a xs∧xs[i]? = some x,
   fun i H v H'=>∃t x,v = .ref t∧H t=none∧H'=upd H t (.tup [.int i,x])∧∀xs,RX b K H a xs→xs[i]? = some x,
   fun i H=>∃xs,RX b K H a xs∧xs.length≤i⟩
def LtB (b:Bool) (h:Heap) (a:Addr) (items:Array Value):Prop:=match b with
  | true=>h.IsList a items
  | false=>h.IsTuple a items
theorem Inv.qgJ {X:Cx} {p_:List (Addr×Obj)} {σ:St} {H:Hp} {s:Shared} (I:Inv X p_ σ H s) {b:Bool} {a:Addr} {xs:List V} (h:RX b X.K H a xs) :
    ∃its:List Value,Vals xs its∧its.length≤sizeLine∧LtB b s.heap a its.toArray:=by
  cases b with
  | true=>
    obtain⟨its,rv,pl,hz⟩:=I.list h;exact⟨its,rv,by rw[← rv.length];exact hz,pl.isList⟩
  | false=>
    obtain⟨its,rv,pl,hz⟩:=I.tuple h;exact⟨its,rv,by rw[← rv.length];exact hz,pl⟩
theorem Inv.qcr {X:Cx} {p_:List (Addr×Obj)} {σ:St} {H:Hp} {s:Shared} (I:Inv X p_ σ H s) {b:Bool} {a:Addr} {xs ys:List V} (h:RX b X.K H a xs) (q:RX b X.K H a ys):xs=ys:=by
  cases b with
  | true=>exact I.Dw h q
  | false=>exact I.Qk h q
def ItB (b:Bool) (it a:Addr) (i:Nat) (h:Heap):Prop:=match b with
  | true=>h.IsListIter it a i
  | false=>h.IsTupleIter it a i
theorem ItB.src {b:Bool} {it a:Addr} {items:Array Value} {i:Nat} {h:Heap} (st:ItB b it a i h) (q:LtB b h a items):um b it a items i h:=by
  cases b with
  | true=>exact⟨st,q⟩
  | false=>exact⟨st,q⟩
theorem ItB.of {b:Bool} {it a:Addr} {items:Array Value} {i:Nat} {h:Heap} (st:um b it a items i h):ItB b it a i h:=by
  cases b with
  | true=>exact st.1
  | false=>exact st.1
theorem ItB.keep {b:Bool} {it a:Addr} {i:Nat} {h h':Heap} (st:ItB b it a i h) (k:∀o,h.get? it=some o→h'.get? it=some o):ItB b it a i h':=by
  cases b with
  | true=>obtain⟨o,e,c⟩:=st;exact⟨o,k _ e,c⟩
  | false=>obtain⟨o,e,c⟩:=st;exact⟨o,k _ e,c⟩
theorem ItB.obj {b:Bool} {it a:Addr} {i:Nat} {h:Heap} (st:ItB b it a i h):∃o,h.get? it=some o∧∀v,o.data≠.cell v:=by
  cases b with
  | true=>obtain⟨o,e,_,d⟩:=(show h.IsListIter it a i from st);exact⟨o,e,fun v y=>by rw[d] at y;cases y⟩
  | false=>obtain⟨o,e,_,d⟩:=(show h.IsTupleIter it a i from st);exact⟨o,e,fun v y=>by rw[d] at y;cases y⟩
structure qjg (b:Bool) (e it a:Addr) (i:Nat) (h:Heap):Prop where
  he:oE h e it i
  hi:ItB b it a i h
theorem Xr {b:Bool} {P:Program} {w:World} {K:W.Frag} {es:List Expr} {k:Nat} {pos:Pos} {e it a:Addr} (nei:e≠it) :
    Turn P w K (.Tuple es k pos) (qem b K a) [e,it] e (qjg b e it a) where
  mem:=by simp
  obj:=fun i h st c hc=>by
    simp only[List.mem_cons,List.not_mem_nil,or_false] at hc
    rcases hc with rfl | rfl
    ·obtain⟨f0,f1,old,q,_⟩:=st.he;exact⟨_,q,fun v e=>nomatch e⟩
    ·exact st.hi.obj
  keep:=fun i h h' st kk=>by
    obtain⟨f0,f1,old,q,hf⟩:=st.he;exact⟨⟨f0,f1,old,kk e (by simp) _ q,hf⟩,st.hi.keep fun o z=>kk it (by simp) o z⟩
  item:=by
    intro X hP hw hK hc i p_ s σ H E I hf st hg;subst hP hw hK;obtain⟨xs,x,qa,hx⟩:=hg;obtain⟨its,rv,hz,pl⟩:=I.qgJ qa;obtain⟨u,hu,ru⟩:=rv.get hx;obtain⟨f0,f1,old,hE,_⟩:=id st.he;obtain⟨o1,e1,_⟩:=st.hi.obj;refine MN st.he (st.hi.src pl) (x:=u) (by simpa using hu) fun h' a1 a2 a3 kk=>?_;refine⟨_,rfl,qcq (s:={s with heap:=h',toks:=s.toks+1}) a1 fun h2 b1 sb=>?_⟩;have lt:∀{c o},s.heap.get? c=some o→s.heap.objs.size≠c:=fun e=>Nat.ne_of_gt (Heap.lt_size e);have hn:H s.heap.objs.size=none:=I.hok.fresh (Nat.le_refl _);have kk2:∀c o,c∉[e,it]→s.heap.get? c=some o→h2.get? c=some o:=fun c o hc z=>by
      simp only[List.mem_cons,List.not_mem_nil,or_false,not_or] at hc;exact(sb.2 c hc.1).trans (kk c o hc.1 hc.2 z)
    have I1:Inv X p_ σ H {s with heap:=h2,toks:=s.toks+1}:=I.Fb kk2 hf;have Mr:=sb.extBut _ _ (lt hE) a3;have I2:Inv X p_ σ (upd H s.heap.objs.size (.tup [.int i,x])) {s with heap:=h2,toks:=s.toks+1}:=I.Y5 I1 ⟨_,rfl⟩ ru Mr;refine⟨.ref s.heap.objs.size,_,I2,rfl,⟨s.heap.objs.size,x,rfl,hn,rfl,fun xs' q'=>by rw[I.qcr q' qa];exact hx⟩,?_,fun c hcm=>?_⟩
    ·exact⟨b1,(ItB.of a2).keep fun o z=>(sb.2 it nei.symm).trans z⟩
    · have hne:c≠s.heap.objs.size:=by
        simp only[List.mem_cons,List.not_mem_nil,or_false] at hcm
        rcases hcm with rfl | rfl
        ·exact(lt hE).symm
        ·exact(lt e1).symm
      rw[aV hne];exact(hf c hcm).1
  done:=by
    intro X hP hw hK hc i p_ s σ H E I hf st hg;subst hP hw hK;obtain⟨xs,qa,hl⟩:=hg;obtain⟨its,rv,hz,pl⟩:=I.qgJ qa;have l1:=rv.length;refine MP (I.ok.hd hc) st.he (st.hi.src pl) (by simp;omega) fun h' kk=>⟨rfl,I.Fb (t':=s.toks) (fun c o hcm z=>?_) hf⟩;simp only[List.mem_cons,List.not_mem_nil,or_false,not_or] at hcm;exact kk c o hcm.2 z
  self:=fun _ _ _ _ _ st h=>Nf st.he h
section
variable {X:Cx} {K:W.Frag}
def Zh (K:W.Frag) (t:TA):TI:=fun σ H R=>t σ H fun vs H1=>ar1 vs fun x=>isRef x fun a=>∃b,(∃xs,RX b K H1 a xs)∧R (qem b K a) H1
@[simp ↓] theorem qif K t σ H R:Zh K t σ H R=(t σ H fun vs H1=>ar1 vs fun x=>isRef x fun a=>∃b,(∃xs,RX b K H1 a xs)∧R (qem b K a) H1):=rfl
theorem Vu (hK:X.K=K) {es:List Expr} {k:Nat} {pos':Pos} {a:Expr} {ta:TA} {p pos:Pos} (hg:Gl X "enumerate") (hm:X.mg "enumerate" = none) (ha:PA X [a] ta)
    (hs:starEach [a] X.env=[(false,eval a X.env)]:=by rfl) :
    PI X (.Tuple es k pos') (.Call (.Name "enumerate" p) [a] [] pos) (Zh K ta):=by
  subst hK;intro p_ s σ H R I h;refine Call_ (uP I hg hm JF (PyProof.Rows.callWith_type1 (d9 (ha pos p_ s σ H _ I h) fun us s1 zz=>?_) (by rw[hs];rfl) (by rfl)));obtain⟨vs,H1,I1,r1,q1⟩:=zz;obtain⟨v,rfl,q2⟩:=ar1.out q1;obtain⟨l1,rfl,b,⟨xs,qa⟩,q⟩:=isRef.out q2;obtain⟨u,rfl,r⟩:=vals1 r1;obtain rfl:u=Value.ref l1:=r;obtain⟨its,rv,hz,pl⟩:=I1.qgJ qa;refine yI (b:=b) (items:=its.toArray) (by cases b <;> exact pl) fun h' b1 b2 b3 kk=>?_;refine Nf (s:={s1 with heap:=h'}) b1 ?_;have I2:Inv X p_ σ H1 {s1 with heap:=h'}:=I1.kept (t':=s1.toks) kk;refine⟨s1.heap.objs.size+1,[s1.heap.objs.size+1,s1.heap.objs.size],_,_,H1,rfl,I2,Xr (Nat.succ_ne_self _),⟨b1,ItB.of b2⟩,fun c hc=>?_,q⟩;have hle:s1.heap.objs.size≤c:=by
    simp only[List.mem_cons,List.not_mem_nil,or_false] at hc
    rcases hc with rfl | rfl <;> first | exact Nat.le_add_right _ _ | exact Nat.le_refl _
  exact I1.Ru hle (I1.hok.fresh hle)
end
section
variable {K:W.Frag} {own:List Str} {caps:List Nat} {g:TG} {tt:TT} {te:TE} {D l:Addr} {σ:St} {H:Hp} {Q:Hp→Prop} {d:qgk g tt te Q}
theorem qo8 {b:Bool} (xs:List V) (Pv:Nat→St→Hp→Prop) (h0:Pv 0 (stC own caps σ) H) (hl:∀i σ H,i≤xs.length→Pv i σ H→RX b K H l xs)
    (hs:∀i x t σ H,xs[i]? = some x→H t=none→Pv i σ H→Mz g tt te D (Pv (i+1)) (.ref t) σ (upd H t (.tup [.int i,x]))) (hd:∀σ H,Pv xs.length σ H→Q H):tCm own caps (qem b K l) g tt te Q d D σ H:=by
  refine⟨fun i m σ H=>m=xs.length - i∧i≤xs.length∧Pv i σ H,⟨xs.length,by simp,Nat.zero_le _,h0⟩,?_⟩;rintro i m σ H ⟨rfl,hi,p⟩;have q:=hl i σ H hi p
  by_cases hlt:i<xs.length
  ·refine .inr ⟨⟨xs,xs[i],q,by simp[hlt]⟩,Pv (i+1),fun σ' H' p'=>⟨xs.length - (i+1),by omega,rfl,hlt,p'⟩,fun x H' y=>?_⟩;obtain⟨t,u,rfl,ht,rfl,e⟩:=y;exact hs i u t σ H (e xs q) ht p
  · have:i=xs.length:=by omega
    subst this;exact .inl ⟨⟨xs,q,Nat.le_refl _⟩,hd σ H p⟩
end
theorem Ng {f:Array Value→Array Value} {o:Obj}:(Obj.mapFields f o).dict=o.dict:=by
  obtain⟨c,d,dat,sl⟩:=o;cases dat <;> rfl
def Trc (base h:Heap) (e:Addr) (cls:Value×Option Addr) (fl:Value) (T:Addr):Prop:=
  ∃oe vs oT ts,h.get? e=some oe∧(oe.cls,oe.dict)=cls∧oe.data = .fields vs∧vs[2]? = some .none∧vs[1]? = some (.ref T)∧base.get? T=none∧T≠e∧h.get? T=some oT∧oT.data = .fields ts∧ts[3]? = some fl
structure Stn (base:Heap) (l:List Env) (e:Addr) (cls:Value×Option Addr) (fl:Value) (h h':Heap):Prop where
  stays:base.StaysIn h'
  frames:h'.FunFrames base l
  trc:∃T,Trc base h' e cls fl T
  slots:h.UpToSlots h'
section
variable {M:Model} {A:Around} {E:Value→Shared→Prop} {s:Shared} {base:Heap} {env:Env} {outer l:List Env} {L e:Addr} {Q:Unit→Shared→Prop}
theorem Zi {oe:Obj} {vs:Array Value} {head:Value} {had:Bool} (fr:A.frames=some (env::outer)) (ff:s.heap.FunFrames base (env::outer)) (lf:env.frame=some L) (ee:s.heap.get? e=some oe)
    (st:base.StaysIn s.heap) (nb:base.get? e=none) (de:oe.data = .fields vs) (v2:vs[2]? = some .none) (hq:∀h',Stn base (env::outer) e (oe.cls,oe.dict) (rawInt L) s.heap h'→Q () {s with heap:=h'}) :
    wpAny M A (do let a ← frameOf env;let pl ← entryPlaceOf L had;let b ← EntryCells.newEntry head a .none (rawInt L) .none pl;setField (.ref e) 1 b) Q E s:=by
  have sz2:2<vs.size:=(Array.getElem?_eq_some_iff.mp v2).1;have ne:e∉frs (env::outer):=fun z=>by
    obtain⟨_,o,y,d⟩:=ff.mem z;rw[ee] at y;cases y;exact d vs de
  refine wpAny_bind (wpAny_frameOf_fun fr ff lf fun g1 x1=>?_);refine wpAny_bind (wpAny_entryPlaceOf fun pl okp=>?_);unfold EntryCells.newEntry newFields;refine wpAny_bind (wpAny_newObj_type ?_ (okp.sizeOk5 _ _ _ _ _));have e1:g1.get? e=some oe:=(x1.2.1 e ne).trans ee;have st1:base.StaysIn g1:=fun b o z=>(x1.2.1 b fun y=>by rw[(ff.mem y).1] at z;cases z).trans (st b o z);generalize hR:({cls:=.type "traceback",dict:=none,data:=.fields ([head,.ref L,.none,rawInt L,.none]++(if pl.isEmpty then List.replicate 6 Value.none else pl)).toArray}:Obj)=R
  have dR:∃ts,R.data = .fields ts∧ts[3]? = some (rawInt L)∧R.isFreed=false:=by
    subst hR;exact⟨_,rfl,by simp,rfl⟩
  obtain⟨ts,dR,tR,fR⟩:=dR;have e2:=Heap.get?_push_of_some (h:=g1) R e1;refine wpAny_setField e2 de (Nat.lt_of_succ_lt sz2) (hq _ ?_);have Te:g1.objs.size≠e:=Nat.ne_of_gt (Heap.lt_size e1);have keep:∀{b o},b≠e→g1.get? b=some o→((g1.push R).update e (Obj.mapFields (·.setIfInBounds 1 (Value.ref g1.objs.size)))).get? b=some o:=fun {b o} nb z=>by
    rw[Heap.get?_update_other _ _ (Ne.symm nb)];exact Heap.get?_push_of_some _ z
  have nr:∀{b o},s.heap.get? b=some o→(∀us,o.data≠.fields us)→b≠e:=fun {b o} z d y=>by
    rw[y,ee] at z;cases z;exact d vs de
  have d3:=Obj.data_mapFields de (·.setIfInBounds 1 (Value.ref g1.objs.size));refine⟨fun b o z=>keep (fun y=>by rw[y,nb] at z;cases z) (st1 b o z),ff.of_keeps fun b o z d=>?_,⟨g1.objs.size,?_⟩,fun b o z d=>?_⟩
  ·obtain⟨sl,y⟩:=x1.2.2 b o z;exact⟨_,keep (nr z d) y,rfl⟩
  · refine⟨_,_,R,ts,Heap.get?_update_self _ e2 (Obj.isFreed_of_fields d3),by rw[Obj.cls_mapFields,Ng],d3,?_,?_,st1.fresh,Te,?_,dR,tR⟩
    ·rw[Array.getElem?_setIfInBounds_ne (by decide)];exact v2
    ·simp[Nat.lt_of_succ_lt sz2]
    ·rw[Heap.get?_update_other _ _ (Ne.symm Te)];exact Heap.get?_push_size g1 fR
  ·obtain⟨sl,y⟩:=x1.2.2 b o z;exact⟨sl,keep (nr z d) y⟩
theorem Xu {oe:Obj} {vs:Array Value} (fr:A.frames=some (env::outer)) (ff:s.heap.FunFrames base (env::outer)) (lf:env.frame=some L) (ee:s.heap.get? e=some oe)
    (st:base.StaysIn s.heap) (nb:base.get? e=none) (de:oe.data = .fields vs) (v1:vs[1]? = some .none) (v2:vs[2]? = some .none) (hq:∀h',Stn base (env::outer) e (oe.cls,oe.dict) (rawInt L) s.heap h'→Q () {s with heap:=h'}) :
    wpAny M A (noteFrame (.ref e) env) Q E s:=by
  unfold noteFrame;simp only[lf];refine wpAny_bind (wpAny_field ee de v1 ?_);rw[if_neg (by decide)];exact Zi fr ff lf ee st nb de v2 hq
theorem QM {cls:Value×Option Addr} {T:Addr} (fr:A.frames=some (env::outer)) (ff:s.heap.FunFrames base (env::outer)) (lf:env.frame=some L) (tr:Trc base s.heap e cls .none T)
    (st:base.StaysIn s.heap) (nb:base.get? e=none) (hq:∀h',Stn base (env::outer) e cls (rawInt L) s.heap h'→Q () {s with heap:=h'}) :
    wpAny M A (noteFrame (.ref e) env) Q E s:=by
  obtain⟨oe,vs,oT,ts,ee,rfl,de,v2,v1,nT,Te,eT,dT,t3⟩:=tr;unfold noteFrame;simp only[lf];refine wpAny_bind (wpAny_field ee de v1 ?_);rw[if_pos (by simp)];refine wpAny_bind (wpAny_field eT dT t3 ?_);rw[if_neg (by simp[rawInt])];refine wpAny_bind (wpAny_setField eT dT (Array.getElem?_eq_some_iff.mp t3).1 ?_);have oth:∀{b},b≠T→(s.heap.update T (Obj.mapFields (·.setIfInBounds 3 Value.none))).get? b=s.heap.get? b:=fun n=>Heap.get?_update_other _ _ (Ne.symm n);have nr:∀{b o},s.heap.get? b=some o→(∀us,o.data≠.fields us)→b≠T:=fun {b o} z d y=>by
    rw[y,eT] at z;cases z;exact d ts dT
  refine Zi (s:={s with heap:=s.heap.update T (Obj.mapFields (·.setIfInBounds 3 Value.none))}) fr (ff.of_keeps fun b o z d=>⟨o,(oth (nr z d)).trans z,rfl⟩) lf ((oth (Ne.symm Te)).trans ee) (fun b o z=>(oth fun y=>by rw[y,nT] at z;cases z).trans (st b o z)) nb de v2 fun h' x=>hq h' ⟨x.stays,x.frames,x.trc,fun b o z d=>x.slots b o ((oth (nr z d)).trans z) d⟩
theorem Nh {cls:Value×Option Addr} {fl:Value} {T:Addr} (ff:s.heap.FunFrames base l) (tr:Trc base s.heap e cls fl T) (st:base.StaysIn s.heap) (hq:∀h',Stn base l e cls .none s.heap h'→Q () {s with heap:=h'}) :
    wpAny M A (setFlight (.ref e) none) Q E s:=by
  obtain⟨oe,vs,oT,ts,ee,rfl,de,v2,v1,nT,Te,eT,dT,t3⟩:=tr;have z3:3<ts.size:=(Array.getElem?_eq_some_iff.mp t3).1;unfold setFlight;refine wpAny_bind (wpAny_field ee de v1 ?_);rw[if_pos (by simp)];refine wpAny_setField eT dT z3 (hq _ ?_);have oth:∀{b} (f:Obj→Obj),b≠T→(s.heap.update T f).get? b=s.heap.get? b:=fun f n=>Heap.get?_update_other _ _ (Ne.symm n);have nr:∀{b o},s.heap.get? b=some o→(∀us,o.data≠.fields us)→b≠T:=fun {b o} z d y=>by
    rw[y,eT] at z;cases z;exact d ts dT
  refine⟨fun b o z=>(oth _ fun y=>by rw[y,nT] at z;cases z).trans (st b o z),ff.of_keeps fun b o z d=>⟨o,(oth _ (nr z d)).trans z,rfl⟩,⟨T,oe,vs,_,_,(oth _ (Ne.symm Te)).trans ee,rfl,de,v2,v1,nT,Te,Heap.get?_update_self _ eT (Obj.isFreed_of_fields (Obj.data_mapFields dT _)),Obj.data_mapFields dT _,?_⟩,fun b o z d=>⟨o.slots,(oth _ (nr z d)).trans z⟩⟩;simp[z3]
theorem Zj {cls:Value×Option Addr} (note:∀Q':Unit→Shared→Prop,(∀h',Stn base (env::outer) e cls (rawInt L) s.heap h'→Q' () {s with heap:=h'})→wpAny M A (noteFrame (.ref e) env) Q' E s)
    (hq:∀h',Stn base (env::outer) e cls .none s.heap h'→Q () {s with heap:=h'}):wpAny M A (leaving env (.ref e)) Q E s:=by
  unfold leaving;refine wpAny_bind (note _ fun h1 x1=>?_);obtain⟨T,tr⟩:=x1.trc;exact Nh (s:={s with heap:=h1}) x1.frames tr x1.stays fun h2 x2=>hq h2 ⟨x2.stays,x2.frames,x2.trc,x1.slots.trans x2.slots⟩
end
structure QS (h0 h:Heap) (H:Hp) (a C:Addr) (od:Option Addr):Prop where
  new:h0.get? a=none
  un:H a=none
  ob:∃oe vs,h.get? a=some oe∧(oe.cls,oe.dict)=(Value.ref C,od)∧oe.data = .fields vs∧vs[2]? = some .none∧(vs[1]? = some .none∨
    ∃T oT ts,vs[1]? = some (.ref T)∧T≠a∧h0.get? T=none∧H T=none∧h.get? T=some oT∧oT.data = .fields ts∧ts[3]? = some .none)
structure qcs (h0 h:Heap) (H:Hp) (a C:Addr) (od:Option Addr) (T:Addr):Prop where
  new:h0.get? a=none
  newT:h0.get? T=none
  un:H a=none
  unT:H T=none
  ob:∃oe vs oT ts,h.get? a=some oe∧(oe.cls,oe.dict)=(Value.ref C,od)∧oe.data = .fields vs∧vs[2]? = some .none∧vs[1]? = some (.ref T)∧T≠a∧h.get? T=some oT∧oT.data = .fields ts∧ts[3]? = some .none
theorem qcs.in {h0 h:Heap} {H:Hp} {a C T:Addr} {od:Option Addr} (x:qcs h0 h H a C od T):QS h0 h H a C od:=by
  obtain⟨h1,h2,h3,h4,oe,vs,oT,ts,t1,t2,t3,t4,t5,t6,t7⟩:=x;exact⟨h1,h3,oe,vs,t1,t2,t3,t4,.inr ⟨T,oT,ts,t5,t6,h2,h4,t7⟩⟩
def Pz (P:Program) (w:World):Z_:=fun outer H s E e s'=>∃(a C:Addr) (od:Option Addr) (H':Hp),e = .ref a∧s'.os=s.os∧AllBare s'.gens∧Un (frs outer) [] H H' s.heap s'.heap∧Du P w H' s'.heap∧(∃T,qcs s.heap s'.heap H' a C od T)∧E (.ref C) od H'
theorem qct {P:Program} {w:World} {H:Hp} {h:Heap} (x:Du P w H h) {b:Addr} (e:h.get? b=none):H b=none:=by
  cases q:H b with
  | none=>rfl
  | some u=>
    obtain⟨o,eo⟩:∃o,h.get? b=some o:=by
      have:=x b u q;cases u with
      | lst xs=>obtain⟨_,_,_,_,e⟩:=this;exact⟨_,e⟩
      | tup xs=>obtain⟨_,_,_,o,e,_⟩:=this;exact⟨_,e⟩
      | dK kvs=>obtain⟨_,_,_,_,o,_,_,e,_⟩:=this;exact⟨_,e⟩
      | dT kvs=>obtain⟨_,_,_,_,o,_,_,e,_⟩:=this;exact⟨_,e⟩
      | set S n=>obtain⟨o,_,_,_,e,_⟩:=this;exact⟨_,e⟩
      | ins C dx fs=>obtain⟨_,_,_,e,_⟩:=this;exact⟨_,e⟩
      | own y=>obtain⟨_,e⟩:=this;exact⟨_,e⟩
      | xd fs=>obtain⟨_,⟨_,_,_,e,_⟩,_⟩:=this;exact⟨_,e⟩
      | rng lo hi=>obtain⟨_,_,_,e⟩:=this;exact⟨_,e⟩
      | Ut ob u=>obtain⟨e,_⟩:=this;exact⟨_,e⟩
      | tbl ps=>exact⟨_,(show h.get? b=some _ from this)⟩
      | met f y=>exact⟨_,(show h.get? b=some _ from this)⟩
      | ext φ=>obtain⟨_,⟨o,e⟩,_⟩:=this;exact⟨_,e⟩
    rw[e] at eo;cases eo
section
variable {X:Cx} {p_:List (Addr×Obj)} {σ:St} {H:Hp} {s:Shared}
theorem Inv.old (I:Inv X p_ σ H s) (hex:X.ex=[]) {b:Addr} (e:s.heap.get? b=none):X.s₀.heap.get? b=none:=by
  cases q:X.s₀.heap.get? b with
  | none=>rfl
  | some o=>
    obtain⟨o',eo⟩:=I.base.there b o q (by rw[hex];simp);rw[e] at eo;cases eo
theorem Zk (I:Inv X p_ σ H s) (hex:X.ex=[]) {a C:Addr} {od:Option Addr} {l:List Addr} (hl:∀b∈l,b∈frs X.stack∨(X.s₀.heap.get? b=none∧H b=none)) (ha:X.s₀.heap.get? a=none) (hH:H a=none) (hs:∀b∈frs X.stack,b∈l)
    {E:XK} (hE:E (.ref C) od H) {h':Heap} (x:Stn (W.hideAll s.heap l) X.stack a (.ref C,od) .none s.heap h'):Pz X.prog X.w X.outer X.H₀ X.s₀ E (.ref a) {s with heap:=h'}:=by
  obtain⟨k1,k2,⟨T,oe,vs,oT,ts,t1,t2,t3,t4,tt,t5,t6,t7,t8,t9⟩,k4⟩:=x;have nl:∀{b:Addr} {o:Obj},b∉l→s.heap.get? b=some o→h'.get? b=some o:=fun hb e=>k1 _ _ (W.hideAll_get _ e hb);have qjh:∀{b:Addr} {o:Obj},X.s₀.heap.get? b=some o→b∉X.fs→b∉l:=fun {b o} e hb hm=>by
    rcases hl b hm with z | ⟨z,_⟩
    · rcases List.mem_cons.mp (I.Gn b z) with z | z
      ·rw[z] at e;exact absurd (Heap.lt_size e) (Nat.not_lt.mpr I.ok.above)
      ·exact hb z
    ·rw[z] at e;cases e
  have trL:∀{b:Addr} {u:HO},H b=some u→b∉l:=fun {b u} e hm=>by
    rcases hl b hm with z | ⟨_,z⟩
    ·rw[I.Le b z] at e;cases e
    ·rw[z] at e;cases e
  have fsl:∀{b:Addr} {o:Obj},b∈X.fs→s.heap.get? b=some o→∃sl,h'.get? b=some {o with slots:=sl}:=fun {b o} hb e=>by
    obtain⟨_,o2,e2,hd⟩:=I.Dv.mem hb;rw[e] at e2;cases e2;exact k4 b o e hd
  have nox:∀b:Addr,b∉X.ex:=fun b=>by rw[hex];simp
  refine⟨a,C,od,H,rfl,I.os,I.bare,⟨fun b o e n hb _=>?_,fun b o e n hb _=>?_,fun b o e n _=>I.base.free b o e n (nox b),fun b o e _=>?_,I.base.tups,I.base.Gm,I.base.Hq⟩,fun b u e=>?_,⟨T,ha,?_,hH,?_,oe,vs,oT,ts,t1,t2,t3,t4,tt,t6,t7,t8,t9⟩,hE⟩
  ·exact nl (qjh e hb) (I.base.keep b o e n hb (nox b))
  ·obtain⟨sl,e2⟩:=I.base.slot b o e n hb (nox b);obtain⟨sl',e3⟩:=fsl hb e2;exact⟨sl',e3⟩
  · obtain⟨o',e2⟩:=I.base.there b o e (nox b)
    by_cases hb:b∈X.fs
    ·obtain⟨sl,e3⟩:=fsl hb e2;exact⟨_,e3⟩
    ·exact⟨o',nl (qjh e hb) e2⟩
  · refine(I.hok b u e).stay (fun c v hc q=>?_) (fun c q=>q) fun c xs q=>q
    rcases hc with rfl | hc
    ·exact nl (trL e) q
    ·exact nl (trL hc) q
  all_goals
    have hT:T∉frs X.stack:=fun hm=>by
      obtain⟨_,o2,e2,hd⟩:=k2.mem hm;rw[t7] at e2;cases e2;exact hd _ t8
    have cs:s.heap.get? T=none∨(X.s₀.heap.get? T=none∧H T=none):=by
      cases q:s.heap.get? T with
      | none=>exact .inl rfl
      | some o=>
        by_cases hm:T∈l
        ·exact .inr ((hl T hm).resolve_left hT)
        ·rw[W.hideAll_get _ q hm] at t5;cases t5
  ·exact cs.elim (fun z=>I.old hex z) fun z=>z.1
  ·exact cs.elim (fun z=>qct I.hok z) fun z=>z.2
theorem qcu (I:Inv X p_ σ H s) (hst:X.stack=X.env::X.outer) (hfr:X.env.frame=some X.env.locals) (hex:X.ex=[]) {a C:Addr} {od:Option Addr} (x:QS X.s₀.heap s.heap H a C od) {E:XK} (hE:E (.ref C) od H) {E':Value→Shared→Prop} :
    wpAny (model X.prog X.w) X.A (leaving X.env (.ref a)) (fun _ s''=>Pz X.prog X.w X.outer X.H₀ X.s₀ E (.ref a) s'') E' s:=by
  obtain⟨new,un,oe,vs,he,hc,hd,h0,hT⟩:=x;have fr:=I.ok.frames;rw[hst] at fr;have qfc:∀l:List Addr,s.heap.FunFrames (W.hideAll s.heap (frs X.stack++l)) (X.env::X.outer):=fun l=>by
    rw[← hst];exact W.funFrames_hide I.stack fun env he b hb=>List.mem_append_left _ (List.mem_filterMap.mpr ⟨env,he,hb⟩)
  rcases hT with h1 | ⟨T,oT,ts,h1,h2,h3,h4,h5,h6,h7⟩
  · refine Zj (base:=W.hideAll s.heap (frs X.stack++[a])) (fun Q' q=>Xu fr (qfc _) hfr he (fun b o e=>W.of_hideAll _ e) (W.hideAll_none _ (by simp)) hd h1 h0 q) fun h' hL=>?_;rw[hc,← hst] at hL;refine Zk I hex (fun b hb=>?_) new un (fun b hb=>List.mem_append_left _ hb) hE hL
    rcases List.mem_append.mp hb with z | z
    ·exact .inl z
    ·rw[List.mem_singleton.mp z];exact .inr ⟨new,un⟩
  · refine Zj (base:=W.hideAll s.heap (frs X.stack++[a,T])) (cls:=(.ref C,od)) (fun Q' q=>QM fr (qfc _) hfr (T:=T) ⟨oe,vs,oT,ts,he,hc,hd,h0,h1,W.hideAll_none _ (by simp),h2,h5,h6,h7⟩ (fun b o e=>W.of_hideAll _ e) (W.hideAll_none _ (by simp)) q) fun h' hL=>?_;rw[← hst] at hL;refine Zk I hex (fun b hb=>?_) new un (fun b hb=>List.mem_append_left _ hb) hE hL
    rcases List.mem_append.mp hb with z | z
    ·exact .inl z
    · simp only[List.mem_cons,List.not_mem_nil,or_false] at z
      rcases z with rfl | rfl
      ·exact .inr ⟨new,un⟩
      ·exact .inr ⟨h3,h4⟩
theorem QS.back {h0 h1 h:Heap} {H:Hp} {a C:Addr} {od:Option Addr} (x:QS h1 h H a C od) (k:∀b,h1.get? b=none→h0.get? b=none):QS h0 h H a C od:=by
  obtain⟨new,un,oe,vs,he,hc,hd,h2,hT⟩:=x;refine⟨k _ new,un,oe,vs,he,hc,hd,h2,?_⟩
  rcases hT with h1 | ⟨T,oT,ts,h1,h2,h3,h4,h5⟩
  ·exact .inl h1
  ·exact .inr ⟨T,oT,ts,h1,h2,k _ h3,h4,h5⟩
def Lets (X:Cx) (E:XK):Prop:=∀(p_:List (Addr×Obj)) (σ:St) (H:Hp) (s:Shared) (a C:Addr) (od:Option Addr),Inv X p_ σ H s→QS X.s₀.heap s.heap H a C od→E (.ref C) od H→X.xe (.ref a) s
theorem fM {P:Program} {w:World} {K:W.Frag} {mg:Str→Option Value} {base:Heap} {N:List Str} {qual:Str} {scope:Scope} {f:Addr} {cd:Value} {A:Around} {outer:List Env} {s:Shared} {H:Hp} {E:XK} :
    Lets (aF (Pz P w) P w K mg base N qual scope f cd A outer s H E) E:=fun p_ σ H1 s1 a C od I x hE=>qcu I rfl rfl rfl x hE
theorem Lets.passes {X:Cx} {E:XK} (h:Lets X E) (hex:X.ex=[]):Passes (Pz X.prog X.w) X E:=fun p_ σ H s e s' I hx=>by
  obtain⟨a,C,od,H',rfl,ho,hg,un,hok,⟨T,ex⟩,hE⟩:=hx;have I':Inv X p_ σ H' s':=I.call' (ch:=[]) ho un hok hg fun b z=>(nomatch z);exact h p_ σ H' s' a C od I' (ex.in.back fun b e=>I.old hex e) hE
theorem Tg {K:W.Frag} {h:Heap} {C:Addr} {bmB:List Value} {newId:String} (X:K.In h) (q:W.excIn K C bmB newId=true) :
    ∃bm N nm q bs hdct sn sub ab col dd k0 k1 k2 k3 k5 mN,h.get? C=some (excClassObj nm q C N bs bm hdct sn sub ab col dd k0 k1 k2 k3 k5 newId)∧h.Ns N mN∧mN "__init__" = none∧OwnTail h bmB bm∧∀v b,W.mroIn K C v=some b→(Value.ref C::bm).contains v=b:=by
  unfold W.excIn at q;split at q
  · rename_i dd cd sl ho;split at q
    · rename_i C' bm k0 k1 k2 k3 n k5 hm hs;simp only[Bool.and_eq_true,beq_iff_eq,Bool.not_eq_true'] at q;obtain⟨⟨⟨⟨⟨rfl,rfl⟩,hdel⟩,ht⟩,hok⟩,hni⟩:=q;obtain⟨nm,bs,mro,ns,qn,hd,sn,sub,ab,col,del⟩:=cd;dsimp only at hm hdel hok hni;subst hm hdel;obtain rfl:sl = #[k0,k1,k2,k3,some (.builtin n),k5]:=by
        obtain⟨l⟩:=sl;simp only at hs;rw[hs]
      exact⟨bm,ns,nm,qn,bs,hd,sn,sub,ab,col,dd,k0,k1,k2,k3,k5,_,X _ _ ho,.of_isNs (W.isNs_of_in X hok),W.nsMap_none_of_in X hok hni,W.tail_of_in X ht,fun v b e=>by
        unfold W.mroIn W.clsIn at e;rw[ho] at e;simpa using e⟩
    ·cases q
  ·cases q
abbrev Ga:List Value:=[.type "ValueError",.type "Exception",.type "BaseException",.type "object"]
def Br (K:W.Frag) (C:Addr):Prop:=W.excIn K C Ga "ValueError.__new__" = true
def qcv (C:Addr) (E:XK) (ta:TA):TS:=fun _ σ H=>ta σ H fun vs H1=>vs.length≤sizeLine∧E (.ref C) none H1
@[simp ↓] theorem qji C E ta D σ H:qcv C E ta D σ H=ta σ H fun vs H1=>vs.length≤sizeLine∧E (.ref C) none H1:=rfl
theorem Ia {X:Cx} {E:XK} {C:Addr} {x:Str} {np cpos pos:Pos} {e:Expr} {es:List Expr} {ta:TA} (hL:Lets X E) (hex:X.ex=[]) (hc:X.calm=true) (cl:Br X.K C) (hg:Gl X x) (hm:X.mg x=some (.ref C)) (ha:PA X (e::es) ta)
    (hdb:(x == ("__debug__" : Str))=false:=by decide) (hs:starEach (e::es) X.env=(false,eval e X.env)::starEach es X.env:=by rfl) (hpl:(backTo cpos (starEach (e::es) X.env)).any (·.1)=false:=by rfl) :
    PS X (.Raise (some (.Call (.Name x np) (e::es) [] cpos)) none pos) (qcv C E ta):=by
  intro p_ s σ H D I h;obtain⟨bm,N,nm,q,bs,hdct,sn,sub,ab,col,dd,k0,k1,k2,k3,k5,mN,hC0,hN0,hni,T0,_⟩:=Tg I.ok.mod.kin cl;refine wpAny_Raise_call_subT (bm:=bm) (N:=N) (nm:=nm) (q:=q) (bs:=bs) (hdct:=hdct) (sn:=sn) (sub:=sub) (ab:=ab) (col:=col) (dd:=dd) (k0:=k0) (k1:=k1) (k2:=k2) (k3:=k3) (k5:=k5) (mN:=mN) (C:=C) PySem.F.excBase_ValueError (T0.hasType (by decide)) (I.ok.hd hc) hpl hni ?_;refine Bj I hg hm ⟨rfl,?_⟩ hdb;have hp:=fun Q q=>ha cpos p_ s σ H Q I q;rw[hs] at hp ⊢;show wpAny _ _ (evalArgs (.ref C) true ((false,eval e X.env)::backTo cpos (starEach es X.env)) []) _ _ s;refine Calls.evalArgs_plain (d9 (hp _ h) fun us s1 zz=>?_);obtain⟨vs,H1,I1,r1,hz,hE⟩:=zz;refine⟨rfl,by rw[← r1.length];exact hz,I1.bk _ _ hC0,hN0.keeps I1.bk,T0.keeps I1.bk,fun h' a mk=>?_⟩;obtain⟨t,ht,htn,htt⟩:=mk.there;have I2:Inv X p_ σ H1 {s1 with heap:=h',toks:=s1.toks}:=I1.kept mk.keeps;exact hL p_ σ H1 _ a C none I2 ⟨I1.old hex mk.new,qct I1.hok mk.new,_,_,ht,rfl,rfl,rfl,.inl rfl⟩ hE
theorem p7.okE {P:Program} {w:World} {K:W.Frag} {mg:Str→Option Value} {base:Heap} {x qual:Str} {st:Stmt} {f:Addr} {fd:FuncData} {N ps:List Str} {k:Nat} {sp:Sp} (F:p7 K x qual st f fd) (S:bF N ps (ao st)) (len:∀vs H Q E,sp vs H Q E→vs.length=ps.length)
    (hbody:∀(cdv:Value) (A:Around) (outer:List Env) (s:Shared) (H:Hp) (vs:List V) (Q:VK) (E:XK),nH k (A.deeper (envOfC qual (ao st) s.heap.objs.size f cdv))→sp vs H Q E→
      ∃t,Ph (aF (Pz P w) P w K mg base N qual (ao st) f cdv A outer s H E) (aM st) t∧t {nx:=fun _ H'=>Q .non H',rt:=Q} (start N vs) H):cT P w K mg base (Pz P w) (k+1) f fd ps sp:=by
  obtain⟨oc,od,kV,doc,pm,an,cdv,ct,osl,rfl,lk,hcd⟩:=F.ex;exact qeS lk hcd S len fun A outer s H vs Q E hr hsp=>hbody cdv A outer s H vs Q E hr hsp
theorem Inv.gone {X:Cx} {p_:List (Addr×Obj)} {σ:St} {H:Hp} {s:Shared} {h':Heap} {t':Nat} {ch:List Addr} (I:Inv X p_ σ H s) (hex:X.ex=[])
    (hch:∀b∈ch,X.s₀.heap.get? b=none∧H b=none∧(∀vs o,s.heap.get? b=some o→o.data = .fields vs→True)∧(∃o vs,s.heap.get? b=some o∧o.data = .fields vs)∧∀p∈X.pn++p_,p.1≠b)
    (k1:∀b o,b∉frs X.stack→b∉ch→s.heap.get? b=some o→h'.get? b=some o) (k2:∀b o,s.heap.get? b=some o→(∀vs,o.data≠.fields vs)→∃sl,h'.get? b=some {o with slots:=sl}) :
    Inv X p_ σ H {s with heap:=h',toks:=t'}:=by
  have nf:∀{b o},s.heap.get? b=some o→(∀vs,o.data≠.fields vs)→b∉ch:=fun {b o} e hd hb=>by
    obtain⟨_,_,_,⟨o2,vs,e2,d2⟩,_⟩:=hch b hb;rw[e] at e2;cases e2;exact hd vs d2
  have fsl:∀{b:Addr} {o:Obj},b∈frs X.stack→s.heap.get? b=some o→∃sl,h'.get? b=some {o with slots:=sl}:=fun {b o} hb e=>by
    obtain⟨_,o2,e2,hd⟩:=I.stack.mem hb;rw[e] at e2;cases e2;exact k2 b o e hd
  have ex1:∀{b:Addr} {o:Obj},b∉ch→s.heap.get? b=some o→∃o',h'.get? b=some o':=fun {b o} hb e=>by
    by_cases hf:b∈frs X.stack
    ·obtain⟨sl,z⟩:=fsl hf e;exact⟨_,z⟩
    ·exact⟨o,k1 b o hf hb e⟩
  have old:∀{b:Addr} {o:Obj},X.s₀.heap.get? b=some o→b∉ch:=fun e hb=>by
    rw[(hch _ hb).1] at e;cases e
  have qo9:∀{b:Addr} {o:Obj},X.s₀.heap.get? b=some o→b∉X.fs→b∉frs X.stack:=fun {b o} e hb hm=>by
    rcases List.mem_cons.mp (I.Gn b hm) with z | z
    ·rw[z] at e;exact absurd (Heap.lt_size e) (Nat.not_lt.mpr I.ok.above)
    ·exact hb z
  have nox:∀b:Addr,b∉X.ex:=fun b=>by rw[hex];simp
  have cells:∀{c:Addr} {v:Option Value},s.heap.IsCell c v→h'.IsCell c v:=fun {c v} ⟨o,e,d⟩=>by
    obtain⟨sl,z⟩:=k2 c o e (fun vs q=>by rw[d] at q;cases q);exact⟨_,z,d⟩
  have subs:∀{b:Addr},b∈X.fs→b∈frs X.stack:=fun {b} hb=>by
    rcases I.ok.stk with e | ⟨e,hf⟩
    ·rw[e];exact hb
    ·rw[e];show b∈List.filterMap _ (X.env::X.outer);rw[List.filterMap_cons,hf];exact List.mem_cons_of_mem _ hb
  refine⟨I.ok,I.os,I.bare,⟨fun b o e n hb hx=>?_,fun b o e n hb hx=>?_,I.base.free,fun b o e hx=>?_,I.base.tups,I.base.Gm,I.base.Hq⟩,?_,fun x c e=>?_,I.free,I.p8,fun p hp=>?_,fun b u e=>?_,I.len⟩
  ·exact k1 b o (qo9 e hb) (old e) (I.base.keep b o e n hb hx)
  ·obtain⟨sl,z⟩:=I.base.slot b o e n hb hx;obtain⟨sl',z'⟩:=fsl (subs hb) z;exact⟨sl',z'⟩
  ·obtain⟨o',z⟩:=I.base.there b o e hx;exact ex1 (old e) z
  · obtain⟨m,⟨o,es,ep,e,d,r⟩,q⟩:=I.loc;obtain⟨sl,z⟩:=k2 _ o e (fun vs y=>by rw[d] at y;cases y);refine⟨m,⟨_,es,ep,z,d,r⟩,fun i x v e1 e2 e3=>?_⟩;obtain⟨u,rv,l⟩:=q i x v e1 e2 e3;refine⟨u,rv,?_⟩
    rcases l with l | ⟨kd,c,ec,y⟩
    ·exact .inl l
    ·exact .inr ⟨kd,c,ec,cells y⟩
  ·obtain⟨v,z⟩:=I.cell x c e;exact⟨v,cells z⟩
  · obtain⟨e,n,ne,nfs,d⟩:=I.pin p hp;refine⟨k1 _ _ (fun hm=>?_) (fun hm=>(hch _ hm).2.2.2.2 p hp rfl) e,n,ne,nfs,d⟩
    rcases List.mem_cons.mp (I.Gn _ hm) with z | z
    ·exact ne z
    ·exact nfs z
  · have no:∀{c:Addr} {u:HO},H c=some u→c∉frs X.stack∧c∉ch:=fun {c u} q=>⟨fun hm=>(by rw[I.Le _ hm] at q;cases q),fun hm=>(by rw[(hch _ hm).2.1] at q;cases q)⟩;refine(I.hok b u e).stay (fun c v hc q=>?_) (fun c q=>q) fun c xs q=>q
    rcases hc with rfl | hc
    ·exact k1 _ _ (no e).1 (no e).2 q
    ·exact k1 _ _ (no hc).1 (no hc).2 q
end
end L2
namespace L2
open PySem PySem.Spec PySem.W PyProof.Rows
section
variable {prog:Program} {w:World} {A:Around} {E:Value→Shared→Prop} {K:W.Frag} {h:Heap} {g:Array GenState} {d:Drawn} {t:Nat} {os:OsState} {x C:Addr}
structure Bs (K:W.Frag) (C:Addr):Prop where
  ga:findIn K (.ref C) "__getattribute__" = some (some (.builtin "BaseException.__getattribute__"))
  gn:findIn K (.ref C) "__getattr__" = some none
  cl:findIn K (.ref C) "__class__" = some (some (.builtin "object.__class__"))
  sp:specialIn K (.builtin "object.__class__") "__get__" = some (some (.builtin "getset_descriptor.__get__"))
  tk:takesIn K (.builtin "object.__class__")=some true
  mo:mroIn K C (.type "object")=some true
  mb:mroIn K C (.type "BaseException")=some true
def Bt (x C:Addr) (h:Heap):Prop:=∃ox vs,h.get? x=some ox∧ox.cls = .ref C∧ox.data = .fields vs∧vs[2]? = some .none
theorem Bt.type {M:Model} (e:Bt x C h):Looks M h (typeOf (.ref x)) (.ref C):=by
  obtain⟨ox,vs,h1,h2,_⟩:=e;exact h2▸(Looks.ld h1).andThen .now
theorem qen {R:Result→Shared→Prop} {tp:Value} (X:K.In h) (I:Bt x C h) (L:Bs K C) (hq:R (.ok (.ret (.ref C))) ⟨h,g,d,t,os⟩) :
    codeAny (model prog w) A (.call (.builtin "getset_descriptor.__get__") ⟨[.builtin "object.__class__",.ref x,tp],[]⟩) R ⟨h,g,d,t,os⟩:=by
  have L0:=I.type (M:=model prog w);have L1:=looks_mroIn (M:=model prog w) X L.mo;have hT5:(⟨h,g,d,t,os⟩:Shared).TypeIs (.builtin "object.__class__") "getset_descriptor" :=F.typeOf_object_class;refine codeAny_call_builtin F.slot_gs_get.plain F.entry_gs_get (F.slot_gs_get.check _ _ _ _ _ _ _ _ hT5 (F.args_gs_get _ _ _) ?_)
  repeat (any_goals (first | assumption | with_reducible refine L0.at ?_ | with_reducible refine L1.at ?_ | wp_step))
  rw[show(".".intercalate ("object.__class__".cutAt '.').dropLast) = "object" by decide+kernel];refine L1.at ?_
  repeat (any_goals (first | assumption | with_reducible refine L0.at ?_ | wp_step))
  refine⟨Code.quiet_builtin _ (by decide+kernel),codeAny_builtin KF.entry_class ?_⟩;unfold Builtin.«object.__class__»
  repeat (any_goals (first | assumption | with_reducible refine L0.at ?_ | wp_step))
theorem qaB {tk:Tok} {Q:PySem.Fin→Shared→Prop} (X:K.In h) (I:Bt x C h) (L:Bs K C) (hq:Q (.done (.ret (.ref C))) ⟨h,g,d,t,os⟩) :
    wpAny (model prog w) A (Builtin.«object.__getattribute__» ⟨[.ref x,.str "__class__" tk],[]⟩) Q E ⟨h,g,d,t,os⟩:=by
  have L0:=I.type (M:=model prog w);have L1:=looks_findIn (M:=model prog w) X L.cl;have hT5:(⟨h,g,d,t,os⟩:Shared).TypeIs (.builtin "object.__class__") "getset_descriptor" :=F.typeOf_object_class;have f5:=F.typeOf_object_class;have f6:=F.slot_gs_get.lookup;have f7:=F.slot_gs_set.lookup
  repeat (any_goals (first | assumption | with_reducible refine L0.at ?_ | with_reducible refine L1.at ?_ | wp_step))
  refine qen X I L ?_
  repeat (any_goals (first | assumption | wp_step))
theorem qaC {M:Model} {nameV:Value} {Q:Unit→Shared→Prop} (X:K.In h) (I:Bt x C h) (L:Bs K C) (hq:Q () ⟨h,g,d,t,os⟩) :
    wpAny M A (checkBuiltinCall "BaseException.__getattribute__" ⟨[.ref x,nameV],[]⟩) Q E ⟨h,g,d,t,os⟩:=by
  have hk:builtinKind "BaseException.__getattribute__" = some .slot:=by decide+kernel
  have hs:splitId "BaseException.__getattribute__" = some ("BaseException", "__getattribute__"):=by decide+kernel
  have L0:=I.type (M:=M);have L1:=looks_mroIn (M:=M) X L.mb;have ha:=F.args_bexc_ga (.ref x) nameV;simp only[checkBuiltinCall,hk,hs];refine wpAny_bind ?_;unfold isInstance
  repeat (first | with_reducible refine L0.at ?_ | with_reducible refine L1.at ?_ | wp_step)
  exact hq
theorem qgK {tk:Tok} {fill:Bool} {Q:Value→Shared→Prop} (X:K.In h) (I:Bt x C h) (L:Bs K C) (hq:Q (.ref C) ⟨h,g,d,t,os⟩) :
    wpAny (model prog w) A (getAttrBy (.ref x) (.str "__class__" tk) fill) Q E ⟨h,g,d,t,os⟩:=by
  have L0:=I.type (M:=model prog w);have L1:=looks_findIn (M:=model prog w) X L.ga;have L2:=looks_findIn (M:=model prog w) X L.gn;have f3:=(F.attrBase_ValueError.ga).bind (.ref x);have hx2:(Value.builtin "BaseException.__getattribute__" == Value.builtin "object.__getattribute__")=false:=by decide+kernel
  have hx1:(onTheHeap (Value.ref C) && Value.builtin "BaseException.__getattribute__" == Value.builtin "object.__getattribute__")=false:=by rw[hx2];rfl
  repeat (any_goals (first | assumption | with_reducible refine L0.at ?_ | with_reducible refine L1.at ?_ | with_reducible refine L2.at ?_ | wp_step))
  refine codeAny_call_builtin F.attrBase_ValueError.ga.plain F.entry_bexc_ga (qaC X I L (qaB X I L ?_))
  repeat (any_goals (first | assumption | wp_step))
theorem qaD {s:Shared} {Q:Option Value→Shared→Prop} (X:K.In s.heap) (I:Bt x C s.heap) (L:Bs K C) (hq:Q (some (.ref C)) {s with toks:=s.toks+1}) :
    wpAny (model prog w) A (getAttr? (.ref x) "__class__") Q E s:=by
  obtain⟨h,g,d,t,os⟩:=s;unfold getAttr? getAttrBy?
  repeat (any_goals (first | assumption | with_reducible apply qgK X I L | wp_step))
end
theorem Vv {K:W.Frag} {x C:Addr} {cd:ClassData} (hcd:clsIn K C=some cd) (L:Bs K C):KitX K (.ref x) (.ref C) (Bt x C) where
  ty:=fun M h _ e=>e.type
  it:=fun _ _ X _=>by
    unfold clsIn at hcd;split at hcd
    ·rename_i c' d' cd' sl' ho;intro A' Q' E' s' k q;unfold isType loadHead;exact wpAny_bind (wpAny_loadPart (k _ _ (X _ _ ho)) (wpAny_pure q))
    ·cases hcd
  ne:=fun h tp dd its n sl X htp=>by
    refine Bool.eq_false_iff.mpr fun q=>?_;have e:C=tp:=Value.ref.inj (beq_iff_eq.mp q);subst e;unfold clsIn at hcd;split at hcd
    ·rename_i c' d' cd' sl' ho;have z:=(X _ _ ho).symm.trans htp;cases z
    ·cases hcd
  ca:=fun X e k=>qaD X e L k
end L2
namespace L2
open PySem PySem.Spec PyProof.Rows
def Cx.caught (X:Cx) (a:Addr):Cx:={X with A:=X.A.mark (some (.ref a)),calm:=false,xe:=fun _ _=>False}
def Cx.tried (X:Cx) (pn:List (Addr×Obj)) (xe:Value→Shared→Prop):Cx:={X with pn:=pn,xe:=xe}
section
variable {X:Cx} {p_:List (Addr×Obj)} {σ:St} {H:Hp} {s:Shared}
theorem Inv.caught (I:Inv X p_ σ H s) (a:Addr):Inv (X.caught a) p_ σ H s:=
  ⟨⟨I.ok.mod,I.ok.kind,I.ok.glob,I.ok.blt,I.ok.above,I.ok.inj,I.ok.has,I.ok.cab,fun z=>(nomatch z),I.ok.frames,I.ok.stk,I.ok.exf,I.ok.bs,I.ok.ZP,I.ok.Uu,I.ok.Uv,I.ok.Dv,I.ok.frf⟩,I.os,I.bare,I.base,I.loc,I.cell,I.free,I.p8,I.pin,I.hok,I.len⟩
theorem Inv.uncaught {a:Addr} {s':Shared} (I:Inv X p_ σ H s) {σ':St} {H':Hp} (J:Inv (X.caught a) p_ σ' H' s'):Inv X p_ σ' H' s':=
  ⟨I.ok,J.os,J.bare,J.base,J.loc,J.cell,J.free,J.p8,J.pin,J.hok,J.len⟩
theorem Inv.tried (I:Inv X p_ σ H s) (xe:Value→Shared→Prop):Inv (X.tried (X.pn++p_) xe) [] σ H s:=
  ⟨⟨I.ok.mod,I.ok.kind,I.ok.glob,I.ok.blt,I.ok.above,I.ok.inj,I.ok.has,I.ok.cab,I.ok.hd,I.ok.frames,I.ok.stk,I.ok.exf,I.ok.bs,I.ok.ZP,I.ok.Uu,I.ok.Uv,I.ok.Dv,I.ok.frf⟩,I.os,I.bare,I.base,I.loc,I.cell,I.free,I.p8,fun p hp=>I.pin p (by rw[List.append_nil] at hp;exact hp),I.hok,I.len⟩
theorem Inv.Ib {xe:Value→Shared→Prop} {Mf:List (Addr×Obj)} {s':Shared} (I:Inv X p_ σ H s) {σ':St} {H':Hp} (J:Inv (X.tried (X.pn++p_) xe) Mf σ' H' s'):Inv X p_ σ' H' s':=
  ⟨I.ok,J.os,J.bare,J.base,J.loc,J.cell,J.free,J.p8,fun p hp=>J.pin p (List.mem_append_left _ hp),J.hok,J.len⟩
def Takes (X:Cx) (pn:List (Addr×Obj)) (xe:Value→Shared→Prop) (R:St→Addr→Option Addr→Hp→Prop):Prop:=
  ∀(p_:List (Addr×Obj)) (σ:St) (H:Hp) (s:Shared) (a C:Addr) (od:Option Addr) (T:Addr),Inv (X.tried pn xe) p_ σ H s→qcs X.s₀.heap s.heap H a C od T→(∀p∈pn,p.1≠a∧p.1≠T)→R σ C od H→xe (.ref a) s
def qcw (sp:Sp) (R:St→Addr→Option Addr→Hp→Prop) (t:TA):TE:=fun σ H Q=>t σ H fun vs H1=>tSp sp vs H1 Q ⟨0⟩ (fun v od H'=>∃C,v = .ref C∧R σ C od H')
@[simp ↓] theorem qjj sp R t σ H Q:qcw sp R t σ H Q=t σ H fun vs H1=>tSp sp vs H1 Q ⟨0⟩ (fun v od H'=>∃C,v = .ref C∧R σ C od H'):=rfl
theorem qcx {k:Nat} {f:Addr} {fd:FuncData} {ps:List Str} {sp:Sp} {x:Str} {p pos:Pos} {e:Expr} {es:List Expr} {t:TA} {pn:List (Addr×Obj)} {xe:Value→Shared→Prop} {R:St→Addr→Option Addr→Hp→Prop}
    (hx:Takes X pn xe R) (hex:X.ex=[]) (F:cT X.prog X.w X.K X.mg X.base (Pz X.prog X.w) k f fd ps sp) (hr:nH k X.A) (hg:Gl X x) (hm:X.mg x=some (.ref f)) (hk:W.keepIn X.K (.ref f)=true) (hb:Binds X.K fd ps [])
    (ha:PA (X.tried pn xe) (e::es) t) (hdb:(x == ("__debug__" : Str))=false:=by decide) (he:starEach (e::es) X.env=(false,eval e X.env)::starEach es X.env:=by rfl) (hpl:(backTo pos (starEach es X.env)).any (·.1)=false:=by rfl) :
    PE (X.tried pn xe) (.Call (.Name x p) (e::es) [] pos) (qcw sp R t):=by
  intro p_ s σ H Q I h;refine wpAny_Call_Name_kw (Bj I hg hm ?_ hdb);refine W.callWith_K (h₀:=X.base) I.ok.mod.kin hk (d9 (ha pos p_ s σ H _ I h) fun us s1 zz=>?_) he hpl;obtain⟨vs,H1,I1,r,q⟩:=zz;refine⟨I1.FJ,?_⟩;have hl:us.length=ps.length:=by rw[← r.length];exact F.len _ _ _ _ q
  have hbd:=hb s1 us I1.FJ (by rw[List.append_nil];exact hl);rw[List.append_nil] at hbd;refine wpAny_call (codeAny_mono (F.run X.A X.stack s1 H1 ⟨us,[]⟩ us vs Q _ hr I1.env0 hbd r q) fun rr s' hq=>?_);cases rr with
  | error e=>
    obtain⟨a,C,od,H',rfl,ho,hgn,un,hok,⟨T,ex⟩,C',e2,hR⟩:=hq;cases e2;have I':Inv (X.tried pn xe) p_ σ H' s':=I1.call' (ch:=[]) ho un hok hgn fun b z=>(nomatch z);have old:∀b,s1.heap.get? b=none→X.s₀.heap.get? b=none:=fun b z=>I1.old hex z;refine hx p_ σ H' s' a C od T I' ⟨old _ ex.new,old _ ex.newT,ex.un,ex.unT,ex.ob⟩ (fun p hp=>?_) hR;have e1:=(I1.pin p (List.mem_append_left _ hp)).1;exact⟨fun z=>(by rw[z,ex.new] at e1;cases e1),fun z=>(by rw[z,ex.newT] at e1;cases e1)⟩
  | ok fl=>
    cases fl with
    | ret u=>exact I1.after hq
    | next=>exact False.elim hq
    | brk=>exact False.elim hq
    | cont=>exact False.elim hq
def Tj (x C:Addr) (od:Option Addr) (h:Heap):Prop:=∃ox vs,h.get? x=some ox∧(ox.cls,ox.dict)=(Value.ref C,od)∧ox.data = .fields vs∧vs[2]? = some .none
theorem Tj.at {x C:Addr} {od:Option Addr} {h:Heap} (e:Tj x C od h):Bt x C h:=by
  obtain⟨ox,vs,h1,h2,h3,h4⟩:=e;exact⟨ox,vs,h1,congrArg Prod.fst h2,h3,h4⟩
def qgL (a C:Addr) (od:Option Addr):HO:=.ext fun h=>Tj a C od h
abbrev vY (a C:Addr):HO:=qgL a C none
def Ni (K:W.Frag) (C:Addr):Prop:=∀h,K.In h→∃bm N nm q bs hdct sn sub ab col dd k0 k1 k2 k3 k5,h.get? C=some (excClassObj nm q C N bs bm hdct sn sub ab col dd k0 k1 k2 k3 k5 "ValueError.__new__")∧∀v b,W.mroIn K C v=some b→(Value.ref C::bm).contains v=b
theorem Ni.of {K:W.Frag} {C:Addr} (c:Br K C):Ni K C:=fun h X=>by
  obtain⟨bm,N,nm,q,bs,hdct,sn,sub,ab,col,dd,k0,k1,k2,k3,k5,mN,hC,_,_,_,hmro⟩:=Tg X c;exact⟨bm,N,nm,q,bs,hdct,sn,sub,ab,col,dd,k0,k1,k2,k3,k5,hC,hmro⟩
theorem Inv.track {a C:Addr} {od:Option Addr} (I:Inv X p_ σ H s) (hex:X.ex=[]) (new:X.s₀.heap.get? a=none) (un:H a=none) (e:Tj a C od s.heap) (hp:∀p∈X.pn++p_,p.1≠a):Inv X p_ σ (upd H a (qgL a C od)) s:=by
  have nf:∀{b o},s.heap.get? b=some o→(∀vs,o.data≠.fields vs)→b≠a:=fun {b o} eb hd z=>by
    subst z;obtain⟨ox,vs,h1,_,h3,_⟩:=e;rw[eb] at h1;cases h1;exact hd vs h3
  have nox:∀b:Addr,b∉X.ex:=fun b=>by rw[hex];simp
  have old:∀{b o},X.s₀.heap.get? b=some o→b≠a:=fun {b o} eb z=>by
    rw[z,new] at eb;cases eb
  have ne:∀{b:Addr} {u:HO},H b=some u→b≠a:=fun {b u} q z=>by
    rw[z,un] at q;cases q
  refine⟨I.ok,I.os,I.bare,⟨fun b o eb n hb hx=>I.base.keep b o eb n hb hx,I.base.slot,fun b o eb n hx=>?_,I.base.there,fun b xs q=>?_,fun b o u q=>?_,fun b ps q=>?_⟩,I.loc,I.cell,?_,fun x c q=>?_,fun p hpp=>?_,fun b u q=>?_,I.len⟩
  ·rw[aV (old eb)];exact I.base.free b o eb n hx
  ·have z:=I.base.tups b xs q;rw[aV (ne z)];exact z
  ·have z:=I.base.Gm b o u q;rw[aV (ne z)];exact z
  ·obtain⟨m,z⟩:=I.base.Hq b ps q;exact⟨m,by rw[aV (ne z)];exact z⟩
  ·obtain⟨m,⟨o,es,ep,eo,d,r⟩,_⟩:=I.loc;rw[aV (nf eo fun vs y=>by rw[d] at y;cases y)];exact I.free
  ·obtain⟨v,o,eo,d⟩:=I.cell x c q;rw[aV (nf eo fun vs y=>by rw[d] at y;cases y)];exact I.p8 x c q
  ·obtain⟨f1,f2,f3⟩:=I.pin p hpp;refine⟨f1,?_,f3⟩;rw[aV (hp p hpp)];exact f2
  · by_cases hb:b=a
    ·subst hb;rw[aA] at q;cases q;obtain⟨ox,vs,h1,h2,h3,_⟩:=id e;exact⟨e,⟨ox,h1⟩,fun h1 h2 ⟨ox,vs,a1,a2,a3⟩ k=>⟨ox,vs,k _ a1,a2,a3⟩⟩
    · rw[aV hb] at q;refine(I.hok b u q).stay (fun c v _ z=>z) (fun c z=>?_) fun c xs z=>?_
      ·rw[aV (ne z)];exact z
      ·rw[aV (ne z)];exact z
theorem qaE {M:Model} {A:Around} {E:Value→Shared→Prop} {i:Nat} {n:Str} {v:V} {Q:Unit→Shared→Prop} (I:Inv X p_ σ H s) (hN:X.N.Nodup) (hi:X.N[i]? = some n) (hl:X.env.scope.names.lookup n=some .local) (hv:σ[i]? = some (some v))
    (h:∀s',Inv X p_ (σ.set i none) H s'→Q () s'):wpAny M A (unbindName X.env n) Q E s:=by
  obtain⟨m,hn,q⟩:=id I.loc;obtain⟨u,rv,l⟩:=q i n v hi hv (.inl hl);have hm:m n=some u:=by
    rcases l with⟨_,l⟩ | ⟨k,c,_⟩
    ·exact l
    · rcases k with k | k
      ·have:X.env.kindOf n=some .local:=hl;rw[k] at this;cases this
      ·have:X.env.kindOf n=some .local:=hl;rw[k] at this;cases this
  have hcls:(X.env.scope.kind == .class || (X.env.scope.kind == .module && X.env.locals != X.env.globals))=false:=by rw[I.ok.kind];rfl
  have hiσ:i<σ.length:=by rw[I.len];exact(List.getElem?_eq_some_iff.mp hi).1
  refine wpAny_unbindName_local hl hn hm hcls fun h' u' hn' hs=>?_;obtain⟨oL,_,_,hoL,_⟩:=id hn;have loc:∀b o,X.s₀.heap.get? b=some o→b≠X.env.locals:=fun b o e=>Nat.ne_of_lt (Nat.lt_of_lt_of_le (Heap.lt_size e) I.ok.above);refine h _ ⟨I.ok,I.os,I.bare,⟨fun b o e n hb hx=>?_,fun b o e n hb hx=>?_,I.base.free,fun b o e hx=>?_,I.base.tups,I.base.Gm,I.base.Hq⟩,⟨_,hn',fun j y v' e1 e2 e3=>?_⟩,fun y c e=>?_,I.free,I.p8,fun p hp=>?_,fun b ob e=>?_,by simpa using I.len⟩
  ·exact(hs.2 b (loc b o e)).trans (I.base.keep b o e n hb hx)
  ·obtain⟨sl,z⟩:=I.base.slot b o e n hb hx;exact⟨sl,(hs.2 b (loc b o e)).trans z⟩
  ·obtain⟨o',z⟩:=I.base.there b o e hx;exact⟨o',(hs.2 b (loc b o e)).trans z⟩
  · have hj:j≠i:=fun z=>by
      subst z;rw[List.getElem?_set_self hiσ] at e2;cases e2
    rw[List.getElem?_set_ne (Ne.symm hj)] at e2;obtain⟨u2,r2,l2⟩:=q j y v' e1 e2 e3;refine⟨u2,r2,?_⟩
    rcases l2 with⟨k,e⟩ | ⟨k,c,e,z⟩
    ·have:y≠n:=fun e=>hj (Mg hN e1 (e▸hi));exact .inl ⟨k,by simp[this,e]⟩
    ·exact .inr ⟨k,c,e,z.sameBut hs (I.cne y c e)⟩
  ·obtain⟨w',z⟩:=I.cell y c e;exact⟨w',z.sameBut hs (I.cne y c e)⟩
  ·obtain⟨e,n,ne,nf,d⟩:=I.pin p hp;exact⟨(hs.2 p.1 ne).trans e,n,ne,nf,d⟩
  · have no:∀{c:Addr} {u:HO},H c=some u→c≠X.env.locals:=fun {c u} q z=>by
      rw[z,I.free] at q;cases q
    refine(I.hok b ob e).stay (fun c w' hc q=>(hs.2 c ?_).trans q) (fun _ q=>q) fun _ _ q=>q
    rcases hc with rfl | hc
    ·exact no e
    ·exact no hc
end
section
variable {M:Model} {A:Around} {E:Value→Shared→Prop} {h:Heap} {g:Array GenState} {d:Drawn} {t:Nat} {os:OsState}
variable {nm q:Str} {C N:Addr} {bs bm:List Value} {hdct:Bool} {sn:List Str} {sub:List Value} {ab:Bool} {col:Option Bool} {dd:Option Addr} {k0 k1 k2 k3 k5:Option Value} {newId:String}
variable {nm' q':Str} {D N':Addr} {bs' bm':List Value} {qfd:Bool} {sn':List Str} {sub':List Value} {ab':Bool} {col':Option Bool} {dd':Option Addr} {j0 j1 j2 j3 j5:Option Value} {newId':String}
theorem qaF {e:Addr} {oe:Obj} {Q:Bool→Shared→Prop} (hC:h.get? C=some (excClassObj nm q C N bs bm hdct sn sub ab col dd k0 k1 k2 k3 k5 newId))
    (hD:h.get? D=some (excClassObj nm' q' D N' bs' bm' qfd sn' sub' ab' col' dd' j0 j1 j2 j3 j5 newId')) (he:h.get? e=some oe) (hcls:oe.cls = .ref C) (hbase:bm'.contains (.type "BaseException")=true) (hin:bm.contains (.ref D)=true)
    (hq:Q true ⟨h,g,d,t,os⟩):wpAny M A (excMatches (.ref e) (.ref D)) Q E ⟨h,g,d,t,os⟩:=by
  have hDB:(Value.ref D::bm').contains (.type "BaseException")=true:=by rw[List.contains_cons,hbase,Bool.or_true]
  have hCD:(Value.ref C::bm).contains (.ref D)=true:=by rw[List.contains_cons,hin,Bool.or_true]
  have f:=tc_notTuple;unfold excMatches
  repeat (first | (with_reducible refine wpAny_loadPart_at he ?_;rw[hcls]) | with_reducible refine wpAny_loadPart_at hD ?_ | (with_reducible refine wpAny_isSubtype_exc hD ?_;rw[hDB]) | (with_reducible refine wpAny_isSubtype_exc hC ?_;rw[hCD]) | wp_step)
  exact hq
end
def qeo (i:Nat) (K:W.Frag) (D:Addr) (ts:Addr→TS) (Dn:Ends):St→Addr→Option Addr→Hp→Prop:=fun σ1 C od H1=>(Ni K C∧W.mroIn K C (.ref D)=some true∧C≠D)∧∀a,H1 a=none→
    ts a {nx:=fun σ2 H2=>Dn.nx (σ2.set i none) H2,rt:=Dn.rt,bk:=fun σ2 H2=>Dn.bk (σ2.set i none) H2,ct:=fun σ2 H2=>Dn.ct (σ2.set i none) H2} (σ1.set i (some (.ref a))) (upd H1 a (qgL a C od))
def qjk (i:Nat) (K:W.Frag) (D:Addr) (ts:Addr→TS) (tb:(St→Addr→Option Addr→Hp→Prop)→TS):TS:=fun Dn σ H=>tb (qeo i K D ts Dn) Dn σ H
section
variable {X:Cx} {body suite:List Stmt} {b₀:Stmt} {i:Nat} {n cls:Str} {np hpos pos:Pos} {D:Addr} {ts:Addr→TS} {tb:(St→Addr→Option Addr→Hp→Prop)→TS}
theorem qgM (hst:X.stack=X.env::X.outer) (hfr:X.env.frame=some X.env.locals) (hex:X.ex=[]) (hN:X.N.Nodup) (hi:X.N[i]? = some n) (hl:X.env.scope.names.lookup n=some .local)
    (hb:∀R pn xe,Takes X pn xe R→Ph (X.tried pn xe) body (tb R)) (hg:Gl X cls) (hm:X.mg cls=some (.ref D)) (clD:Br X.K D) (hsu:∀a,Ph (X.caught a) (b₀::suite) (ts a))
    (hdb:(cls == ("__debug__" : Str))=false:=by decide) :
    PS X (.Try body [.ExceptHandler (some (.Name cls np)) (some n) (b₀::suite) hpos] [] [] pos) (qjk i X.K D ts tb):=by
  intro p_ s σ H Dn I h;have hiσ:∀{σ':St} {H':Hp} {s':Shared},Inv X p_ σ' H' s'→i<σ'.length:=fun J=>by rw[J.len];exact(List.getElem?_eq_some_iff.mp hi).1
  refine wpAny_Try_except (wpAny_mono (hb (qeo i X.K D ts Dn) (X.pn++p_) (fun e s1=>∃a C od T σ1 H1,e = .ref a∧Inv X p_ σ1 H1 s1∧qcs X.s₀.heap s1.heap H1 a C od T∧(∀p∈X.pn++p_,p.1≠a∧p.1≠T)∧qeo i X.K D ts Dn σ1 C od H1) ?_ [] s σ H Dn (I.tried _) h) (fun f s1 hf=>?_) fun e s1 hx=>?_)
  ·intro Mf σ1 H1 s1 a C od T J ex hp hR;exact⟨a,C,od,T,σ1,H1,rfl,I.Ib J,ex,hp,hR⟩
  · cases f with
    | next=>obtain⟨σ',H',J,q⟩:=hf;exact wpAny_execs_nil ⟨σ',H',I.Ib J,q⟩
    | brk=>obtain⟨σ',H',J,q⟩:=hf;exact⟨σ',H',I.Ib J,q⟩
    | cont=>obtain⟨σ',H',J,q⟩:=hf;exact⟨σ',H',I.Ib J,q⟩
    | ret u=>obtain⟨v,σ',H',J,r,q⟩:=hf;exact⟨v,σ',H',I.Ib J,r,q⟩
  · obtain⟨a,C,od,T,σ1,H1,rfl,J,ex,hp,⟨clC,hCD,hne⟩,hR⟩:=hx;obtain⟨new,newT,un,unT,oe,vs,oT,tts,t1,t2,t3,t4,t5,t6,t7,t8,t9⟩:=ex;have fr:=J.ok.frames;rw[hst] at fr;have st0:(W.hideAll s1.heap (frs X.stack++[a,T])).StaysIn s1.heap:=fun b o e=>W.of_hideAll _ e;have na:(W.hideAll s1.heap (frs X.stack++[a,T])).get? a=none:=W.hideAll_none _ (by simp);have ff:s1.heap.FunFrames (W.hideAll s1.heap (frs X.stack++[a,T])) (X.env::X.outer):=by
      rw[← hst];exact W.funFrames_hide J.stack fun env he b hb=>List.mem_append_left _ (List.mem_filterMap.mpr ⟨env,he,hb⟩)
    have tr0:Trc (W.hideAll s1.heap (frs X.stack++[a,T])) s1.heap a (.ref C,od) .none T:=⟨oe,vs,oT,tts,t1,t2,t3,t4,t5,W.hideAll_none _ (by simp),t6,t7,t8,t9⟩;have gone:∀(h':Heap),(W.hideAll s1.heap (frs X.stack++[a,T])).StaysIn h'→s1.heap.UpToSlots h'→Inv X p_ σ1 H1 {s1 with heap:=h'}:=fun h' k1 k2=>by
      refine J.gone (t':=s1.toks) (ch:=[a,T]) hex (fun b hb=>?_) (fun b o hf hc e=>k1 b o (W.hideAll_get _ e (by rw[List.mem_append];exact fun z=>z.elim hf hc))) fun b o e hd=>k2 b o e hd;simp only[List.mem_cons,List.not_mem_nil,or_false] at hb
      rcases hb with rfl | rfl
      ·exact⟨new,un,fun _ _ _ _=>trivial,⟨oe,vs,t1,t3⟩,fun p q=>(hp p q).1⟩
      ·exact⟨newT,unT,fun _ _ _ _=>trivial,⟨oT,tts,t7,t8⟩,fun p q=>(hp p q).2⟩
    refine QM fr ff hfr tr0 st0 na fun h4 x4=>?_;obtain⟨T4,tr4⟩:=x4.trc;refine Nh (s:={s1 with heap:=h4}) x4.frames tr4 x4.stays fun h5 x5=>?_;obtain⟨T5,tr5⟩:=x5.trc;have J5:=gone h5 x5.stays (x4.slots.trans x5.slots);refine wpAny_handleBy_cons (codeAny_handlers_test (Bj (J5.caught a) hg hm ?_ hdb)) (by intro q;cases q);obtain⟨oe5,vs5,oT5,ts5,u1,u2,u3,_⟩:=id tr5;obtain⟨bm,N,nm,q,bs,hdct,sn,sub,ab,col,dd,k0,k1,k2,k3,k5,hC,hmro⟩:=clC _ J5.FJ;obtain⟨bm',N',nm',q',bs',qfd,sn',sub',ab',col',dd',j0,j1,j2,j3,j5,mN',hD,qrS,qrT,T0',_⟩:=Tg J5.FJ clD;have hin:bm.contains (.ref D)=true:=by
      have z:=hmro _ _ hCD;rw[List.contains_cons] at z
      rcases Bool.or_eq_true_iff.mp z with z | z
      ·exact absurd (Value.ref.inj (beq_iff_eq.mp z)).symm hne
      ·exact z
    refine qaF hC hD u1 (congrArg Prod.fst u2) (T0'.hasType (by decide)) hin ?_;refine codeAny_handlers_suite_as ?_;refine Nh (s:={s1 with heap:=h5}) x5.frames tr5 x5.stays fun h6 x6=>?_;have J6:=gone h6 x6.stays ((x4.slots.trans x5.slots).trans x6.slots);obtain⟨T6,oe6,vs6,oT6,ts6,v1,v2,v3,v4,_⟩:=x6.trc;have J7:=J6.track hex new un ⟨oe6,vs6,v1,v2,v3,v4⟩ fun p q=>(hp p q).1;refine E_ J7 hN hi (.inl hl) (v:=.ref a) rfl (fun s8 J8 _=>?_) (.inr hl);refine wpAny_mono (hsu a p_ s8 _ _ _ (J8.caught a) (hR a un)) (fun f s9 hf=>?_) fun _ _ z=>False.elim z;show wpAny (model X.prog X.w) X.A (do bindName X.env n .none;unbindBehindTheSuite X.env n hpos) (fun _ s₃=>SP X p_ Dn f s₃) X.xe s9
    have go:∀{σ':St} {H':Hp} (Q':Shared→Prop),Inv X p_ σ' H' s9→(∀s',Inv X p_ (σ'.set i none) H' s'→Q' s')→wpAny (model X.prog X.w) X.A (do bindName X.env n .none;unbindBehindTheSuite X.env n hpos) (fun _ s₃=>Q' s₃) X.xe s9:=fun {σ' H'} Q' J9 hq=>by
      refine wpAny_bind ?_;unfold bindName;refine wpAny_bind (wpAny_holding (wpAny_point (wpAny_bind (E_ J9 hN hi (.inl hl) (v:=.non) rfl (fun s10 J10 _=>wpAny_point ?_) (.inr hl)))));unfold unbindBehindTheSuite;refine wpAny_onRaise (qaE (v:=.non) J10 hN hi hl (List.getElem?_set_self (hiσ J9)) fun s11 J11=>?_);rw[List.set_set] at J11;exact hq s11 J11
    cases f with
    | next=>obtain⟨σ',H',J9,q⟩:=hf;exact go _ (I.uncaught J9) fun s' J'=>⟨_,H',J',q⟩
    | brk=>obtain⟨σ',H',J9,q⟩:=hf;exact go _ (I.uncaught J9) fun s' J'=>⟨_,H',J',q⟩
    | cont=>obtain⟨σ',H',J9,q⟩:=hf;exact go _ (I.uncaught J9) fun s' J'=>⟨_,H',J',q⟩
    | ret u=>obtain⟨v,σ',H',J9,r,q⟩:=hf;exact go _ (I.uncaught J9) fun s' J'=>⟨v,_,H',J',r,q⟩
end
section
variable {X:Cx} {p_:List (Addr×Obj)} {σ:St} {H:Hp} {s:Shared} {a:Addr}
end
structure DY (P:Program) (w:World) (K:W.Frag) (mg:Str→Option Value) (base:Heap) (k:Nat) (f:Addr) (fd:FuncData) (ps:List Str) (sp:Addr→Sp):Prop where
  len:∀a vs H Q E,sp a vs H Q E→vs.length=ps.length
  run:∀(a:Addr) (A:Around) (outer:List Env) (s:Shared) (H:Hp) (args:Args) (us:List Value) (vs:List V) (Q:VK),nH k A→UL P w K mg base A outer s H→BindsTo s fd args (ps.zip us)→Vals vs us→sp a vs H Q E0→
    codeAny (model P w) (A.mark (some (.ref a))) (.call (.ref f) args) (CR rN outer P w H s Q E0) s
theorem p7.okH {P:Program} {w:World} {K:W.Frag} {mg:Str→Option Value} {base:Heap} {x qual:Str} {st:Stmt} {f:Addr} {fd:FuncData} {N ps:List Str} {k:Nat} {sp:Addr→Sp} (F:p7 K x qual st f fd) (S:bF N ps (ao st)) (len:∀a vs H Q E,sp a vs H Q E→vs.length=ps.length)
    (hbody:∀(a:Addr) (cdv:Value) (A:Around) (outer:List Env) (s:Shared) (H:Hp) (vs:List V) (Q:VK),nH k (A.deeper (envOfC qual (ao st) s.heap.objs.size f cdv))→sp a vs H Q E0→
      ∃t,Ph ((aF rN P w K mg base N qual (ao st) f cdv A outer s H E0).caught a) (aM st) t∧t {nx:=fun _ H'=>Q .non H',rt:=Q} (start N vs) H):DY P w K mg base (k+1) f fd ps sp:=by
  obtain⟨oc,od,kV,doc,pm,an,cdv,ct,osl,rfl,lk,hcd⟩:=F.ex;refine⟨len,fun a A outer s H args us vs Q hr e0 hb r hsp=>?_⟩;have hl:=len _ _ _ _ _ hsp;have KX:K.In s.heap:=e0.mod.kin.keeps fun b o e=>(e0.bs b o e).1;have lim:s.heap.NoLimit:=e0.mod.nolimit.keeps fun b o e=>(e0.bs b o e).1;have hkind:∀y∈ps.zip us,(ao st).names.lookup y.1=some .local∨((ao st).names.lookup y.1=some .cell∧((cellsFrom (s.heap.objs.size+1) (ao st).names []).lookup y.1).isSome=true):=fun⟨n,v⟩ hy=>by
    rcases S.par n (List.of_mem_zip hy).1 with q | q
    ·exact .inl q
    ·exact .inr ⟨q,W.cellsFrom_some _ _ _ (.inl q)⟩
  refine codeAny_call_function (A:=A.mark (some (.ref a))) hr.depth (KX _ _ lk) rfl S.co S.gen rfl (W.codeRec_of KX hcd) (hb _ _ _ _ ?_);refine wpAny_newFunctionEnv_cells S.kind hkind fun env he s1 x=>?_;subst he;refine⟨lim.keeps x.toInCall.keep,codeAny_func ?_⟩;obtain⟨t,ht,hq⟩:=hbody a cdv A outer s H vs Q (hr.deeper _) hsp;have I:Inv (aF rN P w K mg base N qual (ao st) f cdv A outer s H E0) [] (start N vs) H s1:=Qs S hr.hd e0 hl r x;refine wpAny_mono (ht [] s1 (start N vs) H _ (I.caught a) hq) (fun fl s' hs=>?_) fun e s' hs=>hs.elim;have fin:∀{σ':St} {H':Hp} {v:V} {u:Value},Inv ((aF rN P w K mg base N qual (ao st) f cdv A outer s H E0).caught a) [] σ' H' s'→RelV v u→Q v H'→CE outer P w H s Q u s':=
    fun {σ' H' v u} J rv q=>⟨v,H',J.os,J.bare,J.base,J.hok,rv,q⟩
  cases fl with
  | ret u=>
    obtain⟨v,σ',H',J,rv,q⟩:=hs;exact fin J rv q
  | next=>
    obtain⟨σ',H',J,q⟩:=hs;exact fin (v:=V.non) (u:=Value.none) J rfl q
  | brk=>obtain⟨σ',H',J,q⟩:=hs;exact False.elim q
  | cont=>obtain⟨σ',H',J,q⟩:=hs;exact False.elim q
section
variable {X:Cx} {a:Addr}
def qcy (sp:Sp) (t:TA):TE:=fun σ H Q=>t σ H fun vs H1=>tSp sp vs H1 Q ⟨0⟩ E0
@[simp ↓] theorem qjl sp t σ H Q:qcy sp t σ H Q=t σ H fun vs H1=>tSp sp vs H1 Q ⟨0⟩ E0:=rfl
theorem qcz {k:Nat} {f:Addr} {fd:FuncData} {ps:List Str} {sp:Addr→Sp} {x:Str} {p pos:Pos} {e:Expr} {es:List Expr} {t:TA}
    (F:DY X.prog X.w X.K X.mg X.base k f fd ps sp) (hr:nH k X.A) (hg:Gl X x) (hm:X.mg x=some (.ref f)) (hk:W.keepIn X.K (.ref f)=true) (hb:Binds X.K fd ps [])
    (ha:PA (X.caught a) (e::es) t) (hdb:(x == ("__debug__" : Str))=false:=by decide) (he:starEach (e::es) X.env=(false,eval e X.env)::starEach es X.env:=by rfl) (hpl:(backTo pos (starEach es X.env)).any (·.1)=false:=by rfl) :
    PE (X.caught a) (.Call (.Name x p) (e::es) [] pos) (qcy (sp a) t):=by
  intro p_ s σ H Q I h;refine wpAny_Call_Name_kw (Bj I hg hm ?_ hdb);refine W.callWith_K (h₀:=X.base) I.ok.mod.kin hk (d9 (ha pos p_ s σ H _ I h) fun us s1 zz=>?_) he hpl;obtain⟨vs,H1,I1,r,q⟩:=zz;refine⟨I1.FJ,?_⟩;have hl:us.length=ps.length:=by rw[← r.length];exact F.len _ _ _ _ _ q
  have hbd:=hb s1 us I1.FJ (by rw[List.append_nil];exact hl);rw[List.append_nil] at hbd;have e0:=I1.env0;refine wpAny_call (codeAny_mono (F.run a X.A X.stack s1 H1 ⟨us,[]⟩ us vs Q hr ⟨e0.frames,e0.mod,e0.bs,e0.ZP,e0.Dv,e0.frf,e0.hok,e0.bare⟩ hbd r q) fun rr s' hq=>?_);cases rr with
  | error e=>exact hq.elim
  | ok fl=>
    cases fl with
    | ret u=>exact I1.after hq
    | next=>exact False.elim hq
    | brk=>exact False.elim hq
    | cont=>exact False.elim hq
end
def Bu (K:W.Frag) (C:Addr):Prop:=Bs K C∧∃cd,W.clsIn K C=some cd
def cV (K:W.Frag) (C:Addr):V→Option Bool
  | .ref D=>W.kitOne K (.ref C) (.ref D)
  | .ty n=>W.kitOne K (.ref C) (.type n)
  | _=>none
def qfe (K:W.Frag):List V→Hp→VK→Prop:=fun xs H Q=>ar2 xs fun x y=>isRef x fun a=>∃C b,H a=some (vY a C)∧Bu K C∧cV K C y=some b∧Q (.bl b) H
@[simp ↓] theorem qnU K xs H Q:qfe K xs H Q=(ar2 xs fun x y=>isRef x fun a=>∃C b,H a=some (vY a C)∧Bu K C∧cV K C y=some b∧Q (.bl b) H):=rfl
theorem qjm {X:Cx} {K:W.Frag} (hK:X.K=K):dD X (.builtin "isinstance") (qfe K):=by
  subst hK;intro p_ s σ H xs us Q I r h;obtain⟨v1,v2,rfl,h⟩:=ar2.out h;obtain⟨a,rfl,C,b,e,⟨L,cd,hcd⟩,hk,q⟩:=isRef.out h;obtain⟨u,v,rfl,r1,r2⟩:=r.two;obtain rfl:u=Value.ref a:=r1;obtain⟨ex,_⟩:=I.hok a _ e;have go:∀{c:Value},W.kitOne X.K (.ref C) c=some b→wpAny (model X.prog X.w) X.A (call (.builtin "isinstance") [.ref a,c]) (EP X p_ σ Q) X.xe s:=fun {c} hc=>
    W.kia_one (Vv hcd L) I.FJ ex.at hc (fun z=>by cases z) fun tk=>⟨.bl b,H,I.kept (fun _ _ e=>e),rfl,q⟩
  cases v2 with
  | ref D=>obtain rfl:v=Value.ref D:=r2;exact go hk
  | ty n=>obtain rfl:v=Value.type n:=r2;exact go hk
  | _=>cases hk
theorem p7.PB {P:Program} {w:World} {K:W.Frag} {mg:Str→Option Value} {base:Heap} {x qual:Str} {st:Stmt} {f:Addr} {fd:FuncData} {N ps:List Str} {k:Nat} {sp:Sp} (F:p7 K x qual st f fd) (S:bF N ps (ao st)) (len:∀vs H Q E,sp vs H Q E→vs.length=ps.length)
    (hbody:∀(cdv:Value) (A:Around) (outer:List Env) (s:Shared) (H:Hp) (vs:List V) (Q:VK) (E:XK),nH k (A.deeper (envOfC qual (ao st) s.heap.objs.size f cdv))→sp vs H Q E→
      ∃t,Ph (aF (Pz P w) P w K mg base N qual (ao st) f cdv A outer s H E) (aM st) t∧t {nx:=fun _ H'=>Q .non H',rt:=Q} (rW N vs) H):cT P w K mg base (Pz P w) (k+1) f fd ps sp:=by
  refine F.okE S len fun cdv A outer s H vs Q E hr h=>?_;obtain⟨t,h1,h2⟩:=hbody cdv A outer s H vs Q E hr h;refine⟨t,h1,?_⟩;have hl:=len _ _ _ _ h;have hp:ps.length≤N.length:=by have:=congrArg List.length S.pre;rw[List.length_take] at this;omega
  rw[z7 N vs (by omega)] at h2;exact h2
theorem p7.qep {P:Program} {w:World} {K:W.Frag} {mg:Str→Option Value} {base:Heap} {x qual:Str} {st:Stmt} {f:Addr} {fd:FuncData} {N ps:List Str} {k:Nat} {sp:Addr→Sp} (F:p7 K x qual st f fd) (S:bF N ps (ao st)) (len:∀a vs H Q E,sp a vs H Q E→vs.length=ps.length)
    (hbody:∀(a:Addr) (cdv:Value) (A:Around) (outer:List Env) (s:Shared) (H:Hp) (vs:List V) (Q:VK),nH k (A.deeper (envOfC qual (ao st) s.heap.objs.size f cdv))→sp a vs H Q E0→
      ∃t,Ph ((aF rN P w K mg base N qual (ao st) f cdv A outer s H E0).caught a) (aM st) t∧t {nx:=fun _ H'=>Q .non H',rt:=Q} (rW N vs) H):DY P w K mg base (k+1) f fd ps sp:=by
  refine F.okH S len fun a cdv A outer s H vs Q hr h=>?_;obtain⟨t,h1,h2⟩:=hbody a cdv A outer s H vs Q hr h;refine⟨t,h1,?_⟩;have hl:=len _ _ _ _ _ h;have hp:ps.length≤N.length:=by have:=congrArg List.length S.pre;rw[List.length_take] at this;omega
  rw[z7 N vs (by omega)] at h2;exact h2
@[simp ↓] theorem qo_ i K D ts tb Dn σ H:qjk i K D ts tb Dn σ H=tb (qeo i K D ts Dn) Dn σ H:=rfl
theorem Lr:bootBuiltins "ValueError" = some (.type "ValueError"):=by decide+kernel
section
variable {X:Cx} {K:W.Frag} {C D:Addr} {b:Bool}
def qjn (i:Nat) (C:Addr) (b:Bool):TE:=fun σ H Q=>getSt σ i fun x=>isRef x fun p=>H p=some (vY p C)∧Q (.bl b) H
@[simp ↓] theorem qpa i C b σ H Q:qjn i C b σ H Q=getSt σ i fun x=>isRef x fun p=>H p=some (vY p C)∧Q (.bl b) H:=rfl
theorem iw {i:Nat} {v:V} {e c:Expr} {p pos:Pos} (hK:X.K=K) (hg:Gl X "isinstance") (hm:X.mg "isinstance" = none) (L:Bu K C) (hk:cV K C v=some b) (ha:PA X [e,c] (bY (fVar i) (bY (tC v) vO)))
    (hs:starEach [e,c] X.env=(false,eval e X.env)::starEach [c] X.env:=by rfl) (hpl:(backTo pos (starEach [c] X.env)).any (·.1)=false:=by rfl) :
    PE X (.Call (.Name "isinstance" p) [e,c] [] pos) (qjn i C b):=
  PE.mono (aQ (qjm hK) hg hm boot_isinstance ha (by decide) (by decide) hs hpl) fun {σ H Q} h=>getSt.imp (fun x h1=>by
    obtain⟨q,rfl,h2,h3⟩:=isRef.out h1;exact⟨C,b,h2,L,hk,h3⟩) h
end
inductive Lf:V→PyData→Prop
  | non:Lf .non .none
  | bl (b):Lf (.bl b) (.bool b)
  | int (i):Lf (.int i) (.int i)
  | str (x):Lf (.str x) (.str x)
inductive Nj:List (Str×V)→List (PyData×PyData)→Prop
  | nil:Nj [] []
  | cons {x v d ks kvs}:Lf v d→Nj ks kvs→Nj ((x,v)::ks) ((.str x,d)::kvs)
section
variable {X:Cx} {p_:List (Addr×Obj)} {σ:St} {H:Hp} {s:Shared}
theorem Lf.reads {v:V} {d:PyData} {u:Value} {h:Heap} (l:Lf v d) (r:RelV v u):Reads h u d []:=by
  cases l with
  | non=>cases r;exact .none
  | bl b=>cases r;exact .bool b
  | int i=>obtain⟨t,rfl⟩:=r;exact .int i t
  | str x=>obtain⟨t,rfl⟩:=r;exact .str x t
theorem Vw {P:Program} {w:World} {h:Heap}:∀{ks:List (Str×V)} {kvs:List (PyData×PyData)} {vs:List (Key×Value)} {es:List DictEntry},Nj ks kvs→KV (ks.map fun e=>((Sum.inr e.1:Key),e.2)) vs→Pairs (cD P w) es vs→
    ReadsAll h (es.map (·.key)) (kvs.map (·.1)) []∧ReadsAll h (es.map (·.val)) (kvs.map (·.2)) []
  | _,_,_,_,.nil,kv,ps=>by
    cases kv;cases ps;exact⟨.nil,.nil⟩
  | _,_,_,_,.cons l ls,kv,ps=>by
    cases kv with
    | cons r rs=>
      cases ps with
      | cons h1 h2 h3=>
        obtain⟨i1,i2⟩:=Vw (h:=h) ls rs h3;obtain⟨r1,r2⟩:=r;simp only at r1 r2;rw[← r1] at h1;rw[Wv] at h1
        rcases fH h1 with⟨i,t,e,_⟩ | ⟨x,t,e,ek⟩
        ·cases e
        ·cases e;simp only[List.map_cons];rw[ek,h2];exact⟨.cons (.str _ t) i1,.cons (l.reads r2) i2⟩
theorem Vx {P:Program} {w:World} {h:Heap} {a:Addr} {ks:List (Str×V)} {kvs:List (PyData×PyData)} (ok:Du P w H h) (l:Nj ks kvs) (e:H a=some (.dK (ks.map fun e=>((Sum.inr e.1:Key),e.2)))):Reads h (.ref a) (.dict kvs) [a]∧(a == sysModules)=false:=by
  obtain⟨_,hd,vs,kv,o,es,ep,h1,h2,h3,_,h5,_⟩:=Y4 ok e;refine⟨?_,hd⟩;obtain⟨r1,r2⟩:=Vw (h:=h) l kv h5;exact Reads.dict (as:=[]) (bs:=[]) h1 h2.1 h3 r1 r2
inductive Shw (H:Hp):PyData→V→Prop
  | thg {d v}:bW H d v→d.hasDict=false→Shw H d v
  | dic {a ks kvs}:Nj ks kvs→H a=some (.dK (ks.map fun e=>((Sum.inr e.1:Key),e.2)))→Shw H (.dict kvs) (.ref a)
end
structure lU (k n:Nat) (d:PyData):Prop where
  sh:d.showable=true
  dp:d.depth≤k
  ln:d.shown.length≤n
theorem lU.mono {k n k' n':Nat} {d:PyData} (h:lU k n d) (hk:k≤k') (hn:n≤n'):lU k' n' d:=⟨h.sh,Nat.le_trans h.dp hk,Nat.le_trans h.ln hn⟩
theorem Tn {k n:Nat}:∀{ds:List PyData},(∀c∈ds,lU k n c)→PyData.showableAll ds=true∧PyData.depthAll ds≤k∧(PyData.shownAll ds).length=ds.length∧((PyData.shownAll ds).map (·.length)).sum≤n * ds.length
  | [],_=>by simp[PyData.showableAll,PyData.depthAll,PyData.shownAll]
  | c::ds,h=>by
    obtain⟨h1,h2,h3⟩:=h c List.mem_cons_self;obtain⟨i1,i2,i3,i4⟩:=Tn fun e he=>h e (List.mem_cons_of_mem _ he);simp only[PyData.showableAll,PyData.depthAll,PyData.shownAll,h1,i1,List.length_cons,List.map_cons,List.sum_cons,i3];refine⟨rfl,Nat.max_le.mpr ⟨h2,i2⟩,trivial,?_⟩;rw[Nat.mul_succ];omega
theorem lU.list {k n m:Nat} {ds:List PyData} (h:∀c∈ds,lU k n c) (hl:n * ds.length+2 * ds.length+3≤m):lU (k+1) m (.list ds):=by
  obtain⟨h1,h2,h3,h4⟩:=Tn h;have:=listText_len_le (PyData.shownAll ds);refine⟨by simpa [PyData.showable] using h1,by simp only[PyData.depth];omega,?_⟩;simp only[PyData.shown];omega
theorem lU.tuple {k n m:Nat} {ds:List PyData} (h:∀c∈ds,lU k n c) (hl:n * ds.length+2 * ds.length+3≤m):lU (k+1) m (.tuple ds):=by
  obtain⟨h1,h2,h3,h4⟩:=Tn h;have:=tupleText_len_le (PyData.shownAll ds);refine⟨by simpa [PyData.showable] using h1,by simp only[PyData.depth];omega,?_⟩;simp only[PyData.shown];omega
theorem lU.str {x:Str} {n:Nat} (hx:∀c∈x.cps.toList,c<16 ^ 8) (hn:10 * x.length+2≤n):lU 0 n (.str x):=by
  refine⟨rfl,Nat.le_of_eq rfl,?_⟩;simp only[PyData.shown];exact Nat.le_trans (StrLaws.reprText_len x hx) hn
theorem cT.or {P:Program} {w:World} {K:W.Frag} {mg:Str→Option Value} {base:Heap} {CX:Z_} {k:Nat} {f:Addr} {fd:FuncData} {ps:List Str} {sp sp':Sp} (F:cT P w K mg base CX k f fd ps sp) (F':cT P w K mg base CX k f fd ps sp') :
    cT P w K mg base CX k f fd ps (fun vs H Q E=>sp vs H Q E∨sp' vs H Q E):=
  ⟨fun vs H Q E h=>h.elim (F.len vs H Q E) (F'.len vs H Q E),fun A outer s H args us vs Q E hr he hb hv h=>h.elim (F.run A outer s H args us vs Q E hr he hb hv) (F'.run A outer s H args us vs Q E hr he hb hv)⟩
end L2
namespace L2
open PySem PySem.Spec
section
variable {σ:St} {H:Hp} {p:Addr}
def GD (p:Addr) (t:TE) (σ:St) (H:Hp) (d:PyData):Prop:=∀(H1:Hp) (Q:VK),(∃o,H p=some o)→Same H H1→(∀v H2,Same H1 H2→bW (hid p H2) d v→Q v H2)→t σ H1 Q
def GDs (p:Addr) (t:TA) (σ:St) (H:Hp) (ds:List PyData):Prop:=∀(H1:Hp) (Q:List V→Hp→Prop),(∃o,H p=some o)→Same H H1→(∀vs H2,Same H1 H2→aX (hid p H2) ds vs→Q vs H2)→t σ H1 Q
theorem iV {H1:Hp} {b:Addr} (h:∃o,H p=some o) (s:Same H H1) (hb:H1 b=none):b≠p:=fun z=>by
  obtain⟨o,e⟩:=h;have:=s _ _ e;rw[← z,hb] at this;cases this
theorem bM:GDs p vO σ H []:=fun H1 Q _ _ q=>q [] H1 (Same.refl _) (by simp[aX])
theorem bh {ta:TE} {tr:TA} {d:PyData} {ds:List PyData} (h1:GD p ta σ H d) (h2:GDs p tr σ H ds):GDs p (bY ta tr) σ H (d::ds):=fun H1 Q hp s q=>
  h1 H1 _ hp s fun v H2 s2 hv=>h2 H2 _ hp (s.trans s2) fun vs H3 s3 hvs=>q _ H3 (s2.trans s3) (by simp only[aX];exact⟨v,vs,rfl,bW.same (b_ s3) d v hv,hvs⟩)
theorem cW {t:TA} {ds:List PyData} (h:GDs p t σ H ds) (hl:ds.length≤sizeLine):GD p (Z9 t) σ H (.list ds):=fun H1 Q hp s q=>
  h H1 _ hp s fun vs H2 s2 hv=>⟨by rw[← hv.length];exact hl,fun b hb=>q _ _ (s2.trans (aB hb)) (by simp only[bW];exact⟨b,vs,rfl,uV (iV hp (s.trans s2) hb) aA,aX.same (b_ (aB hb)) ds vs hv⟩)⟩
theorem zB {t:TA} {ds:List PyData} (h:GDs p t σ H ds) (hl:ds.length≤sizeLine):GD p (WT t) σ H (.tuple ds):=fun H1 Q hp s q=>
  h H1 _ hp s fun vs H2 s2 hv=>⟨by rw[← hv.length];exact hl,fun b hb=>q _ _ (s2.trans (aB hb)) (by simp only[bW];exact⟨b,vs,rfl,uV (iV hp (s.trans s2) hb) aA,aX.same (b_ (aB hb)) ds vs hv⟩)⟩
theorem Gx:GD p (tC .non) σ H .none:=fun H1 Q _ s q=>q _ H1 (Same.refl _) (by simp[bW])
theorem dF {i:Int}:GD p (tC (.int i)) σ H (.int i):=fun H1 Q _ s q=>q _ H1 (Same.refl _) (by simp[bW])
theorem Ie {i:Bool}:GD p (tC (.bl i)) σ H (.bool i):=fun H1 Q _ s q=>q _ H1 (Same.refl _) (by simp[bW])
theorem xq {i:Str}:GD p (tC (.str i)) σ H (.str i):=fun H1 Q _ s q=>q _ H1 (Same.refl _) (by simp[bW])
theorem getSt.of:∀{σ:St} {i:Nat} {v:V} {R:V→Prop},σ[i]? = some (some v)→R v→getSt σ i R
  | [],_,_,_,h,_=>by simp at h
  | o::_,0,v,R,h,r=>by simp at h;subst h;exact r
  | _::σ,n+1,v,R,h,r=>getSt.of (σ:=σ) (i:=n) (by simpa using h) r
theorem Gy {i:Nat} {d:PyData} {v:V} (h:σ[i]? = some (some v)) (hv:bW (hid p H) d v):GD p (fVar i) σ H d:=fun H1 Q _ s q=>getSt.of h (q v H1 (Same.refl _) (bW.same (b_ s) d v hv))
theorem qcA {ta tb:TE} {x y:Str} (h1:GD p ta σ H (.str x)) (h2:GD p tb σ H (.str y)) (hl:x.length+y.length≤sizeLine):GD p (K6 Za ta tb) σ H (.str (x++y)):=fun H1 Q hp s q=>
  h1 H1 _ hp s fun v H2 s2 hv=>h2 H2 _ hp (s.trans s2) fun u H3 s3 hu=>by
    simp only[bW] at hv hu;subst hv hu;exact⟨hl,q _ H3 (s2.trans s3) (by simp[bW])⟩
variable {φ:PyData→Prop}
structure big (t:TE) (σ:St) (H:Hp) (Q:VK):Prop where
  out:t σ H Q
theorem qgN {X:Cx} {e:Expr} {t:TE} (h:PE X e t):PE X e (big t):=PE.mono h fun h=>h.out
end
end L2
namespace L2
open PySem PySem.Spec PyProof.Rows
section
variable {X:Cx} {K:W.Frag}
end
section
variable {X:Cx} {K:W.Frag}
end
def qjo:Key→PyData
  | .inl i=>.int i
  | .inr x=>.str x
inductive LfT:List (List Key×V)→List (PyData×PyData)→Prop
  | nil:LfT [] []
  | cons {k v d ks kvs}:Lf v d→LfT ks kvs→LfT ((k,v)::ks) ((.tuple (k.map qjo),d)::kvs)
def qjp (H:Hp) (a:Addr) (kvs:List (PyData×PyData)):Prop:=(∃ks,Nj ks kvs∧H a=some (.dK (ks.map fun e=>((Sum.inr e.1:Key),e.2))))∨∃ks,LfT ks kvs∧H a=some (.dT ks)
theorem QT {h:Heap}:∀{ks:List Key} {us:List Value},Vals (ks.map kV) us→ReadsAll h us (ks.map qjo) []
  | [],_,r=>by rw[List.map_nil] at r;cases r;exact .nil
  | k::ks,_,r=>by
    rw[List.map_cons] at r;cases r with
    | cons r1 r2=>
      refine ReadsAll.cons (as:=[]) (bs:=[]) ?_ (QT r2);cases k with
      | inl i=>obtain⟨t,rfl⟩:=r1;exact .int i t
      | inr x=>obtain⟨t,rfl⟩:=r1;exact .str x t
theorem QV {P:Program} {w:World} {H:Hp} {h:Heap} (ok:Du P w H h):∀{ks:List (List Key×V)} {kvs:List (PyData×PyData)} {xs:List (List Key×Addr×Value)},LfT ks kvs→KT H ks xs→
    ReadsAll h ((xs.map (entryOfKey (tupleKind (cD P w)))).map (·.key)) (kvs.map (·.1)) []∧ReadsAll h ((xs.map (entryOfKey (tupleKind (cD P w)))).map (·.val)) (kvs.map (·.2)) []
  | _,_,_,.nil,kt=>by
    cases kt;exact⟨.nil,.nil⟩
  | _,_,_,.cons (k:=k) l ls,kt=>by
    cases kt with
    | @cons _ q _ qs r rs=>
      obtain⟨i1,i2⟩:=QV ok ls rs;obtain⟨r1,r2,r3⟩:=r;simp only at r1 r2 r3;obtain⟨_,its,rv,o,h1,h2,n,h3⟩:=(show d8 P w H h _ (.tup _) from ok _ _ r2);simp only[List.map_cons];refine⟨ReadsAll.cons (as:=[]) (bs:=[]) ?_ i1,ReadsAll.cons (as:=[]) (bs:=[]) ?_ i2⟩
      ·exact Reads.tuple h1 h2 h3 (by simpa using QT rv)
      ·exact l.reads r3
theorem Nk {P:Program} {w:World} {H:Hp} {h:Heap} {a:Addr} {kvs:List (PyData×PyData)} (ok:Du P w H h) (l:qjp H a kvs):Reads h (.ref a) (.dict kvs) [a]∧(a == sysModules)=false:=by
  rcases l with⟨ks,h1,h2⟩ | ⟨ks,h1,h2⟩
  ·exact Vx ok h1 h2
  ·obtain⟨_,hd,xs,kt,o,es,ep,q1,q2,q3,q4,q5,q6⟩:=qeZ ok h2;obtain⟨r1,r2⟩:=QV ok h1 kt;rw[← q4] at r1 r2;exact⟨Reads.dict (as:=[]) (bs:=[]) q1 q2.1 q3 r1 r2,hd⟩
mutual
def jB (H:Hp):PyData→V→Prop
  | .none,v=>v = .non
  | .bool b,v=>v = .bl b
  | .int i,v=>v = .int i
  | .str x,v=>v = .str x
  | .list ds,v=>∃a xs,v = .ref a∧H a=some (.lst xs)∧dw H ds xs
  | .tuple ds,v=>∃a xs,v = .ref a∧H a=some (.tup xs)∧dw H ds xs
  | .dict kvs,v=>∃a,v = .ref a∧qjp H a kvs
def dw (H:Hp):List PyData→List V→Prop
  | [],vs=>vs=[]
  | d::ds,vs=>∃v r,vs=v::r∧jB H d v∧dw H ds r
end
theorem dw.length {H:Hp}:∀{ds:List PyData} {xs:List V},dw H ds xs→ds.length=xs.length
  | [],_,h=>by simp only[dw] at h;subst h;rfl
  | d::ds,_,h=>by
    simp only[dw] at h;obtain⟨v,r,rfl,h1,h2⟩:=h;simp[dw.length h2]
section
variable {X:Cx} {p_:List (Addr×Obj)} {σ:St} {H:Hp} {s:Shared}
mutual
theorem jB.reads (I:Inv X p_ σ H s):∀(d:PyData) (v:V) (u:Value),jB H d v→RelV v u→∃as,Reads s.heap u d as
  | .none,v,u,h,r=>by
    simp only[jB] at h;subst h;cases r;exact⟨_,.none⟩
  | .bool b,v,u,h,r=>by
    simp only[jB] at h;subst h;cases r;exact⟨_,.bool b⟩
  | .int i,v,u,h,r=>by
    simp only[jB] at h;subst h;obtain⟨t,rfl⟩:=r;exact⟨_,.int i t⟩
  | .str x,v,u,h,r=>by
    simp only[jB] at h;subst h;obtain⟨t,rfl⟩:=r;exact⟨_,.str x t⟩
  | .list ds,v,u,h,r=>by
    simp only[jB] at h;obtain⟨a,xs,rfl,hq,hs⟩:=h;cases r;obtain⟨its,rv,pl,hz⟩:=I.list (cj.of hq);obtain⟨o,e,c,n,dt⟩:=pl.isList;obtain⟨as,ra⟩:=dw.reads I ds xs its hs rv;exact⟨_,.list e c dt (by simpa using ra)⟩
  | .tuple ds,v,u,h,r=>by
    simp only[jB] at h;obtain⟨a,xs,rfl,hq,hs⟩:=h;cases r;obtain⟨its,rv,pl,hz⟩:=I.tuple (lR.of hq);obtain⟨o,e,c,n,dt⟩:=pl;obtain⟨as,ra⟩:=dw.reads I ds xs its hs rv;exact⟨_,.tuple e c dt (by simpa using ra)⟩
  | .dict kvs,v,u,h,r=>by
    simp only[jB] at h;obtain⟨a,rfl,h1⟩:=h;cases r;exact⟨_,(Nk I.hok h1).1⟩
theorem dw.reads (I:Inv X p_ σ H s):∀(ds:List PyData) (vs:List V) (us:List Value),dw H ds vs→Vals vs us→∃as,ReadsAll s.heap us ds as
  | [],vs,us,h,r=>by
    simp only[dw] at h;subst h;cases r;exact⟨_,.nil⟩
  | d::ds,vs,us,h,r=>by
    simp only[dw] at h;obtain⟨v,vr,rfl,h1,h2⟩:=h;cases r with
    | cons r1 r2=>
      obtain⟨as,ra⟩:=jB.reads I d v _ h1 r1;obtain⟨bs,rb⟩:=dw.reads I ds vr _ h2 r2;exact⟨_,.cons ra rb⟩
end
mutual
theorem jB.QW (I:Inv X p_ σ H s):∀(d:PyData) (v:V) (u:Value),jB H d v→RelV v u→d.showable=true→d.shown.length≤sizeLine→
    ∃bs,ReadAtMost s.heap d.depth bs∧ReprK X.prog X.w bs s.heap d.depth u d.shown
  | .none,v,u,h,r,hs,hz=>by
    obtain⟨as,ra⟩:=jB.reads I _ v u h r;exact ReprK.of_reads ra hs (PyData.noDict_hsm rfl) hz
  | .bool b,v,u,h,r,hs,hz=>by
    obtain⟨as,ra⟩:=jB.reads I _ v u h r;exact ReprK.of_reads ra hs (PyData.noDict_hsm rfl) hz
  | .int i,v,u,h,r,hs,hz=>by
    obtain⟨as,ra⟩:=jB.reads I _ v u h r;exact ReprK.of_reads ra hs (PyData.noDict_hsm rfl) hz
  | .str x,v,u,h,r,hs,hz=>by
    obtain⟨as,ra⟩:=jB.reads I _ v u h r;exact ReprK.of_reads ra hs (PyData.noDict_hsm rfl) hz
  | .list ds,v,u,h,r,hs,hz=>by
    obtain⟨as,ra⟩:=jB.reads I (.list ds) v u h r;simp only[jB] at h;obtain⟨a,xs,rfl,hq,hall⟩:=h;cases r;obtain⟨its,rv,pl,hzz⟩:=I.list (cj.of hq);obtain⟨o,e,c,n,dt⟩:=pl.isList;have hzL:(listText (PyData.shownAll ds)).length≤sizeLine:=by simpa only[PyData.shown] using hz
    obtain⟨bs,mb,kb⟩:=dw.QW I ds xs its hall rv (by simpa [PyData.showable] using hs) (fun t ht=>Nat.le_trans (listText_mem_le ht) hzL);have nab:a∉bs:=not_mem_of_deeper ra (by simp only[PyData.depth];exact Nat.lt_succ_self _) mb;refine⟨a::bs,ReadAtMost.cons ra (by simp only[PyData.depth];omega) mb,?_⟩;simp only[PyData.depth,PyData.shown];cases its with
    | nil=>
      cases rv;have e2:ds=[]:=List.eq_nil_of_length_eq_zero hall.length;subst e2;simp only[PyData.shownAll,listText_nil];exact ReprK.listEmpty e c dt
    | cons x l=>exact ReprK.list e c dt nab (by simpa using kb.length_eq) (fun i y z=>kb.item i y (by simpa using z))
  | .tuple ds,v,u,h,r,hs,hz=>by
    obtain⟨as,ra⟩:=jB.reads I (.tuple ds) v u h r;simp only[jB] at h;obtain⟨a,xs,rfl,hq,hall⟩:=h;cases r;obtain⟨its,rv,pl,hzz⟩:=I.tuple (lR.of hq);obtain⟨o,e,c,n,dt⟩:=pl;have hzL:(tupleText (PyData.shownAll ds)).length≤sizeLine:=by simpa only[PyData.shown] using hz
    obtain⟨bs,mb,kb⟩:=dw.QW I ds xs its hall rv (by simpa [PyData.showable] using hs) (fun t ht=>Nat.le_trans (tupleText_mem_le ht) hzL);have nab:a∉bs:=not_mem_of_deeper ra (by simp only[PyData.depth];exact Nat.lt_succ_self _) mb;refine⟨a::bs,ReadAtMost.cons ra (by simp only[PyData.depth];omega) mb,?_⟩;simp only[PyData.depth,PyData.shown];exact ReprK.tuple e c dt nab (by simpa using kb)
  | .dict kvs,v,u,h,r,hs,hz=>by
    simp only[jB] at h;obtain⟨a,rfl,h1⟩:=h;cases r;obtain⟨ra,hd⟩:=Nk I.hok h1;refine ReprK.of_reads ra hs (fun _ hm=>?_) hz;rw[List.mem_singleton] at hm;rw[← hm] at hd;simp at hd
theorem dw.QW (I:Inv X p_ σ H s):∀(ds:List PyData) (vs:List V) (us:List Value),dw H ds vs→Vals vs us→PyData.showableAll ds=true→(∀t∈PyData.shownAll ds,t.length≤sizeLine)→
    ∃bs,ReadAtMost s.heap (PyData.depthAll ds) bs∧ReprAllK X.prog X.w bs s.heap (PyData.depthAll ds) us (PyData.shownAll ds)
  | [],vs,us,h,r,_,_=>by
    simp only[dw] at h;subst h;cases r;exact⟨[],(fun _ h=>nomatch h),.nil⟩
  | d::ds,vs,us,h,r,hs,hz=>by
    simp only[dw] at h;obtain⟨v,vr,rfl,h1,h2⟩:=h;simp only[PyData.showableAll,Bool.and_eq_true] at hs;simp only[PyData.shownAll,List.mem_cons,forall_eq_or_imp] at hz;cases r with
    | cons r1 r2=>
      obtain⟨b1,m1,k1⟩:=jB.QW I d v _ h1 r1 hs.1 hz.1;obtain⟨b2,m2,k2⟩:=dw.QW I ds vr _ h2 r2 hs.2 hz.2;refine⟨b1++b2,(m1.mono ?_).append (m2.mono ?_),?_⟩
      ·simp only[PyData.depthAll];exact Nat.le_max_left ..
      ·simp only[PyData.depthAll];exact Nat.le_max_right ..
      · simp only[PyData.shownAll];refine .cons ((k1.more fun b hb=>List.mem_append_left _ hb).level_le ?_) (k2.more_le (fun b hb=>List.mem_append_right _ hb) ?_)
        ·simp only[PyData.depthAll];exact Nat.le_max_left ..
        ·simp only[PyData.depthAll];exact Nat.le_max_right ..
end
def qcB:List V→Hp→VK→Prop:=fun xs H Q=>ar1 xs fun v=>∃ds:List PyData,jB H (.list ds) v∧(PyData.list ds).showable=true∧(PyData.list ds).depth≤32∧(PyData.list ds).shown.length≤sizeLine∧Q (.str (PyData.list ds).shown) H
@[simp ↓] theorem qjq xs H Q:qcB xs H Q=(ar1 xs fun v=>∃ds:List PyData,jB H (.list ds) v∧(PyData.list ds).showable=true∧(PyData.list ds).depth≤32∧(PyData.list ds).shown.length≤sizeLine∧Q (.str (PyData.list ds).shown) H):=rfl
theorem KQ (hg:X.A.guards=some []) (hu:X.A.units+64<cLine):dD X (.builtin "repr") qcB:=by
  intro p_ s σ H xs us Q I r h;obtain⟨v,rfl,ds,hi,hs,hd,hz,q⟩:=ar1.out h;obtain⟨u,rfl,ru⟩:=r.one;have hi0:=hi;simp only[jB] at hi;obtain⟨a,xs,rfl,hq,hall⟩:=hi;cases ru;obtain⟨its,rv,pl,hzz⟩:=I.list (cj.of hq);obtain⟨o,e,c,n,dt⟩:=pl.isList;have hzL:(listText (PyData.shownAll ds)).length≤sizeLine:=by simpa only[PyData.shown] using hz
  obtain⟨as,ra⟩:=jB.reads I (.list ds) (.ref a) (.ref a) hi0 rfl;obtain⟨bs,mb,kb⟩:=dw.QW I ds xs its hall rv (by simpa [PyData.showable] using hs) (fun t ht=>Nat.le_trans (listText_mem_le ht) hzL);have nab:a∉bs:=not_mem_of_deeper ra (by simp only[PyData.depth];exact Nat.lt_succ_self _) mb;simp only[PyData.depth] at hd;simp only[PyData.shown] at q;refine call_repr_slot (by omega) ⟨o,e,c⟩ F.slot_list_repr.toG ?_;cases its with
  | nil=>
    cases rv;have e2:ds=[]:=List.eq_nil_of_length_eq_zero hall.length;subst e2;simp only[PyData.shownAll,listText_nil] at q;exact call_list_repr_empty ⟨o,e,c⟩ e dt ⟨_,_,rfl,.str _,H,I.tok _,⟨_,rfl⟩,q⟩
  | cons x l=>
    refine call_list_reprK e c dt nab (by simpa using kb.length_eq) (fun i y z=>kb.item i y (by simpa using z)) hg (fun b _=>Clear.nil b) ?_ (fun _ _ z=>z) (fun h' u tk hk=>⟨_,_,rfl,.str _,H,I.kept (t':=tk) hk,⟨u,rfl⟩,q⟩) hzL;show X.A.units+1+_<_;omega
end
section
variable {X:Cx}
def qjr:V→Option Int→Option Int→Hp→VK→Prop:=fun x lo hi H Q=>isStr x fun z=>z.length≤sizeLine∧Q (.str (Txt.slice z lo hi)) H
@[simp ↓] theorem qpb x lo hi H Q:qjr x lo hi H Q=(isStr x fun z=>z.length≤sizeLine∧Q (.str (Txt.slice z lo hi)) H):=rfl
theorem qeq:SlR X qjr:=by
  intro p_ s σ H x v vl vu lo hi sl Q I rx hs pl pu h;obtain⟨z,rfl,hz,q⟩:=isStr.out h;obtain⟨t,rfl⟩:=rx;have fin:∀{lo hi:Option Int},Q (.str (Txt.slice z lo hi)) H→(Txt.slice z lo hi).length≤sizeLine∧∀t' k,EP X p_ σ Q (.str (Txt.slice z lo hi) t') {s with toks:=k}:=fun q=>
    ⟨Nat.le_trans (Txt.slice_le z _ _) hz,fun t' k=>⟨.str _,H,I.kept (t':=k) fun _ _ e=>e,⟨_,rfl⟩,q⟩⟩
  refine⟨"str",_,PySem.F.slot_str_getitem.lookup,typeIs_str _ _ _,?_⟩;cases pl with
  | none=>
    cases pu with
    | none=>exact wpAny_getItem_str_slice (l:=none) (u:=none) (st:=none) hs rfl (post_val_or_str (fin q))
    | int j uj=>exact wpAny_getItem_str_slice (l:=none) (u:=some (j,uj)) (st:=none) hs rfl (post_val_or_str (fin q))
  | int i ui=>
    cases pu with
    | none=>exact wpAny_getItem_str_slice (l:=some (i,ui)) (u:=none) (st:=none) hs rfl (post_val_or_str (fin q))
    | int j uj=>exact wpAny_getItem_str_slice (l:=some (i,ui)) (u:=some (j,uj)) (st:=none) hs rfl (post_val_or_str (fin q))
end
def qgO (K:W.Frag):List V→Hp→VK→Prop:=fun xs H Q=>ar2 xs fun x y=>isRef x fun a=>isRef y fun p=>∃(C:Addr) (Ds:List Addr) (b:Bool),H a=some (vY a C)∧Bu K C∧H p=some (.tup (Ds.map V.ref))∧W.kitAny K (.ref C) (Ds.map Value.ref)=some b∧Q (.bl b) H
theorem QX:∀{Ds:List Addr} {us:List Value},Vals (Ds.map V.ref) us→us=Ds.map Value.ref
  | [],_,h=>by cases h;rfl
  | D::Ds,_,h=>by
    cases h with
    | cons a b=>
      rw[QX b];obtain rfl:=(show _=Value.ref D from a);rfl
theorem qgP {X:Cx} {K:W.Frag} (hK:X.K=K):dD X (.builtin "isinstance") (qgO K):=by
  subst hK;intro p_ s σ H xs us Q I r h;obtain⟨v1,v2,rfl,h⟩:=ar2.out h;obtain⟨a,rfl,h⟩:=isRef.out h;obtain⟨p,rfl,C,Ds,b,e,⟨L,cd,hcd⟩,hp,hk,q⟩:=isRef.out h;obtain⟨u,v,rfl,r1,r2⟩:=r.two;obtain rfl:u=Value.ref a:=r1;obtain rfl:v=Value.ref p:=r2;obtain⟨ex,_⟩:=I.hok a _ e;obtain⟨_,its,rv,o,e1,e2,k,e3⟩:=(show d8 X.prog X.w H s.heap p (.tup (Ds.map V.ref)) from I.hok p _ hp);obtain rfl:=QX rv;obtain⟨c,dd,dt,sl⟩:=o;replace e2:c = .type "tuple" :=e2;replace e3:dt = .seq (Ds.map Value.ref).toArray k:=e3;subst e2 e3;exact W.kia_tup (Vv hcd L) I.FJ ex.at e1 hk (fun z=>by cases z) fun tk=>⟨.bl b,H,I.kept (fun _ _ e=>e),rfl,q⟩
def qcC (i:Nat) (C:Addr) (Ds:List Addr) (b:Bool):TE:=fun σ H Q=>getSt σ i fun x=>isRef x fun a=>H a=some (vY a C)∧∀p,H p=none→Q (.bl b) (upd H p (.tup (Ds.map V.ref)))
@[simp ↓] theorem qjs i C Ds b σ H Q:qcC i C Ds b σ H Q=getSt σ i fun x=>isRef x fun a=>H a=some (vY a C)∧∀p,H p=none→Q (.bl b) (upd H p (.tup (Ds.map V.ref))):=rfl
theorem uo {X:Cx} {K:W.Frag} {C:Addr} {Ds:List Addr} {b:Bool} {i:Nat} {t:TA} {e c:Expr} {p pos:Pos} (hK:X.K=K) (hg:Gl X "isinstance") (hm:X.mg "isinstance" = none) (L:Bu K C) (hk:W.kitAny K (.ref C) (Ds.map Value.ref)=some b)
    (hl:Ds.length≤20) (ht:∀σ H Q,t σ H Q=Q (Ds.map V.ref) H) (ha:PA X [e,c] (bY (fVar i) (bY (WT t) vO)))
    (hs:starEach [e,c] X.env=(false,eval e X.env)::starEach [c] X.env:=by rfl) (hpl:(backTo pos (starEach [c] X.env)).any (·.1)=false:=by rfl) :
    PE X (.Call (.Name "isinstance" p) [e,c] [] pos) (qcC i C Ds b):=
  PE.mono (aQ (qgP hK) hg hm boot_isinstance ha (by decide) (by decide) hs hpl) fun {σ H Q} h=>getSt.imp (fun x h1=>by
    obtain⟨q,rfl,h2,h3⟩:=isRef.out h1;show WT t σ H _;unfold WT;rw[ht];refine⟨by rw[List.length_map];exact Nat.le_trans hl (by decide),fun p hp=>?_⟩;exact⟨C,Ds,b,by rw[aV (aY h2 hp)];exact h2,L,aA,hk,h3 p hp⟩) h
section
variable {X:Cx}
def D_:List TE→St→Hp→Str→(Str→Hp→Prop)→Prop
  | [],_,H,acc,Q=>Q acc H
  | t::r,σ,H,acc,Q=>t σ H fun x H1=>isStr x fun y=>y.length≤sizeLine∧(acc++y).length≤sizeLine∧D_ r σ H1 (acc++y) Q
@[simp ↓] theorem qjt σ H acc Q:D_ [] σ H acc Q=Q acc H:=rfl
@[simp ↓] theorem qju t r σ H acc Q:D_ (t::r) σ H acc Q=(t σ H fun x H1=>isStr x fun y=>y.length≤sizeLine∧(acc++y).length≤sizeLine∧D_ r σ H1 (acc++y) Q):=rfl
def Zm (ts:List TE):TE:=fun σ H Q=>D_ ts σ H Str.empty fun z H1=>z.length≤sizeLine∧Q (.str z) H1
@[simp ↓] theorem qig ts σ H Q:Zm ts σ H Q=(D_ ts σ H Str.empty fun z H1=>z.length≤sizeLine∧Q (.str z) H1):=rfl
def PF (X:Cx) (e:Expr) (t:TE):Prop:=∀(p_:List (Addr×Obj)) (s:Shared) (σ:St) (H:Hp) (Q:Str→Hp→Prop),Inv X p_ σ H s→(t σ H fun x H1=>isStr x fun y=>y.length≤sizeLine∧Q y H1)→
  wpAny (model X.prog X.w) X.A (eval e X.env) (fun v s1=>∃y tk H1,v = .str y tk∧Inv X p_ σ H1 s1∧Q y H1) X.xe s
theorem qgQ {e:Expr} {t:TE} (h:PE X e t):PF X e t:=fun p_ s σ H Q I hq=>
  d9 (h p_ s σ H _ I hq) fun v s1 ⟨x,H1,I1,r,q⟩=>by
    obtain⟨y,rfl,_,q2⟩:=isStr.out q;obtain⟨tk,rfl⟩:=r;exact⟨y,tk,H1,rfl,I1,q2⟩
theorem qcD {e:Expr} {pos:Pos} {t:TE} (h:PE X e t):PF X (.FormattedValue e (-1) none pos) t:=fun p_ s σ H Q I hq=>
  wpAny_FormattedValue_plain (d9 (h p_ s σ H _ I hq) fun v s1 ⟨x,H1,I1,r,q⟩=>by
    obtain⟨y,rfl,hy,q2⟩:=isStr.out q;obtain⟨tk,rfl⟩:=r;exact wpAny_formatField_str ⟨y,_,H1,rfl,I1,q2⟩ ⟨y,_,H1,rfl,I1.tok _,q2⟩ hy)
inductive PFs (X:Cx):List Expr→List TE→Prop where
  | nil:PFs X [] []
  | cons {e:Expr} {es:List Expr} {t:TE} {ts:List TE}:PF X e t→PFs X es ts→PFs X (e::es) (t::ts)
theorem PFs.joins {es:List Expr} {ts:List TE} (h:PFs X es ts):∀(p_:List (Addr×Obj)) (s:Shared) (σ:St) (H:Hp) (acc:Str) (Q:Str→Hp→Prop) (R:Str→Shared→Prop),Inv X p_ σ H s→D_ ts σ H acc Q→
    (∀out s1 H1,Inv X p_ σ H1 s1→Q out H1→R out s1)→Joins (model X.prog X.w) X.A X.xe (evalEach es X.env) acc R s:=by
  induction h with
  | nil=>exact fun p_ s σ H acc Q R I hq hR=>hR _ _ _ I hq
  | @cons e es t ts h hs ih=>
    intro p_ s σ H acc Q R I hq hR;show wpAny _ _ (eval e X.env) _ _ s;refine wpAny_mono (h p_ s σ H (fun y H1=>(acc++y).length≤sizeLine∧D_ ts σ H1 (acc++y) Q) I hq) (fun v s1 ⟨y,tk,H1,e1,I1,hl,q⟩=>⟨y,tk,e1,hl,ih p_ s1 σ H1 _ Q R I1 q hR⟩) fun _ _ z=>z
theorem qaG {v₁ v₂:Expr} {rest:List Expr} {pos:Pos} {ts:List TE} (h:PFs X (v₁::v₂::rest) ts):PE X (.JoinedStr (v₁::v₂::rest) pos) (Zm ts):=by
  intro p_ s σ H Q I hq;refine wpAny_JoinedStr (h.joins p_ s σ H Str.empty _ _ I hq fun out s1 H1 I1 q=>?_);exact⟨q.1,.str out,H1,I1.tok _,⟨_,rfl⟩,q.2⟩
end
section
variable {X:Cx} {e:Expr} {es:List Expr} {te:TE} {t:TA}
structure PAq (X:Cx) (es:List Expr) (t:TA):Prop where
  out:PA X es t
theorem qaH {env:Env} (h:∀a b,e≠.Starred a b):starEach (e::es) env=(false,eval e env)::starEach es env:=by
  cases e <;> first | rfl | exact absurd rfl (h _ _)
theorem vZ:PAq X [] vO:=⟨ak⟩
theorem aR (ha:PE X e te) (hr:PAq X es t) (hn:∀a b,e≠.Starred a b:=by(intro _ _ h;cases h)):PAq X (e::es) (bY te t):=⟨aj ha hr.out (qaH hn)⟩
end
structure Xv (X:Cx) (e:Expr) (te:TE):Prop where
  out:PE X e te
theorem wg {X:Cx} {es:List Expr} {t:TA} {pos:Pos} (h:PAq X es t):Xv X (.List es pos) (Z9 t):=⟨bB h.out⟩
structure PSq (X:Cx) (st:Stmt) (t:TS):Prop where
  out:PS X st t
structure FN (X:Cx) (st:List Stmt) (t:TS):Prop where
  out:Ph X st t
section
variable {X:Cx} {st:Stmt} {rest:List Stmt} {t u:TS} {e a b:Expr} {te ta tb:TE} {pos:Pos}
theorem gq (h1:PSq X st t) (h2:FN X rest u):FN X (st::rest) (qdp t u):=⟨aC h1.out h2.out⟩
theorem Np (h1:PSq X st t):FN X [st] t:=⟨aG h1.out⟩
theorem Xw {c:Expr} {p q:List Stmt} {tc:TT} (hc:PT X c tc) (ha:FN X p t) (hb:FN X q u):PSq X (.If c p q pos) (qdq tc t u):=⟨cO hc ha.out hb.out⟩
theorem wj {i:Nat} {x:Str} {pos':Pos} (hN:X.N.Nodup) (hi:X.N[i]? = some x) (hx:Loc X.env.scope x) (he:Xv X e te) (hs:swapsWith e (some (.Name x pos')) pos.line X.env=pure false:=by rfl) (hf:X.fn x=true∨X.env.scope.names.lookup x=some .local:=by first | exact .inl rfl | exact .inr rfl | assumption) :
    PSq X (.Assign [.Name x pos'] e pos) (qa9 te (Ux i)):=⟨bO hN hi hx he.out hs hf⟩
theorem Tp {op:Operator} {r:R2} (ho:mR X (binaryOp op) r) (ha:Xv X a ta) (hb:Xv X b tb):Xv X (.BinOp a op b pos) (K6 r ta tb):=⟨bQ ho ha.out hb.out⟩
theorem qgR {r:R2} (hr:IxR X r) (ha:Xv X a ta) (hb:Xv X b tb) (hs:YQ b):Xv X (.Subscript a b pos) (K6 r ta tb):=⟨cX hr ha.out hb.out hs⟩
theorem wk (h:Xv X e te):Xv X e (big te):=⟨qgN h.out⟩
end
end L2
namespace L2
open PySem PySem.Spec PySem.W PyProof.Rows
section
variable {prog:Program} {w:World} {A:Around} {E:Value→Shared→Prop} {K:W.Frag} {h:Heap} {g:Array GenState} {d:Drawn} {t:Nat} {os:OsState}
variable {nm q:Str} {C N:Addr} {bs bm:List Value} {hdct:Bool} {sn:List Str} {sub:List Value} {ab:Bool} {col:Option Bool} {dd:Option Addr} {k0 k1 k2 k3 k5:Option Value}
structure qpc (K:W.Frag) (C:Addr):Prop where
  ga:findIn K (.ref C) "__getattribute__" = some (some (.builtin "BaseException.__getattribute__"))
  gn:findIn K (.ref C) "__getattr__" = some none
  mb:mroIn K C (.type "BaseException")=some true
  hd:hasDictIn K C=true
structure qpd (K:W.Frag) (C PE:Addr):Prop where
  sa:findIn K (.ref C) "__setattr__" = some (some (.builtin "object.__setattr__"))
  mo:mroIn K C (.type "object")=some true
  cl:∃cd,clsIn K C=some cd∧cd.mro = .ref C::.ref PE::Ga∧cd.hasDict=true
end
end L2
namespace L2
open PySem PySem.Spec PyProof.Rows
structure XMk (K:W.Frag) (C B f:Addr):Prop where
  ob:∃nm q N bs hdct sn sub ab col dd k0 k1 k2 k3 k5,K.lookup C=some (excClassObj nm q C N bs (.ref B::Ga) hdct sn sub ab col dd k0 k1 k2 k3 k5 "ValueError.__new__")
  pe:Br K B
  pm:∃cd,W.clsIn K B=some cd∧cd.mro = .ref B::Ga
  init:W.findIn K (.ref C) "__init__" = some (some (.ref f))
  fn:W.typeIn K (.ref f)=some (.type "function")
  kp:W.keepIn K (.ref C)=true
end L2
namespace L2
open PySem
theorem Ig {K:W.Frag} {C:Addr}:W.kitOne K (.ref C) (.ref C)=some true:=by
  unfold W.kitOne;simp
theorem bw {K:W.Frag} {C D:Addr} {b:Bool} (ne:(C == D)=false) (i:W.isClsIn K D=true) (t:W.typeIn K (.ref D)=some (.type "type")) (s:W.subIn K (.ref C) (.ref D)=some b):W.kitOne K (.ref C) (.ref D)=some b:=by
  have i':(W.clsIn K D).isSome=true:=i;have ne':C≠D:=by simpa using ne
  unfold W.kitOne W.kitCls;rw[if_neg (by simpa using ne')];show(if _ then _ else _)=_
  rw[if_pos (by rw[i',t];rfl)];exact s
theorem Tq:W.kitMeta "ValueError" = true:=by decide+kernel
theorem Tr {K:W.Frag} {C:Addr} {T:String} {b:Bool} (m:W.kitMeta T=true) (s:W.subIn K (.ref C) (.type T)=some b):W.kitOne K (.ref C) (.type T)=some b:=by
  unfold W.kitOne W.kitCls;rw[if_neg (by simp)];show(if _ then _ else _)=_
  rw[if_pos m];exact s
theorem Ls {C D:Addr} (h:(C == D)=false):C≠D:=by simpa using h
end L2
namespace L2
open PySem PySem.Spec PyProof.Rows PySem.SeqAt
section
variable {X:Cx} {K:W.Frag}
theorem Gz:∀{bs:List Bool} {its:List Value},Vals (bs.map V.bl) its→its=bs.map Value.bool
  | [],_,r=>by rw[List.map_nil] at r;cases r;rfl
  | b::bs,_,r=>by
    rw[List.map_cons] at r;cases r with
    | cons r1 r2=>
      rw[Gz r2];cases (show _=Value.bool b from r1);rfl
def Zn (K:W.Frag):V→List V→Hp→VK→Prop:=fun x vs H Q=>isRef x fun l=>ar1 vs fun y=>xg y fun k=>∃bs:List Bool,cj K H l (bs.map V.bl)∧Q (.int (bs.count k:Nat)) H
@[simp ↓] theorem qih (K:W.Frag) x vs H Q:Zn K x vs H Q=(isRef x fun l=>ar1 vs fun y=>xg y fun k=>∃bs:List Bool,cj K H l (bs.map V.bl)∧Q (.int (bs.count k:Nat)) H):=rfl
theorem Bv (hK:X.K=K):Wr X "list.count" (Zn K):=by
  subst hK;intro p_ s σ H x xs v us Q I rx rs q;obtain⟨l,rfl,q⟩:=isRef.out q;obtain⟨y,rfl,q⟩:=ar1.out q;obtain⟨k,rfl,bs,hl,q⟩:=xg.out q;obtain⟨u,rfl,ru⟩:=rs.one;cases (show u=Value.bool k from ru);obtain rfl:v=Value.ref l:=rx;obtain⟨its,rv,pl,hz1⟩:=I.list hl;have hi:=Gz rv;subst hi;obtain⟨⟨cls,dd,data,sl⟩,ho,hc,n,hd⟩:=pl.isList;simp only at hc hd;subst hc hd;refine call_meets PySem.F.slot_list_count ⟨_,ho,rfl⟩ PySem.F.entry_list_count (PySem.F.args_list_count_2 _ _) (list_countAt l _ n dd sl (.bool k) (isBoolOf k)) ⟨ho,fun y hy=>?_,?_⟩
  · simp at hy
    rcases hy with⟨_,rfl⟩ | ⟨_,rfl⟩
    ·exact EqAt.bool_bool false k
    ·exact EqAt.bool_bool true k
  · have e:((bs.map Value.bool).toArray.toList.countP (isBoolOf k):Nat)=bs.count k:=by
      show(bs.map Value.bool).countP (isBoolOf k)=_;rw[List.countP_map];rfl
    rw[e];exact⟨.int _,H,I.tok _,⟨_,rfl⟩,q⟩
theorem KR {k:Bool}:∀{bs:List Bool} {j:Nat},j<bs.idxOf k→∀hj:j<bs.length,(bs[j] == k)=false
  | [],j,h,hj=>by simp at hj
  | b::bs,0,h,hj=>by
    rw[List.idxOf_cons] at h;cases e:(b == k) with
    | true=>rw[e] at h;simp at h
    | false=>simpa using e
  | b::bs,j+1,h,hj=>by
    rw[List.idxOf_cons] at h;cases e:(b == k) with
    | true=>rw[e] at h;simp at h
    | false=>
      rw[e] at h;simp only[cond_false] at h;simpa using KR (bs:=bs) (j:=j) (by omega) (by simpa using hj)
def Zo (K:W.Frag):V→List V→Hp→VK→Prop:=fun x vs H Q=>isRef x fun l=>ar1 vs fun y=>xg y fun k=>∃bs:List Bool,cj K H l (bs.map V.bl)∧k∈bs∧Q (.int (bs.idxOf k:Nat)) H
@[simp ↓] theorem qii (K:W.Frag) x vs H Q:Zo K x vs H Q=(isRef x fun l=>ar1 vs fun y=>xg y fun k=>∃bs:List Bool,cj K H l (bs.map V.bl)∧k∈bs∧Q (.int (bs.idxOf k:Nat)) H):=rfl
theorem Bw (hK:X.K=K):Wr X "list.index" (Zo K):=by
  subst hK;intro p_ s σ H x xs v us Q I rx rs q;obtain⟨l,rfl,q⟩:=isRef.out q;obtain⟨y,rfl,q⟩:=ar1.out q;obtain⟨k,rfl,bs,hl,hk,q⟩:=xg.out q;obtain⟨u,rfl,ru⟩:=rs.one;cases (show u=Value.bool k from ru);obtain rfl:v=Value.ref l:=rx;obtain⟨its,rv,pl,hz1⟩:=I.list hl;have hi:=Gz rv;subst hi;obtain⟨⟨cls,dd,data,sl⟩,ho,hc,n,hd⟩:=pl.isList;simp only at hc hd;subst hc hd;have hj:bs.idxOf k<bs.length:=List.idxOf_lt_length_iff.mpr hk;have hz2:bs.length≤sizeLine:=by simpa using hz1
  have hs:sizeLine=2 ^ 24:=rfl;refine call_meets PySem.F.slot_list_index ⟨_,ho,rfl⟩ PySem.F.entry_list_index (PySem.F.args_list_index_2 _ _)
    (list_indexAt l _ n dd sl (.bool k) (isBoolOf k) (bs.idxOf k) (by simpa using hj) (by omega) ?_ ?_) ⟨ho,fun y hy=>?_,⟨.int _,H,I.tok _,⟨_,rfl⟩,q⟩⟩
  ·simp[isBoolOf]
  ·intro j hjs hlt;have h:=KR hlt (by simpa using hjs);simpa [isBoolOf] using h
  · simp at hy
    rcases hy with⟨_,rfl⟩ | ⟨_,rfl⟩
    ·exact EqAt.bool_bool false k
    ·exact EqAt.bool_bool true k
end
structure XC (K:W.Frag) (C B:Addr):Prop where
  cl:∃cd,W.clsIn K C=some cd∧cd.mro = .ref C::.ref B::Ga∧cd.hasDict=true
  ty:W.typeIn K (.ref C)=some (.type "type")
  ga:W.findIn K (.ref C) "__getattribute__" = some (some (.builtin "BaseException.__getattribute__"))
  gn:W.findIn K (.ref C) "__getattr__" = some none
  gc:W.findIn K (.ref C) "__class__" = some (some (.builtin "object.__class__"))
  kp:W.keepIn K (.ref C)=true
section
variable {K:W.Frag} {C D B:Addr}
end
def ar3 (vs:List V) (R:V→V→V→Prop):Prop:=match vs with
  | [u,v,w]=>R u v w
  | _=>False
@[simp ↓] theorem qrD u v w R:ar3 [u,v,w] R=R u v w:=rfl
theorem ar3.out {vs:List V} {R:V→V→V→Prop} (h:ar3 vs R):∃u v w,vs=[u,v,w]∧R u v w:=by
  match vs,h with
  | [u,v,w],h=>exact⟨u,v,w,rfl,h⟩
section
variable {X:Cx} {pos:Pos}
def qff (i j k:Nat) (ta:TA):TS:=fun D σ H=>ta σ H fun vs H1=>ar3 vs fun u v w=>D.nx (((σ.set i (some u)).set j (some v)).set k (some w)) H1
@[simp ↓] theorem qnV i j k ta D σ H:qff i j k ta D σ H=(ta σ H fun vs H1=>ar3 vs fun u v w=>D.nx (((σ.set i (some u)).set j (some v)).set k (some w)) H1):=rfl
theorem qer {i j k:Nat} {x y z:Str} {a b c:Expr} {ta:TA} {px py pz pt:Pos} {kt k2 pt2} (hc:X.calm=true) (hN:X.N.Nodup) (hi:X.N[i]? = some x) (hj:X.N[j]? = some y) (hk:X.N[k]? = some z) (hij:i≠j) (hik:i≠k) (hjk:j≠k)
    (hx:X.env.scope.names.lookup x=some .local) (hy:X.env.scope.names.lookup y=some .local) (hz:X.env.scope.names.lookup z=some .local) (ha:PA X [a,b,c] ta)
    (hw:swappedStores [.Tuple [.Name x px,.Name y py,.Name z pz] kt pt] (.Tuple [a,b,c] k2 pt2) X.env=pure (some [x,y,z]))
    (hs:swapsWithSole [.Tuple [.Name x px,.Name y py,.Name z pz] kt pt] (.Tuple [a,b,c] k2 pt2) pos.line X.env=pure false:=by rfl) :
    PS X (.Assign [.Tuple [.Name x px,.Name y py,.Name z pz] kt pt] (.Tuple [a,b,c] k2 pt2) pos) (qff i j k ta):=by
  intro p_ s σ H D I h;rw[exec_Assign_arm];refine wpAny_bind (wpAny_standAt ?_);rw[hs];refine wpAny_bind (wpAny_pure ?_);rw[if_neg (by decide)];refine wpAny_bind (Tuple_ (d9 (ha _ p_ s σ H _ I h) fun us s1 zz=>?_));obtain⟨vs,H1,I1,r1,q1⟩:=zz;obtain⟨u,v,w,rfl,q1⟩:=ar3.out q1;obtain⟨u1,u2,u3,rfl,ru,rv,Rr⟩:∃u1 u2 u3,us=[u1,u2,u3]∧RelV u u1∧RelV v u2∧RelV w u3:=by
    cases r1 with
    | cons p q=>
      cases q with
      | cons p' q'=>
        cases q' with
        | cons p2 q2=>
          cases q2;exact⟨_,_,_,rfl,p,p',p2⟩
  refine wpAny_newObj_type ?_ (by show 3≤sizeLine;decide);have I2:Inv X p_ σ H1 {s1 with heap:=s1.heap.push {cls:=.type "tuple",data:=.seq [u1,u2,u3].toArray}}:=I1.kept (t':=s1.toks) fun b o e=>Heap.get?_push_of_some _ e;rw[hw];refine wpAny_bind (wpAny_pure ?_);show wpAny (model X.prog X.w) X.A (do rule "assign.swapped-stores";let items ← unpackItems (.ref s1.heap.objs.size) 3 none;assignInOrder [fun v=>bindName X.env z v,fun v=>bindName X.env y v,fun v=>bindName X.env x v] items.reverse;pure Flow.next) _ _ _
  refine wpAny_bind (wpAny_rule (wpAny_bind (unpackItems_tuple (items:=#[u1,u2,u3]) (I.ok.hd hc) (IsTup.new s1.heap _) fun h' hx'=>?_)));have I3:=I2.kept (h':=h') (t':=s1.toks) fun b o e=>hx' b o (Nat.ne_of_lt (Heap.lt_size e)) e;show wpAny _ _ (assignInOrder [fun v=>bindName X.env z v,fun v=>bindName X.env y v,fun v=>bindName X.env x v] [u3,u2,u1] >>= fun _=>pure Flow.next) _ _ _;refine wpAny_bind (assignInOrder_cons (wpAny_bindName (uh I3 hN hk (.inl hz) Rr (fun s2 I4=>?_) (.inr hz))));refine assignInOrder_cons (wpAny_bindName (uh I4 hN hj (.inl hy) rv (fun s3 I5=>?_) (.inr hy)));refine assignInOrder_cons (wpAny_bindName (uh I5 hN hi (.inl hx) ru (fun s4 I6=>assignInOrder_nil (wpAny_pure ?_)) (.inr hx)));rw[List.set_comm _ _ (Ne.symm hjk),List.set_comm _ _ (Ne.symm hik),List.set_comm _ _ (Ne.symm hij)] at I6;exact⟨_,H1,I6,q1⟩
end
end L2
namespace L2
open PySem PySem.Spec PyProof.Rows
variable {X:Cx}
def qcE:R2:=fun x y H Q=>isRef x fun l=>isRef y fun b=>∃xs,H l=some (.tup xs)∧∃zs,H b=some (.tup zs)∧xs.length+zs.length≤sizeLine∧∀p H',H' p=some (.tup (xs++zs))→Same H H'→Q (.ref p) H'
@[simp ↓] theorem qnW x y H Q:qcE x y H Q=(isRef x fun l=>isRef y fun b=>∃xs,H l=some (.tup xs)∧∃zs,H b=some (.tup zs)∧xs.length+zs.length≤sizeLine∧∀p H',H' p=some (.tup (xs++zs))→Same H H'→Q (.ref p) H'):=rfl
theorem Nq:mR X (binaryOp .Add) qcE:=by
  intro p_ s σ H x y v u Q I rx ry h;obtain⟨l,rfl,h0⟩:=isRef.out h;obtain⟨b,rfl,xs,h1,zs,h2,hz,q⟩:=isRef.out h0;obtain rfl:v=Value.ref l:=rx;obtain rfl:u=Value.ref b:=ry;obtain⟨z1,vs,r1,ht⟩:=I.hok _ _ h1;obtain⟨z2,ws,r2,hb⟩:=I.hok _ _ h2;obtain⟨⟨cls,dd,data,sl⟩,ho,hc,n,hd⟩:=id ht;obtain⟨⟨cls2,dd2,data2,sl2⟩,ho2,hc2,n2,hd2⟩:=id hb;simp only at hc hd hc2 hd2;subst hc hd hc2 hd2;have l1:=r1.length;have l2:=r2.length;have e:vs.toArray++ws.toArray=(vs++ws).toArray:=by simp
  by_cases hv:vs=[]
  · have hx:xs=[]:=List.eq_nil_of_length_eq_zero (by rw[l1,hv];rfl);exact concat_meets ⟨_,ho,rfl⟩ ⟨_,ho2,rfl⟩ noFill_tuple_add seq_tuple_add PySem.F.slot_tuple_add PySem.F.entry_tuple_add (PySem.F.args_tuple_add_2 _ _)
      (tuple_addW0 l b vs.toArray ws.toArray n n2 dd dd2 sl sl2 (by simp[hv])) ⟨ho,ho2,⟨.ref b,H,I,rfl,q b H (by rw[hx];exact h2) fun _ _ e=>e⟩⟩
  · by_cases hw:ws=[]
    · have hx:zs=[]:=List.eq_nil_of_length_eq_zero (by rw[l2,hw];rfl);exact concat_meets ⟨_,ho,rfl⟩ ⟨_,ho2,rfl⟩ noFill_tuple_add seq_tuple_add PySem.F.slot_tuple_add PySem.F.entry_tuple_add (PySem.F.args_tuple_add_2 _ _)
        (tuple_addW1 l b vs.toArray ws.toArray n n2 dd dd2 sl sl2 (by simpa using hv) (by simp[hw])) ⟨ho,ho2,⟨.ref l,H,I,rfl,q l H (by rw[hx,List.append_nil];exact h1) fun _ _ e=>e⟩⟩
    · refine concat_meets ⟨_,ho,rfl⟩ ⟨_,ho2,rfl⟩ noFill_tuple_add seq_tuple_add PySem.F.slot_tuple_add PySem.F.entry_tuple_add (PySem.F.args_tuple_add_2 _ _)
        (tuple_addW2 l b vs.toArray ws.toArray n n2 dd dd2 sl sl2 (by simpa using hv) (by simpa using hw) (by rw[List.size_toArray,List.size_toArray];omega)) ⟨ho,ho2,?_⟩
      rw[e];have hn:H s.heap.objs.size=none:=I.hok.fresh (Nat.le_refl _);refine⟨.ref _,upd H s.heap.objs.size (.tup (xs++zs)),I.laid (t':=s.toks) (fun _ _ q=>Heap.get?_push_of_some _ q) (Nat.le_refl _) ⟨by rw[List.length_append];omega,vs++ws,r1.append r2,⟨_,Heap.get?_push_size _ rfl,rfl,0,rfl⟩⟩,rfl,q _ _ aA fun c o ec=>?_⟩;rw[aV (aY ec hn)];exact ec
def Zq:R2:=fun x y H Q=>isStr x fun i=>isInt y fun k=>(0≤k∧k<2 ^ 60)∧i.length * k.toNat≤sizeLine∧∀z:Str,z.cps.toList=(List.replicate k.toNat i.cps.toList).flatten→Q (.str z) H
@[simp ↓] theorem qnX x y H Q:Zq x y H Q=(isStr x fun i=>isInt y fun k=>(0≤k∧k<2 ^ 60)∧i.length * k.toNat≤sizeLine∧∀z:Str,z.cps.toList=(List.replicate k.toNat i.cps.toList).flatten→Q (.str z) H):=rfl
theorem JV:∀(l:List (Array Nat)) (a:Array Nat),(l.foldl (·++·) a).toList=a.toList++(l.map Array.toList).flatten
  | [],a=>by simp
  | x::l,a=>by rw[List.foldl_cons,JV l];simp
theorem Vy:mR X (binaryOp .Mult) Zq:=by
  intro p_ s σ H x y v u Q I rx ry h;obtain⟨i,rfl,h0⟩:=isStr.out h;obtain⟨k,rfl,⟨hk0,hk1⟩,hz,q⟩:=isInt.out h0;obtain⟨t,rfl⟩:=rx;obtain⟨t',rfl⟩:=ry;have hlen:i.length=i.cps.toList.length:=by simp[Str.length]
  have hl:Builtin.Str.tooLong (i.length * k.toNat)=false:=by
    unfold Builtin.Str.tooLong;exact decide_eq_false (by omega)
  refine PySem.P.mul_str (by
    have h1:¬k < -(2 ^ 63:Int):=by omega
    have h2:¬k≥2 ^ 63:=by omega
    rw[decide_eq_false h1,decide_eq_false h2];rfl) (fun h1 h2=>?_) (fun h1 h2=>hl) ?_
  · have hk:(0:Int)<k:=by omega
    have hm:(i.length:Int) * k≤2 ^ 63 - 1:=by
      have e1:((i.length * k.toNat:Nat):Int)=(i.length:Int) * k:=by rw[Int.natCast_mul,Int.toNat_of_nonneg hk0]
      have e2:sizeLine≤2 ^ 60:=by rw[sizeLine_eq];decide
      rw[← e1];omega
    have:=(Int.le_ediv_iff_mul_le hk).mpr hm;omega
  · by_cases h1:k<1
    · have hk:k=0:=by omega
      subst hk;rw[if_pos (by decide)];exact⟨by decide,⟨.str Str.empty,H,I.tok _,⟨_,rfl⟩,q _ (by rfl)⟩⟩
    · rw[if_neg h1]
      by_cases h2:(k == 1 || i.length == 0)=true
      · rw[if_pos h2];refine⟨.str i,H,I,⟨_,rfl⟩,q _ ?_⟩
        rcases Bool.or_eq_true_iff.mp h2 with h3 | h3
        · have:k=1:=by simpa using h3
          subst this;simp
        ·have h4:i.cps.toList=[]:=List.eq_nil_of_length_eq_zero (by rw[← hlen];simpa using h3);rw[h4];simp
      · rw[if_neg h2];refine⟨?_,⟨.str _,H,I.tok _,⟨_,rfl⟩,q _ ?_⟩⟩
        · have e:∀z:Str,z.length=z.cps.toList.length:=fun z=>by simp[Str.length]
          rw[e,JV];simp only[List.nil_append,List.map_replicate,List.length_flatten,List.sum_replicate_nat];rw[hlen] at hz;simpa [Nat.mul_comm] using hz
        ·rw[JV];simp
def Xx:V→List V→Hp→VK→Prop:=fun x vs H Q=>isStr x fun z=>vs=[]∧(placed z fun _ c=>Unicode.upperOf c).size≤sizeLine∧Q (.str ⟨placed z fun _ c=>Unicode.upperOf c⟩) H
@[simp ↓] theorem qjv x vs H Q:Xx x vs H Q=(isStr x fun z=>vs=[]∧(placed z fun _ c=>Unicode.upperOf c).size≤sizeLine∧Q (.str ⟨placed z fun _ c=>Unicode.upperOf c⟩) H):=rfl
theorem qaI:Wr X "str.upper" Xx:=by
  intro p_ s σ H x xs v us Q I rx rs q;obtain⟨z,rfl,rfl,hz,q1⟩:=isStr.out q;cases rs;obtain⟨t,rfl⟩:=rx;refine call_gives F.slot_str_upper (typeIs_str _ _ _) F.entry_str_upper (F.args_str_upper_1 _) (gives_str_upper z t (by unfold Builtin.Str.tooLong;exact decide_eq_false (by omega))) ?_;exact⟨hz,⟨.str _,H,I.tok _,⟨_,rfl⟩,q1⟩⟩
theorem Zr:∀{xs:List V} {us:List Value},xs.length=us.length→(∀(i:Nat) (x:V) (u:Value),xs[i]? = some x→us[i]? = some u→RelV x u)→Vals xs us
  | [],[],_,_=>.nil
  | [],_::_,h,_=>nomatch h
  | _::_,[],h,_=>nomatch h
  | x::xs,u::us,h,r=>.cons (r 0 x u rfl rfl) (Zr (Nat.succ.inj h) fun i y w h1 h2=>r (i+1) y w (by simpa using h1) (by simpa using h2))
def qcF:List V→Hp→VK→Prop:=fun xs H Q=>ar1 xs fun x=>isStr x fun z=>z.cps.size≤sizeLine∧∀l,H l=none→Q (.ref l) (upd H l (.lst (z.cps.toList.map fun c=>.str ⟨#[c]⟩)))
@[simp ↓] theorem qjw xs H Q:qcF xs H Q=(ar1 xs fun x=>isStr x fun z=>z.cps.size≤sizeLine∧∀l,H l=none→Q (.ref l) (upd H l (.lst (z.cps.toList.map fun c=>.str ⟨#[c]⟩)))):=rfl
theorem qgS (hc:X.calm=true):dD X (.type "list") qcF:=by
  intro p_ s σ H xs us Q I rs q;obtain⟨v,rfl,q1⟩:=ar1.out q;obtain⟨z,rfl,hz,q2⟩:=isStr.out q1;obtain⟨u,rfl,ru⟩:=rs.one;obtain⟨t,rfl⟩:=ru;refine call_list_str (I.ok.hd hc) z t (fun h' tk acc c' hk hS hacc=>?_) hz;obtain⟨hs,ha⟩:=hacc;refine⟨.ref _,upd H s.heap.objs.size (.lst (z.cps.toList.map fun c=>.str ⟨#[c]⟩)),I.laid (t':=tk) hk (Nat.le_refl _) ⟨by simpa using hz,acc.toList,c',Zr (by simp[hs]) fun i x u h1 h2=>?_,hS⟩,rfl,q2 _ (I.hok.fresh (Nat.le_refl _))⟩;obtain⟨c,u',e1,rfl⟩:=ha i u (by simpa using h2);rw[List.getElem?_map] at h1;have e2:z.cps.toList[i]? = some c:=by simpa using e1
  rw[e2] at h1;cases h1;exact⟨u',rfl⟩
@[simp ↓] theorem qpe x y H Q:qgp x y H Q=(isRef x fun l=>isInt y fun k=>∃xs,H l=some (.lst xs)∧-(2 ^ 63)≤k∧k<2 ^ 63∧xs.length * k.toNat≤sizeLine∧∀p,H p=none→Q (.ref p) (upd H p (.lst (List.replicate k.toNat xs).flatten))):=rfl
theorem Zt:mR X (binaryOp .Mult) qgp:=by
  refine qf5.mono fun {x y H Q} h=>?_;obtain⟨l,rfl,h1⟩:=isRef.out h;obtain⟨k,rfl,xs,h2⟩:=isInt.out h1;exact⟨l,k,xs,rfl,rfl,h2⟩
theorem jY {K:W.Frag} {C:Addr}:W.kitAny K (.ref C) (([]:List Addr).map Value.ref)=some false:=rfl
theorem aP {K:W.Frag} {C D:Addr} {Ds:List Addr} (h1:cV K C (.ref D)=some false) (h2:W.kitAny K (.ref C) (Ds.map Value.ref)=some false):W.kitAny K (.ref C) ((D::Ds).map Value.ref)=some false:=by
  have e1:W.kitOne K (.ref C) (.ref D)=some false:=h1;rw[List.map_cons];unfold W.kitAny;simp[e1,h2]
end L2
namespace L2
open PySem PySem.Spec
section
variable {σ:St} {H:Hp} {p:Addr}
variable {φ:PyData→Prop}
end
theorem qcG {n j:Nat} {d:Nat}:HT.Rw n d (some (j:Int))=min j n:=by
  simp[HT.Rw];intro h;omega
theorem qgT {xs:List V} {j:Nat}:K8 xs none (some (j:Int))=xs.take j:=by
  unfold K8;rw[qcG];simp[HT.Rw,List.take_eq_take_iff]
theorem qcH {xs:List V} {j:Nat}:K8 xs (some (j:Int)) none=xs.drop j:=by
  unfold K8;rw[qcG];simp[HT.Rw];rw[List.take_of_length_le (by simp)]
  by_cases h:j≤xs.length
  ·rw[Nat.min_eq_left h]
  ·rw[Nat.min_eq_right (by omega),List.drop_of_length_le (Nat.le_refl _),List.drop_of_length_le (by omega)]
structure PJ (n:Nat) (x:Str):Prop where
  cp:∀c∈x.cps.toList,c<16 ^ 8
  ln:x.length≤n
theorem PJ.app {n m:Nat} {x y:Str} (h:PJ n x) (k:PJ m y):PJ (n+m) (x++y):=by
  refine⟨fun c hc=>?_,?_⟩
  · have e:(x++y).cps.toList=x.cps.toList++y.cps.toList:=by
      show(x.cps++y.cps).toList=_;simp
    rw[e,List.mem_append] at hc;exact hc.elim (h.cp c) (k.cp c)
  ·have e:(x++y).length=x.length+y.length:=Array.size_append;have h1:=h.ln;have h2:=k.ln;omega
theorem PJ.mono {n m:Nat} {x:Str} (h:PJ n x) (k:n≤m):PJ m x:=⟨h.cp,Nat.le_trans h.ln k⟩
def iW:List Str:=(Str.ofString "abcdefghijklmnopqrstuvwxyz").cps.toList.map fun c=>⟨#[c]⟩
theorem qaJ:iW.Nodup:=by decide+kernel
theorem Bx:iW.length=26:=by decide+kernel
theorem qes {α:Type} [DecidableEq α] {l xs:List α} (h:l.Nodup):l.length≤(l.filter fun x=>!decide (x∈xs)).length+xs.length:=by
  have h1:=wJ (l:=l.filter fun x=>decide (x∈xs)) (xs:=xs) (List.Pairwise.filter _ h) fun y hy=>by simpa using (List.mem_filter.mp hy).2
  have h2:∀l:List α,l.length=(l.filter fun x=>!decide (x∈xs)).length+(l.filter fun x=>decide (x∈xs)).length:=by
    intro l
    induction l with
    | nil=>rfl
    | cons a l ih=>
      by_cases ha:a∈xs <;> simp[ha] <;> omega
  have:=h2 l;omega
section
variable {σ:St} {H:Hp} {p:Addr} {K:W.Frag}
theorem Ih {vs:List V} {k:Int} {n:Nat} (h:vs.length=n) (h0:0≤k) (h1:k<n):∃v,v∈vs∧Lh vs k=some v:=by
  obtain⟨v,hv⟩:∃v,vs[k.toNat]? = some v:=⟨_,List.getElem?_eq_getElem (show k.toNat<vs.length by omega)⟩;refine⟨v,List.mem_of_getElem? hv,?_⟩;rw[show k=(k.toNat:Int) by omega];exact dj hv
end
section
variable {σ:St} {H:Hp} {p:Addr} {K:W.Frag}
mutual
theorem bW.x {H:Hp}:∀(d:PyData) (v:V),bW H d v→jB H d v
  | .none,v,h=>by simp only[bW,jB] at h ⊢;exact h
  | .bool b,v,h=>by simp only[bW,jB] at h ⊢;exact h
  | .int i,v,h=>by simp only[bW,jB] at h ⊢;exact h
  | .str x,v,h=>by simp only[bW,jB] at h ⊢;exact h
  | .list ds,v,h=>by
    simp only[bW,jB] at h ⊢;obtain⟨a,xs,e,h1,h2⟩:=h;exact⟨a,xs,e,h1,aX.x ds xs h2⟩
  | .tuple ds,v,h=>by
    simp only[bW,jB] at h ⊢;obtain⟨a,xs,e,h1,h2⟩:=h;exact⟨a,xs,e,h1,aX.x ds xs h2⟩
  | .dict kvs,v,h=>by
    simp only[bW,jB] at h ⊢;obtain⟨rfl,a,e,h1⟩:=h;exact⟨a,e,.inl ⟨[],.nil,h1⟩⟩
theorem aX.x {H:Hp}:∀(ds:List PyData) (vs:List V),aX H ds vs→dw H ds vs
  | [],vs,h=>by simp only[aX,dw] at h ⊢;exact h
  | d::ds,vs,h=>by
    simp only[aX,dw] at h ⊢;obtain⟨v,r,e,h1,h2⟩:=h;exact⟨v,r,e,bW.x d v h1,aX.x ds r h2⟩
end
theorem qgU {t:TE} {d:PyData} (h:∀(H1:Hp) (Q:VK),Same H H1→(∀v,bW (hid p H1) d v→Q v H1)→t σ H1 Q):GD p t σ H d:=fun H1 Q hp s q=>h H1 Q s fun v hv=>q v H1 (Same.refl _) hv
theorem Ii:GD p Xe σ H (.dict []):=fun H1 Q hp s q b hb=>q _ _ (aB hb) (by simp only[bW];exact⟨trivial,b,rfl,uV (iV hp s hb) aA⟩)
theorem QZ {H:Hp}:∀{ds:List PyData} {xs:List V} (j:Nat),aX H ds xs→aX H (ds.take j) (xs.take j)
  | ds,xs,0,h=>by simp[aX]
  | [],xs,j+1,h=>by simp only[aX] at h;subst h;simp[aX]
  | d::ds,xs,j+1,h=>by
    simp only[aX] at h;obtain⟨v,r,rfl,h1,h2⟩:=h;simp only[List.take_succ_cons,aX];exact⟨v,_,rfl,h1,QZ j h2⟩
theorem Q0 {H:Hp}:∀{ds:List PyData} {xs:List V} (j:Nat),aX H ds xs→aX H (ds.drop j) (xs.drop j)
  | ds,xs,0,h=>by simpa using h
  | [],xs,j+1,h=>by simp only[aX] at h;subst h;simp[aX]
  | d::ds,xs,j+1,h=>by
    simp only[aX] at h;obtain⟨v,r,rfl,h1,h2⟩:=h;simp only[List.drop_succ_cons];exact Q0 j h2
theorem Xy {ta tb:TE} {ds es:List PyData} (h1:GD p ta σ H (.list ds)) (h2:GD p tb σ H (.list es)) (hl:ds.length+es.length≤sizeLine):GD p (K6 qd8 ta tb) σ H (.list (ds++es)):=fun H1 Q hp s q=>
  h1 H1 _ hp s fun v H2 s2 hv=>h2 H2 _ hp (s.trans s2) fun u H3 s3 hu=>by
    have hv:=bW.same (b_ s3) _ _ hv;simp only[bW] at hv hu;obtain⟨a,xs,rfl,a1,a2⟩:=hv;obtain⟨b,ys,rfl,b1,b2⟩:=hu;have l1:=a2.length;have l2:=b2.length;refine⟨xs,iu _ _ a1,ys,iu _ _ b1,by omega,fun c hc=>q _ _ (s2.trans (s3.trans (aB hc))) ?_⟩;simp only[bW];exact⟨c,_,rfl,uV (iV hp (s.trans (s2.trans s3)) hc) aA,aX.same (b_ (aB hc)) _ _ (aX.append a2 b2)⟩
theorem Lw {H':Hp} {l:Addr} {ys:List V} (hl:∃xs,H p=some (.lst xs)) (s:Same H H') (e:H' l=some (.tup ys)):l≠p:=fun z=>by
  obtain⟨xs,h⟩:=hl;have:=s _ _ h;rw[← z,e] at this;cases this
theorem Tt {ta tb:TE} {ds es:List PyData} (hl0:∃xs,H p=some (.lst xs)) (h1:GD p ta σ H (.tuple ds)) (h2:GD p tb σ H (.tuple es)) (hl:ds.length+es.length≤sizeLine):GD p (K6 qcE ta tb) σ H (.tuple (ds++es)):=fun H1 Q hp s q=>
  h1 H1 _ hp s fun v H2 s2 hv=>h2 H2 _ hp (s.trans s2) fun u H3 s3 hu=>by
    have hv:=bW.same (b_ s3) _ _ hv;simp only[bW] at hv hu;obtain⟨a,xs,rfl,a1,a2⟩:=hv;obtain⟨b,ys,rfl,b1,b2⟩:=hu;have l1:=a2.length;have l2:=b2.length;refine⟨xs,iu _ _ a1,ys,iu _ _ b1,by omega,fun c H4 hc s4=>q _ _ (s2.trans (s3.trans s4)) ?_⟩;simp only[bW];exact⟨c,_,rfl,uV (Lw hl0 (s.trans (s2.trans (s3.trans s4))) hc) hc,aX.same (b_ s4) _ _ (aX.append a2 b2)⟩
theorem Nr {t:TE} {ds:List PyData} (hl0:∃xs,H p=some (.lst xs)) (h1:GD p t σ H (.list ds)):GD p (tCB Lj (bY t vO)) σ H (.tuple ds):=fun H1 Q hp s q=>
  h1 H1 _ hp s fun v H2 s2 hv=>by
    simp only[bW] at hv;obtain⟨a,xs,rfl,a1,a2⟩:=hv;refine⟨xs,.inl (iu _ _ a1),fun c H4 hc s4=>q _ _ (s2.trans s4) ?_⟩;simp only[bW];exact⟨c,_,rfl,uV (Lw hl0 (s.trans (s2.trans s4)) hc) hc,aX.same (b_ s4) _ _ a2⟩
theorem qfg {t tj:TE} {ds:List PyData} {j:Nat} (h1:GD p t σ H (.list ds)) (h2:GD p tj σ H (.int j)):GD p (tSl (qcb K) t Lg (Zf tj)) σ H (.list (ds.take j)):=fun H1 Q hp s q=>
  h1 H1 _ hp s fun v H2 s2 hv=>h2 H2 _ hp (s.trans s2) fun u H3 s3 hu=>by
    have hv:=bW.same (b_ s3) _ _ hv;simp only[bW] at hv hu;subst hu;obtain⟨a,xs,rfl,a1,a2⟩:=hv;refine⟨xs,cj.of (iu _ _ a1),fun c hc=>q _ _ (s2.trans (s3.trans (aB hc))) ?_⟩;rw[qgT];simp only[bW];exact⟨c,_,rfl,uV (iV hp (s.trans (s2.trans s3)) hc) aA,aX.same (b_ (aB hc)) _ _ (QZ j a2)⟩
theorem Tv {t tj:TE} {ds:List PyData} {j:Nat} (h1:GD p t σ H (.list ds)) (h2:GD p tj σ H (.int j)):GD p (tSl (qcb K) t (Zf tj) Lg) σ H (.list (ds.drop j)):=fun H1 Q hp s q=>
  h1 H1 _ hp s fun v H2 s2 hv=>h2 H2 _ hp (s.trans s2) fun u H3 s3 hu=>by
    have hv:=bW.same (b_ s3) _ _ hv;simp only[bW] at hv hu;subst hu;obtain⟨a,xs,rfl,a1,a2⟩:=hv;refine⟨xs,cj.of (iu _ _ a1),fun c hc=>q _ _ (s2.trans (s3.trans (aB hc))) ?_⟩;rw[qcH];simp only[bW];exact⟨c,_,rfl,uV (iV hp (s.trans (s2.trans s3)) hc) aA,aX.same (b_ (aB hc)) _ _ (Q0 j a2)⟩
theorem qcI {ta tb:TE} {i j:Int} {g:Int→Int→Int} (h1:GD p ta σ H (.int i)) (h2:GD p tb σ H (.int j)):GD p (K6 (fI0 fun i j=>.int (g i j)) ta tb) σ H (.int (g i j)):=fun H1 Q hp s q=>
  h1 H1 _ hp s fun v H2 s2 hv=>h2 H2 _ hp (s.trans s2) fun u H3 s3 hu=>by
    simp only[bW] at hv hu;subst hv hu;exact q _ H3 (s2.trans s3) (by simp[bW])
theorem qgV {ta tb:TE} {i j:Int} (h1:GD p ta σ H (.int i)) (h2:GD p tb σ H (.int j)) (hc:qdu i j):GD p (K6 (fI qdu fun i j=>.int (i ^ j.toNat)) ta tb) σ H (.int (i ^ j.toNat)):=fun H1 Q hp s q=>
  h1 H1 _ hp s fun v H2 s2 hv=>h2 H2 _ hp (s.trans s2) fun u H3 s3 hu=>by
    simp only[bW] at hv hu;subst hv hu;exact⟨hc,q _ H3 (s2.trans s3) (by simp[bW])⟩
theorem Xz {ta:TE} {i:Int} (h1:GD p ta σ H (.int i)):GD p (tUn (fU fun i=>.int (-i)) ta) σ H (.int (-i)):=fun H1 Q hp s q=>
  h1 H1 _ hp s fun v H2 s2 hv=>by
    simp only[bW] at hv;subst hv;exact q _ H2 s2 (by simp[bW])
theorem qgW {ta tb:TE} {ds:List PyData} {k:Nat} (h1:GD p ta σ H (.list ds)) (h2:GD p tb σ H (.int k)) (hk:k≤1000) (hl:ds.length * k≤sizeLine):GD p (K6 qgp ta tb) σ H (.list (List.replicate k ds).flatten):=fun H1 Q hp s q=>
  h1 H1 _ hp s fun v H2 s2 hv=>h2 H2 _ hp (s.trans s2) fun u H3 s3 hu=>by
    have hv:=bW.same (b_ s3) _ _ hv;simp only[bW] at hv hu;subst hu;obtain⟨a,xs,rfl,a1,a2⟩:=hv;refine⟨xs,iu _ _ a1,by omega,by omega,by rw[← a2.length];exact hl,fun c hc=>q _ _ (s2.trans (s3.trans (aB hc))) ?_⟩;simp only[bW];refine⟨c,_,rfl,uV (iV hp (s.trans (s2.trans s3)) hc) aA,aX.same (b_ (aB hc)) _ _ ?_⟩;show aX _ (List.replicate k ds).flatten (List.replicate k xs).flatten;clear hk hl q h2
    induction k with
    | zero=>simp[aX]
    | succ k ih=>rw[List.replicate_succ,List.replicate_succ,List.flatten_cons,List.flatten_cons];exact aX.append a2 ih
theorem qjx {t:TE} {n:Nat} (h1:GD p t σ H (.int n)) (hn:n≤1000):GD p (tLR (bY t vO)) σ H (.list ((List.range n).map fun i=>.int (i:Nat))):=fun H1 Q hp s q=>
  h1 H1 _ hp s fun v H2 s2 hv=>by
    simp only[bW] at hv;subst hv;refine⟨by omega,by omega,fun c hc=>q _ _ (s2.trans (aB hc)) ?_⟩;simp only[bW];refine⟨c,_,rfl,uV (iV hp (s.trans s2) hc) aA,?_⟩;have:=aX.ints (hid p (upd H2 c (.lst ((List.range n).map fun i=>V.int (i:Nat))))) ((List.range n).map fun i=>((i:Nat):Int));rw[List.map_map,List.map_map] at this;exact this
theorem qgX {t:TE} {ds:List PyData} (h1:GD p t σ H (.list ds)):GD p (tCB (M6 K) (bY t vO)) σ H (.int ds.length):=fun H1 Q hp s q=>
  h1 H1 _ hp s fun v H2 s2 hv=>by
    simp only[bW] at hv;obtain⟨a,xs,rfl,a1,a2⟩:=hv;refine⟨xs,.inl (cj.of (iu _ _ a1)),q _ _ s2 ?_⟩;rw[a2.length];simp[bW]
def Ij (φ:PyData→Prop) (H:Hp) (vs:List V):Prop:=∀v∈vs,∃d,bW H d v∧φ d
theorem Ij.same {φ:PyData→Prop} {H H':Hp} {vs:List V} (h:Ij φ H vs) (s:Same H H'):Ij φ H' vs:=fun v hv=>by
  obtain⟨d,h1,h2⟩:=h v hv;exact⟨d,bW.same s d v h1,h2⟩
theorem Ij.app {φ:PyData→Prop} {H:Hp} {vs us:List V} (h:Ij φ H vs) (k:Ij φ H us):Ij φ H (vs++us):=fun v hv=>(List.mem_append.mp hv).elim (h v) (k v)
def GT (φ:PyData→Prop) (p:Addr) (t:TE) (σ:St) (H:Hp):Prop:=∀(H1:Hp) (Q:VK),(∃o,H p=some o)→Same H H1→(∀v d H2,Same H1 H2→bW (hid p H2) d v→φ d→Q v H2)→t σ H1 Q
def GTs (φ:PyData→Prop) (p:Addr) (n:Nat) (t:TA) (σ:St) (H:Hp):Prop:=∀(H1:Hp) (Q:List V→Hp→Prop),(∃o,H p=some o)→Same H H1→(∀vs H2,Same H1 H2→vs.length=n→Ij φ (hid p H2) vs→Q vs H2)→t σ H1 Q
variable {φ:PyData→Prop}
theorem wu:GTs φ p 0 vO σ H:=fun H1 Q _ _ q=>q [] H1 (Same.refl _) rfl fun v hv=>absurd hv (by simp)
theorem aU {ta:TE} {tr:TA} {n:Nat} (h1:GT φ p ta σ H) (h2:GTs φ p n tr σ H):GTs φ p (n+1) (bY ta tr) σ H:=fun H1 Q hp s q=>
  h1 H1 _ hp s fun v d H2 s2 hv hd=>h2 H2 _ hp (s.trans s2) fun vs H3 s3 hl hvs=>q _ H3 (s2.trans s3) (by simp[hl]) fun u hu=>by
    rcases List.mem_cons.mp hu with rfl | hu
    ·exact⟨d,bW.same (b_ s3) d _ hv,hd⟩
    ·exact hvs u hu
theorem cg {t:TE} {d:PyData} (h:GD p t σ H d) (hf:φ d):GT φ p t σ H:=fun H1 Q hp s q=>h H1 Q hp s fun v H2 s2 hv=>q v d H2 s2 hv hf
theorem qgY {ta tb:TE} {x:Str} {k:Nat} (h1:GD p ta σ H (.str x)) (h2:GD p tb σ H (.int k)) (hk:k≤1000) (hl:x.length * k≤sizeLine) (hf:∀z:Str,z.cps.toList=(List.replicate k x.cps.toList).flatten→φ (.str z)):GT φ p (K6 Zq ta tb) σ H:=fun H1 Q hp s q=>
  h1 H1 _ hp s fun v H2 s2 hv=>h2 H2 _ hp (s.trans s2) fun u H3 s3 hu=>by
    simp only[bW] at hv hu;subst hv hu;exact⟨⟨by omega,by omega⟩,hl,fun z hz=>q _ _ H3 (s2.trans s3) (by simp[bW]) (hf z hz)⟩
theorem ql {t:TA} {n:Nat} (h:GTs φ p n t σ H) (hp:∃o,H p=some o) (hl:n≤sizeLine) {Q:VK} (q:∀b vs H2,H b=none→Same H H2→vs.length=n→H2 b=some (.lst vs)→Ij φ (hid p H2) vs→Q (.ref b) H2):big (Z9 t) σ H Q:=
  ⟨h H _ hp (Same.refl _) fun vs H2 s2 hn hv=>⟨by rw[hn];exact hl,fun b hb=>q b vs _ (nP s2 hb) (s2.trans (aB hb)) hn aA (hv.same (b_ (aB hb)))⟩⟩
end
end L2
namespace K36
open PySem L2
def top (i:Nat):Stmt:=PySem.Challenge.pw_pointways_k36_refused_pointings.main.body.getD i (.Pass ⟨0,0,0,0⟩)
abbrev eX:Stmt:=top 1
abbrev fO:Stmt:=top 2
abbrev dO:Stmt:=top 3
abbrev lV:Stmt:=top 28
abbrev iY:Stmt:=top 29
abbrev iy:Stmt:=top 30
abbrev eY:Stmt:=top 31
abbrev nU:Stmt:=top 32
abbrev gM:Stmt:=top 33
abbrev gO:Stmt:=inClass (top 34) 0
abbrev fP:Stmt:=inClass (top 34) 1
abbrev iZ:Stmt:=inClass (top 34) 2
abbrev i_:Stmt:=inClass (top 34) 3
abbrev jc:Stmt:=top 35
abbrev gJ:Stmt:=top 36
abbrev dG:Stmt:=top 37
abbrev lW:Stmt:=top 39
abbrev dU:Stmt:=top 40
abbrev cR:Stmt:=top 41
abbrev qm:Stmt:=top 42
abbrev jZ:Stmt:=top 43
abbrev dg:Stmt:=top 44
abbrev dH:Stmt:=top 46
abbrev Ik:Stmt:=top 47
abbrev lX:Stmt:=top 48
abbrev cA:Stmt:=top 49
abbrev jd:Stmt:=top 50
abbrev dY:Stmt:=top 52
abbrev j4:Stmt:=top 53
abbrev fQ:Stmt:=top 54
abbrev lY:Stmt:=top 56
abbrev Il:Stmt:=top 58
abbrev BJ:Stmt:=top 59
abbrev qp:Stmt:=top 60
abbrev wz:Stmt:=top 61
abbrev Im:Stmt:=top 62
abbrev CW:Stmt:=top 63
abbrev gP:Stmt:=top 64
abbrev wA:Stmt:=top 65
abbrev wB:Stmt:=top 66
abbrev BK:Stmt:=top 67
abbrev eZ:Stmt:=top 68
abbrev gw:Stmt:=top 69
abbrev fV:Stmt:=top 70
abbrev lZ:Stmt:=top 71
abbrev Io:Stmt:=top 72
theorem j6:bF ["web", "fixed", "steps", "number", "first", "second"] ["web", "fixed"] (ao eX):=⟨rfl,rfl,rfl,by decide+kernel,rfl,by decide+kernel,by decide+kernel⟩
theorem fj:bF ["start", "steps", "ways", "row", "at", "here", "number", "origin", "goal"] ["start", "steps"] (ao fO):=⟨rfl,rfl,rfl,by decide+kernel,rfl,by decide+kernel,by decide+kernel⟩
theorem Ea:bF ["web", "start", "steps", "ways"] ["web", "start", "steps"] (ao dO):=⟨rfl,rfl,rfl,by decide+kernel,rfl,by decide+kernel,by decide+kernel⟩
theorem Nt:bF ["thing"] ["thing"] (ao lV):=⟨rfl,rfl,rfl,by decide+kernel,rfl,by decide+kernel,by decide+kernel⟩
theorem Vz:bF ["thing"] ["thing"] (ao iY):=⟨rfl,rfl,rfl,by decide+kernel,rfl,by decide+kernel,by decide+kernel⟩
theorem Nu:bF ["thing"] ["thing"] (ao iy):=⟨rfl,rfl,rfl,by decide+kernel,rfl,by decide+kernel,by decide+kernel⟩
theorem PK:bF ["thing"] ["thing"] (ao eY):=⟨rfl,rfl,rfl,by decide+kernel,rfl,by decide+kernel,by decide+kernel⟩
theorem qaK:bF ["thing", "points"] ["thing", "points"] (ao nU):=⟨rfl,rfl,rfl,by decide+kernel,rfl,by decide+kernel,by decide+kernel⟩
theorem VB:bF ["thing", "points"] ["thing", "points"] (ao gM):=⟨rfl,rfl,rfl,by decide+kernel,rfl,by decide+kernel,by decide+kernel⟩
theorem VD:bF ["self", "points", "ties"] ["self", "points", "ties"] (ao gO):=⟨rfl,rfl,rfl,by decide+kernel,rfl,by decide+kernel,by decide+kernel⟩
theorem PL:bF ["self"] ["self"] (ao fP):=⟨rfl,rfl,rfl,by decide+kernel,rfl,by decide+kernel,by decide+kernel⟩
theorem VF:bF ["self"] ["self"] (ao iZ):=⟨rfl,rfl,rfl,by decide+kernel,rfl,by decide+kernel,by decide+kernel⟩
theorem VG:bF ["self"] ["self"] (ao i_):=⟨rfl,rfl,rfl,by decide+kernel,rfl,by decide+kernel,by decide+kernel⟩
theorem VH:bF ["web", "thing"] ["web", "thing"] (ao jc):=⟨rfl,rfl,rfl,by decide+kernel,rfl,by decide+kernel,by decide+kernel⟩
theorem Ip:bF ["web", "thing"] ["web", "thing"] (ao gJ):=⟨rfl,rfl,rfl,by decide+kernel,rfl,by decide+kernel,by decide+kernel⟩
theorem Eb:bF ["web", "thing"] ["web", "thing"] (ao dG):=⟨rfl,rfl,rfl,by decide+kernel,rfl,by decide+kernel,by decide+kernel⟩
theorem XD:bF ["thing"] ["thing"] (ao lW):=⟨rfl,rfl,rfl,by decide+kernel,rfl,by decide+kernel,by decide+kernel⟩
theorem Nv:bF ["web", "thing"] ["web", "thing"] (ao dU):=⟨rfl,rfl,rfl,by decide+kernel,rfl,by decide+kernel,by decide+kernel⟩
theorem vm:bF ["web", "thing"] ["web", "thing"] (ao cR):=⟨rfl,rfl,rfl,by decide+kernel,rfl,by decide+kernel,by decide+kernel⟩
theorem qaL:bF ["web", "pointing"] ["web", "pointing"] (ao qm):=⟨rfl,rfl,rfl,by decide+kernel,rfl,by decide+kernel,by decide+kernel⟩
theorem Q5:bF ["web", "pointing", "numbers"] ["web", "pointing", "numbers"] (ao jZ):=⟨rfl,rfl,rfl,by decide+kernel,rfl,by decide+kernel,by decide+kernel⟩
theorem JW:bF ["web", "pointing"] ["web", "pointing"] (ao dg):=⟨rfl,rfl,rfl,by decide+kernel,rfl,by decide+kernel,by decide+kernel⟩
theorem JX:bF ["web", "thing"] ["web", "thing"] (ao dH):=⟨rfl,rfl,rfl,by decide+kernel,rfl,by decide+kernel,by decide+kernel⟩
theorem qcJ:bF ["web", "pointing", "a", "b", "steps"] ["web", "pointing", "a", "b"] (ao Ik):=⟨rfl,rfl,rfl,by decide+kernel,rfl,by decide+kernel,by decide+kernel⟩
theorem Ny:bF ["web", "pointing", "point", "steps"] ["web", "pointing", "point"] (ao lX):=⟨rfl,rfl,rfl,by decide+kernel,rfl,by decide+kernel,by decide+kernel⟩
theorem gG:bF ["web", "steps", "points", "point", "found"] ["web", "steps"] (ao cA):=⟨rfl,rfl,rfl,by decide+kernel,rfl,by decide+kernel,by decide+kernel⟩
theorem VJ:bF ["web", "pointing"] ["web", "pointing"] (ao jd):=⟨rfl,rfl,rfl,by decide+kernel,rfl,by decide+kernel,by decide+kernel⟩
theorem eE:bF ["web", "start", "numbers", "ties", "points", "here", "number", "first", "second"] ["web", "start", "numbers"] (ao dY):=⟨rfl,rfl,rfl,by decide+kernel,rfl,by decide+kernel,by decide+kernel⟩
theorem z_:bF ["web", "thing", "met", "gone", "start", "numbers", "points", "between"] ["web", "thing", "met", "gone"] (ao j4):=⟨rfl,rfl,rfl,by decide+kernel,rfl,by decide+kernel,by decide+kernel⟩
theorem gj:bF ["web", "thing", "met", "gone", "ear", "start", "numbers"] ["web", "thing"] (ao fQ):=⟨rfl,rfl,rfl,by decide+kernel,rfl,by decide+kernel,by decide+kernel⟩
theorem XF:bF ["web", "row", "ties", "leads", "start", "numbers", "number", "goal"] ["web", "row"] (ao lY):=⟨rfl,rfl,rfl,by decide+kernel,rfl,by decide+kernel,by decide+kernel⟩
theorem qcK:bF ["_law_script", "_law_k", "_law_cell"] ["_law_script", "_law_k"] (ao Il):=⟨rfl,rfl,rfl,by decide+kernel,rfl,by decide+kernel,by decide+kernel⟩
theorem Zu:bF ["_law_pot_here", "_law_many", "_law_digit"] ["_law_pot_here", "_law_many"] (ao BJ):=⟨rfl,rfl,rfl,by decide+kernel,rfl,by decide+kernel,by decide+kernel⟩
theorem uq:bF ["_law_pot_here", "_law_many", "_law_letters", "_law_begin", "_law_p", "_law_q", "_law_some", "_law_found", "_law_k", "_law_more"] ["_law_pot_here", "_law_many"] (ao qp):=⟨rfl,rfl,rfl,by decide+kernel,rfl,by decide+kernel,by decide+kernel⟩
theorem Nz:bF ["_law_pot_here", "_law_things", "_law_found", "_law_thing"] ["_law_pot_here", "_law_things"] (ao wz):=⟨rfl,rfl,rfl,by decide+kernel,rfl,by decide+kernel,by decide+kernel⟩
theorem XH:bF ["_law_pot_here", "_law_names_here", "_law_a", "_law_b"] ["_law_pot_here", "_law_names_here"] (ao Im):=⟨rfl,rfl,rfl,by decide+kernel,rfl,by decide+kernel,by decide+kernel⟩
theorem BL:bF ["_law_pot_here", "_law_points", "_law_most", "_law_names_here", "_law_kind", "_law_ties", "_law_row", "_law_k", "_law_turns"] ["_law_pot_here", "_law_points", "_law_most"] (ao CW):=⟨rfl,rfl,rfl,by decide+kernel,rfl,by decide+kernel,by decide+kernel⟩
theorem VL:bF ["_law_pot_here", "_law_web_here"] ["_law_pot_here", "_law_web_here"] (ao gP):=⟨rfl,rfl,rfl,by decide+kernel,rfl,by decide+kernel,by decide+kernel⟩
theorem jr:bF ["_law_e", "_law_kinds", "_law_others"] ["_law_e"] (ao wA):=⟨rfl,rfl,rfl,by decide+kernel,rfl,by decide+kernel,by decide+kernel⟩
theorem qcL:bF ["_law_road", "_law_made", "_law_row", "_law_one", "_law_other"] ["_law_road", "_law_made", "_law_row", "_law_one", "_law_other"] (ao wB):=⟨rfl,rfl,rfl,by decide+kernel,rfl,by decide+kernel,by decide+kernel⟩
theorem Ir:bF ["_law_road", "_law_made", "_law_row", "_law_one", "_law_other", "_law_said_here", "_law_kept", "_law_e"] ["_law_road", "_law_made", "_law_row", "_law_one", "_law_other"] (ao BK):=⟨rfl,rfl,rfl,by decide+kernel,rfl,by decide+kernel,by decide+kernel⟩
theorem j7:bF ["_law_pot_here", "_law_row", "_law_some", "_law_at", "_law_odd"] ["_law_pot_here", "_law_row"] (ao eZ):=⟨rfl,rfl,rfl,by decide+kernel,rfl,by decide+kernel,by decide+kernel⟩
theorem ur:bF ["_law_pot_here", "_law_web_here", "_law_name", "_law_some", "_law_letters", "_law_others"] ["_law_pot_here", "_law_web_here"] (ao gw):=⟨rfl,rfl,rfl,by decide+kernel,rfl,by decide+kernel,by decide+kernel⟩
theorem tV:bF ["_law_pot_here", "_law_row", "_law_many", "_law_some"] ["_law_pot_here", "_law_row"] (ao fV):=⟨rfl,rfl,rfl,by decide+kernel,rfl,by decide+kernel,by decide+kernel⟩
theorem xr:bF ["_law_pot_here", "_law_web_here", "_law_first", "_law_some"] ["_law_pot_here", "_law_web_here"] (ao lZ):=⟨rfl,rfl,rfl,by decide+kernel,rfl,by decide+kernel,by decide+kernel⟩
theorem BP:bF ["_law_script", "_law_k", "_law_pot_here", "_law_web_here", "_law_made", "_law_row", "_law_bad", "_law_point", "_law_numbers", "_law_good", "_law_road"] ["_law_script"] (ao Io):=⟨rfl,rfl,rfl,by decide+kernel,rfl,by decide+kernel,by decide+kernel⟩
set_option genInjectivity false in
structure Adr where
  fu:Addr
  qt:FuncData
  fW:Addr
  tW:FuncData
  fB:Addr
  qu:FuncData
  jw:Addr
  xu:FuncData
  je:Addr
  yJ:FuncData
  iz:Addr
  rZ:FuncData
  fX:Addr
  tX:FuncData
  qw:Addr
  Fj:FuncData
  jf:Addr
  yK:FuncData
  gQ:Addr
  yL:FuncData
  fC:Addr
  tY:FuncData
  gR:Addr
  yM:FuncData
  gU:Addr
  yN:FuncData
  jg:Addr
  yO:FuncData
  gk:Addr
  qx:FuncData
  dW:Addr
  j8:FuncData
  mj:Addr
  BW:FuncData
  fD:Addr
  qy:FuncData
  cL:Addr
  fK:FuncData
  qz:Addr
  Fl:FuncData
  j9:Addr
  wL:FuncData
  dI:Addr
  mq:FuncData
  dJ:Addr
  mz:FuncData
  Iu:Addr
  Tw:FuncData
  mC:Addr
  BX:FuncData
  cF:Addr
  gH:FuncData
  jh:Addr
  yP:FuncData
  dZ:Addr
  oJ:FuncData
  qC:Addr
  Fo:FuncData
  fY:Addr
  tZ:FuncData
  mD:Addr
  BZ:FuncData
  Iv:Addr
  Tz:FuncData
  B_:Addr
  Lx:FuncData
  wC:Addr
  Iw:FuncData
  wD:Addr
  Iz:FuncData
  IK:Addr
  TF:FuncData
  IV:Addr
  TJ:FuncData
  ji:Addr
  yQ:FuncData
  mF:Addr
  uw:FuncData
  wF:Addr
  IW:FuncData
  Ca:Addr
  Ly:FuncData
  fG:Addr
  qD:FuncData
  jj:Addr
  yR:FuncData
  fZ:Addr
  t_:FuncData
  mG:Addr
  Cd:FuncData
  KY:Addr
  TQ:FuncData
  su:Value
  gA:Value
  gV:Value
  j_:Value
  cJ:Addr
  bK:Addr
  cG:Addr
  bR:Addr
  au:Addr
  cH:Addr
  aD:Addr
  aq:Addr
  aH:Addr
  bH:Addr
  bA:Addr
  bT:Addr
  bI:Addr
  bJ:Addr
  bU:Addr
  cY:Addr
  cZ:Addr
  bV:Addr
  cI:Addr
structure Txt (K:W.Frag) (mg:Str→Option Value) (a:Adr):Prop where
  zE:p7 K "steps_along" "steps_along" eX a.fu a.qt
  Gb:Binds K a.qt ["web", "fixed"] []
  Gd:mg "steps_along" = some (.ref a.fu)
  wG:p7 K "ways_along" "ways_along" fO a.fW a.tW
  Ce:Binds K a.tW ["start", "steps"] []
  Cg:mg "ways_along" = some (.ref a.fW)
  uc:p7 K "found_along" "found_along" dO a.fB a.qu
  zF:Binds K a.qu ["web", "start", "steps"] []
  zG:mg "found_along" = some (.ref a.fB)
  iB:p7 K "is_list" "is_list" lV a.jw a.xu
  mH:Binds K a.xu ["thing"] []
  mJ:mg "is_list" = some (.ref a.jw)
  xG:p7 K "is_whole" "is_whole" iY a.je a.yJ
  Ci:Binds K a.yJ ["thing"] []
  Cj:mg "is_whole" = some (.ref a.je)
  sy:p7 K "is_name" "is_name" iy a.iz a.rZ
  Aa:Binds K a.rZ ["thing"] []
  Ab:mg "is_name" = some (.ref a.iz)
  Ck:p7 K "are_points" "are_points" eY a.fX a.tX
  I_:Binds K a.tX ["thing"] []
  Ja:mg "are_points" = some (.ref a.fX)
  NK:p7 K "is_tie" "is_tie" nU a.qw a.Fj
  VN:Binds K a.Fj ["thing", "points"] []
  VP:mg "is_tie" = some (.ref a.qw)
  GC:p7 K "are_ties" "are_ties" gM a.jf a.yK
  NP:Binds K a.yK ["thing", "points"] []
  NQ:mg "are_ties" = some (.ref a.jf)
  NT:p7 K "__init__" "Web.__init__" gO a.gQ a.yL
  NZ:Binds K a.yL ["self", "points", "ties"] []
  Jb:p7 K "points" "Web.points" fP a.fC a.tY
  mK:Binds K a.tY ["self"] []
  N5:p7 K "ties" "Web.ties" iZ a.gR a.yM
  GF:Binds K a.yM ["self"] []
  N6:p7 K "many" "Web.many" i_ a.gU a.yN
  xH:Binds K a.yN ["self"] []
  GJ:p7 K "is_point" "is_point" jc a.jg a.yO
  N7:Binds K a.yO ["web", "thing"] []
  N8:mg "is_point" = some (.ref a.jg)
  ux:p7 K "is_number" "is_number" gJ a.gk a.qx
  Ec:Binds K a.qx ["web", "thing"] []
  Ed:mg "is_number" = some (.ref a.gk)
  jx:p7 K "are_numbers" "are_numbers" dG a.dW a.j8
  ud:Binds K a.j8 ["web", "thing"] []
  uf:mg "are_numbers" = some (.ref a.dW)
  JZ:p7 K "is_lead" "is_lead" lW a.mj a.BW
  Q6:Binds K a.BW ["thing"] []
  Q7:mg "is_lead" = some (.ref a.mj)
  ug:p7 K "is_pointing" "is_pointing" dU a.fD a.qy
  zH:Binds K a.qy ["web", "thing"] []
  zJ:mg "is_pointing" = some (.ref a.fD)
  eN:p7 K "sure_of_pointing" "sure_of_pointing" cR a.cL a.fK
  jk:Binds K a.fK ["web", "thing"] []
  jl:mg "sure_of_pointing" = some (.ref a.cL)
  Ac:p7 K "arrows" "arrows" qm a.qz a.Fl
  Ef:Binds K a.Fl ["web", "pointing"] []
  Eh:mg "arrows" = some (.ref a.qz)
  Jc:p7 K "turned" "turned" jZ a.j9 a.wL
  VR:Binds K a.wL ["web", "pointing", "numbers"] []
  V0:mg "turned" = some (.ref a.j9)
  uW:p7 K "pointing_text" "pointing_text" dg a.dI a.mq
  CZ:Binds K a.mq ["web", "pointing"] []
  C_:mg "pointing_text" = some (.ref a.dI)
  jt:p7 K "sure_of_point" "sure_of_point" dH a.dJ a.mz
  oK:Binds K a.mz ["web", "thing"] []
  oM:mg "sure_of_point" = some (.ref a.dJ)
  qcM:p7 K "way" "way" Ik a.Iu a.Tw
  qfh:Binds K a.Tw ["web", "pointing", "a", "b"] []
  qfi:mg "way" = some (.ref a.Iu)
  J0:p7 K "reached" "reached" lX a.mC a.BX
  Q8:Binds K a.BX ["web", "pointing", "point"] []
  Q9:mg "reached" = some (.ref a.mC)
  kh:p7 K "lot_without_way_in" "lot_without_way_in" cA a.cF a.gH
  uy:Binds K a.gH ["web", "steps"] []
  uz:mg "lot_without_way_in" = some (.ref a.cF)
  GK:p7 K "shut_lot" "shut_lot" jd a.jh a.yP
  N_:Binds K a.yP ["web", "pointing"] []
  Oa:mg "shut_lot" = some (.ref a.jh)
  qF:p7 K "points_along" "points_along" dY a.dZ a.oJ
  xJ:Binds K a.oJ ["web", "start", "numbers"] []
  xK:mg "points_along" = some (.ref a.dZ)
  Ob:p7 K "is_ear" "is_ear" j4 a.qC a.Fo
  V1:Binds K a.Fo ["web", "thing", "met", "gone"] []
  V2:mg "is_ear" = some (.ref a.qC)
  Cm:p7 K "reads_ears" "reads_ears" fQ a.fY a.tZ
  Jd:Binds K a.tZ ["web", "thing"] []
  Je:mg "reads_ears" = some (.ref a.fY)
  J1:p7 K "by_ears" "by_ears" lY a.mD a.BZ
  Q_:Binds K a.BZ ["web", "row"] []
  Ra:mg "by_ears" = some (.ref a.mD)
  qcN:p7 K "_law_pot" "_law_pot" Il a.Iv a.Tz
  qfj:Binds K a.Tz ["_law_script", "_law_k"] []
  qfk:mg "_law_pot" = some (.ref a.Iv)
  f9:p7 K "_law_take" "_law_take" BJ a.B_ a.Lx
  gB:Binds K a.Lx ["_law_pot_here", "_law_many"] []
  gC:mg "_law_take" = some (.ref a.B_)
  TV:p7 K "_law_names" "_law_names" qp a.wC a.Iw
  Zv:Binds K a.Iw ["_law_pot_here", "_law_many"] []
  Zw:mg "_law_names" = some (.ref a.wC)
  Lz:p7 K "_law_mixed" "_law_mixed" wz a.wD a.Iz
  TX:Binds K a.Iz ["_law_pot_here", "_law_things"] []
  TY:mg "_law_mixed" = some (.ref a.wD)
  qcO:p7 K "_law_tie" "_law_tie" Im a.IK a.TF
  qfl:Binds K a.TF ["_law_pot_here", "_law_names_here"] []
  qfm:mg "_law_tie" = some (.ref a.IK)
  qcP:p7 K "_law_web" "_law_web" CW a.IV a.TJ
  qfn:Binds K a.TJ ["_law_pot_here", "_law_points", "_law_most"] []
  qfo:mg "_law_web" = some (.ref a.IV)
  GP:p7 K "_law_pointing" "_law_pointing" gP a.ji a.yQ
  Oc:Binds K a.yQ ["_law_pot_here", "_law_web_here"] []
  Od:mg "_law_pointing" = some (.ref a.ji)
  Fp:p7 K "_law_class" "_law_class" wA a.mF a.uw
  Zx:Binds K a.uw ["_law_e"] []
  Zy:mg "_law_class" = some (.ref a.mF)
  T3:p7 K "_law_asked" "_law_asked" wB a.wF a.IW
  Zz:Binds K a.IW ["_law_road", "_law_made", "_law_row", "_law_one", "_law_other"] []
  ZC:mg "_law_asked" = some (.ref a.wF)
  xM:p7 K "_law_said" "_law_said" BK a.Ca a.Ly
  zK:Binds K a.Ly ["_law_road", "_law_made", "_law_row", "_law_one", "_law_other"] []
  zL:mg "_law_said" = some (.ref a.Ca)
  zM:p7 K "_law_no_pointing" "_law_no_pointing" eZ a.fG a.qD
  Ge:Binds K a.qD ["_law_pot_here", "_law_row"] []
  Gf:mg "_law_no_pointing" = some (.ref a.fG)
  GQ:p7 K "_law_no_point" "_law_no_point" gw a.jj a.yR
  Oe:Binds K a.yR ["_law_pot_here", "_law_web_here"] []
  Og:mg "_law_no_point" = some (.ref a.jj)
  Cp:p7 K "_law_no_numbers" "_law_no_numbers" fV a.fZ a.t_
  Jf:Binds K a.t_ ["_law_pot_here", "_law_row"] []
  Jg:mg "_law_no_numbers" = some (.ref a.fZ)
  J2:p7 K "_law_no_ears" "_law_no_ears" lZ a.mG a.Cd
  Rb:Binds K a.Cd ["_law_pot_here", "_law_web_here"] []
  Rf:mg "_law_no_ears" = some (.ref a.mG)
  qfp:p7 K "law" "law" Io a.KY a.TQ
  qjy:Binds K a.TQ ["_law_script"] []
  qjz:mg "law" = some (.ref a.KY)
  J3:mg "LETTERS" = some a.su
  J4:RelV (.str "abcdefghijklmnopqrstuvwxyz") a.su
  xO:mg "MOST_LETTERS" = some a.gA
  xP:RelV (.int 4) a.gA
  Gg:mg "MOST_POINTS" = some a.gV
  Gh:RelV (.int 9) a.gV
  KZ:mg "MOST_TIES" = some a.j_
  K1:RelV (.int 20) a.j_
  qfq:mg "Web" = some (.ref a.cJ)
  uD:Cls K a.cJ
  T7:uQ K a.cJ "names"
  LC:uQ K a.cJ "pairs"
  qfr:Mk K a.cJ a.gQ
  mL:Meth K a.cJ "points" a.fC
  GR:Meth K a.cJ "ties" a.gR
  xQ:Meth K a.cJ "many" a.gU
  Jh:mg "PointError" = some (.ref a.bK)
  Ji:mg "NoWeb" = some (.ref a.cG)
  Ei:mg "NoText" = some (.ref a.bR)
  pP:mg "NoNumbers" = some (.ref a.au)
  Jj:mg "NoLot" = some (.ref a.cH)
  wM:mg "NoPoint" = some (.ref a.aD)
  mO:mg "NoPointing" = some (.ref a.aq)
  Ad:mg "NoEars" = some (.ref a.aH)
  Ae:mg "NoFixed" = some (.ref a.bH)
  xR:mg "NoNumber" = some (.ref a.bA)
  Ej:mg "Unlike" = some (.ref a.bT)
  Af:mg "NotOver" = some (.ref a.bI)
  Ag:mg "TooMuch" = some (.ref a.bJ)
  Ek:mg "Parted" = some (.ref a.bU)
  Oh:mg "Shut" = some (.ref a.cY)
  Oi:mg "Thin" = some (.ref a.cZ)
  El:mg "Barred" = some (.ref a.bV)
  Jk:mg "NoIns" = some (.ref a.cI)
  jm:Br K a.aq
  kj:Br K a.au
  sE:Br K a.aD
  xT:Br K a.aH
  mQ:Br K a.bK
  gK:Bu K a.aq
  pQ:W.mroIn K a.aq (.ref a.bK)=some true∧a.aq≠a.bK
  xU:cV K a.aq (.ref a.cG)=some false
  vo:cV K a.aq (.ref a.bR)=some false
  qG:cV K a.aq (.ref a.au)=some false
  xV:cV K a.aq (.ref a.cH)=some false
  uE:cV K a.aq (.ref a.aD)=some false
  pR:cV K a.aq (.ref a.aq)=some true
  vp:cV K a.aq (.ref a.aH)=some false
  uF:cV K a.aq (.ref a.bH)=some false
  rO:cV K a.aq (.ref a.bA)=some false
  vq:cV K a.aq (.ref a.bT)=some false
  uG:cV K a.aq (.ref a.bI)=some false
  uH:cV K a.aq (.ref a.bJ)=some false
  vA:cV K a.aq (.ref a.bU)=some false
  yS:cV K a.aq (.ref a.cY)=some false
  yU:cV K a.aq (.ref a.cZ)=some false
  vB:cV K a.aq (.ref a.bV)=some false
  xW:cV K a.aq (.ref a.cI)=some false
  pU:cV K a.aq (.ty "ValueError")=some true
  iK:Bu K a.au
  qH:W.mroIn K a.au (.ref a.bK)=some true∧a.au≠a.bK
  yV:cV K a.au (.ref a.cG)=some false
  xX:cV K a.au (.ref a.bR)=some false
  rP:cV K a.au (.ref a.au)=some true
  yW:cV K a.au (.ref a.cH)=some false
  vC:cV K a.au (.ref a.aD)=some false
  qI:cV K a.au (.ref a.aq)=some false
  xY:cV K a.au (.ref a.aH)=some false
  vD:cV K a.au (.ref a.bH)=some false
  uI:cV K a.au (.ref a.bA)=some false
  xZ:cV K a.au (.ref a.bT)=some false
  vG:cV K a.au (.ref a.bI)=some false
  vH:cV K a.au (.ref a.bJ)=some false
  yc:cV K a.au (.ref a.bU)=some false
  Ah:cV K a.au (.ref a.cY)=some false
  Ai:cV K a.au (.ref a.cZ)=some false
  yd:cV K a.au (.ref a.bV)=some false
  yX:cV K a.au (.ref a.cI)=some false
  qJ:cV K a.au (.ty "ValueError")=some true
  pW:Bu K a.aD
  uJ:W.mroIn K a.aD (.ref a.bK)=some true∧a.aD≠a.bK
  Dc:cV K a.aD (.ref a.cG)=some false
  Aj:cV K a.aD (.ref a.bR)=some false
  vI:cV K a.aD (.ref a.au)=some false
  Dd:cV K a.aD (.ref a.cH)=some false
  yZ:cV K a.aD (.ref a.aD)=some true
  uK:cV K a.aD (.ref a.aq)=some false
  Ak:cV K a.aD (.ref a.aH)=some false
  za:cV K a.aD (.ref a.bH)=some false
  yg:cV K a.aD (.ref a.bA)=some false
  Al:cV K a.aD (.ref a.bT)=some false
  zc:cV K a.aD (.ref a.bI)=some false
  zf:cV K a.aD (.ref a.bJ)=some false
  Am:cV K a.aD (.ref a.bU)=some false
  Em:cV K a.aD (.ref a.cY)=some false
  En:cV K a.aD (.ref a.cZ)=some false
  Ao:cV K a.aD (.ref a.bV)=some false
  Df:cV K a.aD (.ref a.cI)=some false
  uL:cV K a.aD (.ty "ValueError")=some true
  uM:Bu K a.aH
  vJ:W.mroIn K a.aH (.ref a.bK)=some true∧a.aH≠a.bK
  Eo:cV K a.aH (.ref a.cG)=some false
  Dg:cV K a.aH (.ref a.bR)=some false
  yh:cV K a.aH (.ref a.au)=some false
  Ep:cV K a.aH (.ref a.cH)=some false
  Aq:cV K a.aH (.ref a.aD)=some false
  vK:cV K a.aH (.ref a.aq)=some false
  Dh:cV K a.aH (.ref a.aH)=some true
  Ar:cV K a.aH (.ref a.bH)=some false
  zj:cV K a.aH (.ref a.bA)=some false
  Di:cV K a.aH (.ref a.bT)=some false
  Av:cV K a.aH (.ref a.bI)=some false
  Aw:cV K a.aH (.ref a.bJ)=some false
  Dj:cV K a.aH (.ref a.bU)=some false
  Gi:cV K a.aH (.ref a.cY)=some false
  Gj:cV K a.aH (.ref a.cZ)=some false
  Dk:cV K a.aH (.ref a.bV)=some false
  Es:cV K a.aH (.ref a.cI)=some false
  vL:cV K a.aH (.ty "ValueError")=some true
  gb:mg "ValueError" = none
  nm:Nm mg
  nm2:Nm2 mg
  nm3:Nm3 mg
end K36
namespace K36
open PySem L2
variable {P:Program} {w:World} {K:W.Frag} {mg:Str→Option Value} {base:Heap} {a:Adr}
def jU (H:Hp) (p:Addr):Prop:=∃x y:Int,H p=some (.lst [.int x,.int y])∧0≤x∧0≤y∧y<4294967296
def qgZ (K:W.Frag):Sp:=fun vs H Q _=>∃(l:Addr) (ns:List Int) (k:Nat),vs=[.ref l,.int k]∧cj K H l (ns.map V.int)∧k<100∧∀p H',H p=none→jU H' p→But p H H'→Q (.ref p) H'
def qet:Sp:=fun vs H Q _=>∃(p:Addr) (m:Int),vs=[.ref p,.int m]∧jU H p∧0<m∧m<1000000∧∀(d:Int) H',0≤d→d<m→jU H' p→But p H H'→Q (.int d) H'
theorem qg0 (T:Txt K mg a):cT P w K mg base rN 1 a.Iv a.Tz ["_law_script", "_law_k"] (qgZ K):=by
  refine T.qcN.z9 qcK (fun vs H Q E h=>?_) (fun cdv A outer s H vs Q E hr h=>?_)
  ·obtain⟨l,ns,k,rfl,_⟩:=h;rfl
  · obtain⟨l,ns,k,rfl,hS,hk,q⟩:=h;refine⟨_,(aC (bO (i:=2) qcK.nd rfl (Or.inl rfl) (Hr (bx JM (aL 1) (aQ (cN (K:=K) rfl) rfl T.nm.len PySem.boot_len (aj (aL 0) ak)) (bZ _)) (cX (dB (K:=K) rfl) (aL 0) (aL 1) (fun _ _=>rfl)) aJ))
      (aG (aZ (bB (aj (aQ (M_ rfl) rfl T.nm.max boot_max (aj aJ (aj (bQ vW (aQ QK rfl T.nm.abs boot_abs (aj (aL 2) ak)) (bQ Zg aJ aJ)) ak))) (aj (bQ oF (bQ oF (bQ Bo (aQ QK rfl T.nm.abs boot_abs (aj (aL 2) ak)) aJ) (bQ Lk aJ (aL 1))) aJ) ak)))))),?_⟩
    have fin:∀(x y:Int),0≤x→0≤y→y<4294967296→∀p:Addr,H p=none→Q (.ref p) (upd H p (.lst [.int x,.int y])):=fun x y h1 h2 h3 p hp=>
      q p _ hp ⟨x,y,aA,h1,h2,h3⟩ fun b o hb e=>by rw[aV hb];exact e
    simp -dsimp[aF,stC,-Bool.exists_bool,-List.map_take];refine⟨_,.inl hS,g8.of (fun h=>?_) (fun h=>?_)⟩
    · have hlt:k<ns.length:=by simpa using h
      simp -dsimp[aF,stC,-Bool.exists_bool,-List.map_take];refine⟨_,.inl hS,.int (ns[k]'hlt),dj (by simp[hlt]),?_⟩;simp -dsimp[aF,stC,-Bool.exists_bool,-List.map_take];exact fin _ _ (zpa _) (zpb _ _) (zpc _ hk)
    ·simp -dsimp[aF,stC,-Bool.exists_bool,-List.map_take];exact fin _ _ (by first | omega | (split <;> omega)) (by omega) (by omega)
theorem eF (T:Txt K mg a):cT P w K mg base rN 1 a.B_ a.Lx ["_law_pot_here", "_law_many"] qet:=by
  refine T.f9.z9 Zu (fun vs H Q E h=>?_) (fun cdv A outer s H vs Q E hr h=>?_)
  ·obtain⟨p,m,rfl,_⟩:=h;rfl
  · obtain⟨p,m,rfl,⟨x,y,hp,hx,hy,hy2⟩,hm,hm2,q⟩:=h;refine⟨_,(aC (cO (bx JN (cX (dB (K:=K) rfl) (aL 0) aJ (fun _ _=>rfl)) aJ (bZ _)) (aC (Mh (aQ Td rfl T.nm.divmod boot_divmod (aj (cX (dB (K:=K) rfl) (aL 0) aJ (fun _ _=>rfl)) (aj (aL 1) ak))) (PG.eqv (oA (K:=K) (n:=2) rfl rfl (vN.eqv (cP (qa8 (aL 0) aJ QL) (vN.eqv (cP (bG (i:=2) Zu.nd rfl (Or.inl rfl)) (vN.mono ou uU)) (cQ _ _))) (cQ _ _))) (oH _ _ _)))
      (aG (aZ (aL 2)))) bC)
      (aC (Mh (bQ Bo (bQ oF (bQ Lk (cX (dB (K:=K) rfl) (aL 0) aJ (fun _ _=>rfl)) aJ) aJ) aJ) (qa8 (aL 0) aJ QL))
      (aG (aZ (bQ Bo (bQ qcm (bQ Bo (bQ Lk (cX (dB (K:=K) rfl) (aL 0) aJ (fun _ _=>rfl)) (cX (dB (K:=K) rfl) (aL 0) aJ (fun _ _=>rfl))) aJ) aJ) (aL 1)))))),?_⟩
    have hl:cj K H p [.int x,.int y]:=cj.of hp;simp -dsimp[aF,stC,-Bool.exists_bool,-List.map_take];refine⟨_,.inl hl,_,dj (j:=0) rfl,?_⟩;simp -dsimp[aF,stC,-Bool.exists_bool,-List.map_take];refine g8.of (fun h=>?_) (fun h=>?_)
    ·simp -dsimp[aF,stC,-Bool.exists_bool,-List.map_take];refine⟨_,.inl hl,_,dj (j:=0) rfl,?_⟩;simp -dsimp[aF,stC,-Bool.exists_bool,-List.map_take];refine⟨⟨hm,by omega⟩,fun t ht=>?_⟩;have npt:p≠t:=aY hp ht;refine⟨_,lR.of aA,rfl,_,(by rw[aV npt];exact hp),0,rfl,?_⟩;refine q _ _ (Int.emod_nonneg _ (by omega)) (Int.emod_lt_of_pos _ hm) ⟨_,_,aA,Int.ediv_nonneg hx (by omega),hy,hy2⟩ fun b o hb e=>?_;rw[aV hb,aV (aY e ht)];exact e
    ·have z0:0≤(y * 48271+12345) % 2147483647:=Int.emod_nonneg _ (by decide);have z1:(y * 48271+12345) % 2147483647<2147483647:=Int.emod_lt_of_pos _ (by decide);simp -dsimp[aF,stC,-Bool.exists_bool,-List.map_take];refine⟨_,.inl hl,_,dj (j:=1) rfl,?_⟩;simp -dsimp[aF,stC,-Bool.exists_bool,-List.map_take];refine⟨_,hp,1,rfl,_,.inl (cj.of aA),_,dj (j:=1) rfl,_,.inl (cj.of aA),_,dj (j:=1) rfl,?_⟩;simp -dsimp[aF,stC,-Bool.exists_bool,-List.map_take];refine⟨⟨by omega,by omega⟩,hm,?_⟩;refine q _ _ (Int.emod_nonneg _ (by omega)) (Int.emod_lt_of_pos _ hm) ⟨_,_,aA,hx,z0,by omega⟩ fun b o hb e=>?_;rw[aV hb];exact e
def XJ:Sp:=fun vs H Q _=>∃p xs,vs=[.ref p]∧Sq H p xs∧∀H',Same H H'→Q (.bl true) H'
theorem Cq (T:Txt K mg a):cT P w K mg base rN 1 a.jw a.xu ["thing"] XJ:=by
  refine T.iB.z9 Nt (fun vs H Q E h=>?_) (fun cdv A outer s H vs Q E hr h=>?_)
  ·obtain⟨p,xs,rfl,_⟩:=h;rfl
  · obtain⟨p,xs,rfl,hp,q⟩:=h;refine⟨_,(aG (aZ (aQ (qcp (K:=K) rfl) rfl T.nm.isinstance boot_isinstance (aj (aL 0) (aj (dh (aj (oh (v:=.ty "list") rfl T.nm.list boot_list rfl) (aj (oh (v:=.ty "tuple") rfl T.nm.tuple boot_tuple rfl) ak))) ak))))),?_⟩;simp -dsimp[aF,stC,-Bool.exists_bool,-List.map_take];refine fun t ht=>⟨_,_,aA,?_⟩
    rcases(hp.same (aB ht)).ty (K:=K) with ty | ty
    ·exact⟨_,ty,true,by simp[W.kitAny,W.kitOne],q _ (aB ht)⟩
    ·exact⟨_,ty,true,by simp[W.kitAny,W.kitOne];rfl,q _ (aB ht)⟩
def XM:Sp:=fun vs H Q _=>∃x,vs=[.str x]∧x.length≤sizeLine∧∀H',Same H H'→Q (.bl (nameB x)) H'
theorem GX (T:Txt K mg a):cT P w K mg base rN 1 a.iz a.rZ ["thing"] XM:=by
  refine T.sy.z9 Nu (fun vs H Q E h=>?_) (fun cdv A outer s H vs Q E hr h=>?_)
  ·obtain⟨x,rfl,_⟩:=h;rfl
  · obtain⟨x,rfl,hx,q⟩:=h;refine⟨_,(aC (cO (PW.pt (jR (dM (cB (aQ (Tc (K:=K) rfl) rfl T.nm.isinstance boot_isinstance (aj (aL 0) (aj (oh (v:=.ty "str") rfl T.nm.str boot_str rfl) ak))))) (iM (dM (JR zA zA aJ (aQ qco rfl T.nm.len PySem.boot_len (aj (aL 0) ak)) (aW rfl T.xO T.xP)))))) (aG (aZ dX)) bC)
      (aG (aZ (aQ (pO rfl) rfl T.nm.all pK (aj (fL rfl rfl (show bL (ao iy) _ ["thing"] ["sign"] [] ["sign"] from⟨rfl,by decide+kernel,by decide+kernel,rfl,by decide+kernel,by decide+kernel⟩) rfl (PI.eqv (W5 (aL 0)) (M7 _)) (fun C s H fp pn=>(bG (i:=0) (show(["sign"]:List Str).Nodup by decide+kernel) rfl (Or.inl rfl))) (fun C s H fp pn=>eV) (fun C s H fp pn=>(iQ (qjf (K:=K) rfl) (aL 0) (aW rfl T.J3 T.J4) rfl))) ak))))),?_⟩
    simp -dsimp[aF,stC,-Bool.exists_bool,-List.map_take];refine⟨_,.str x,_,KH K,g8.neg rfl ?_⟩;simp -dsimp[aF,stC,-Bool.exists_bool,-List.map_take];refine⟨hx,g8.of (fun h1=>?_) (fun h1=>?_)⟩
    · have h1':1≤x.length:=by simp at h1;omega
      simp -dsimp[aF,stC,-Bool.exists_bool,-List.map_take];refine g8.of (fun h2=>?_) (fun h2=>?_)
      · have h2':¬x.length≤4:=by simp at h2;omega
        have e:nameB x=false:=by
          unfold nameB;rw[decide_eq_false h2'];simp
        rw[e] at q;simp -dsimp[aF,stC,-Bool.exists_bool,-List.map_take];exact q H (Same.refl H)
      · have h2':x.length≤4:=by simp at h2;omega
        simp -dsimp[aF,stC,-Bool.exists_bool,-List.map_take];refine fun D hD=>cmS (fun i σ' H'=>(∃o,σ'=[o])∧Same H H'∧H' D=some (.lst ((x.cps.toList.take i).map fun c=>.bl (Y0 c)))) ⟨⟨none,rfl⟩,aB hD,by simpa using aA⟩ ?_ ?_
        · rintro i c σ' H' hc ⟨⟨o,rfl⟩,sm,PN⟩;have h4:4<sizeLine:=by decide
          have hsz:x.cps.size=x.length:=rfl;simp -dsimp[aF,stC,-Bool.exists_bool,-List.map_take];refine⟨_,PN,by simp;omega,cU sm hD,?_⟩;rw[aA,take_one (l:=x.cps.toList) (x:=c) (by simpa using hc),List.map_append];rfl
        · rintro σ' H' ⟨⟨o,rfl⟩,sm,PN⟩;simp -dsimp[aF,stC,-Bool.exists_bool,-List.map_take];refine⟨_,PN,_,rT Y0 _,?_⟩;rw[Xa];have e:nameB x=(x.cps.toList.take x.cps.size).all Y0:=by
            unfold nameB;rw[decide_eq_true h1',decide_eq_true h2',show x.cps.toList.take x.cps.size=x.cps.toList from List.take_of_length_le (by simp)];rfl
          rw[← e];exact q H' sm
    · have h1':¬1≤x.length:=by simp at h1;omega
      have e:nameB x=false:=by
        unfold nameB;rw[decide_eq_false h1'];simp
      rw[e] at q;simp -dsimp[aF,stC,-Bool.exists_bool,-List.map_take];exact q H (Same.refl H)
theorem qcQ {xs:List Str} {i:Nat} {x:V} (h:(xs.map V.str)[i]? = some x):∃z,z∈xs∧x = .str z:=by
  rw[List.getElem?_map] at h;cases e:xs[i]? with
  | none=>rw[e] at h;cases h
  | some z=>
    rw[e] at h;exact⟨z,List.mem_of_getElem? e,(Option.some.inj h).symm⟩
theorem GZ {x:Str} (h:nameB x=true):x.length≤sizeLine:=by
  unfold nameB at h;simp at h;have h4:4≤sizeLine:=by decide
  omega
theorem Ax:∀n,yD (List.replicate n (.bl true)) (List.replicate n true)
  | 0=>rfl
  | n+1=>⟨true,_,rfl,rfl,Ax n⟩
theorem Oj:∀xs:List Str,keysOf (xs.map V.str)=xs.map Sum.inr
  | []=>rfl
  | x::xs=>by
    show Sum.inr x::keysOf (xs.map V.str)=_;rw[Oj xs];rfl
theorem qg1 {xs:List Str} (h:xs.Nodup):(JC (fun i=>(keysOf (xs.map V.str))[i]?.getD (Sum.inl 0)) (xs.map V.str).length).length=xs.length:=by
  rw[Oj,List.length_map];refine(W9 _ xs.length fun i j hi hj e=>?_).1;simp[hi,hj] at e;exact(List.getElem_inj h).mp e
structure Uq (xs:List Str):Prop where
  len:1≤xs.length∧xs.length≤9
  nm:∀x∈xs,nameB x=true
  nd:xs.Nodup
def PX:Sp:=fun vs H Q _=>∃p xs,vs=[.ref p]∧Sq H p (xs.map V.str)∧Uq xs∧∀H',Same H H'→Q (.bl true) H'
theorem P0 (T:Txt K mg a):cT P w K mg base rN 2 a.fX a.tX ["thing"] PX:=by
  refine T.Ck.z9 PK (fun vs H Q E h=>?_) (fun cdv A outer s H vs Q E hr h=>?_)
  ·obtain⟨p,xs,rfl,_⟩:=h;rfl
  · obtain⟨p,xs,rfl,hp,hx,q⟩:=h;refine⟨_,(aC (cO (PW.pt (jR (dM (cB (PE.eqv (aO (Cq (K:=K) T) (hr.mono (by decide)) rfl T.mJ T.iB.kp T.mH .nil bD (aj (aL 0) ak)) (aK _ _ _)))) (iM (dM (JR zA zA aJ (aQ (cN (K:=K) rfl) rfl T.nm.len PySem.boot_len (aj (aL 0) ak)) (aW rfl T.Gg T.Gh)))))) (aG (aZ dX)) bC)
      (aG (aZ (vX (aQ (pO rfl) rfl T.nm.all pK (aj (fL rfl rfl (show bL (ao eY) _ ["thing"] ["one"] [] ["one"] from⟨rfl,by decide+kernel,by decide+kernel,rfl,by decide+kernel,by decide+kernel⟩) rfl (PI.eqv (tU (K:=K) rfl (aL 0)) (nR _ _)) (fun C s H fp pn=>(bG (i:=0) (show(["one"]:List Str).Nodup by decide+kernel) rfl (Or.inl rfl))) (fun C s H fp pn=>eV) (fun C s H fp pn=>(PE.eqv (aO (GX (K:=K) T) (hr.mono (by decide)) rfl T.Ab T.sy.kp T.Aa .nil bD (aj (aL 0) ak)) (aK _ _ _)))) ak)) (Bk (iQ jA (aQ Fg rfl T.nm.len PySem.boot_len (aj (eG (Fe rfl) rfl T.nm.set Fd (aj (aL 0) ak)) ak)) (aQ (cN (K:=K) rfl) rfl T.nm.len PySem.boot_len (aj (aL 0) ak)) (bZ _))))))),?_⟩
    have hl:=hx.len;have h60:60<sizeLine:=by decide
    simp -dsimp[aF,stC,-Bool.exists_bool,-List.map_take];refine⟨p,_,rfl,hp,fun H1 s1=>?_⟩;have hp1:=hp.same s1;simp -dsimp[aF,stC,-Bool.exists_bool,-List.map_take];refine⟨_,hp1.q,g8.pos (by simp;omega) ?_⟩;simp -dsimp[aF,stC,-Bool.exists_bool,-List.map_take];refine g8.neg (by simp;omega) ?_;obtain⟨b,hb⟩:=hp.b;simp -dsimp[aF,stC,-Bool.exists_bool,-List.map_take];refine⟨b,⟨_,hb K H1 s1⟩,fun D hD=>cmQ (xs.map V.str) (fun i σ' H'=>(∃o,σ'=[o])∧Same H1 H'∧H' D=some (.lst (List.replicate i (.bl true)))) ⟨⟨none,rfl⟩,aB hD,aA⟩ (fun i σ' H' _ h=>hb K H' (s1.trans h.2.1)) ?_ ?_⟩
    · rintro i x σ' H' hi ⟨⟨o,rfl⟩,sm,PN⟩;obtain⟨z,hz,rfl⟩:=qcQ hi;have hi2:i<xs.length:=by simpa using (List.getElem?_eq_some_iff.mp hi).1
      simp -dsimp[aF,stC,-Bool.exists_bool,-List.map_take];refine⟨z,rfl,GZ (hx.nm z hz),fun H2 s2=>?_⟩;simp -dsimp[aF,stC,-Bool.exists_bool,-List.map_take];refine⟨_,s2 _ _ PN,by simp;omega,cU (sm.trans s2) hD,?_⟩;rw[aA,hx.nm z hz,← List.replicate_succ']
    ·rintro σ' H' ⟨⟨o,rfl⟩,sm,PN⟩;have hp2:=hp1.same sm;simp -dsimp[aF,stC,-Bool.exists_bool,-List.map_take];refine⟨_,PN,_,Ax _,?_⟩;rw[show(List.replicate (xs.map V.str).length true).all id=true by simp];simp -dsimp[aF,stC,-Bool.exists_bool,-List.map_take];refine⟨_,hp2.q,by simp[isKey],by simp;unfold scanBound;omega,fun t ht=>⟨_,aA,_,(hp2.same (aB ht)).q,?_⟩⟩;rw[decide_eq_true (by rw[qg1 hx.nd];simp)];exact q _ (s1.trans (sm.trans (aB ht)))
theorem qeu {x:Str} {xs:List Str} (h:x∈xs):inV (.str x) (xs.map V.str)=true:=by
  unfold inV;rw[List.any_eq_true];exact⟨.str x,List.mem_map.mpr ⟨x,h,rfl⟩,by simp[WX]⟩
theorem qcR (xs:List Str):(xs.map V.str).all nJ=true:=by
  rw[List.all_eq_true];intro v hv;obtain⟨x,_,rfl⟩:=List.mem_map.mp hv;rfl
def qaM:Sp:=fun vs H Q _=>∃t p x y xs,vs=[.ref t,.ref p]∧Sq H t [.str x,.str y]∧Sq H p (xs.map V.str)∧Uq xs∧x∈xs∧y∈xs∧x≠y∧∀H',Same H H'→Q (.bl true) H'
theorem qaN (T:Txt K mg a):cT P w K mg base rN 2 a.qw a.Fj ["thing", "points"] qaM:=by
  refine T.NK.z9 qaK (fun vs H Q E h=>?_) (fun cdv A outer s H vs Q E hr h=>?_)
  ·obtain⟨t,p,x,y,xs,rfl,_⟩:=h;rfl
  · obtain⟨t,p,x,y,xs,rfl,ht,hp,hx,hxm,hym,hne,q⟩:=h;refine⟨_,(aC (cO (PW.pt (jR (dM (cB (PE.eqv (aO (Cq (K:=K) T) (hr.mono (by decide)) rfl T.mJ T.iB.kp T.mH .nil bD (aj (aL 0) ak)) (aK _ _ _)))) (iM (bx ig (aQ (cN (K:=K) rfl) rfl T.nm.len PySem.boot_len (aj (aL 0) ak)) aJ (bZ _))))) (aG (aZ dX)) bC)
      (aC (cO (dM (cB (aQ (pO rfl) rfl T.nm.all pK (aj (fL rfl rfl (show bL (ao nU) _ ["thing", "points"] ["end"] [1] ["end", "points"] from⟨rfl,by decide+kernel,by decide+kernel,rfl,by decide+kernel,by decide+kernel⟩) rfl (PI.eqv (tU (K:=K) rfl (aL 0)) (nR _ _)) (fun C s H fp pn=>(bG (i:=0) (show(["end", "points"]:List Str).Nodup by decide+kernel) rfl (Or.inl rfl))) (fun C s H fp pn=>eV) (fun C s H fp pn=>(vX (PE.eqv (aO (GX (K:=K) T) (hr.mono (by decide)) rfl T.Ab T.sy.kp T.Aa .nil bD (aj (aL 0) ak)) (aK _ _ _)) (Bk (iQ (qaz (K:=K) rfl) (aL 0) (aL 1) rfl))))) ak)))) (aG (aZ dX)) bC)
      (aG (aZ (iQ ig (cX (dB (K:=K) rfl) (aL 0) aJ (fun _ _=>rfl)) (cX (dB (K:=K) rfl) (aL 0) aJ (fun _ _=>rfl)) (bZ _)))))),?_⟩
    have h60:60<sizeLine:=by decide
    simp -dsimp[aF,stC,-Bool.exists_bool,-List.map_take];refine⟨t,_,rfl,ht,fun H1 s1=>?_⟩;simp -dsimp[aF,stC,-Bool.exists_bool,-List.map_take];refine⟨_,(ht.same s1).q,false,rfl,g8.neg rfl ?_⟩;obtain⟨b,hb⟩:=ht.b;simp -dsimp[aF,stC,-Bool.exists_bool,-List.map_take];refine⟨b,⟨_,hb K H1 s1⟩,fun D hD=>cmQ [.str x,.str y] (fun i σ' H'=>(∃o,σ'=[o,some (.ref p)])∧Same H1 H'∧H' D=some (.lst (List.replicate i (.bl true)))) ⟨⟨none,rfl⟩,aB hD,aA⟩ (fun i σ' H' _ h=>hb K H' (s1.trans h.2.1)) ?_ ?_⟩
    · rintro i v σ' H' hi ⟨⟨o,rfl⟩,sm,PN⟩;obtain⟨z,hz,rfl⟩:∃z,z∈xs∧v = .str z:=by
        match i,hi with
        | 0,hi=>exact⟨x,hxm,(Option.some.inj hi).symm⟩
        | 1,hi=>exact⟨y,hym,(Option.some.inj hi).symm⟩
      have hi2:i<2:=(List.getElem?_eq_some_iff.mp hi).1;simp -dsimp[aF,stC,-Bool.exists_bool,-List.map_take];refine⟨z,rfl,GZ (hx.nm z hz),fun H2 s2=>?_⟩;rw[hx.nm z hz];simp -dsimp[aF,stC,-Bool.exists_bool,-List.map_take];refine⟨_,(hp.same (s1.trans (sm.trans s2))).q,rfl,List.all_eq_true.mp (qcR xs),_,s2 _ _ PN,by simp;omega,cU (sm.trans s2) hD,?_⟩;rw[aA,qeu hz,← List.replicate_succ']
    ·rintro σ' H' ⟨⟨o,rfl⟩,sm,PN⟩;have ZD:=ht.same (s1.trans sm);simp -dsimp[aF,stC,-Bool.exists_bool,-List.map_take];refine⟨_,PN,_,Ax _,?_⟩;rw[show(List.replicate [V.str x,V.str y].length true).all id=true by simp];simp -dsimp[aF,stC,-Bool.exists_bool,-List.map_take];refine⟨_,ZD.q,_,dj (j:=0) rfl,_,ZD.q,_,dj (j:=1) rfl,?_⟩;simp -dsimp[aF,stC,-Bool.exists_bool,-List.map_take];refine⟨true,by simp[hne],?_⟩;exact q _ (s1.trans sm)
def Ol (H:Hp) (v:V) (e:Str×Str):Prop:=∃t,v = .ref t∧Sq H t [.str e.1,.str e.2]
theorem Ol.same {H H':Hp} {v:V} {e:Str×Str} (h:Ol H v e) (s:Same H H'):Ol H' v e:=by
  obtain⟨t,rfl,h⟩:=h;exact⟨t,rfl,h.same s⟩
def zm (H:Hp) (vs:List V) (ps:List (Str×Str)):Prop:=vs.length=ps.length∧∀(i:Nat) v e,vs[i]? = some v→ps[i]? = some e→Ol H v e
theorem zm.same {H H':Hp} {vs:List V} {ps:List (Str×Str)} (h:zm H vs ps) (s:Same H H'):zm H' vs ps:=⟨h.1,fun i v e h1 h2=>(h.2 i v e h1 h2).same s⟩
theorem zm.at {H:Hp} {vs:List V} {ps:List (Str×Str)} (h:zm H vs ps) {i:Nat} {v:V} (hv:vs[i]? = some v):∃e,ps[i]? = some e∧Ol H v e:=by
  have hi:i<ps.length:=by rw[← h.1];exact(List.getElem?_eq_some_iff.mp hv).1
  exact⟨ps[i],by simp[hi],h.2 i v _ hv (by simp[hi])⟩
structure Jl (xs:List Str) (ps:List (Str×Str)):Prop where
  len:ps.length≤20
  ok:∀e∈ps,e.1∈xs∧e.2∈xs∧e.1≠e.2
def V3:Sp:=fun vs H Q _=>∃t p tv xs ps,vs=[.ref t,.ref p]∧Sq H t tv∧zm H tv ps∧Sq H p (xs.map V.str)∧Uq xs∧Jl xs ps∧∀H',Same H H'→Q (.bl true) H'
theorem V4 (T:Txt K mg a):cT P w K mg base rN 3 a.jf a.yK ["thing", "points"] V3:=by
  refine T.GC.z9 VB (fun vs H Q E h=>?_) (fun cdv A outer s H vs Q E hr h=>?_)
  ·obtain⟨t,p,tv,xs,ps,rfl,_⟩:=h;rfl
  · obtain⟨t,p,tv,xs,ps,rfl,ht,hpr,hp,hx,hts,q⟩:=h;refine⟨_,(aC (cO (PW.pt (jR (dM (cB (PE.eqv (aO (Cq (K:=K) T) (hr.mono (by decide)) rfl T.mJ T.iB.kp T.mH .nil bD (aj (aL 0) ak)) (aK _ _ _)))) (iM (bx JN (aQ (cN (K:=K) rfl) rfl T.nm.len PySem.boot_len (aj (aL 0) ak)) (aW rfl T.KZ T.K1) (bZ _))))) (aG (aZ dX)) bC)
      (aG (aZ (aQ (pO rfl) rfl T.nm.all pK (aj (fL rfl rfl (show bL (ao gM) _ ["thing", "points"] ["one"] [1] ["one", "points"] from⟨rfl,by decide+kernel,by decide+kernel,rfl,by decide+kernel,by decide+kernel⟩) rfl (PI.eqv (tU (K:=K) rfl (aL 0)) (nR _ _)) (fun C s H fp pn=>(bG (i:=0) (show(["one", "points"]:List Str).Nodup by decide+kernel) rfl (Or.inl rfl))) (fun C s H fp pn=>eV) (fun C s H fp pn=>(PE.eqv (aO (qaN (K:=K) T) (hr.mono (by decide)) rfl T.VP T.NK.kp T.VN .nil bD (aj (aL 0) (aj (aL 1) ak))) (aK _ _ _)))) ak))))),?_⟩
    have hlen:=hpr.1;have Ho:=hts.len;have h60:60<sizeLine:=by decide
    simp -dsimp[aF,stC,-Bool.exists_bool,-List.map_take];refine⟨t,_,rfl,ht,fun H1 s1=>?_⟩;simp -dsimp[aF,stC,-Bool.exists_bool,-List.map_take];refine⟨_,(ht.same s1).q,g8.neg (by simp;omega) ?_⟩;obtain⟨b,hb⟩:=ht.b;simp -dsimp[aF,stC,-Bool.exists_bool,-List.map_take];refine⟨b,⟨_,hb K H1 s1⟩,fun D hD=>cmQ tv (fun i σ' H'=>(∃o,σ'=[o,some (.ref p)])∧Same H1 H'∧H' D=some (.lst (List.replicate i (.bl true)))) ⟨⟨none,rfl⟩,aB hD,aA⟩ (fun i σ' H' _ h=>hb K H' (s1.trans h.2.1)) ?_ ?_⟩
    ·rintro i v σ' H' hi ⟨⟨o,rfl⟩,sm,PN⟩;obtain⟨e,he,t2,rfl,ZD⟩:=hpr.at hi;have hi2:i<tv.length:=(List.getElem?_eq_some_iff.mp hi).1;obtain⟨h1,h2,h3⟩:=hts.ok e (List.mem_of_getElem? he);have s2:=s1.trans sm;simp -dsimp[aF,stC,-Bool.exists_bool,-List.map_take];refine⟨t2,p,e.1,e.2,xs,rfl,ZD.same s2,hp.same s2,hx,h1,h2,h3,fun H2 s3=>?_⟩;simp -dsimp[aF,stC,-Bool.exists_bool,-List.map_take];refine⟨_,s3 _ _ PN,by simp;omega,cU (sm.trans s3) hD,?_⟩;rw[aA,← List.replicate_succ']
    ·rintro σ' H' ⟨⟨o,rfl⟩,sm,PN⟩;simp -dsimp[aF,stC,-Bool.exists_bool,-List.map_take];refine⟨_,PN,_,Ax _,?_⟩;rw[show(List.replicate tv.length true).all id=true by simp];exact q _ (s1.trans sm)
def cM (H:Hp) (vs:List V) (ps:List (Str×Str)):Prop:=vs.length=ps.length∧∀(i:Nat) v e,vs[i]? = some v→ps[i]? = some e→∃t,v = .ref t∧H t=some (.tup [.str e.1,.str e.2])
def gF (H H':Hp):Prop:=∀b xs,H b=some (.tup xs)→H' b=some (.tup xs)
theorem cM.keep {H H':Hp} {vs:List V} {ps:List (Str×Str)} (h:cM H vs ps) (s:gF H H'):cM H' vs ps:=⟨h.1,fun i v e h1 h2=>by
  obtain⟨t,rfl,e⟩:=h.2 i v e h1 h2;exact⟨t,rfl,s _ _ e⟩⟩
theorem cM.snoc {H:Hp} {vs:List V} {ps:List (Str×Str)} {t:Addr} {e:Str×Str} (h:cM H vs ps) (ht:H t=some (.tup [.str e.1,.str e.2])):cM H (vs++[.ref t]) (ps++[e]):=by
  refine⟨by simp[h.1],fun i v d h1 h2=>?_⟩
  by_cases hi:i<vs.length
  ·rw[List.getElem?_append_left hi] at h1;rw[List.getElem?_append_left (by rw[← h.1];exact hi)] at h2;exact h.2 i v d h1 h2
  · rw[List.getElem?_append_right (by omega)] at h1;rw[List.getElem?_append_right (by rw[← h.1];omega),← h.1] at h2;cases hk:i - vs.length with
    | zero=>
      rw[hk] at h1 h2;cases h1;cases h2;exact⟨t,rfl,ht⟩
    | succ j=>
      rw[hk] at h1;simp at h1
structure eU (C:Addr) (H:Hp) (o:Addr) (xs:List Str) (ps:List (Str×Str)):Prop where
  ex:∃dx n m tv,H o=some (.ins C dx [("names",V.ref n),("pairs",V.ref m)])∧H n=some (.tup (xs.map V.str))∧H m=some (.tup tv)∧cM H tv ps∧ps.length≤20
def qev (C:Addr):Sp:=fun vs H Q _=>∃o dx p t tv xs ps,vs=[.ref o,.ref p,.ref t]∧H o=some (.ins C dx [])∧Sq H t tv∧zm H tv ps∧Sq H p (xs.map V.str)∧Uq xs∧Jl xs ps∧
  ∀H',eU C H' o xs ps→But o H H'→Q .non H'
theorem V5 (T:Txt K mg a):cT P w K mg base rN 4 a.gQ a.yL ["self", "points", "ties"] (qev a.cJ):=by
  refine T.NT.z9 VD (fun vs H Q E h=>?_) (fun cdv A outer s H vs Q E hr h=>?_)
  ·obtain⟨o,dx,p,t,tv,xs,ps,rfl,_⟩:=h;rfl
  · obtain⟨o,dx,p,t,tv,xs,ps,rfl,ho,ht,hpr,hp,hx,hts,q⟩:=h;refine⟨_,(aC (cO (dM (cB (PE.eqv (aO (P0 (K:=K) T) (hr.mono (by decide)) rfl T.Ja T.Ck.kp T.I_ .nil bD (aj (aL 1) ak)) (aK _ _ _)))) (aG Hs) bC)
      (aC (cO (dM (cB (PE.eqv (aO (V4 (K:=K) T) (hr.mono (by decide)) rfl T.NQ T.GC.kp T.NP .nil bD (aj (aL 2) (aj (aL 1) ak))) (aK _ _ _)))) (aG Hs) bC)
      (aC (Y6 (K:=K) rfl (aL 0) (eG z8 rfl T.nm.tuple boot_tuple (aj (aL 1) ak)) rfl)
      (aG (Y6 (K:=K) rfl (aL 0) (eG z8 rfl T.nm.tuple boot_tuple (aj (fL rfl rfl (show bL (ao gO) _ ["self", "points", "ties"] ["pair"] [] ["pair"] from⟨rfl,by decide+kernel,by decide+kernel,rfl,by decide+kernel,by decide+kernel⟩) rfl (PI.eqv (tU (K:=K) rfl (aL 2)) (nR _ _)) (fun C s H fp pn=>(bG (i:=0) (show(["pair"]:List Str).Nodup by decide+kernel) rfl (Or.inl rfl))) (fun C s H fp pn=>eV) (fun C s H fp pn=>(dh (aj (cX (dB (K:=K) rfl) (aL 0) aJ (fun _ _=>rfl)) (aj (cX (dB (K:=K) rfl) (aL 0) aJ (fun _ _=>rfl)) ak))))) ak)) rfl))))),?_⟩
    simp -dsimp[aF,stC,-Bool.exists_bool,-List.map_take];refine⟨p,xs,rfl,hp,hx,fun H1 s1=>?_⟩;simp -dsimp[aF,stC,-Bool.exists_bool,-List.map_take];refine⟨t,p,tv,xs,ps,rfl,ht.same s1,hpr.same s1,hp.same s1,hx,hts,fun H2 s2'=>?_⟩;have s2:=s1.trans s2';simp -dsimp[aF,stC,-Bool.exists_bool,-List.map_take];refine⟨_,hp.same s2,fun n H3 hn s3'=>?_⟩;have s3:=s2.trans s3';have nno:n≠o:=Ma hn (s3 _ _ ho) (by intro z;cases z);refine⟨_,_,_,s3 _ _ ho,T.uD,T.T7,by simp,?_⟩;have hto:t≠o:=by rcases ht with z | z <;> exact Ma z ho (by intro y;cases y)
    have qjA:∀{ob:HO} {b:Addr} {u:HO},b≠o→H b=some u→upd H3 o ob b=some u:=fun hb e=>by rw[aV hb];exact s3 _ _ e
    obtain⟨b,hb⟩:∃b,∀H',(∀c u,c≠o→H c=some u→H' c=some u)→RX b K H' t tv:=by
      rcases ht with z | z
      ·exact⟨true,fun H' k=>cj.of (k _ _ hto z)⟩
      ·exact⟨false,fun H' k=>lR.of (k _ _ hto z)⟩
    have e1:zY "names" (V.ref n) []=([("names",V.ref n)]:List (Str×V)):=rfl;rw[e1];have st4:∀(c:Addr) (u:HO),c≠o→H c=some u→upd H3 o (.ins a.cJ dx [("names",V.ref n)]) c=some u:=fun c u hc e=>qjA hc e;generalize h4:upd H3 o (.ins a.cJ dx [("names",V.ref n)])=H4 at st4 ⊢;have ho4:H4 o=some (.ins a.cJ dx [("names",V.ref n)]):=by rw[← h4];exact aA
    have hn4:H4 n=some (.tup (xs.map V.str)):=by rw[← h4,aV nno];exact hn
    refine⟨b,⟨_,hb H4 st4⟩,fun D hD=>cmQ tv (fun i σ' H'=>(∃o',σ'=[o'])∧Same H4 H'∧∃tvs,H' D=some (.lst tvs)∧cM H' tvs (ps.take i)) ⟨⟨none,rfl⟩,aB hD,[],aA,by simp[cM]⟩ (fun i σ' H' _ h=>hb H' fun c u hc e=>h.2.1 _ _ (st4 c u hc e)) ?_ ?_⟩
    · rintro i v σ' H' hi ⟨⟨o',rfl⟩,sm,tvs,PN,htv⟩;have hi2:i<tv.length:=(List.getElem?_eq_some_iff.mp hi).1;have hlen:=hpr.1;have Ho:=hts.len;obtain⟨e,he,t2,rfl,ZD⟩:=hpr.at hi;have t2o:t2≠o:=by rcases ZD with z | z <;> exact Ma z ho (by intro y;cases y)
      have ht3:Sq H' t2 [.str e.1,.str e.2]:=by
        rcases ZD with z | z
        ·exact .inl (sm _ _ (st4 _ _ t2o z))
        ·exact .inr (sm _ _ (st4 _ _ t2o z))
      simp -dsimp[aF,stC,-Bool.exists_bool,-List.map_take];refine⟨_,ht3.q,_,dj (j:=0) rfl,_,ht3.q,_,dj (j:=1) rfl,fun pt hpt=>?_⟩;have hDp:D≠pt:=aY PN hpt;refine⟨tvs,by rw[aV hDp];exact PN,?_,cU (sm.trans (aB hpt)) hD,_,aA,?_⟩
      · have h4':20<sizeLine:=by decide
        have:=htv.1;simp at this;omega
      · rw[take_one he];refine(htv.keep ?_).snoc ?_
        ·intro c zs ec;rw[aV (Ma ec PN (by intro y;cases y)),aV (aY ec hpt)];exact ec
        ·rw[aV (Ne.symm hDp)];exact aA
    · rintro σ' H' ⟨⟨o',rfl⟩,sm,tvs,PN,htv⟩;simp -dsimp[aF,stC,-Bool.exists_bool,-List.map_take];refine⟨tvs,.inl PN,fun m H5 hm s5=>⟨_,_,_,s5 _ _ (sm _ _ ho4),T.uD,T.LC,by simp,?_⟩⟩;have ho5:=s5 _ _ (sm _ _ ho4);have mno:m≠o:=Ma hm ho5 (by intro z;cases z);have e2:zY "pairs" (V.ref m) ([("names",V.ref n)]:List (Str×V))=([("names",V.ref n),("pairs",V.ref m)]:List (Str×V)):=by
        show(if ("names" : Str) = "pairs" then _ else (("names" : Str),V.ref n)::zY "pairs" (V.ref m) [])=_
        rw[if_neg (by decide+kernel)];rfl
      rw[e2];refine q _ ⟨dx,n,m,tvs,aA,?_,?_,?_,hts.len⟩ fun c u hc e=>?_
      ·rw[aV nno];exact s5 _ _ (sm _ _ hn4)
      ·rw[aV mno];exact hm
      ·have hl:=hpr.1;rw[hl,List.take_length] at htv;refine htv.keep fun c zs ec=>?_;rw[aV (Ma (s5 _ _ ec) ho5 (by intro z;cases z))];exact s5 _ _ ec
      ·rw[aV hc];exact s5 _ _ (sm _ _ (st4 c u hc e))
def qaO (C:Addr):Sp:=fun vs H Q _=>∃o xs ps,vs=[.ref o]∧eU C H o xs ps∧∀l,H l=none→Q (.ref l) (upd H l (.lst (xs.map V.str)))
theorem nW (T:Txt K mg a):cT P w K mg base rN 1 a.fC a.tY ["self"] (qaO a.cJ):=by
  refine T.Jb.z9 PL (fun vs H Q E h=>?_) (fun cdv A outer s H vs Q E hr h=>?_)
  ·obtain⟨o,xs,ps,rfl,_⟩:=h;rfl
  ·obtain⟨o,xs,ps,rfl,⟨dx,n,m,tv,h1,h2,h3,h4,h5⟩,q⟩:=h;refine⟨_,(aG (aZ (eG (M8 (K:=K) rfl) rfl T.nm.list boot_list (aj (PE.eqv (RW (K:=K) rfl (aL 0) rfl) (S8 _ _ _)) ak)))),?_⟩;simp -dsimp[aF,stC,-Bool.exists_bool,-List.map_take];refine⟨_,_,_,h1,T.uD,T.T7,_,rfl,_,.inr (lR.of h2),q⟩
def qew (C:Addr):Sp:=fun vs H Q _=>∃o xs ps,vs=[.ref o]∧eU C H o xs ps∧∀l tv,H l=none→cM H tv ps→Q (.ref l) (upd H l (.lst tv))
theorem K3 (T:Txt K mg a):cT P w K mg base rN 1 a.gR a.yM ["self"] (qew a.cJ):=by
  refine T.N5.z9 VF (fun vs H Q E h=>?_) (fun cdv A outer s H vs Q E hr h=>?_)
  ·obtain⟨o,xs,ps,rfl,_⟩:=h;rfl
  ·obtain⟨o,xs,ps,rfl,⟨dx,n,m,tv,h1,h2,h3,h4,h5⟩,q⟩:=h;refine⟨_,(aG (aZ (eG (M8 (K:=K) rfl) rfl T.nm.list boot_list (aj (PE.eqv (RW (K:=K) rfl (aL 0) rfl) (S8 _ _ _)) ak)))),?_⟩;simp -dsimp[aF,stC,-Bool.exists_bool,-List.map_take];refine⟨_,_,_,h1,T.uD,T.LC,_,rfl,_,.inr (lR.of h3),fun l hl=>q l tv hl h4⟩
theorem jU.upd {p q:Addr} {H:Hp} {u:HO} (x:jU H p) (h:p≠q):jU (L2.upd H q u) p:=by
  obtain⟨a,b,e,r⟩:=x;exact⟨a,b,by rw[aV h];exact e,r⟩
theorem jU.ne {p q:Addr} {H:Hp} (x:jU H p) (h:H q=none):p≠q:=by
  obtain⟨a,b,e,r⟩:=x;exact aY e h
theorem jU.none {p b:Addr} {H H':Hp} (x:But p H H') (hp:jU H' p) (h:H' b = .none):H b = .none:=by
  obtain⟨a,b,e,r⟩:=hp;exact x.none e h
def qcS:Sp:=fun vs H Q _=>∃p l xs,vs=[.ref p,.ref l]∧jU H p∧l≠p∧H l=some (.lst xs)∧xs.length≤100∧∀r ys H',H r=none→H' r=some (.lst ys)→ys.Perm xs→jU H' p→But p H H'→Q (.ref r) H'
theorem V6 (T:Txt K mg a):cT P w K mg base rN 2 a.wD a.Iz ["_law_pot_here", "_law_things"] qcS:=by
  refine T.Lz.z9 Nz (fun vs H Q E h=>?_) (fun cdv A outer s H vs Q E hr h=>?_)
  ·obtain⟨p,l,xs,rfl,_⟩:=h;rfl
  · obtain⟨p,l,xs,rfl,hp,hlp,hl,h100,q⟩:=h;refine⟨_,(aC (bO (i:=2) Nz.nd rfl (Or.inl rfl) (bB ak))
      (aC (zx PassesOwn.never rfl (PI.eqv (nO (K:=K) rfl (aL 1)) (ju _ _)) (bG (i:=3) Nz.nd rfl (Or.inl rfl))
      (aG (jT (jz (K:=K) rfl PySem.F.plainAttrs_list PySem.F.slot_list_insert PySem.F.type_list_insert Xo (aL 2) (aj (PE.eqv (aO (eF (K:=K) T) (hr.mono (by decide)) rfl T.gC T.f9.kp T.gB .nil bD (aj (aL 0) (aj (bQ oF (aQ (cN (K:=K) rfl) rfl T.nm.len PySem.boot_len (aj (aL 2) ak)) aJ) ak))) (aK _ _ _)) (aj (aL 3) ak))))))
      (aG (aZ (aL 2))))),?_⟩
    have h4':100<sizeLine:=by decide
    simp -dsimp[aF,stC,-Bool.exists_bool,-List.map_take];intro r hr0;have hpr:p≠r:=hp.ne hr0;refine⟨⟨_,cj.of (dz hl hr0)⟩,frL xs (fun i σ H'=>∃v ys,σ=[some (.ref p),some (.ref l),some (.ref r),v]∧H' r=some (.lst ys)∧ys.Perm (xs.take i)∧jU H' p∧But p H H') ⟨none,[],rfl,aA,by simp,hp.upd hpr,(But.refl _ _).new hr0⟩ (fun i σ H' _ ⟨_,_,_,_,_,_,hb⟩=>cj.of (hb _ _ hlp hl)) ?_ ?_⟩
    · rintro i x σ H' hi ⟨v,ys,rfl,hr',hperm,hP,hB⟩;have hi2:i<xs.length:=(List.getElem?_eq_some_iff.mp hi).1;have hly:ys.length=i:=by
        have:=hperm.length_eq;simp at this;omega
      simp -dsimp[aF,stC,-Bool.exists_bool,-List.map_take];refine⟨⟨_,cj.of hr'⟩,ys,.inl (cj.of hr'),p,_,rfl,hP,by omega,by omega,fun d H1 hd0 hd1 V7 Ur=>?_⟩;have hr1:H1 r=some (.lst ys):=Ur _ _ (Ne.symm hpr) hr';simp -dsimp[aF,stC,-Bool.exists_bool,-List.map_take];refine⟨ys,hr1,hd0,by omega,by omega,_,aA,?_,V7.upd hpr,(hB.trans Ur).new hr0⟩
      · rw[take_one hi];have e:(ys.take d.toNat++x::ys.drop d.toNat).Perm (x::ys):=by
          refine List.perm_middle.trans ?_;rw[List.take_append_drop]
        exact e.trans ((List.Perm.cons x hperm).trans (List.perm_append_singleton x _).symm)
    ·rintro σ H' ⟨v,ys,rfl,hr',hperm,hP,hB⟩;rw[List.take_length] at hperm;simp -dsimp[aF,stC,-Bool.exists_bool,-List.map_take];exact q r ys H' hr0 hr' hperm hP hB
def qg2:Sp:=fun vs H Q _=>∃(p l:Addr) (xs:List Str),vs=[.ref p,.ref l]∧jU H p∧l≠p∧H l=some (.lst (xs.map V.str))∧2≤xs.length∧xs.length≤9∧xs.Nodup∧∀t x y H',H t=none→H' t=some (.tup [.str x,.str y])→x∈xs→y∈xs→x≠y→jU H' p→But p H H'→Q (.ref t) H'
theorem qg3 (T:Txt K mg a):cT P w K mg base rN 2 a.IK a.TF ["_law_pot_here", "_law_names_here"] qg2:=by
  refine T.qcO.z9 XH (fun vs H Q E h=>?_) (fun cdv A outer s H vs Q E hr h=>?_)
  ·obtain⟨p,l,xs,rfl,_⟩:=h;rfl
  · obtain⟨p,l,xs,rfl,hp,hlp,hl,h2,h9,hnd,q⟩:=h;refine⟨_,(aC (bO (i:=2) XH.nd rfl (Or.inl rfl) (PE.eqv (aO (eF (K:=K) T) (hr.mono (by decide)) rfl T.gC T.f9.kp T.gB .nil bD (aj (aL 0) (aj (aQ (cN (K:=K) rfl) rfl T.nm.len PySem.boot_len (aj (aL 1) ak)) ak))) (aK _ _ _)))
      (aC (bO (i:=3) XH.nd rfl (Or.inl rfl) (bQ Bo (bQ oF (bQ oF (aL 2) aJ) (PE.eqv (aO (eF (K:=K) T) (hr.mono (by decide)) rfl T.gC T.f9.kp T.gB .nil bD (aj (aL 0) (aj (bQ vW (aQ (cN (K:=K) rfl) rfl T.nm.len PySem.boot_len (aj (aL 1) ak)) aJ) ak))) (aK _ _ _))) (aQ (cN (K:=K) rfl) rfl T.nm.len PySem.boot_len (aj (aL 1) ak))))
      (aG (aZ (dh (aj (cX (dB (K:=K) rfl) (aL 1) (aL 2) (fun _ _=>rfl)) (aj (cX (dB (K:=K) rfl) (aL 1) (aL 3) (fun _ _=>rfl)) ak))))))),?_⟩
    simp -dsimp[aF,stC,-Bool.exists_bool,-List.map_take];refine⟨_,.inl (cj.of hl),p,_,rfl,hp,by simp;omega,by simp;omega,fun d H1 hd0 hd1 V7 Ur=>?_⟩;have hl1:=Ur _ _ hlp hl;simp -dsimp[aF,stC,-Bool.exists_bool,-List.map_take];refine⟨_,.inl (cj.of hl1),p,_,rfl,V7,by simp;omega,by simp;omega,fun e H2 he0 Sw hP2 hB2=>?_⟩;have hl2:=hB2 _ _ hlp hl1;simp only[List.length_map] at hd1 Sw;obtain⟨m0,m1,m2⟩:=qgd hd0 hd1 he0 Sw;obtain⟨vx,ex,ax⟩:=YZ (xs:=xs.map V.str) hd0 (by simpa using hd1);obtain⟨vy,ey,ay⟩:=YZ (xs:=xs.map V.str) m0 (by simpa using m1);obtain⟨x,ex',rfl⟩:=Gs ex;obtain⟨y,ey',rfl⟩:=Gs ey;have sl:=cj.of (K:=K) hl2;simp -dsimp[aF,stC,-Bool.exists_bool,-List.map_take];refine⟨_,.inl sl,by simp;omega,_,.inl sl,_,ax,_,.inl sl,_,(by simpa using ay),fun t ht=>?_⟩;refine q t x y _ (jU.none (Ur.trans hB2) hP2 ht) aA (List.mem_of_getElem? ex') (List.mem_of_getElem? ey') (fun z=>?_) (hP2.upd (hP2.ne ht)) ((Ur.trans hB2).same (aB ht));subst z;have:=Mv hnd ex' ey';omega
def qcT:Sp:=fun vs H Q _=>∃(p:Addr) (m:Nat),vs=[.ref p,.int m]∧jU H p∧1≤m∧m≤9∧∀(r:Addr) (xs:List Str) (H':Hp),H r=none→H' r=some (.lst (xs.map V.str))→Uq xs→xs.length=m→jU H' p→But p H H'→Q (.ref r) H'
theorem qcU (T:Txt K mg a):cT P w K mg base rN 2 a.wC a.Iw ["_law_pot_here", "_law_many"] qcT:=by
  refine T.TV.z9 uq (fun vs H Q E h=>?_) (fun cdv A outer s H vs Q E hr h=>?_)
  ·obtain⟨p,m,rfl,_⟩:=h;rfl
  · obtain⟨p,m,rfl,hp,h1,h9,q⟩:=h;refine⟨_,(aC (bO (i:=2) uq.nd rfl (Or.inr rfl) bN)
      (aC (bO (i:=3) uq.nd rfl (Or.inl rfl) (PE.eqv (aO (eF (K:=K) T) (hr.mono (by decide)) rfl T.gC T.f9.kp T.gB .nil bD (aj (aL 0) (aj aJ ak))) (aK _ _ _)))
      (aC (cO (bx jA (PE.eqv (aO (eF (K:=K) T) (hr.mono (by decide)) rfl T.gC T.f9.kp T.gB .nil bD (aj (aL 0) (aj aJ ak))) (aK _ _ _)) aJ (bZ _)) (aC (PS.eqv (qfI (i:=4) (j:=5) rfl uq.nd rfl rfl (by decide) rfl rfl (aj (cX Ln (aL 2) (aL 3) (fun _ _=>rfl)) (aj (cX Ln (aL 2) (bQ Bo (bQ oF (aL 3) aJ) aJ) (fun _ _=>rfl)) ak)) rfl) (qei _ _ _))
      (aC (bO (i:=6) uq.nd rfl (Or.inr rfl) (bB (aj (aL 4) (aj (bQ cu (aL 4) (aL 4)) (aj (bQ cu (aL 4) (aL 5)) (aj (bQ cu (bQ cu (aL 4) (aL 4)) (aL 5)) (aj (aL 5) (aj (bQ cu (aL 5) (aL 4)) (aj (bQ cu (bQ cu (aL 4) (aL 4)) (aL 4)) (aj (bQ cu (bQ cu (aL 4) (aL 5)) (aL 4)) (aj (bQ cu (aL 5) (aL 5)) (aj (bQ cu (bQ cu (bQ cu (aL 4) (aL 4)) (aL 4)) (aL 5)) (aj (bQ cu (bQ cu (aL 4) (aL 5)) (aL 5)) (aj (bQ cu (bQ cu (aL 5) (aL 4)) (aL 4)) ak))))))))))))))
      (aG (aZ (fL rfl rfl (show bL (ao qp) _ ["_law_pot_here", "_law_many", "_law_letters", "_law_begin", "_law_p", "_law_q", "_law_some", "_law_found", "_law_k", "_law_more"] ["_law_k"] [6,0] ["_law_k", "_law_some", "_law_pot_here"] from⟨rfl,by decide+kernel,by decide+kernel,rfl,by decide+kernel,by decide+kernel⟩) rfl (PI.eqv (wI rfl T.nm.range (aj (aL 1) ak)) (wK _)) (fun C s H fp pn=>(bG (i:=0) (show(["_law_k", "_law_some", "_law_pot_here"]:List Str).Nodup by decide+kernel) rfl (Or.inl rfl))) (fun C s H fp pn=>eV) (fun C s H fp pn=>(jz (K:=K) rfl PySem.F.plainAttrs_list PySem.F.slot_list_pop PySem.F.type_list_pop qbu (aL 1) (aj (PE.eqv (aO (eF (K:=K) T) (hr.mono (by decide)) rfl T.gC T.f9.kp T.gB .nil bD (aj (aL 2) (aj (aQ (cN (K:=K) rfl) rfl T.nm.len PySem.boot_len (aj (aL 1) ak)) ak))) (aK _ _ _)) ak)))))))) bC)
      (aC (bO (i:=7) uq.nd rfl (Or.inl rfl) (bB ak))
      (aC (zx PassesOwn.never rfl (PI.eqv (wI rfl T.nm.range (aj (aL 1) ak)) (wK _)) (bG (i:=8) uq.nd rfl (Or.inl rfl))
      (aC (wY (i:=9) uq.nd rfl rfl rfl rfl (show bL (ao qp) _ ["_law_pot_here", "_law_many", "_law_letters", "_law_begin", "_law_p", "_law_q", "_law_some", "_law_found", "_law_k", "_law_more"] ["_law_j"] [2,0] ["_law_j", "_law_letters", "_law_pot_here"] from⟨rfl,by decide+kernel,by decide+kernel,rfl,by decide+kernel,by decide+kernel⟩) rfl (PI.eqv (wI rfl T.nm.range (aj (PE.eqv (aO (eF (K:=K) T) (hr.mono (by decide)) rfl T.gC T.f9.kp T.gB .nil bD (aj (aL 0) (aj aJ ak))) (aK _ _ _)) ak)) (wK _)) (fun C s H fp pn=>(bG (i:=0) (show(["_law_j", "_law_letters", "_law_pot_here"]:List Str).Nodup by decide+kernel) rfl (Or.inl rfl))) (fun C s H fp pn=>eV) (fun C s H fp pn=>(cX Ln (aL 1) (PE.eqv (aO (eF (K:=K) T) (hr.mono (by decide)) rfl T.gC T.f9.kp T.gB .nil bD (aj (aL 2) (aj aJ ak))) (aK _ _ _)) (fun _ _=>rfl))))
      (aG (jT (jz (K:=K) rfl PySem.F.plainAttrs_list PySem.F.slot_list_append PySem.F.type_list_append rY (aL 7) (aj (bQ cu (cX Ln (aL 2) (bQ Bo (bQ oF (aL 3) (bQ Lk aJ (aL 8))) aJ) (fun _ _=>rfl)) (jz (K:=K) rfl PySem.F.plainAttrs_str PySem.F.slot_str_join PySem.F.type_str_join Vq bN (aj (aL 9) ak))) ak))))))
      (aG (aZ (aL 7)))))))),?_⟩
    simp -dsimp[aF,stC,-Bool.exists_bool,-List.map_take];refine⟨p,_,rfl,hp,by decide,by decide,fun d H1 hd0 hd1 V7 Ur=>?_⟩;obtain⟨b,rfl,qpf,hbl⟩:=yF hd0 hd1;simp -dsimp[aF,stC,-Bool.exists_bool,-List.map_take];refine⟨p,_,rfl,V7,by decide,by decide,fun e H2 he0 Sw hP2 hB2'=>?_⟩;have hB2:=Ur.trans hB2';simp -dsimp[aF,stC,-Bool.exists_bool,-List.map_take];refine g8.of (fun he=>?_) (fun he=>?_)
    · obtain⟨c,hc,qjB,hcl⟩:=yF (i:=((b:Int)+1) % 26) (by omega) (by omega);have hc':c=(b+1) % 26:=by omega
      have l1:∀c:Nat,(⟨#[c]⟩:Str).length=1:=fun _=>rfl;have la:∀x y:Str,(x++y).length=x.length+y.length:=fun x y=>Array.size_append;simp -dsimp[aF,stC,-Bool.exists_bool,-List.map_take,-Prod.forall,-Prod.exists,hbl,hcl,DN,l1,la];intro L hL0;refine⟨by omega,fun D hD0=>?_⟩;have hW:(H2 L=none):=hL0;have eW:([V.str ⟨#[97+b]⟩,V.str (⟨#[97+b]⟩++⟨#[97+b]⟩),V.str (⟨#[97+b]⟩++⟨#[97+c]⟩),V.str (⟨#[97+b]⟩++⟨#[97+b]⟩++⟨#[97+c]⟩),V.str ⟨#[97+c]⟩,V.str (⟨#[97+c]⟩++⟨#[97+b]⟩),V.str (⟨#[97+b]⟩++⟨#[97+b]⟩++⟨#[97+b]⟩),V.str (⟨#[97+b]⟩++⟨#[97+c]⟩++⟨#[97+b]⟩),V.str (⟨#[97+c]⟩++⟨#[97+c]⟩),V.str (⟨#[97+b]⟩++⟨#[97+b]⟩++⟨#[97+b]⟩++⟨#[97+c]⟩),V.str (⟨#[97+b]⟩++⟨#[97+c]⟩++⟨#[97+c]⟩),V.str (⟨#[97+c]⟩++⟨#[97+b]⟩++⟨#[97+b]⟩)]:List V)=(Hy (97+b) (97+c)).map V.str:=rfl;rw[eW] at hD0 ⊢;obtain⟨wnd,wok⟩:=hc'▸Xd b qpf;have qrU:(Hy (97+b) (97+c)).length=12:=rfl;generalize Hy (97+b) (97+c)=jV at *;have hLD:L≠D:=fun z=>by subst z;rw[aA] at hD0;cases hD0
      have hD2:H2 D=none:=by rw[aV hLD.symm] at hD0;exact hD0
      refine cmR (fun i σ H'=>∃v ys zs,σ=[v,some (.ref L),some (.ref p)]∧H' L=some (.lst (zs.map V.str))∧H' D=some (.lst (ys.map V.str))∧ys.length=i∧(ys++zs).Perm jV∧jU H' p∧But p H H') ⟨none,[],jV,rfl,by rw[aV hLD,aA],aA,rfl,by simp,(hP2.upd (hP2.ne hL0)).upd (hP2.ne hD2),(hB2.same (aB hL0)).same (aB hD0)⟩ ?_ ?_
      · rintro i σ H' hi ⟨v,ys,zs,rfl,hL,hD,hl,hpm,hP,hB⟩;have hz:zs.length=12 - i:=by
          have:=hpm.length_eq;simp at this;omega
        simp -dsimp[aF,stC,-Bool.exists_bool,-List.map_take];refine⟨⟨_,cj.of hL⟩,_,.inl (cj.of hL),p,_,rfl,hP,by simp;omega,by simp;omega,fun e H3 he0 Sw LK hB3=>?_⟩;simp only[List.length_map] at Sw;have pL:L≠p:=fun z=>by subst z;obtain⟨_,_,u,_⟩:=hP2;rw[hL0] at u;cases u
        have pD:D≠p:=fun z=>by subst z;obtain⟨_,_,u,_⟩:=hP2;rw[hD2] at u;cases u
        have hL3:=hB3 _ _ pL hL;have Xi:=hB3 _ _ pD hD;have hek:e.toNat<zs.length:=by omega
        simp -dsimp[aF,stC,-Bool.exists_bool,-List.map_take];have hz2:zs[e.toNat]? = some (zs[e.toNat]'hek):=by simp[hek]
        refine⟨_,hL3,by omega,by omega,e.toNat,RZ he0 (by simpa using Sw),.str (zs[e.toNat]'hek),by rw[List.getElem?_map,hz2];rfl,_,by rw[aV hLD.symm];exact Xi,?_,ys++[zs[e.toNat]'hek],zs.eraseIdx e.toNat,?_,?_,by simp[hl],?_,(LK.upd pL.symm).upd pD.symm,?_⟩
        ·have h12:=of_eq_true qoA;simp only[List.length_map];omega
        ·rw[aV hLD,aA,qaj]
        ·rw[aA];simp
        ·refine List.Perm.trans ?_ hpm;rw[List.append_assoc];exact List.Perm.append_left ys (Xb hz2)
        ·exact(hB.trans hB3).new (jU.none hB2 hP2 hL0) |>.new (jU.none hB2 hP2 hD2)
      ·rintro σ H' ⟨v,ys,zs,rfl,hL,hD,hl,hpm,hP,hB⟩;simp -dsimp[aF,stC,-Bool.exists_bool,-List.map_take];have hnd:(ys++zs).Nodup:=hpm.nodup_iff.mpr wnd;refine q D ys H' (jU.none (p:=p) hB2 hP2 hD2) hD ⟨by omega,fun x hx=>wok x (hpm.mem_iff.mp (List.mem_append_left _ hx)),(List.nodup_append.mp hnd).1⟩ hl hP hB
    · simp -dsimp[aF,stC,-Bool.exists_bool,-List.map_take];intro r hr0;refine⟨zlt h9 (by decide),frR (fun i σ H'=>∃v8 v9 ws,σ=[some (.ref p),some (.int m),some (.str (Str.ofString "abcdefghijklmnopqrstuvwxyz")),some (.int b),none,none,none,some (.ref r),v8,v9]∧H' r=some (.lst (ws.map V.str))∧ws.length=i∧(∀(j:Nat) x,ws[j]? = some x→∃k,1≤k∧k≤4∧Bm (97+(b+5 * j) % 26) k x)∧jU H' p∧But p H H') ⟨none,none,[],rfl,aA,rfl,fun j x e=>by simp at e,hP2.upd (hP2.ne hr0),hB2.same (aB hr0)⟩ ?_ ?_⟩
      · rintro i σ H' hi ⟨v8,v9,ws,rfl,hr',hl,hw,hP,hB⟩;simp -dsimp[aF,stC,-Bool.exists_bool,-List.map_take];obtain⟨c,hc,qjB,hcl⟩:=yF (i:=((b:Int)+5 * i) % 26) zn1 zn2;have hc':c=(b+5 * i) % 26:=zn3 hc;have pr:r≠p:=fun z=>by subst z;obtain⟨_,_,u,_⟩:=hP2;rw[hr0] at u;cases u
        refine⟨p,_,rfl,hP,by decide,by decide,fun e H3 he0 Sw LK hB3=>?_⟩;simp -dsimp[aF,stC,-Bool.exists_bool,-List.map_take];have hDr:∀{D:Addr},H3 D=none→r≠D:=fun hD=>aY (hB3 _ _ pr hr') hD;refine⟨zlo he0,zhi Sw (by decide),fun D hD=>cmR (fun j σ H4=>∃v ys,σ=[v,some (.str (Str.ofString "abcdefghijklmnopqrstuvwxyz")),some (.ref p)]∧H4 D=some (.lst (ys.map V.str))∧H4 r=some (.lst (ws.map V.str))∧ys.length=j∧(∀y∈ys,∃n,n<26∧y=(⟨#[97+n]⟩:Str))∧jU H4 p∧But p H H4) ⟨_,[],rfl,aA,dz (hB3 _ _ pr hr') hD,rfl,by simp,LK.upd (LK.ne hD),(hB.trans hB3).same (aB hD)⟩ ?_ ?_⟩
        · rintro j σ H4 hj ⟨v,ys,rfl,Rg,hr4,hyl,hys,V8,T8⟩;have hDp:D≠p:=(LK.ne hD).symm;simp -dsimp[aF,stC,-Bool.exists_bool,-List.map_take];refine⟨p,_,rfl,V8,by decide,by decide,fun f H5 hf0 hf1 Jw K4=>?_⟩;obtain⟨n,rfl,qpg,hnl⟩:=yF hf0 hf1;simp -dsimp[aF,stC,-Bool.exists_bool,-List.map_take,-Prod.forall,-Prod.exists,DN,hnl];have s20:=of_eq_true K_;refine⟨_,K4 _ _ hDp Rg,by rw[List.length_map];exact zn4 hj Sw hyl,ys++[⟨#[97+n]⟩],by rw[aA];simp,by rw[aV (hDr hD)];exact K4 _ _ pr hr4,by simp[hyl],fun y hy=>?_,Jw.upd hDp.symm,(T8.trans K4).new (jU.none (hB.trans hB3) LK hD)⟩
          rcases List.mem_append.mp hy with hy | hy
          ·exact hys y hy
          ·exact⟨n,qpg,by simpa using hy⟩
        · rintro σ H4 ⟨v,ys,rfl,Rg,hr4,hyl,hys,V8,T8⟩;have hy3:=DX ys hys;simp -dsimp[aF,stC,-Bool.exists_bool,-List.map_take];have hw4:=(Bm.one qjB).glue (by decide) hys;have s20:=of_eq_true K_;refine⟨⟨_,cj.of hr4⟩,DN,_,hcl,?_⟩;have hlen:(⟨#[97+c]⟩:Str).length+(Txt.join (Str.ofString "") ys).length=1+ys.length:=by
            rw[← hw4.len];exact(Array.size_append).symm
          refine⟨ys,Rg,by rw[hy3.2.2];exact zn5 hyl Sw,by rw[hlen];exact qo6 (zn6 hyl Sw) (by decide),_,hr4,by rw[List.length_map,hl];exact zsz hi (Nat.le_trans h9 (by decide)),ws++[_],by rw[aA];simp;rfl,by simp[hl],fun j y e=>?_,V8.upd pr.symm,T8.new (jU.none hB2 hP2 hr0)⟩
          by_cases hj:j<ws.length
          ·rw[List.getElem?_append_left hj] at e;exact hw j y e
          · rw[List.getElem?_append_right (Nat.not_lt.mp hj)] at e;cases hk:j - ws.length with
            | zero=>
              rw[hk] at e;simp at e;subst e;have ej:j=i:=(zn8 hj hk).trans hl;subst ej;exact⟨1+ys.length,Nat.le_add_right 1 _,zn6 hyl Sw,by rw[← hc'];exact hw4⟩
            | succ k=>
              rw[hk] at e;simp at e
      · rintro σ H' ⟨v8,v9,ws,rfl,hr',hl,hw,hP,hB⟩;simp -dsimp[aF,stC,-Bool.exists_bool,-List.map_take];have nd:ws.Nodup:=by
          unfold List.Nodup;rw[List.pairwise_iff_getElem];intro i j hi hj hij e;obtain⟨k1,_,_,w1⟩:=hw i _ (by simp[hi]:ws[i]? = some ws[i]);obtain⟨k2,_,_,w2⟩:=hw j _ (by simp[hj]:ws[j]? = some ws[j]);have z:=w1.fst;rw[e,w2.fst] at z;simp at z;exact zn7 hi hj hij (by rw[hl];exact h9) z
        refine q r ws H' (jU.none hB2 hP2 hr0) hr' ⟨⟨by rw[hl];exact h1,by rw[hl];exact h9⟩,fun x hx=>?_,nd⟩ hl hP hB;obtain⟨j,hj,e⟩:=List.mem_iff_getElem.mp hx;obtain⟨k,k1,k4,w⟩:=hw j x (by simp[hj,e]);exact w.name k1 k4
theorem cM.perm {H:Hp} {vs ys:List V} {ps:List (Str×Str)} (h:cM H vs ps) (hp:ys.Perm vs):∃qs:List (Str×Str),cM H ys qs∧qs.Perm ps:=by
  have e1:vs=(vs.zip ps).map (·.1):=by rw[List.map_fst_zip (by rw[h.1];exact Nat.le_refl _)]
  have e2:ps=(vs.zip ps).map (·.2):=by rw[List.map_snd_zip (by rw[h.1];exact Nat.le_refl _)]
  obtain⟨l',pl,e⟩:=HF hp _ e1;refine⟨l'.map (·.2),⟨by rw[e];simp,fun i v d h1 h2=>?_⟩,by rw[e2];exact pl.map _⟩;rw[e,List.getElem?_map] at h1;rw[List.getElem?_map] at h2;cases hz:l'[i]? with
  | none=>rw[hz] at h1;cases h1
  | some z=>
    rw[hz] at h1 h2;cases h1;cases h2;have hm:z∈vs.zip ps:=pl.mem_iff.mp (List.mem_of_getElem? hz);obtain⟨j,hj,ez⟩:=List.mem_iff_getElem.mp hm;have hj':j<vs.length∧j<ps.length:=by
      simp at hj;omega
    simp at ez;subst ez;exact h.2 j _ _ (by simp[hj'.1]) (by simp[hj'.2])
theorem cM.at {H:Hp} {vs:List V} {ps:List (Str×Str)} (h:cM H vs ps) {i:Nat} {v:V} (hv:vs[i]? = some v):∃e,ps[i]? = some e∧∃t,v = .ref t∧H t=some (.tup [.str e.1,.str e.2]):=by
  have hi:i<ps.length:=by rw[← h.1];exact(List.getElem?_eq_some_iff.mp hv).1
  exact⟨ps[i],by simp[hi],h.2 i v _ hv (by simp[hi])⟩
theorem cM.but {p:Addr} {H H':Hp} {vs:List V} {ps:List (Str×Str)} (h:cM H vs ps) (hp:jU H p) (b:But p H H'):cM H' vs ps:=h.keep fun c xs e=>b c _ (fun z=>by
  subst z;obtain⟨_,_,u,_⟩:=hp;rw[e] at u;cases u) e
theorem cM.same {H H':Hp} {vs:List V} {ps:List (Str×Str)} (h:cM H vs ps) (b:Same H H'):cM H' vs ps:=h.keep fun c xs e=>b c _ e
theorem jU.nl {p q:Addr} {H:Hp} (x:jU H p) (h:H q = .none):q≠p:=fun z=>(x.ne h) z.symm
def qg4:Sp:=fun vs H Q _=>∃(p:Addr) (m k:Nat),vs=[.ref p,.int m,.int k]∧jU H p∧1≤m∧m≤9∧m≤k∧k≤20∧∀(t n l:Addr) (xs:List Str) (tv:List V) (ps:List (Str×Str)) (H':Hp),
  H t=none→H n=none→H l=none→H' t=some (.tup [.ref n,.ref l])→H' n=some (.lst (xs.map V.str))→H' l=some (.lst tv)→cM H' tv ps→Uq xs→Jl xs ps→xs.length≤m→ps.length≤k→jU H' p→But p H H'→Q (.ref t) H'
theorem qg5 (T:Txt K mg a):cT P w K mg base rN 3 a.IV a.TJ ["_law_pot_here", "_law_points", "_law_most"] qg4:=by
  refine T.qcP.z9 BL (fun vs H Q E h=>?_) (fun cdv A outer s H vs Q E hr h=>?_)
  ·obtain⟨p,m,k,rfl,_⟩:=h;rfl
  · obtain⟨p,m,k,rfl,hp,h1,h9,hmk,hk,q⟩:=h;refine⟨_,(aC (bO (i:=3) BL.nd rfl (Or.inl rfl) (PE.eqv (aO (qcU (K:=K) T) (hr.mono (by decide)) rfl T.Zw T.TV.kp T.Zv .nil bD (aj (aL 0) (aj (bQ oF aJ (PE.eqv (aO (eF (K:=K) T) (hr.mono (by decide)) rfl T.gC T.f9.kp T.gB .nil bD (aj (aL 0) (aj (aL 1) ak))) (aK _ _ _))) ak))) (aK _ _ _)))
      (aC (bO (i:=4) BL.nd rfl (Or.inl rfl) (PE.eqv (aO (eF (K:=K) T) (hr.mono (by decide)) rfl T.gC T.f9.kp T.gB .nil bD (aj (aL 0) (aj aJ ak))) (aK _ _ _)))
      (aC (bO (i:=5) BL.nd rfl (Or.inl rfl) (bB ak))
      (aC (cO (bx JN (aQ (cN (K:=K) rfl) rfl T.nm.len PySem.boot_len (aj (aL 3) ak)) aJ (bZ _)) (aC (bO (i:=6) BL.nd rfl (Or.inr rfl) (PE.eqv (aO (V6 (K:=K) T) (hr.mono (by decide)) rfl T.TY T.Lz.kp T.TX .nil bD (aj (aL 0) (aj (aL 3) ak))) (aK _ _ _)))
      (aC (cO (bx JN (aL 4) aJ (bZ _)) (aG (wY (i:=5) BL.nd rfl rfl rfl rfl (show bL (ao CW) _ ["_law_pot_here", "_law_points", "_law_most", "_law_names_here", "_law_kind", "_law_ties", "_law_row", "_law_k", "_law_turns"] ["_law_k"] [6] ["_law_k", "_law_row"] from⟨rfl,by decide+kernel,by decide+kernel,rfl,by decide+kernel,by decide+kernel⟩) rfl (PI.eqv (ZV rfl T.nm.range (aj (eG M9 rfl T.nm.int JB (aj (iQ jA (aL 4) aJ (bZ _)) ak)) (aj (aQ (cN (K:=K) rfl) rfl T.nm.len PySem.boot_len (aj (aL 6) ak)) ak))) (qaw _)) (fun C s H fp pn=>(bG (i:=0) (show(["_law_k", "_law_row"]:List Str).Nodup by decide+kernel) rfl (Or.inl rfl))) (fun C s H fp pn=>eV) (fun C s H fp pn=>(dh (aj (cX (dB (K:=K) rfl) (aL 1) (bQ vW (aL 0) aJ) (fun _ _=>rfl)) (aj (cX (dB (K:=K) rfl) (aL 1) (aL 0) (fun _ _=>rfl)) ak)))))) bC)
      (aG (zx PassesOwn.never rfl (PI.eqv (wI rfl T.nm.range (aj (PE.eqv (aO (eF (K:=K) T) (hr.mono (by decide)) rfl T.gC T.f9.kp T.gB .nil bD (aj (aL 0) (aj (bQ oF (bQ vW (aL 2) (aQ (cN (K:=K) rfl) rfl T.nm.len PySem.boot_len (aj (aL 5) ak))) aJ) ak))) (aK _ _ _)) ak)) (wK _)) (bG (i:=7) BL.nd rfl (Or.inl rfl))
      (aG (jT (jz (K:=K) rfl PySem.F.plainAttrs_list PySem.F.slot_list_append PySem.F.type_list_append rY (aL 5) (aj (PE.eqv (aO (qg3 (K:=K) T) (hr.mono (by decide)) rfl T.qfm T.qcO.kp T.qfl .nil bD (aj (aL 0) (aj (aL 3) ak))) (aK _ _ _)) ak)))))))) bC)
      (aC (wY (i:=8) BL.nd rfl rfl rfl rfl (show bL (ao CW) _ ["_law_pot_here", "_law_points", "_law_most", "_law_names_here", "_law_kind", "_law_ties", "_law_row", "_law_k", "_law_turns"] ["_law_tie_here"] [0] ["_law_tie_here", "_law_pot_here"] from⟨rfl,by decide+kernel,by decide+kernel,rfl,by decide+kernel,by decide+kernel⟩) rfl (PI.eqv (nO (K:=K) rfl (aL 5)) (ju _ _)) (fun C s H fp pn=>(bG (i:=0) (show(["_law_tie_here", "_law_pot_here"]:List Str).Nodup by decide+kernel) rfl (Or.inl rfl))) (fun C s H fp pn=>eV) (fun C s H fp pn=>(PE.eqv (aO (eF (K:=K) T) (hr.mono (by decide)) rfl T.gC T.f9.kp T.gB .nil bD (aj (aL 1) (aj aJ ak))) (aK _ _ _))))
      (aC (wY (i:=5) BL.nd rfl rfl rfl rfl (show bL (ao CW) _ ["_law_pot_here", "_law_points", "_law_most", "_law_names_here", "_law_kind", "_law_ties", "_law_row", "_law_k", "_law_turns"] ["_law_turn", "_law_a", "_law_b"] [] ["_law_turn", "_law_a", "_law_b"] from⟨rfl,by decide+kernel,by decide+kernel,rfl,by decide+kernel,by decide+kernel⟩) rfl (PI.eqv (qdW (K:=K) rfl rfl T.nm.zip (aj (aL 5) (aj (aL 8) ak))) (qcg _ _)) (fun C s H fp pn=>(PG.eqv (oA (K:=K) (n:=2) rfl rfl (vN.eqv (cP (PG.eqv (oA (K:=K) (n:=2) rfl rfl (vN.eqv (cP (bG (i:=1) (show(["_law_turn", "_law_a", "_law_b"]:List Str).Nodup by decide+kernel) rfl (Or.inl rfl)) (vN.eqv (cP (bG (i:=2) (show(["_law_turn", "_law_a", "_law_b"]:List Str).Nodup by decide+kernel) rfl (Or.inl rfl)) (vN.mono ou uU)) (cQ _ _))) (cQ _ _))) (oH _ _ _)) (vN.eqv (cP (bG (i:=0) (show(["_law_turn", "_law_a", "_law_b"]:List Str).Nodup by decide+kernel) rfl (Or.inl rfl)) (vN.mono ou uU)) (cQ _ _))) (cQ _ _))) (oH _ _ _))) (fun C s H fp pn=>eV) (fun C s H fp pn=>(cX (dB (K:=K) rfl) (bB (aj (dh (aj (aL 1) (aj (aL 2) ak))) (aj (dh (aj (aL 2) (aj (aL 1) ak))) ak))) (aL 0) (fun _ _=>rfl))))
      (aG (aZ (dh (aj (aL 3) (aj (PE.eqv (aO (V6 (K:=K) T) (hr.mono (by decide)) rfl T.TY T.Lz.kp T.TX .nil bD (aj (aL 0) (aj (aL 5) ak))) (aK _ _ _)) ak))))))))))),?_⟩
    simp -dsimp[aF,stC,-Bool.exists_bool,-List.map_take,-Prod.forall,-Prod.exists];refine⟨p,_,rfl,hp,qo3 h1,zlt h9 (by decide),fun d H1 hd0 hd1 V7 Ur=>?_⟩;simp -dsimp[aF,stC,-Bool.exists_bool,-List.map_take,-Prod.forall,-Prod.exists];refine⟨p,d.toNat+1,?_,V7,Nat.le_add_left 1 _,ztn hd0 hd1 h9,fun n xs H2 hn hn2 hX hxl hP2 hB2'=>?_⟩
    ·simp;exact qo5 hd0 1
    have hxm:xs.length≤m:=by rw[hxl];exact ztn hd0 hd1 (Nat.le_refl m)
    have hx9:=Nat.le_trans hxm h9;have hB2:=Ur.trans hB2';simp -dsimp[aF,stC,-Bool.exists_bool,-List.map_take,-Prod.forall,-Prod.exists];refine⟨p,_,rfl,hP2,by decide,by decide,fun kd H3 hk0 hk1 LK qjC=>?_⟩;have hB3:=hB2.trans qjC;have np:n≠p:=fun z=>by subst z;obtain⟨_,_,u,_⟩:=V7;rw[hn] at u;cases u
    have hn3:=qjC _ _ np hn2;simp -dsimp[aF,stC,-Bool.exists_bool,-List.map_take,-Prod.forall,-Prod.exists];refine fun L hL=>⟨_,.inl (cj.of (dz hn3 hL)),MF (fun σ H4=>∃v6 v7 L tv ps,σ=[some (.ref p),some (.int m),some (.int k),some (.ref n),some (.int kd),some (.ref L),v6,v7,none]∧H L=none∧H4 L=some (.lst tv)∧cM H4 tv ps∧Jl xs ps∧ps.length≤k∧H4 n=some (.lst (xs.map V.str))∧jU H4 p∧But p H H4) ?_ ?_⟩
    · rintro σ H4 ⟨v6,v7,L,tv,ps,rfl,hL0,hL4,htv,hts,hpk,hn4,V8,T8⟩;simp -dsimp[aF,stC,-Bool.exists_bool,-List.map_take,-Prod.forall,-Prod.exists];have Lp:L≠p:=hp.nl hL0;have XQ:tv.length≤20:=by rw[htv.1];exact Nat.le_trans hpk hk
      have s20:=of_eq_true K_;refine⟨⟨_,cj.of hL4⟩,fun D hD=>cmL tv (fun i σ H'=>∃v ds,σ=[v,some (.ref p)]∧H' D=some (.lst (ds.map V.int))∧ds.length=i∧(∀d∈ds,0≤d∧d<2)∧H' L=some (.lst tv)∧cM H' tv ps∧H' n=some (.lst (xs.map V.str))∧jU H' p∧But p H H') ⟨none,[],rfl,aA,rfl,by simp,dz hL4 hD,htv.same (aB hD),dz hn4 hD,V8.upd (V8.ne hD),T8.same (aB hD)⟩ (fun i σ H' _ h=>by
        obtain⟨_,_,_,_,_,_,z,_⟩:=h;exact cj.of z) ?_ ?_⟩
      · rintro i x σ H5 hi ⟨v,ds,rfl,hD5,hl,hds,hL5,qg6,hn5,Jw,K4⟩;have hi2:i<tv.length:=(List.getElem?_eq_some_iff.mp hi).1;simp -dsimp[aF,stC,-Bool.exists_bool,-List.map_take,-Prod.forall,-Prod.exists];refine⟨p,_,rfl,Jw,by decide,by decide,fun d H6 hd0 hd1 XR P_=>?_⟩;have Dp:D≠p:=V8.nl hD;have LD:L≠D:=aY hL4 hD;have nD:n≠D:=aY hn4 hD;have hD6:=P_ _ _ Dp hD5;simp -dsimp[aF,stC,-Bool.exists_bool,-List.map_take,-Prod.forall,-Prod.exists];refine⟨_,hD6,by rw[List.length_map,hl];exact zsz hi2 XQ,ds++[d],by rw[aA];simp,by simp[hl],?_,by rw[aV LD];exact P_ _ _ Lp hL5,(qg6.but Jw P_).keep (fun c zs e=>Li e hD6 (by intro z;cases z)),by rw[aV nD];exact P_ _ _ np hn5,XR.upd (Dp.symm),(K4.trans P_).new (jU.none T8 V8 hD)⟩;intro z hz
        rcases List.mem_append.mp hz with y | y
        ·exact hds z y
        ·simp at y;subst y;exact⟨hd0,hd1⟩
      · rintro σ H5 ⟨v,ds,rfl,hD5,hl,hds,hL5,qg6,hn5,Jw,K4⟩;simp -dsimp[aF,stC,-Bool.exists_bool,-List.map_take,-Prod.forall,-Prod.exists];have hD0:=jU.none T8 V8 hD;have LD:L≠D:=aY hL4 hD;refine⟨⟨_,cj.of hL5⟩,⟨_,cj.of hD5⟩,fun D2 hD2=>cmZ tv (ds.map V.int) (fun i σ H'=>(∃o1 o2 o3,σ=[o1,o2,o3])∧∃tvs qs,H' D2=some (.lst tvs)∧cM H' tvs qs∧qs.length=i∧(∀e∈qs,e.1∈xs∧e.2∈xs∧e.1≠e.2)∧H' L=some (.lst tv)∧H' D=some (.lst (ds.map V.int))∧cM H' tv ps∧H' n=some (.lst (xs.map V.str))∧jU H' p∧But p H H') ⟨⟨_,_,_,rfl⟩,[],[],aA,⟨rfl,by simp⟩,rfl,by simp,dz hL5 hD2,dz hD5 hD2,qg6.same (aB hD2),dz hn5 hD2,Jw.upd (Jw.ne hD2),K4.same (aB hD2)⟩ (by simp[hl]) (fun i σ H' _ h=>by
          obtain⟨_,_,_,_,_,_,_,z1,z2,_⟩:=h;exact⟨cj.of z1,cj.of z2⟩) ?_ ?_⟩
        · rintro i x y t σ H6 hx hy ht ⟨⟨o1,o2,o3,rfl⟩,tvs,qs,qg7,Qa,hql,hqs,hL6,hD6,qg8,hn6,XR,P_⟩;simp -dsimp[aF,stC,-Bool.exists_bool,-List.map_take,-Prod.forall,-Prod.exists];obtain⟨e,he,tt,rfl,htt⟩:=qg8.at hx;have hi2:i<tv.length:=(List.getElem?_eq_some_iff.mp hx).1;have hem:=List.mem_of_getElem? he;rw[List.getElem?_map] at hy;obtain⟨d,hd,rfl⟩:∃d,ds[i]? = some d∧y = .int d:=by
            cases z:ds[i]? with
            | none=>rw[z] at hy;cases hy
            | some d=>rw[z] at hy;exact⟨d,rfl,(Option.some.inj hy).symm⟩
          have hd2:=hds d (List.mem_of_getElem? hd);refine⟨_,lR.of aA,rfl,_,lR.of (dz htt ht),rfl,?_⟩;simp -dsimp[aF,stC,-Bool.exists_bool,-List.map_take,-Prod.forall,-Prod.exists];refine fun p1 h1 p2 h2 p3 h3=>⟨_,.inl (cj.of aA),?_⟩;have hp1:=dz (u:=HO.lst [V.ref p1,V.ref p2]) (dz (u:=HO.tup [.str e.2,.str e.1]) (aA (H:=upd H6 t (HO.tup [V.ref tt,V.int d])) (a:=p1) (o:=HO.tup [.str e.1,.str e.2])) h2) h3;have hp2:=dz (u:=HO.lst [V.ref p1,V.ref p2]) (aA (H:=upd (upd H6 t (HO.tup [V.ref tt,V.int d])) p1 (HO.tup [.str e.1,.str e.2])) (a:=p2) (o:=HO.tup [.str e.2,.str e.1])) h3;have sm:=(((aB (o:=HO.tup [V.ref tt,V.int d]) ht).trans (aB (o:=HO.tup [.str e.1,.str e.2]) h1)).trans (aB (o:=HO.tup [.str e.2,.str e.1]) h2)).trans (aB (o:=HO.lst [V.ref p1,V.ref p2]) h3);generalize upd (upd (upd (upd H6 t (HO.tup [V.ref tt,V.int d])) p1 (HO.tup [.str e.1,.str e.2])) p2 (HO.tup [.str e.2,.str e.1])) p3 (HO.lst [V.ref p1,V.ref p2])=H9 at hp1 hp2 sm ⊢;have key:∃(pp:Addr) (e':Str×Str),Lh [V.ref p1,V.ref p2] d=some (.ref pp)∧H9 pp=some (.tup [.str e'.1,.str e'.2])∧e'.1∈xs∧e'.2∈xs∧e'.1≠e'.2:=by
            have ⟨q1,q2,q3⟩:=hts.ok e hem;have:d=0∨d=1:=z01 hd2.1 hd2.2
            rcases this with rfl | rfl
            ·exact⟨p1,e,rfl,hp1,q1,q2,q3⟩
            ·exact⟨p2,(e.2,e.1),rfl,hp2,q2,q1,Ne.symm q3⟩
          obtain⟨pp,e',a1,hpp,k1,k2,k3⟩:=key;have D2n:=hD2;have D2p:D2≠p:=Jw.nl hD2;have LD2:L≠D2:=aY hL5 hD2;have DD2:D≠D2:=aY hD5 hD2;have nD2:n≠D2:=aY hn5 hD2;have qjD:=sm _ _ qg7;have kp:gF H9 (upd H9 D2 (.lst (tvs++[.ref pp]))):=fun c zs e=>Li e qjD (by intro z;cases z);have hP9:jU H9 p:=by
            obtain⟨u1,u2,u3,u4⟩:=XR;exact⟨u1,u2,sm _ _ u3,u4⟩
          refine⟨_,a1,_,qjD,?_,_,aA,qs++[e'],((Qa.same sm).keep kp).snoc (kp _ _ hpp),by simp[hql],?_,by rw[aV LD2];exact sm _ _ hL6,by rw[aV DD2];exact sm _ _ hD6,(qg8.same sm).keep kp,by rw[aV nD2];exact sm _ _ hn6,hP9.upd D2p.symm,(P_.same sm).new (jU.none K4 Jw hD2)⟩
          ·rw[Qa.1,hql];exact zsz hi2 XQ
          · intro z hz
            rcases List.mem_append.mp hz with y | y
            ·exact hqs z y
            ·simp at y;subst y;exact⟨k1,k2,k3⟩
        · rintro σ H6 ⟨⟨o1,o2,o3,rfl⟩,tvs,qs,qg7,Qa,hql,hqs,hL6,hD6,qg8,hn6,XR,P_⟩;simp -dsimp[aF,stC,-Bool.exists_bool,-List.map_take,-Prod.forall,-Prod.exists];have D2p:D2≠p:=Jw.nl hD2;have qrV:=jU.none K4 Jw hD2;have tl:tvs.length=tv.length:=by rw[Qa.1,hql]
          refine⟨p,D2,_,rfl,XR,D2p,qg7,by rw[tl];exact Nat.le_trans XQ (by decide),fun l ys H7 hl0 hl7 hperm ZF LQ=>?_⟩;simp -dsimp[aF,stC,-Bool.exists_bool,-List.map_take,-Prod.forall,-Prod.exists];intro t ht;obtain⟨rs,hrs,hrp⟩:=(Qa.but XR LQ).perm hperm;refine q t n l xs ys rs _ (jU.none (P_.trans LQ) ZF ht) (jU.none Ur V7 hn) (jU.none P_ XR hl0) aA (dz (LQ _ _ np hn6) ht) (dz hl7 ht) (hrs.same (aB ht)) hX ⟨?_,fun e he=>hqs e (hrp.mem_iff.mp he)⟩ hxm ?_ (ZF.upd (ZF.ne ht)) ((P_.trans LQ).same (aB ht))
          ·rw[hrp.length_eq,hql];exact XQ
          ·rw[hrp.length_eq,hql,htv.1];exact hpk
    · intro N hN;refine g8.of (fun h=>?_) (fun h=>?_)
      · simp -dsimp[aF,stC,-Bool.exists_bool,-List.map_take,-Prod.forall,-Prod.exists];have hx2:2≤xs.length:=by simp at h;exact z2 h
        have qjE:upd H3 L (.lst []) n=some (.lst (xs.map V.str)):=dz hn3 hL;refine⟨p,n,_,rfl,LK.upd (LK.ne hL),np,qjE,by rw[List.length_map];exact Nat.le_trans hx9 (by decide),fun rw ys H4 hrw qjF hperm V8 qg9=>?_⟩;have T8:=(hB3.same (aB hL)).trans qg9;obtain⟨zs,hzp,rfl⟩:=HF hperm xs rfl;have hzl:zs.length=xs.length:=hzp.length_eq;have qph:zs.Nodup:=hzp.nodup_iff.mpr hX.nd;have hn4:=qg9 _ _ np qjE;have hL4:H4 L=some (.lst []):=qg9 _ _ (LK.nl hL) aA;have hL0:=jU.none hB3 LK hL;simp -dsimp[aF,stC,-Bool.exists_bool,-List.map_take,-Prod.forall,-Prod.exists];refine MF (fun σ H5=>∃v6 v7 L tv ps,σ=[some (.ref p),some (.int m),some (.int k),some (.ref n),some (.int kd),some (.ref L),v6,v7,none]∧H L=none∧H5 L=some (.lst tv)∧cM H5 tv ps∧Jl xs ps∧ps.length≤m∧H5 n=some (.lst (xs.map V.str))∧jU H5 p∧But p H H5) ?_ ?_
        · rintro σ H5 ⟨v6,v7,L,tv,ps,rfl,hL0,hL5,htv,hts,hpm,hn5,Jw,K4⟩;simp -dsimp[aF,stC,-Bool.exists_bool,-List.map_take,-Prod.forall,-Prod.exists];have Lp:L≠p:=hp.nl hL0;have XQ:tv.length=ps.length:=htv.1;have s20:=of_eq_true K_;have htk:tv.length≤k:=by rw[XQ];exact Nat.le_trans hpm hmk
          refine⟨_,.inl (cj.of hL5),p,_,rfl,Jw,zk1 htk,zk2 hk (by decide),fun f H6 hf0 hf1 XR qex=>?_⟩;simp -dsimp[aF,stC,-Bool.exists_bool,-List.map_take,-Prod.forall,-Prod.exists];refine⟨zlo hf0,Int.lt_trans hf1 (zk2 hk (by decide)),frR (fun i σ H7=>∃v7 tv ps,σ=[some (.ref p),some (.int m),some (.int k),some (.ref n),some (.int kd),some (.ref L),v6,v7,none]∧H7 L=some (.lst tv)∧cM H7 tv ps∧Jl xs ps∧ps.length+f.toNat≤k+i∧H7 n=some (.lst (xs.map V.str))∧jU H7 p∧But p H H7) ⟨v7,tv,ps,rfl,qex _ _ Lp hL5,htv.but Jw qex,hts,zk3 hf0 hf1 XQ,qex _ _ np hn5,XR,K4.trans qex⟩ ?_ ?_⟩
          · rintro i σ H7 hi ⟨v7,tv,ps,rfl,hL7,XS,qg_,hpl,hn7,ZF,LQ⟩;simp -dsimp[aF,stC,-Bool.exists_bool,-List.map_take,-Prod.forall,-Prod.exists];refine⟨⟨_,cj.of hL7⟩,p,n,xs,rfl,ZF,np,hn7,hx2,hx9,hX.nd,fun t x y H8 ht ht8 hx hy hxy hP8 hB8=>?_⟩;simp -dsimp[aF,stC,-Bool.exists_bool,-List.map_take,-Prod.forall,-Prod.exists];have hL8:=hB8 _ _ Lp hL7;have hl7:=XS.1;have kp:gF H8 (upd H8 L (.lst (tv++[.ref t]))):=fun c zs e=>Li e hL8 (by intro z;cases z);have nL:n≠L:=fun z=>by subst z;rw[jU.none Ur V7 hn] at hL0;rw[hn7] at hL7;cases tv with
              | nil=>simp at hL7;rw[hL7] at hx2;simp at hx2
              | cons v tv=>
                obtain⟨e,_,u,rfl,_⟩:=XS.at (i:=0) rfl;cases xs with
                | nil=>simp at hx2
                | cons x xs=>simp at hL7
            refine⟨_,hL8,zk4 hl7 hpl hi hk,_,aA,ps++[(x,y)],((XS.but ZF hB8).keep kp).snoc (kp _ _ ht8),⟨by rw[List.length_append];exact Nat.succ_le_succ (zk5 hpl hi hk),?_⟩,by rw[List.length_append];exact zk6 hpl,by rw[aV nL];exact hB8 _ _ np hn7,hP8.upd Lp.symm,(LQ.trans hB8).new hL0⟩;intro e he
            rcases List.mem_append.mp he with z | z
            ·exact qg_.ok e z
            ·simp at z;subst z;exact⟨hx,hy,hxy⟩
          ·rintro σ H7 ⟨v7,tv,ps,rfl,hL7,XS,qg_,hpl,hn7,ZF,LQ⟩;simp -dsimp[aF,stC,-Bool.exists_bool,-List.map_take,-Prod.forall,-Prod.exists];exact hN _ _ ⟨_,_,L,tv,ps,rfl,hL0,hL7,XS,qg_,zk7 hpl,hn7,ZF,LQ⟩
        · intro N2 hN2;refine g8.of (fun h=>?_) (fun h=>?_)
          · simp -dsimp[aF,stC,-Bool.exists_bool,-List.map_take,-Prod.forall,-Prod.exists];obtain⟨lo,hlo,lo1⟩:∃lo:Nat,(if kd=3 then (1:Int) else 0)=lo∧lo≤1:=by
              split
              ·exact⟨1,rfl,Nat.le_refl _⟩
              ·exact⟨0,rfl,by decide⟩
            simp only[hlo];have s20:=of_eq_true K_;refine⟨_,.inl (cj.of qjF),⟨qo4,zlt lo1 (by decide),zlt (by rw[List.length_map,hzl];exact hx9) (by decide)⟩,fun D hD=>cmR (fun i σ H5=>(∃o,σ=[o,some (.ref rw)])∧∃tvs qs,H5 D=some (.lst tvs)∧cM H5 tvs qs∧qs.length=i∧(∀e∈qs,e.1∈xs∧e.2∈xs∧e.1≠e.2)∧Same H4 H5) ⟨⟨_,rfl⟩,[],[],aA,⟨rfl,by simp⟩,rfl,by simp,aB hD⟩ ?_ ?_⟩
            · rintro i σ H5 hi ⟨⟨o,rfl⟩,tvs,qs,hD5,Qa,hql,hqs,sm⟩;have hk:lo+i<zs.length:=by simp at hi;exact qo7 hi
              obtain⟨j,vx,hj,ex,ax⟩:=qbQ (xs:=zs.map V.str) (k:=lo+i) (by rw[List.length_map,hzl];exact hx2) (by simpa using hk);obtain⟨x,ex',rfl⟩:=Gs ex;have ey':zs[lo+i]? = some (zs[lo+i]'hk):=by simp[hk]
              have ay:Lh (zs.map V.str) ((lo+i:Nat):Int)=some (.str (zs[lo+i]'hk)):=dj (by rw[List.getElem?_map,ey'];rfl);have c1:((lo+i:Nat):Int)=(lo:Int)+i:=Int.natCast_add ..;rw[c1] at ax ay;have sl:=cj.of (K:=K) (sm _ _ qjF);simp -dsimp[aF,stC,-Bool.exists_bool,-List.map_take,-Prod.forall,-Prod.exists];refine⟨_,.inl sl,_,ax,_,.inl sl,_,ay,fun pt hpt=>?_⟩;have Dpt:=aY hD5 hpt;have hD6:upd H5 pt (.tup [.str x,.str (zs[lo+i]'hk)]) D=some (.lst tvs):=dz hD5 hpt;have kp:gF (upd H5 pt (.tup [.str x,.str (zs[lo+i]'hk)])) (upd (upd H5 pt (.tup [.str x,.str (zs[lo+i]'hk)])) D (.lst (tvs++[.ref pt]))):=fun c zs e=>Li e hD6 (by intro z;cases z);have hl:=Qa.1;refine⟨_,hD6,by rw[hl,hql];exact zsz (Nat.lt_of_le_of_lt (Nat.le_add_left i lo) hk) (by rw[hzl];exact Nat.le_trans hx9 (by decide)),_,aA,qs++[(x,zs[lo+i]'hk)],((Qa.same (aB hpt)).keep kp).snoc (kp _ _ aA),by simp[hql],?_,cU (sm.trans (aB hpt)) hD⟩;intro e he
              rcases List.mem_append.mp he with z | z
              ·exact hqs e z
              ·simp at z;subst z;refine⟨hzp.mem_iff.mp (List.mem_of_getElem? ex'),hzp.mem_iff.mp (List.mem_of_getElem? ey'),fun z=>hj ?_⟩;simp only at z;rw[← z] at ey';exact Mv qph ex' ey'
            · rintro σ H5 ⟨⟨o,rfl⟩,tvs,qs,hD5,Qa,hql,hqs,sm⟩;simp -dsimp[aF,stC,-Bool.exists_bool,-List.map_take,-Prod.forall,-Prod.exists];simp at hql;have hqm:qs.length≤m:=by rw[hql,hzl];exact Nat.le_trans (Nat.sub_le ..) hxm
              have Jw:jU H5 p:=by
                obtain⟨u1,u2,u3,u4⟩:=V8;exact⟨u1,u2,sm _ _ u3,u4⟩
              exact hN2 _ _ ⟨_,_,D,tvs,qs,rfl,jU.none T8 V8 hD,hD5,Qa,⟨Nat.le_trans hqm (Nat.le_trans h9 (by decide)),hqs⟩,hqm,sm _ _ hn4,Jw,T8.same sm⟩
          ·simp -dsimp[aF,stC,-Bool.exists_bool,-List.map_take,-Prod.forall,-Prod.exists];exact hN2 _ _ ⟨_,_,L,[],[],rfl,hL0,hL4,⟨rfl,by simp⟩,⟨by simp,by simp⟩,by simp,hn4,V8,T8⟩
      ·simp -dsimp[aF,stC,-Bool.exists_bool,-List.map_take,-Prod.forall,-Prod.exists];exact hN _ _ ⟨_,_,L,[],[],rfl,jU.none hB3 LK hL,aA,⟨rfl,by simp⟩,⟨by simp,by simp⟩,by simp,dz hn3 hL,LK.upd (LK.ne hL),hB3.same (aB hL)⟩
theorem qjG {m:Str} {u v:V} (h1:¬m = "names") (h2:¬m = "pairs"):∀p∈([("names",u),("pairs",v)]:List (Str×V)),¬m=p.1:=fun p hp=>by
  simp at hp
  rcases hp with rfl | rfl
  ·exact h1
  ·exact h2
theorem eU.same {C:Addr} {H H':Hp} {o:Addr} {xs:List Str} {ps:List (Str×Str)} (h:eU C H o xs ps) (s:Same H H'):eU C H' o xs ps:=by
  obtain⟨dx,n,m,tv,h1,h2,h3,h4,h5⟩:=h.ex;exact⟨⟨dx,n,m,tv,s _ _ h1,s _ _ h2,s _ _ h3,cM.same h4 s,h5⟩⟩
theorem eU.ins {C:Addr} {H:Hp} {o:Addr} {xs:List Str} {ps:List (Str×Str)} (h:eU C H o xs ps) {m:Str} (h1:¬m = "names") (h2:¬m = "pairs"):∃dx fs,H o=some (.ins C dx fs)∧∀p∈fs,¬m=p.1:=by
  obtain⟨dx,n,mm,tv,e,_⟩:=h.ex;exact⟨dx,_,e,qjG h1 h2⟩
theorem LR:¬(("ties" : Str) = "names")∧¬(("ties" : Str) = "pairs"):=by decide+kernel
theorem jy:¬(("points" : Str) = "names")∧¬(("points" : Str) = "pairs"):=by decide+kernel
theorem Fq:¬(("many" : Str) = "names")∧¬(("many" : Str) = "pairs"):=by decide+kernel
def Om (C:Addr):Sp:=fun vs H Q _=>∃o d xs ps fx,vs=[.ref o,.ref d]∧eU C H o xs ps∧qiV H d fx∧∀l tv H',H l=none→H' l=some (.lst tv)→gD H' tv (iT fx ps 0)→tv.length≤40→Same H H'→Q (.ref l) H'
theorem Oo (T:Txt K mg a):cT P w K mg base rN 2 a.fu a.qt ["web", "fixed"] (Om a.cJ):=by
  refine T.zE.z9 j6 (fun vs H Q E h=>?_) (fun cdv A outer s H vs Q E hr h=>?_)
  ·obtain⟨o,d,xs,ps,fx,rfl,_⟩:=h;rfl
  · obtain⟨o,d,xs,ps,fx,rfl,hw,hfx,q⟩:=h;refine⟨_,(aC (bO (i:=2) j6.nd rfl (Or.inl rfl) (bB ak))
      (aC (zx PassesOwn.never rfl (PI.eqv (qdV (K:=K) rfl rfl T.nm2.enumerate (aj (PE.eqv (jW (aL 0) T.uD T.GR (K3 (K:=K) T) (hr.mono (by decide)) T.GF .nil bD) (jX _ _ _ _ _ _)) ak)) (qax _ _)) (PG.eqv (oA (K:=K) (n:=2) rfl rfl (vN.eqv (cP (bG (i:=3) j6.nd rfl (Or.inl rfl)) (vN.eqv (cP (PG.eqv (oA (K:=K) (n:=2) rfl rfl (vN.eqv (cP (bG (i:=4) j6.nd rfl (Or.inl rfl)) (vN.eqv (cP (bG (i:=5) j6.nd rfl (Or.inl rfl)) (vN.mono ou uU)) (cQ _ _))) (cQ _ _))) (oH _ _ _)) (vN.mono ou uU)) (cQ _ _))) (cQ _ _))) (oH _ _ _))
      (aC (cO (bx jA (PE.eqv (Vc (Mj hr) (aL 1) (aL 3) aJ ⟨rfl,rfl,rfl,rfl⟩) (QH _ _ _)) aJ (bZ _)) (aG (jT (jz (K:=K) rfl PySem.F.plainAttrs_list PySem.F.slot_list_append PySem.F.type_list_append rY (aL 2) (aj (dh (aj (aL 3) (aj (aL 4) (aj (aL 5) ak)))) ak)))) bC)
      (aG (cO (bx jA (PE.eqv (Vc (Mj hr) (aL 1) (aL 3) aJ ⟨rfl,rfl,rfl,rfl⟩) (QH _ _ _)) aJ (bZ _)) (aG (jT (jz (K:=K) rfl PySem.F.plainAttrs_list PySem.F.slot_list_append PySem.F.type_list_append rY (aL 2) (aj (dh (aj (aL 3) (aj (aL 5) (aj (aL 4) ak)))) ak)))) bC))))
      (aG (aZ (aL 2))))),?_⟩
    obtain⟨dx,fs,hi,hno⟩:=hw.ins LR.1 LR.2;obtain⟨_,_,_,_,_,_,_,_,Ho⟩:=hw.ex;simp -dsimp[aF,stC,-Bool.exists_bool,-List.map_take,-Prod.forall,-Prod.exists];intro L hL;refine⟨_,_,dz hi hL,hno,o,xs,ps,rfl,hw.same (aB hL),fun l2 Wt hl2 qcV=>?_⟩;have sa:Same H (upd (upd H L (.lst [])) l2 (.lst Wt)):=(aB hL).trans (aB hl2);have eL:upd (upd H L (.lst [])) l2 (.lst Wt) L=some (.lst []):=dz aA hl2;have e2:upd (upd H L (.lst [])) l2 (.lst Wt) l2=some (.lst Wt):=aA;have qaP:=cM.same qcV (aB (o:=HO.lst Wt) hl2);have L2n:L≠l2:=fun z=>by subst z;rw[aA] at hl2;cases hl2
    generalize upd (upd H L (.lst [])) l2 (.lst Wt)=H1 at sa eL e2 qaP ⊢;obtain⟨kvs,hd,hv⟩:=hfx;have dL:d≠L:=aY hd hL;simp -dsimp[aF,stC,-Bool.exists_bool,-List.map_take,-Prod.forall,-Prod.exists];refine⟨⟨_,cj.of e2⟩,frE Wt (fun i σ H'=>(∃v3 v4 v5 sv,σ=[some (.ref o),some (.ref d),some (.ref L),v3,v4,v5]∧H' L=some (.lst sv)∧gD H' sv (iT fx (ps.take i) 0)∧sv.length≤2 * i)∧H' l2=some (.lst Wt)∧cM H' Wt ps∧Same H H') ⟨⟨_,_,_,[],rfl,eL,yH.nil,by simp⟩,e2,qaP,sa⟩ (fun i σ H' _ h=>cj.of h.2.1) ?_ ?_⟩
    · rintro i x t σ H2 hi ht ⟨⟨v3,v4,v5,sv,rfl,hL2,hsv,hsl⟩,qjH,htv,s2⟩;have hi2:i<Wt.length:=(List.getElem?_eq_some_iff.mp hi).1;have tl:=htv.1;obtain⟨e,he,tt,rfl,htt⟩:=htv.at hi;rw[Ss fx he];unfold Sh;simp -dsimp[aF,stC,-Bool.exists_bool,-List.map_take,-Prod.forall,-Prod.exists];have st:Same H2 (upd H2 t (.tup [.int i,.ref tt])):=aB ht;refine⟨_,lR.of aA,rfl,_,lR.of (st _ _ htt),rfl,isD (st _ _ (s2 _ _ hd)),_,qiU i (st _ _ (s2 _ _ hd)),?_⟩;have tL:L≠t:=aY hL2 ht;have hL3:=st _ _ hL2;have qha:=st _ _ qjH;have qaP:=cM.same htv st;have s3:=s2.trans st;have qhb:=gD.keep hsv (L2.gF.of st);generalize upd H2 t (.tup [.int i,.ref tt])=H3 at hL3 qha qaP s3 qhb ⊢;have s60:60≤sizeLine:=by decide
      have add:∀(H3:Hp) (sv:List V) (S:List yG) (n:Nat) (x y:Str) (b:Addr),H3 L=some (.lst sv)→gD H3 sv S→H3 b=none→H3 l2=some (.lst Wt)→cM H3 Wt ps→Same H H3→
          (upd (upd H3 b (.tup [.int n,.str x,.str y])) L (.lst (sv++[.ref b])) L=some (.lst (sv++[.ref b]))∧gD (upd (upd H3 b (.tup [.int n,.str x,.str y])) L (.lst (sv++[.ref b]))) (sv++[.ref b]) (S++[(n,x,y)]))∧upd (upd H3 b (.tup [.int n,.str x,.str y])) L (.lst (sv++[.ref b])) l2=some (.lst Wt)∧cM (upd (upd H3 b (.tup [.int n,.str x,.str y])) L (.lst (sv++[.ref b]))) Wt ps∧Same H (upd (upd H3 b (.tup [.int n,.str x,.str y])) L (.lst (sv++[.ref b]))):=by
        intro H3 sv S n x y b hL3 hsv hb hl2 htv s3;have sb:Same H3 (upd H3 b (.tup [.int n,.str x,.str y])):=aB hb;have kp:L2.gF (upd H3 b (.tup [.int n,.str x,.str y])) (upd (upd H3 b (.tup [.int n,.str x,.str y])) L (.lst (sv++[.ref b]))):=L2.gF.set (sb _ _ hL3) (by intro z e;cases e);refine⟨⟨aA,yH.snoc (gD.keep (gD.keep hsv (L2.gF.of sb)) kp) ⟨b,rfl,kp _ _ aA⟩⟩,by rw[aV L2n.symm];exact sb _ _ hl2,(cM.same htv sb).keep kp,cU (s3.trans sb) hL⟩
      rw[hv i,Vh];simp -dsimp[aF,stC,-Bool.exists_bool,-List.map_take,-Prod.forall,-Prod.exists];refine MF (fun σ H4=>(∃sv,σ=[some (.ref o),some (.ref d),some (.ref L),some (.int i),some (.str e.1),some (.str e.2)]∧H4 L=some (.lst sv)∧gD H4 sv (iT fx (ps.take i) 0++if (fx i).getD 0=0 then [(i,e.1,e.2)] else [])∧sv.length≤2 * i+1)∧H4 l2=some (.lst Wt)∧cM H4 Wt ps∧Same H H4) ?_ ?_
      · rintro σ H4 ⟨⟨sv,rfl,hL4,qjI,qhc⟩,qjJ,qjK,s4⟩;simp -dsimp[aF,stC,-Bool.exists_bool,-List.map_take,-Prod.forall,-Prod.exists];refine⟨isD (s4 _ _ hd),_,qiU i (s4 _ _ hd),?_⟩;rw[hv i,Vh];simp -dsimp[aF,stC,-Bool.exists_bool,-List.map_take,-Prod.forall,-Prod.exists];refine g8.of (fun h=>?_) (fun h=>?_)
        · have h':(fx i).getD 1=1:=by simpa using h
          simp -dsimp[aF,stC,-Bool.exists_bool,-List.map_take,-Prod.forall,-Prod.exists];refine⟨⟨_,cj.of hL4⟩,fun b hb=>?_⟩;refine⟨_,dz hL4 hb,zs1 qhc hi2 tl Ho,?_⟩;obtain⟨⟨k1,k2⟩,k3,k4,k5⟩:=add H4 sv _ i e.2 e.1 b hL4 qjI hb qjJ qjK s4;refine⟨⟨_,k1,?_,by rw[List.length_append];exact zs2 qhc⟩,k3,k4,k5⟩;rw[if_pos h',← List.append_assoc];exact k2
        · have h':¬(fx i).getD 1=1:=by simpa using h
          simp -dsimp[aF,stC,-Bool.exists_bool,-List.map_take,-Prod.forall,-Prod.exists];refine⟨⟨_,hL4,?_,Nat.le_of_succ_le (zs2 qhc)⟩,qjJ,qjK,s4⟩;rw[if_neg h',List.append_nil];exact qjI
      · intro N hN;refine g8.of (fun h=>?_) (fun h=>?_)
        · have h':(fx i).getD 0=0:=by simpa using h
          simp -dsimp[aF,stC,-Bool.exists_bool,-List.map_take,-Prod.forall,-Prod.exists];refine⟨⟨_,cj.of hL3⟩,fun b hb=>?_⟩;refine⟨_,dz hL3 hb,zs1 (Nat.le_succ_of_le hsl) hi2 tl Ho,?_⟩;obtain⟨⟨k1,k2⟩,k3,k4,k5⟩:=add H3 sv _ i e.1 e.2 b hL3 qhb hb qha qaP s3;refine hN _ _ ⟨⟨_,rfl,k1,?_,by rw[List.length_append];exact Nat.succ_le_succ hsl⟩,k3,k4,k5⟩;rw[if_pos h'];exact k2
        · have h':¬(fx i).getD 0=0:=by simpa using h
          simp -dsimp[aF,stC,-Bool.exists_bool,-List.map_take,-Prod.forall,-Prod.exists];refine hN _ _ ⟨⟨_,rfl,hL3,?_,Nat.le_succ_of_le hsl⟩,qha,qaP,s3⟩;rw[if_neg h',List.append_nil];exact qhb
    ·rintro σ H2 ⟨⟨v3,v4,v5,sv,rfl,hL2,hsv,hsl⟩,qjH,htv,s2⟩;simp -dsimp[aF,stC,-Bool.exists_bool,-List.map_take,-Prod.forall,-Prod.exists];rw[htv.1,List.take_length] at hsv;have tl:=htv.1;exact q L sv H2 hL hL2 hsv (zs3 hsl tl Ho) s2
def Qc:Sp:=fun vs H Q _=>∃(start:Str) (l:Addr) (tv:List V) (S:List yG) (xs:List Str),vs=[.str start,.ref l]∧H l=some (.lst tv)∧gD H tv S∧start∈xs∧(∀s∈S,s.2.2∈xs)∧xs.length≤9∧
  ∀(d:Addr) (kvs:List (Key×V)) (R:BR) (H':Hp),H d=none→H' d=some (.dK kvs)→h_ H' kvs R→Ws S start R.length R→qo1 S start R→Bp H kvs→Same H H'→Q (.ref d) H'
theorem Gk (T:Txt K mg a):cT P w K mg base rN 1 a.fW a.tW ["start", "steps"] Qc:=by
  refine T.wG.z9 fj (fun vs H Q E h=>?_) (fun cdv A outer s H vs Q E hr h=>?_)
  ·obtain⟨start,l,tv,S,xs,rfl,_⟩:=h;rfl
  · obtain⟨start,l,tv,S,xs,rfl,hl,hS,hsx,hSx,h9,q⟩:=h;refine⟨_,(aC (bO (i:=2) fj.nd rfl (Or.inl rfl) (qdU (qbM (aL 0) (bB ak) qdT) rfl rfl (by simp) (by decide)))
      (aC (bO (i:=3) fj.nd rfl (Or.inl rfl) (bB (aj (aL 0) ak)))
      (aC (bO (i:=4) fj.nd rfl (Or.inl rfl) aJ)
      (aC (qa_ PassesOwn.never (bx JM (aL 4) (aQ (cN (K:=K) rfl) rfl T.nm.len PySem.boot_len (aj (aL 3) ak)) (bZ _))
      (aC (bO (i:=5) fj.nd rfl (Or.inl rfl) (cX (dB (K:=K) rfl) (aL 3) (aL 4) (fun _ _=>rfl)))
      (aC (zx PassesOwn.never rfl (PI.eqv (nO (K:=K) rfl (aL 1)) (ju _ _)) (PG.eqv (oA (K:=K) (n:=3) rfl rfl (vN.eqv (cP (bG (i:=6) fj.nd rfl (Or.inl rfl)) (vN.eqv (cP (bG (i:=7) fj.nd rfl (Or.inl rfl)) (vN.eqv (cP (bG (i:=8) fj.nd rfl (Or.inl rfl)) (vN.mono ou uU)) (cQ _ _))) (cQ _ _))) (cQ _ _))) (oH _ _ _))
      (aG (cO (PW.pt (qa3 (bx jA (aL 7) (aL 5) (bZ _)) (YF (Zb (PC.eqv (qam (Mj hr) (aL 8) (aL 2)) (Xm _ _)))))) (aC (PS.eqv (qdS (Mj hr) (aL 2) (aL 8) (bQ oG (PE.eqv (qdR (Mj hr) (aL 2) (aL 5) (fun _ _=>rfl)) (qck _ _)) (bB (aj (aL 6) ak))) rfl) (qcl _ _ _))
      (aG (jT (jz (K:=K) rfl PySem.F.plainAttrs_list PySem.F.slot_list_append PySem.F.type_list_append rY (aL 3) (aj (aL 8) ak))))) bC)))
      (aG (PS.mono (qfK (i:=4) fj.nd rfl (Or.inl rfl) aJ qek) qgI)))))
      (aG (aZ (aL 2))))))),?_⟩
    simp -dsimp[aF,stC,-Bool.exists_bool,-List.map_take,-Prod.forall,-Prod.exists];intro d hd p1 hp1;refine⟨dz aA hp1,[(Sum.inr start,.ref p1)],rfl,by simp,fun rl hrl=>?_⟩;have em:Gw [] [((Sum.inr start:Key),V.ref p1)]=[(Sum.inr start,.ref p1)]:=rfl;rw[em] at hrl ⊢;have dp1:d≠p1:=fun z=>by subst z;rw[aA] at hp1;cases hp1
    have qpi:H p1=none:=nP (aB hd) hp1;have sa:Same H (upd (upd (upd H d (.dK [])) p1 (.lst [])) d (.dK [(Sum.inr start,.ref p1)])):=cU ((aB hd).trans (aB hp1)) hd;have qpj:H rl=none:=nP sa hrl;have e1:upd (upd (upd H d (.dK [])) p1 (.lst [])) d (.dK [(Sum.inr start,.ref p1)]) d=some (.dK [(Sum.inr start,.ref p1)]):=aA;have e2:upd (upd (upd H d (.dK [])) p1 (.lst [])) d (.dK [(Sum.inr start,.ref p1)]) p1=some (.lst []):=by rw[aV dp1.symm];exact aA
    generalize upd (upd (upd H d (.dK [])) p1 (.lst [])) d (.dK [(Sum.inr start,.ref p1)])=H1 at sa hrl e1 e2 ⊢;have sb:=sa.trans (aB (o:=.lst [.str start]) hrl);have dr:d≠rl:=aY e1 hrl;have qjL:Bp H [((Sum.inr start:Key),V.ref p1)]:=by
      intro kv hkv q hq;simp at hkv;subst hkv;cases hq;exact qpi
    refine whB (fun σ H'=>∃(n:Nat) (R:BR) (kvs:List (Key×V)) (o5 o6 o7 o8:Option V),σ=[some (.str start),some (.ref l),some (.ref d),some (.ref rl),some (.int n),o5,o6,o7,o8]∧H' d=some (.dK kvs)∧h_ H' kvs R∧H' rl=some (.lst (R.map fun yw=>.str yw.1))∧Ws S start n R∧JT S start n=R∧Bp H kvs∧n≤R.length∧Same H H')
      (fun σ _=>qiW 4 σ)
      ⟨0,[(start,[])],[(Sum.inr start,.ref p1)],none,none,none,none,rfl,dz e1 hrl,⟨rfl,?_⟩,aA,Ws.begin S start,rfl,qjL,by simp,sb⟩ ?_ Vr
    · intro i kv yw h1 h2;have hi:i=0:=by have:=(List.getElem?_eq_some_iff.mp h1).1;simp at this;omega
      subst hi;simp at h1 h2;subst h1 h2;exact⟨rfl,p1,rfl,dz e2 hrl⟩
    · rintro σ H2 ⟨n,R,kvs,o5,o6,o7,o8,rfl,hd2,hW2,hr2,hB,hF,hN,hnR,s2⟩;have hR9:R.length≤9:=by
        have h1:=wJ hB.nd (hB.sub hsx hSx);simp at h1;omega
      simp -dsimp[aF,stC,-Bool.exists_bool,-List.map_take,-Prod.forall,-Prod.exists];refine⟨_,.inl (cj.of hr2),g8.of (fun hlt=>?_) (fun hlt=>?_)⟩
      · have hlt':n<R.length:=by simpa using hlt
        simp -dsimp[aF,stC,-Bool.exists_bool,-List.map_take,-Prod.forall,-Prod.exists];obtain⟨⟨hh,wh⟩,hR⟩:∃x,R[n]? = some x:=⟨R[n],by simp[hlt']⟩;refine⟨_,.inl (cj.of hr2),.str hh,dj (by rw[List.getElem?_map,hR];rfl),⟨_,cj.of (s2 _ _ hl)⟩,frL tv (fun j σ H'=>∃(R:BR) (kvs:List (Key×V)) (o6 o7 o8:Option V),σ=[some (.str start),some (.ref l),some (.ref d),some (.ref rl),some (.int n),some (.str hh),o6,o7,o8]∧H' d=some (.dK kvs)∧h_ H' kvs R∧H' rl=some (.lst (R.map fun yw=>.str yw.1))∧uT S (S.take j) start n hh wh R∧H_ (S.take j) hh wh (JT S start n)=R∧Bp H kvs∧Same H H') ⟨R,kvs,o6,o7,o8,rfl,hd2,hW2,hr2,uT.enter hB hR,hF,hN,s2⟩ (fun j σ H' _ h=>by
          obtain⟨_,_,_,_,_,_,_,_,_,_,_,_,z⟩:=h;exact cj.of (z _ _ hl)) ?_ ?_⟩
        · rintro j x σ H3 hj ⟨R,kvs,o6,o7,o8,rfl,hd3,hW3,hr3,hM,hF3,hN3,s3⟩;obtain⟨⟨sn,so,sg⟩,hs,t,rfl,ht⟩:=hS.at hj;have hR9:R.length≤9:=by
            have h1:=wJ hM.bf.nd (hM.bf.sub hsx hSx);simp at h1;omega
          have hFs:=Xp (S.take j) (sn,so,sg) hh wh (JT S start n);rw[hF3] at hFs;rw[take_one hs];simp -dsimp[aF,stC,-Bool.exists_bool,-List.map_take,-Prod.forall,-Prod.exists];refine⟨_,lR.of (s3 _ _ ht),rfl,?_⟩;simp -dsimp[aF,stC,-Bool.exists_bool,-List.map_take,-Prod.forall,-Prod.exists]
          by_cases hoh:so=hh
          · subst hoh;refine g8.pos (by simp) ?_;simp -dsimp[aF,stC,-Bool.exists_bool,-List.map_take,-Prod.forall,-Prod.exists];refine⟨_,qdY sg hd3,?_⟩;rw[hW3.qoF hM.bf.nd];refine g8.of (fun hg=>?_) (fun hg=>?_)
            · have hg':¬sg∈R.map (·.1):=by simpa using hg
              obtain⟨pw,hpw,qpk⟩:=hW3.some hM.bf.nd (List.mem_of_getElem? hM.hr);have hwl:=hM.bf.qoD (List.mem_of_getElem? hM.hr);have s20:=of_eq_true K_;simp -dsimp[aF,stC,-Bool.exists_bool,-List.map_take,-Prod.forall,-Prod.exists];refine⟨.ref pw,?_,fun b hb=>?_⟩
              ·have:=qdY so hd3;rw[hpw] at this;exact this
              refine⟨_,dz qpk hb,_,aA,by simp;omega,fun c hc=>?_⟩;have s4:Same H3 (upd (upd H3 b (.lst [.int sn])) c (.lst (wh.map (fun n:Nat=>V.int n)++[.int sn]))):=(aB hb).trans (aB hc);have ec:upd (upd H3 b (.lst [.int sn])) c (.lst (wh.map (fun n:Nat=>V.int n)++[.int sn])) c=some (.lst (wh.map (fun n:Nat=>V.int n)++[.int sn])):=aA;generalize upd (upd H3 b (.lst [.int sn])) c (.lst (wh.map (fun n:Nat=>V.int n)++[.int sn]))=H4 at s4 ec ⊢;have hd4:=s4 _ _ hd3;have hr4:=s4 _ _ hr3;have hkl:=hW3.len;have epk:putK kvs (Sum.inr sg) (.ref c)=kvs++[(Sum.inr sg,.ref c)]:=qbI _ (hW3.none hg');refine⟨_,qoC sg hd4 (by omega),?_⟩;rw[epk];have hr5:upd H4 d (.dK (kvs++[(Sum.inr sg,.ref c)])) rl=some (.lst (R.map fun yw=>.str yw.1)):=by rw[aV dr.symm];exact hr4
              have ne0:∀w:List Nat,R.map (fun yw=>V.str yw.1)≠w.map (fun n:Nat=>V.int n):=fun w e=>by
                have hst:=hM.bf.st;cases R with
                | nil=>simp at hst
                | cons r R=>
                  cases w with
                  | nil=>simp at e
                  | cons n w=>simp at e
              have kp:∀(p:Addr) (w:List Nat),H4 p=some (.lst (w.map fun n:Nat=>V.int n))→upd (upd H4 d (.dK (kvs++[(Sum.inr sg,.ref c)]))) rl (.lst (R.map (fun yw=>V.str yw.1)++[.str sg])) p=some (.lst (w.map fun n:Nat=>V.int n)):=fun p w e=>by
                have h1:p≠d:=fun z=>by subst z;rw[hd4] at e;cases e
                have h2:p≠rl:=fun z=>by subst z;rw[hr4] at e;exact ne0 w (HO.lst.inj (Option.some.inj e))
                rw[aV h2,aV h1];exact e
              have ec':H4 c=some (.lst ((wh++[sn]).map fun n:Nat=>V.int n)):=by rw[ec];simp
              refine⟨⟨_,cj.of hr5⟩,_,hr5,by simp;omega,R++[(sg,wh++[sn])],_,by rw[aV dr];exact aA,?_,by rw[aA];simp,hM.add (List.mem_of_getElem? hs) hg',hFs.trans (if_pos ⟨rfl,hg'⟩),hN3.snoc (nP (s3.trans (aB hb)) hc),cU (cU (s3.trans s4) hd) qpj⟩;refine h_.snoc (h_.keep (H:=H4) (h_.keep hW3 fun p w e=>s4 _ _ e) kp) (kp _ _ ec')
            · have hg':sg∈R.map (·.1):=by simpa using hg
              simp -dsimp[aF,stC,-Bool.exists_bool,-List.map_take,-Prod.forall,-Prod.exists];exact⟨R,kvs,hd3,hW3,hr3,hM.skip fun _=>hg',hFs.trans (if_neg (fun z=>z.2 hg')),hN3,s3⟩
          ·refine g8.neg (by simp[hoh]) ?_;simp -dsimp[aF,stC,-Bool.exists_bool,-List.map_take,-Prod.forall,-Prod.exists];exact⟨R,kvs,hd3,hW3,hr3,hM.skip fun z=>absurd z hoh,hFs.trans (if_neg (fun z=>hoh z.1)),hN3,s3⟩
        · rintro σ H3 ⟨R,kvs,o6,o7,o8,rfl,hd3,hW3,hr3,hM,hF3,hN3,s3⟩;have hl3:S.take tv.length=S:=by rw[hS.1,List.take_length]
          rw[hl3] at hM hF3;simp -dsimp[aF,stC,-Bool.exists_bool,-List.map_take,-Prod.forall,-Prod.exists];have hlen:=(List.getElem?_eq_some_iff.mp hM.hr).1;refine⟨⟨n+1,by omega,R,kvs,hd3,hW3,hr3,hM.leave,(qaA (by rw[hF];exact hR)).trans hF3,hN3,hlen,s3⟩,?_⟩;simp[qiW];omega
      · have hlt':¬n<R.length:=by simpa using hlt
        have en:n=R.length:=by omega
        subst en;simp -dsimp[aF,stC,-Bool.exists_bool,-List.map_take,-Prod.forall,-Prod.exists];exact q d kvs R H2 hd hd2 hW2 hB hF hN s2
def Oq (C:Addr):Sp:=fun vs H Q _=>∃(o:Addr) (start:Str) (l:Addr) (tv:List V) (S:List yG) (xs:List Str) (ps:List (Str×Str)),vs=[.ref o,.str start,.ref l]∧eU C H o xs ps∧H l=some (.lst tv)∧gD H tv S∧start∈xs∧(∀s∈S,s.2.2∈xs)∧xs.length≤9∧
  ∀(r:Addr) (H':Hp),H r=none→H' r=some (.lst ((Sv S xs start).map V.str))→Same H H'→Q (.ref r) H'
theorem Et (T:Txt K mg a):cT P w K mg base rN 2 a.fB a.qu ["web", "start", "steps"] (Oq a.cJ):=by
  refine T.uc.z9 Ea (fun vs H Q E h=>?_) (fun cdv A outer s H vs Q E hr h=>?_)
  ·obtain⟨o,start,l,tv,S,xs,ps,rfl,_⟩:=h;rfl
  · obtain⟨o,start,l,tv,S,xs,ps,rfl,hw,hl,hS,hsx,hSx,h9,q⟩:=h;refine⟨_,(aC (bO (i:=3) Ea.nd rfl (Or.inr rfl) (PE.eqv (aO (Gk (K:=K) T) (hr.mono (by decide)) rfl T.Cg T.wG.kp T.Ce .nil bD (aj (aL 1) (aj (aL 2) ak))) (aK _ _ _)))
      (aG (aZ (fL rfl rfl (show bL (ao dO) _ ["web", "start", "steps", "ways"] ["point"] [3] ["point", "ways"] from⟨rfl,by decide+kernel,by decide+kernel,rfl,by decide+kernel,by decide+kernel⟩) rfl (PI.eqv (nO (K:=K) rfl (PE.eqv (jW (aL 0) T.uD T.mL (nW (K:=K) T) (hr.mono (by decide)) T.mK .nil bD) (jX _ _ _ _ _ _))) (ju _ _)) (fun C s H fp pn=>(bG (i:=0) (show(["point", "ways"]:List Str).Nodup by decide+kernel) rfl (Or.inl rfl))) (fun C s H fp pn=>(RL (Zb (PC.eqv (qgf (Mj hr) (aL 0) (aL 1)) (qej _ _))))) (fun C s H fp pn=>(aL 0)))))),?_⟩
    simp -dsimp[aF,stC,-Bool.exists_bool,-List.map_take,-Prod.forall,-Prod.exists];refine⟨start,l,tv,S,xs,rfl,hl,hS,hsx,hSx,h9,fun d kvs R H1 hd hd1 hW hB _ _ s1=>?_⟩;obtain⟨dx,fs,hi,hno⟩:=(hw.same s1).ins jy.1 jy.2;simp -dsimp[aF,stC,-Bool.exists_bool,-List.map_take,-Prod.forall,-Prod.exists];refine⟨_,_,hi,hno,o,xs,ps,rfl,hw.same s1,fun l2 hl2=>?_⟩;have s2:Same H1 (upd H1 l2 (.lst (xs.map V.str))):=aB hl2;have e2:upd H1 l2 (.lst (xs.map V.str)) l2=some (.lst (xs.map V.str)):=aA;generalize upd H1 l2 (.lst (xs.map V.str))=H2 at s2 e2 ⊢;have hd2:=s2 _ _ hd1;have hW2:=hW.keep fun p w e=>s2 _ _ e;have s20:=of_eq_true K_;simp -dsimp[aF,stC,-Bool.exists_bool,-List.map_take,-Prod.forall,-Prod.exists];refine⟨⟨_,cj.of e2⟩,fun D hD=>cmL (xs.map V.str) (fun i σ H'=>(∃o,σ=[o,some (.ref d)])∧H' D=some (.lst ((Sv S (xs.take i) start).map V.str))∧Same H2 H') ⟨⟨_,rfl⟩,aA,aB hD⟩ (fun i σ H' _ h=>cj.of (h.2.2 _ _ e2)) ?_ ?_⟩
    · rintro i x σ H3 hi ⟨⟨o',rfl⟩,Xi,s3⟩;obtain⟨y,hy,rfl⟩:=Gs hi;have hi2:i<xs.length:=(List.getElem?_eq_some_iff.mp hy).1;simp -dsimp[aF,stC,-Bool.exists_bool,-List.map_take,-Prod.forall,-Prod.exists];refine⟨_,qdY y (s3 _ _ hd2),?_⟩;rw[hW2.has hB.nd,qbS hy (decide (y∈R.map (·.1))) (by rw[decide_eq_true_eq];exact hB.iff y)];refine g8.of (fun h=>?_) (fun h=>?_)
      ·rw[if_pos h];simp -dsimp[aF,stC,-Bool.exists_bool,-List.map_take,-Prod.forall,-Prod.exists];have hfl:=qdZ (S:=S) (xs:=xs.take i) (x:=start);rw[List.length_take] at hfl;refine⟨_,Xi,by simp;omega,by simp[aA],cU s3 hD⟩
      ·rw[if_neg (by rw[h];exact Bool.false_ne_true),List.append_nil];simp -dsimp[aF,stC,-Bool.exists_bool,-List.map_take,-Prod.forall,-Prod.exists];exact⟨Xi,s3⟩
    ·rintro σ H3 ⟨⟨o',rfl⟩,Xi,s3⟩;rw[List.length_map,List.take_length] at Xi;simp -dsimp[aF,stC,-Bool.exists_bool,-List.map_take,-Prod.forall,-Prod.exists];exact q D H3 (nP (s1.trans s2) hD) Xi ((s1.trans s2).trans s3)
def V9:Sp:=fun vs H Q _=>∃(p t n l:Addr) (tv:List V),vs=[.ref p,.ref t]∧jU H p∧H t=some (.tup [.ref n,.ref l])∧H l=some (.lst tv)∧l≠p∧tv.length≤20∧
  ∀(r:Addr) (ns:List Int) (H':Hp),H r=none→H' r=some (.lst (ns.map V.int))→ns.length=tv.length→(∀n∈ns,0≤n∧n≤1)→jU H' p→But p H H'→Q (.ref r) H'
theorem V_ (T:Txt K mg a):cT P w K mg base rN 2 a.ji a.yQ ["_law_pot_here", "_law_web_here"] V9:=by
  refine T.GP.z9 VL (fun vs H Q E h=>?_) (fun cdv A outer s H vs Q E hr h=>?_)
  ·obtain⟨p,t,n,l,tv,rfl,_⟩:=h;rfl
  · obtain⟨p,t,n,l,tv,rfl,hp,ht,hl,lp,Ho,q⟩:=h;refine⟨_,(aG (aZ (fL rfl rfl (show bL (ao gP) _ ["_law_pot_here", "_law_web_here"] ["_law_tie_here"] [0] ["_law_tie_here", "_law_pot_here"] from⟨rfl,by decide+kernel,by decide+kernel,rfl,by decide+kernel,by decide+kernel⟩) rfl (PI.eqv (nO (K:=K) rfl (cX (dB (K:=K) rfl) (aL 1) aJ (fun _ _=>rfl))) (ju _ _)) (fun C s H fp pn=>(bG (i:=0) (show(["_law_tie_here", "_law_pot_here"]:List Str).Nodup by decide+kernel) rfl (Or.inl rfl))) (fun C s H fp pn=>eV) (fun C s H fp pn=>(PE.eqv (aO (eF (K:=K) T) (hr.mono (by decide)) rfl T.gC T.f9.kp T.gB .nil bD (aj (aL 1) (aj aJ ak))) (aK _ _ _)))))),?_⟩;have s20:=of_eq_true K_;simp -dsimp[aF,stC,-Bool.exists_bool,-List.map_take,-Prod.forall,-Prod.exists];refine⟨_,.inr (lR.of ht),_,dj (j:=1) rfl,⟨_,cj.of hl⟩,fun D hD=>cmL tv (fun i σ H'=>(∃o',σ=[o',some (.ref p)])∧(∃ns:List Int,H' D=some (.lst (ns.map V.int))∧ns.length=i∧∀n∈ns,0≤n∧n≤1)∧H' l=some (.lst tv)∧jU H' p∧But p H H') ⟨⟨_,rfl⟩,⟨[],aA,rfl,by simp⟩,dz hl hD,hp.upd (hp.ne hD),But.of (aB hD)⟩ (fun i σ H' _ h=>cj.of h.2.2.1) ?_ ?_⟩
    · rintro i x σ H2 hi ⟨⟨o',rfl⟩,⟨ns,hD2,hn,h01⟩,hl2,hP2,hB2⟩;have hi2:i<tv.length:=(List.getElem?_eq_some_iff.mp hi).1;have Dp:D≠p:=(hp.ne hD).symm;have lD:l≠D:=aY hl hD;simp -dsimp[aF,stC,-Bool.exists_bool,-List.map_take,-Prod.forall,-Prod.exists];refine⟨p,_,rfl,hP2,by decide,by decide,fun f H3 hf0 hf1 LK hB3=>?_⟩;simp -dsimp[aF,stC,-Bool.exists_bool,-List.map_take,-Prod.forall,-Prod.exists];refine⟨_,hB3 _ _ Dp hD2,by simp;omega,⟨ns++[f],by rw[aA];simp,by simp[hn],fun m hm=>?_⟩,by rw[aV lD];exact hB3 _ _ lp hl2,LK.upd Dp.symm,(hB2.trans hB3).new hD⟩
      rcases List.mem_append.mp hm with hm | hm
      ·exact h01 m hm
      ·simp at hm;subst hm;omega
    ·rintro σ H2 ⟨⟨o',rfl⟩,⟨ns,hD2,hn,h01⟩,hl2,hP2,hB2⟩;simp -dsimp[aF,stC,-Bool.exists_bool,-List.map_take,-Prod.forall,-Prod.exists];exact q D ns H2 hD hD2 hn h01 hP2 hB2
def tyD:PyData→String
  | .none=> "NoneType"
  | .bool _=> "bool"
  | .int _=> "int"
  | .str _=> "str"
  | .list _=> "list"
  | .tuple _=> "tuple"
  | .dict _=> "dict"
def Ay:PyData→Bool
  | .list _=>true
  | .tuple _=>true
  | _=>false
def intD:PyData→Bool
  | .int _=>true
  | .bool _=>true
  | _=>false
def qfs:PyData→Bool
  | .bool _=>true
  | _=>false
def J_:PyData→Bool
  | .int _=>true
  | _=>false
def X3:PyData→Bool
  | .int i=>decide (0≤i) && decide (i≤1)
  | _=>false
def kids:PyData→List PyData
  | .list ds=>ds
  | .tuple ds=>ds
  | _=>[]
def vM (n:Nat) (d:PyData):Bool:=Ay d && (decide ((kids d).length=n) && (kids d).all X3)
theorem T9 {H:Hp} {d:PyData} {v:V} (h:bW H d v):uR K H v (.type (tyD d)):=by
  cases d with
  | none=>simp only[bW] at h;subst h;exact .non
  | bool b=>simp only[bW] at h;subst h;exact .bl b
  | int i=>simp only[bW] at h;subst h;exact .int i
  | str x=>simp only[bW] at h;subst h;exact .str x
  | list ds=>simp only[bW] at h;obtain⟨a,xs,rfl,h1,_⟩:=h;exact .lst h1
  | tuple ds=>simp only[bW] at h;obtain⟨a,xs,rfl,h1,_⟩:=h;exact .tup h1
  | dict ds=>simp only[bW] at h;obtain⟨_,a,rfl,h1⟩:=h;exact .dK h1
theorem qey (d:PyData):W.kitAny K (.type (tyD d)) [.type "list",.type "tuple"]=some (Ay d):=by
  cases d <;> simp[W.kitAny,W.kitOne,tyD,Ay] <;> rfl
theorem qcW (d:PyData):W.kitOne K (.type (tyD d)) (.type "int")=some (intD d):=by
  cases d with
  | none=>exact JH K
  | bool b=>exact R_ K
  | int i=>exact Vf K
  | str x=>exact Vd K
  | list ds=>exact R6 K
  | tuple ds=>exact Pu K
  | dict ds=>exact Sg K
theorem qaQ (d:PyData):W.kitOne K (.type (tyD d)) (.type "bool")=some (qfs d):=by
  cases d with
  | none=>exact HJ K
  | bool b=>exact Px K
  | int i=>exact R8 K
  | str x=>exact R7 K
  | list ds=>exact Pq K
  | tuple ds=>exact MJ K
  | dict ds=>exact Py K
theorem qhd {H:Hp} {t:Addr} {ns:List Int} (h:Sq H t (ns.map V.int)):∃d,bW H d (.ref t)∧Ay d=true∧kids d=ns.map PyData.int:=by
  rcases h with h | h
  ·exact⟨.list (ns.map PyData.int),by simp only[bW];exact⟨t,_,rfl,h,aX.ints H ns⟩,rfl,rfl⟩
  ·exact⟨.tuple (ns.map PyData.int),by simp only[bW];exact⟨t,_,rfl,h,aX.ints H ns⟩,rfl,rfl⟩
theorem G3 {H:Hp} {d:PyData} {v:V} (h:bW H d v) (hs:Ay d=true):∃t xs,v = .ref t∧Sq H t xs∧aX H (kids d) xs:=by
  cases d with
  | list ds=>simp only[bW] at h;obtain⟨a,xs,rfl,h1,h2⟩:=h;exact⟨a,xs,rfl,.inl h1,h2⟩
  | tuple ds=>simp only[bW] at h;obtain⟨a,xs,rfl,h1,h2⟩:=h;exact⟨a,xs,rfl,.inr h1,h2⟩
  | _=>cases hs
def qez (C:Addr):Sp:=fun vs H Q _=>∃o xs ps,vs=[.ref o]∧eU C H o xs ps∧Q (.int ps.length) H
theorem zp (T:Txt K mg a):cT P w K mg base rN 1 a.gU a.yN ["self"] (qez a.cJ):=by
  refine T.N6.z9 VG (fun vs H Q E h=>?_) (fun cdv A outer s H vs Q E hr h=>?_)
  ·obtain⟨o,xs,ps,rfl,_⟩:=h;rfl
  ·obtain⟨o,xs,ps,rfl,⟨dx,n,m,tv,h1,h2,h3,h4,h5⟩,q⟩:=h;refine⟨_,(aG (aZ (aQ (cN (K:=K) rfl) rfl T.nm.len PySem.boot_len (aj (PE.eqv (RW (K:=K) rfl (aL 0) rfl) (S8 _ _ _)) ak)))),?_⟩;simp -dsimp[aF,stC,-Bool.exists_bool,-List.map_take,-Prod.forall,-Prod.exists];refine⟨_,_,_,h1,T.uD,T.LC,_,rfl,_,.inr (lR.of h3),?_⟩;rw[h4.1];exact q
def Wa:Sp:=fun vs H Q _=>∃(d:PyData) (v:V),vs=[v]∧bW H d v∧∀H',Same H H'→Q (.bl (Ay d)) H'
theorem zq (T:Txt K mg a):cT P w K mg base rN 1 a.jw a.xu ["thing"] Wa:=by
  refine T.iB.z9 Nt (fun vs H Q E h=>?_) (fun cdv A outer s H vs Q E hr h=>?_)
  ·obtain⟨d,v,rfl,_⟩:=h;rfl
  ·obtain⟨d,v,rfl,hd,q⟩:=h;refine⟨_,(aG (aZ (aQ (qcp (K:=K) rfl) rfl T.nm.isinstance boot_isinstance (aj (aL 0) (aj (dh (aj (oh (v:=.ty "list") rfl T.nm.list boot_list rfl) (aj (oh (v:=.ty "tuple") rfl T.nm.tuple boot_tuple rfl) ak))) ak))))),?_⟩;simp -dsimp[aF,stC,-Bool.exists_bool,-List.map_take,-Prod.forall,-Prod.exists];refine fun t ht=>⟨_,_,aA,_,T9 (bW.same (aB ht) d v hd),_,qey d,q _ (aB ht)⟩
def Wb:Sp:=fun vs H Q _=>∃(d:PyData) (v:V),vs=[v]∧bW H d v∧Q (.bl (J_ d)) H
theorem Eu (T:Txt K mg a):cT P w K mg base rN 1 a.je a.yJ ["thing"] Wb:=by
  refine T.xG.z9 Vz (fun vs H Q E h=>?_) (fun cdv A outer s H vs Q E hr h=>?_)
  ·obtain⟨d,v,rfl,_⟩:=h;rfl
  · obtain⟨d,v,rfl,hd,q⟩:=h;refine⟨_,(aG (aZ (vX (aQ (Tc (K:=K) rfl) rfl T.nm.isinstance boot_isinstance (aj (aL 0) (aj (oh (v:=.ty "int") rfl T.nm.int JB rfl) ak))) (Bk (Zc (aQ (Tc (K:=K) rfl) rfl T.nm.isinstance boot_isinstance (aj (aL 0) (aj (oh (v:=.ty "bool") rfl T.nm2.bool W6 rfl) ak)))))))),?_⟩;simp -dsimp[aF,stC,-Bool.exists_bool,-List.map_take,-Prod.forall,-Prod.exists];refine⟨_,T9 hd,_,qcW d,?_⟩;cases hi:intD d with
    | false=>
      refine g8.neg rfl ?_;simp -dsimp[aF,stC,-Bool.exists_bool,-List.map_take,-Prod.forall,-Prod.exists];rw[show J_ d=false by cases d <;> first | rfl | cases hi] at q
      exact q
    | true=>
      refine g8.pos rfl ?_;simp -dsimp[aF,stC,-Bool.exists_bool,-List.map_take,-Prod.forall,-Prod.exists];refine⟨_,T9 hd,_,qaQ d,?_⟩;rw[show J_ d = !qfs d by cases d <;> first | rfl | cases hi] at q
      exact q
def X4:Sp:=fun vs H Q _=>∃(d:PyData) (v:V),vs=[v]∧bW H d v∧Q (.bl (X3 d)) H
theorem X5 (T:Txt K mg a):cT P w K mg base rN 2 a.mj a.BW ["thing"] X4:=by
  refine T.JZ.z9 XD (fun vs H Q E h=>?_) (fun cdv A outer s H vs Q E hr h=>?_)
  ·obtain⟨d,v,rfl,_⟩:=h;rfl
  · obtain⟨d,v,rfl,hd,q⟩:=h;refine⟨_,(aG (aZ (vX (PE.eqv (aO (Eu (K:=K) T) (hr.mono (by decide)) rfl T.Cj T.xG.kp T.Ci .nil bD (aj (aL 0) ak)) (aK _ _ _)) (Bk (JQ zA zA aJ (aL 0) aJ))))),?_⟩;simp -dsimp[aF,stC,-Bool.exists_bool,-List.map_take,-Prod.forall,-Prod.exists];refine⟨d,v,rfl,hd,?_⟩;cases hw:J_ d with
    | false=>
      rw[show X3 d=false by cases d <;> first | rfl | cases hw] at q
      simp -dsimp[aF,stC,-Bool.exists_bool,-List.map_take,-Prod.forall,-Prod.exists];exact q
    | true=>
      obtain⟨i,rfl⟩:∃i,d = .int i:=by cases d <;> first | exact⟨_,rfl⟩ | cases hw
      simp only[bW] at hd;subst hd;simp -dsimp[aF,stC,-Bool.exists_bool,-List.map_take,-Prod.forall,-Prod.exists];simp only[X3] at q;refine g8.of (fun h=>?_) (fun h=>?_)
      ·rw[h] at q;simp -dsimp[aF,stC,-Bool.exists_bool,-List.map_take,-Prod.forall,-Prod.exists];exact q
      ·rw[h] at q;simp -dsimp[aF,stC,-Bool.exists_bool,-List.map_take,-Prod.forall,-Prod.exists];exact q
theorem rT:∀l:List Bool,yD (l.map V.bl) l
  | []=>rfl
  | b::l=>⟨b,_,rfl,rfl,rT l⟩
def Ot (C:Addr):Sp:=fun vs H Q _=>∃(o:Addr) (v:V) (d:PyData) (xs:List Str) (ps:List (Str×Str)),vs=[.ref o,v]∧eU C H o xs ps∧bW H d v∧ps.length≤20∧
  ∀H',Same H H'→Q (.bl (vM ps.length d)) H'
theorem Ew (T:Txt K mg a):cT P w K mg base rN 3 a.fD a.qy ["web", "thing"] (Ot a.cJ):=by
  refine T.ug.z9 Nv (fun vs H Q E h=>?_) (fun cdv A outer s H vs Q E hr h=>?_)
  ·obtain⟨o,v,d,xs,ps,rfl,_⟩:=h;rfl
  · obtain⟨o,v,d,xs,ps,rfl,hw,hd,Ho,q⟩:=h;refine⟨_,(aC (cO (PW.pt (jR (dM (cB (PE.eqv (aO (zq (K:=K) T) (hr.mono (by decide)) rfl T.mJ T.iB.kp T.mH .nil bD (aj (aL 1) ak)) (aK _ _ _)))) (iM (bx ig (aQ (cN (K:=K) rfl) rfl T.nm.len PySem.boot_len (aj (aL 1) ak)) (PE.eqv (jW (aL 0) T.uD T.xQ (zp (K:=K) T) (hr.mono (by decide)) T.xH .nil bD) (jX _ _ _ _ _ _)) (bZ _))))) (aG (aZ dX)) bC)
      (aG (aZ (aQ (pO rfl) rfl T.nm.all pK (aj (fL rfl rfl (show bL (ao dU) _ ["web", "thing"] ["one"] [] ["one"] from⟨rfl,by decide+kernel,by decide+kernel,rfl,by decide+kernel,by decide+kernel⟩) rfl (PI.eqv (tU (K:=K) rfl (aL 1)) (nR _ _)) (fun C s H fp pn=>(bG (i:=0) (show(["one"]:List Str).Nodup by decide+kernel) rfl (Or.inl rfl))) (fun C s H fp pn=>eV) (fun C s H fp pn=>(PE.eqv (aO (X5 (K:=K) T) (hr.mono (by decide)) rfl T.Q7 T.JZ.kp T.Q6 .nil bD (aj (aL 0) ak)) (aK _ _ _)))) ak))))),?_⟩
    simp -dsimp[aF,stC,-Bool.exists_bool,-List.map_take,-Prod.forall,-Prod.exists];refine⟨d,v,rfl,hd,fun H1 s1=>?_⟩;cases hs:Ay d with
    | false=>
      simp -dsimp[aF,stC,-Bool.exists_bool,-List.map_take,-Prod.forall,-Prod.exists];have e:vM ps.length d=false:=by unfold vM;rw[hs];rfl
      rw[e] at q;exact q _ s1
    | true=>
      obtain⟨t,ys,rfl,hq,hall⟩:=G3 hd hs;obtain⟨dx,fs,hi,hno⟩:=(hw.same s1).ins Fq.1 Fq.2;have hq1:=hq.same s1;have hlen:=hall.length;simp -dsimp[aF,stC,-Bool.exists_bool,-List.map_take,-Prod.forall,-Prod.exists];refine⟨_,hq1.q,_,_,hi,hno,o,xs,ps,rfl,hw.same s1,?_⟩;simp -dsimp[aF,stC,-Bool.exists_bool,-List.map_take,-Prod.forall,-Prod.exists]
      by_cases hn:ys.length=ps.length
      · refine⟨false,by simp[hn],g8.neg rfl ?_⟩;obtain⟨b,hb⟩:=hq1.b;simp -dsimp[aF,stC,-Bool.exists_bool,-List.map_take,-Prod.forall,-Prod.exists];refine⟨b,⟨_,hb K H1 (Same.refl _)⟩,fun D hD=>cmQ ys (fun i σ H'=>(∃o',σ=[o'])∧H' D=some (.lst ((((kids d).take i).map X3).map V.bl))∧Same H1 H') ⟨⟨_,rfl⟩,aA,aB hD⟩ (fun i σ H' _ h=>hb K H' h.2.2) ?_ ?_⟩
        ·rintro i x σ H2 hi ⟨⟨o',rfl⟩,hD2,s2⟩;have hi2:i<ys.length:=(List.getElem?_eq_some_iff.mp hi).1;obtain⟨c,hc,hx⟩:=hall.at hi;simp -dsimp[aF,stC,-Bool.exists_bool,-List.map_take,-Prod.forall,-Prod.exists];refine⟨c,x,rfl,bW.same (s1.trans s2) c x hx,?_⟩;simp -dsimp[aF,stC,-Bool.exists_bool,-List.map_take,-Prod.forall,-Prod.exists];refine⟨_,hD2,by rw[List.length_map,List.length_map];exact zsz (Nat.lt_of_le_of_lt (List.length_take_le ..) hi2) (by rw[hn];exact Ho),?_,cU s2 hD⟩;rw[aA,List.take_add_one,hc];simp
        · rintro σ H2 ⟨⟨o',rfl⟩,hD2,s2⟩;simp -dsimp[aF,stC,-Bool.exists_bool,-List.map_take,-Prod.forall,-Prod.exists];refine⟨_,hD2,_,rT _,?_⟩;have e:vM ps.length d=(((kids d).take ys.length).map X3).all id:=by
            unfold vM;rw[hs,← hlen,List.take_length,decide_eq_true (by rw[hlen];exact hn),List.all_map];rfl
          rw[← e];exact q _ (s1.trans s2)
      · refine⟨true,by simp;exact fun z=>hn (Int.ofNat.inj z),g8.pos rfl ?_⟩;simp -dsimp[aF,stC,-Bool.exists_bool,-List.map_take,-Prod.forall,-Prod.exists];have e:vM ps.length d=false:=by unfold vM;rw[decide_eq_false (by rw[hlen];exact hn)];simp
        rw[e] at q;exact q _ s1
theorem ZG:∀{ns:List Int},(∀n∈ns,0≤n∧n≤1)→(ns.map PyData.int).all X3=true
  | [],_=>rfl
  | n::ns,h=>by
    have h1:=h n List.mem_cons_self;rw[List.map_cons,List.all_cons,ZG fun m hm=>h m (List.mem_cons_of_mem _ hm)];simp[X3,h1]
theorem qcX {d:PyData} {ns:List Int} (h1:Ay d=true) (h2:kids d=ns.map PyData.int) (h01:∀n∈ns,0≤n∧n≤1):vM ns.length d=true:=by
  unfold vM;rw[h1,h2,ZG h01];simp
def qhe (C:Addr) (H:Hp) (o t:Addr) (xs:List Str) (ps:List (Str×Str)) (ns:List Int):Prop:=eU C H o xs ps∧Sq H t (ns.map V.int)∧(∀n∈ns,0≤n∧n≤1)∧ns.length=ps.length∧ps.length≤20
def FP (C:Addr):Sp:=fun vs H Q _=>∃(o t:Addr) (xs:List Str) (ps:List (Str×Str)) (ns:List Int),vs=[.ref o,.ref t]∧qhe C H o t xs ps ns∧∀H',Same H H'→Q .non H'
theorem FQ (T:Txt K mg a):cT P w K mg base rN 4 a.cL a.fK ["web", "thing"] (FP a.cJ):=by
  refine T.eN.z9 vm (fun vs H Q E h=>?_) (fun cdv A outer s H vs Q E hr h=>?_)
  ·obtain⟨o,t,xs,ps,ns,rfl,_⟩:=h;rfl
  ·obtain⟨o,t,xs,ps,ns,rfl,⟨hw,ht,h01,hl,Ho⟩,q⟩:=h;refine⟨_,(aG (cO (dM (cB (PE.eqv (aO (Ew (K:=K) T) (hr.mono (by decide)) rfl T.zJ T.ug.kp T.zH .nil bD (aj (aL 0) (aj (aL 1) ak))) (aK _ _ _)))) (aG Hs) bC)),?_⟩;obtain⟨d,hd,hs,hk⟩:=qhd ht;simp -dsimp[aF,stC,-Bool.exists_bool,-List.map_take,-Prod.forall,-Prod.exists];refine⟨o,.ref t,d,xs,ps,rfl,hw,hd,Ho,fun H1 s1=>?_⟩;rw[← hl,qcX hs hk h01];simp -dsimp[aF,stC,-Bool.exists_bool,-List.map_take,-Prod.forall,-Prod.exists];exact q _ s1
def T_ (C:Addr):Sp:=fun vs H Q _=>∃(o:Addr) (xs:List Str) (ps:List (Str×Str)) (k:Int),vs=[.ref o,.int k]∧eU C H o xs ps∧0≤k∧k<ps.length∧Q (.bl true) H
theorem Ua (T:Txt K mg a):cT P w K mg base rN 2 a.gk a.qx ["web", "thing"] (T_ a.cJ):=by
  refine T.ux.z9 Ip (fun vs H Q E h=>?_) (fun cdv A outer s H vs Q E hr h=>?_)
  ·obtain⟨o,xs,ps,k,rfl,_⟩:=h;rfl
  ·obtain⟨o,xs,ps,k,rfl,hw,h0,h1,q⟩:=h;refine⟨_,(aG (aZ (vX (PE.eqv (aO (Eu (K:=K) T) (hr.mono (by decide)) rfl T.Cj T.xG.kp T.Ci .nil bD (aj (aL 1) ak)) (aK _ _ _)) (Bk (JQ zA JM aJ (aL 1) (PE.eqv (jW (aL 0) T.uD T.xQ (zp (K:=K) T) (hr.mono (by decide)) T.xH .nil bD) (jX _ _ _ _ _ _))))))),?_⟩;obtain⟨dx,fs,hi,hno⟩:=hw.ins Fq.1 Fq.2;simp -dsimp[aF,stC,-Bool.exists_bool,-List.map_take,-Prod.forall,-Prod.exists];refine⟨.int k,_,rfl,by simp[bW],?_⟩;simp only[J_];simp -dsimp[aF,stC,-Bool.exists_bool,-List.map_take,-Prod.forall,-Prod.exists];refine g8.pos (decide_eq_true h0) ?_;simp -dsimp[aF,stC,-Bool.exists_bool,-List.map_take,-Prod.forall,-Prod.exists];refine⟨_,_,hi,hno,o,xs,ps,rfl,hw,?_⟩;simp -dsimp[aF,stC,-Bool.exists_bool,-List.map_take,-Prod.forall,-Prod.exists];rw[decide_eq_true h1];exact q
theorem G4:∀xs:List Int,keysOf (xs.map V.int)=xs.map Sum.inl
  | []=>rfl
  | x::xs=>by
    show Sum.inl x::keysOf (xs.map V.int)=_;rw[G4 xs];rfl
theorem qcY {xs:List Int} (h:xs.Nodup):(JC (fun i=>(keysOf (xs.map V.int))[i]?.getD (Sum.inl 0)) (xs.map V.int).length).length=xs.length:=by
  rw[G4,List.length_map];refine(W9 _ xs.length fun i j hi hj e=>?_).1;simp[hi,hj] at e;exact(List.getElem_inj h).mp e
theorem Jm {xs:List Int} {i:Nat} {x:V} (h:(xs.map V.int)[i]? = some x):∃z,xs[i]? = some z∧x = .int z:=by
  rw[List.getElem?_map] at h;cases e:xs[i]? with
  | none=>rw[e] at h;cases h
  | some z=>
    rw[e] at h;exact⟨z,rfl,(Option.some.inj h).symm⟩
structure Nrs (n:Nat) (ks:List Int):Prop where
  ok:∀k∈ks,0≤k∧k<n
  nd:ks.Nodup
  len:ks.length≤20
def Ou (C:Addr):Sp:=fun vs H Q _=>∃(o t:Addr) (xs:List Str) (ps:List (Str×Str)) (ks:List Int),vs=[.ref o,.ref t]∧eU C H o xs ps∧Sq H t (ks.map V.int)∧Nrs ps.length ks∧∀H',Same H H'→Q (.bl true) H'
theorem Ov (T:Txt K mg a):cT P w K mg base rN 3 a.dW a.j8 ["web", "thing"] (Ou a.cJ):=by
  refine T.jx.z9 Eb (fun vs H Q E h=>?_) (fun cdv A outer s H vs Q E hr h=>?_)
  ·obtain⟨o,t,xs,ps,ks,rfl,_⟩:=h;rfl
  · obtain⟨o,t,xs,ps,ks,rfl,hw,ht,hk,q⟩:=h;refine⟨_,(aC (cO (PW.pt (jR (dM (cB (PE.eqv (aO (Cq (K:=K) T) (hr.mono (by decide)) rfl T.mJ T.iB.kp T.mH .nil bD (aj (aL 1) ak)) (aK _ _ _)))) (iM (dM (cB (aQ (pO rfl) rfl T.nm.all pK (aj (fL rfl rfl (show bL (ao dG) _ ["web", "thing"] ["one"] [0] ["one", "web"] from⟨rfl,by decide+kernel,by decide+kernel,rfl,by decide+kernel,by decide+kernel⟩) rfl (PI.eqv (tU (K:=K) rfl (aL 1)) (nR _ _)) (fun C s H fp pn=>(bG (i:=0) (show(["one", "web"]:List Str).Nodup by decide+kernel) rfl (Or.inl rfl))) (fun C s H fp pn=>eV) (fun C s H fp pn=>(PE.eqv (aO (Ua (K:=K) T) (hr.mono (by decide)) rfl T.Ed T.ux.kp T.Ec .nil bD (aj (aL 1) (aj (aL 0) ak))) (aK _ _ _)))) ak))))))) (aG (aZ dX)) bC)
      (aG (aZ (iQ jA (aQ Fg rfl T.nm.len PySem.boot_len (aj (eG (Fe rfl) rfl T.nm.set Fd (aj (aL 1) ak)) ak)) (aQ (cN (K:=K) rfl) rfl T.nm.len PySem.boot_len (aj (aL 1) ak)) (bZ _))))),?_⟩
    simp -dsimp[aF,stC,-Bool.exists_bool,-List.map_take,-Prod.forall,-Prod.exists];refine⟨t,_,rfl,ht,fun H1 s1=>?_⟩;have ht1:=ht.same s1;obtain⟨b,hb⟩:=ht1.b;simp -dsimp[aF,stC,-Bool.exists_bool,-List.map_take,-Prod.forall,-Prod.exists];refine⟨b,⟨_,hb K H1 (Same.refl _)⟩,fun D hD=>cmQ (ks.map V.int) (fun i σ H'=>(∃o',σ=[o',some (.ref o)])∧Same H1 H'∧H' D=some (.lst (List.replicate i (.bl true)))) ⟨⟨none,rfl⟩,aB hD,aA⟩ (fun i σ' H' _ h=>hb K H' h.2.1) ?_ ?_⟩
    ·rintro i x σ H2 hi ⟨⟨o',rfl⟩,s2,hD2⟩;obtain⟨k,hki,rfl⟩:=Jm hi;have hi2:i<ks.length:=(List.getElem?_eq_some_iff.mp hki).1;have hk2:=hk.ok k (List.mem_of_getElem? hki);simp -dsimp[aF,stC,-Bool.exists_bool,-List.map_take,-Prod.forall,-Prod.exists];refine⟨o,xs,ps,k,rfl,hw.same (s1.trans s2),hk2.1,hk2.2,?_⟩;simp -dsimp[aF,stC,-Bool.exists_bool,-List.map_take,-Prod.forall,-Prod.exists];refine⟨_,hD2,by rw[List.length_replicate];exact zsz hi2 hk.len,cU s2 hD,?_⟩;rw[aA,← List.replicate_succ']
    ·rintro σ H2 ⟨⟨o',rfl⟩,s2,hD2⟩;have ZD:=ht1.same s2;simp -dsimp[aF,stC,-Bool.exists_bool,-List.map_take,-Prod.forall,-Prod.exists];refine⟨_,hD2,_,Ax _,?_⟩;rw[show(List.replicate (ks.map V.int).length true).all id=true by simp];simp -dsimp[aF,stC,-Bool.exists_bool,-List.map_take,-Prod.forall,-Prod.exists];have ZJ:=hk.len;refine⟨_,ZD.q,by simp[isKey],by simp;unfold scanBound;omega,fun t3 ht3=>⟨_,aA,_,(ZD.same (aB ht3)).q,?_⟩⟩;rw[decide_eq_true (by rw[qcY hk.nd];simp)];exact q _ (s1.trans (s2.trans (aB ht3)))
def trn (ks ns:List Int):List Int:=ns.mapIdx fun i n=>if ((i:Nat):Int)∈ks then 1 - n else n
theorem qeA (ks ns:List Int):(trn ks ns).length=ns.length:=by unfold trn;simp
theorem qhf {ks ns:List Int} {i:Nat} {n:Int} (h:ns[i]? = some n):(trn ks ns)[i]? = some (if (i:Int)∈ks then 1 - n else n):=by
  unfold trn;rw[List.getElem?_mapIdx,h];rfl
theorem qeB (k:Int) (ks:List Int):inV (.int k) (ks.map V.int)=decide (k∈ks):=by
  unfold inV;rw[List.any_map]
  induction ks with
  | nil=>rfl
  | cons a ks ih=>
    rw[List.any_cons,ih]
    by_cases e:a=k
    ·subst e;simp[WX]
    ·simp[WX,e,Ne.symm e]
theorem qaR (ks:List Int):∀z∈ks.map V.int,nJ z=true:=by
  intro z hz;obtain⟨k,_,rfl⟩:=List.mem_map.mp hz;rfl
def qaS (C:Addr):Sp:=fun vs H Q _=>∃(o t u:Addr) (xs:List Str) (ps:List (Str×Str)) (ns ks:List Int),vs=[.ref o,.ref t,.ref u]∧qhe C H o t xs ps ns∧Sq H u (ks.map V.int)∧Nrs ps.length ks∧
  ∀r H',H r=none→H' r=some (.lst ((trn ks ns).map V.int))→Same H H'→Q (.ref r) H'
theorem qaT (T:Txt K mg a):cT P w K mg base rN 5 a.j9 a.wL ["web", "pointing", "numbers"] (qaS a.cJ):=by
  refine T.Jc.z9 Q5 (fun vs H Q E h=>?_) (fun cdv A outer s H vs Q E hr h=>?_)
  ·obtain⟨o,t,u,xs,ps,ns,ks,rfl,_⟩:=h;rfl
  · obtain⟨o,t,u,xs,ps,ns,ks,rfl,hp,hu,hk,q⟩:=h;refine⟨_,(aC (jT (PE.eqv (aO (FQ (K:=K) T) (hr.mono (by decide)) rfl T.jl T.eN.kp T.jk .nil bD (aj (aL 0) (aj (aL 1) ak))) (aK _ _ _)))
      (aC (cO (dM (cB (PE.eqv (aO (Ov (K:=K) T) (hr.mono (by decide)) rfl T.uf T.jx.kp T.ud .nil bD (aj (aL 0) (aj (aL 2) ak))) (aK _ _ _)))) (aG Hs) bC)
      (aG (aZ (fL rfl rfl (show bL (ao jZ) _ ["web", "pointing", "numbers"] ["number", "lead"] [2] ["number", "lead", "numbers"] from⟨rfl,by decide+kernel,by decide+kernel,rfl,by decide+kernel,by decide+kernel⟩) rfl (Vu (K:=K) rfl rfl T.nm2.enumerate (aj (aL 1) ak)) (fun C s H fp pn=>(PG.eqv (oA (K:=K) (n:=2) rfl rfl (vN.eqv (cP (bG (i:=0) (show(["number", "lead", "numbers"]:List Str).Nodup by decide+kernel) rfl (Or.inl rfl)) (vN.eqv (cP (bG (i:=1) (show(["number", "lead", "numbers"]:List Str).Nodup by decide+kernel) rfl (Or.inl rfl)) (vN.mono ou uU)) (cQ _ _))) (cQ _ _))) (oH _ _ _))) (fun C s H fp pn=>eV) (fun C s H fp pn=>(Hr (bx (qaz (K:=K) rfl) (aL 0) (aL 2) rfl) (bQ vW aJ (aL 1)) (aL 1)))))))),?_⟩
    simp -dsimp[aF,stC,-Bool.exists_bool,-List.map_take,-Prod.forall,-Prod.exists];refine⟨o,t,xs,ps,ns,rfl,hp,fun H1 s1=>?_⟩;obtain⟨hw,ht,h01,hl,Ho⟩:=hp;simp -dsimp[aF,stC,-Bool.exists_bool,-List.map_take,-Prod.forall,-Prod.exists];refine⟨o,u,xs,ps,ks,rfl,hw.same s1,hu.same s1,hk,fun H2 s2'=>?_⟩;have s2:=s1.trans s2';have hu2:=hu.same s2;obtain⟨b,hb⟩:=(ht.same s2).b;simp -dsimp[aF,stC,-Bool.exists_bool,-List.map_take,-Prod.forall,-Prod.exists];refine⟨b,⟨_,hb K H2 (Same.refl _)⟩,fun D hD=>qo8 (ns.map V.int) (fun i σ H'=>(∃o1 o2,σ=[o1,o2,some (.ref u)])∧H' D=some (.lst (((trn ks ns).take i).map V.int))∧Same H2 H') ⟨⟨_,_,rfl⟩,aA,aB hD⟩ (fun i σ H' _ h=>hb K H' h.2.2) ?_ ?_⟩
    · rintro i x e σ H3 hi he ⟨⟨o1,o2,rfl⟩,Xi,s3⟩;obtain⟨n,hn,rfl⟩:=Jm hi;have hi2:i<ns.length:=(List.getElem?_eq_some_iff.mp hn).1;have s4:Same H3 (upd H3 e (.tup [.int i,.int n])):=aB he;have hu4:=hu2.same (s3.trans s4);have hDe:D≠e:=aY Xi he;have Rg:upd H3 e (.tup [.int i,.int n]) D=some (.lst (((trn ks ns).take i).map V.int)):=s4 _ _ Xi;refine⟨_,lR.of aA,rfl,?_⟩;simp -dsimp[aF,stC,-Bool.exists_bool,-List.map_take,-Prod.forall,-Prod.exists];refine⟨_,hu4.q,rfl,qaR ks,?_⟩;rw[qeB];have fin:∀y:Int,(trn ks ns)[i]? = some y→∃ys,upd H3 e (.tup [.int i,.int n]) D=some (HO.lst ys)∧ys.length<sizeLine∧((∃o1 o2,[some (V.int i),some (V.int n),some (V.ref u)]=[o1,o2,some (V.ref u)])∧
          upd (upd H3 e (.tup [.int i,.int n])) D (.lst (ys++[V.int y])) D=some (.lst (((trn ks ns).take (i+1)).map V.int))∧Same H2 (upd (upd H3 e (.tup [.int i,.int n])) D (.lst (ys++[V.int y])))):=fun y hy=>
        ⟨_,Rg,by rw[List.length_map];exact zsz (Nat.lt_of_le_of_lt (List.length_take_le ..) hi2) (by rw[hl];exact Ho),⟨_,_,rfl⟩,by rw[aA,List.take_add_one,hy];simp,cU (s3.trans s4) hD⟩
      have ht:=qhf (ks:=ks) hn;refine g8.of (fun h=>?_) (fun h=>?_)
      ·rw[if_pos (of_decide_eq_true h)] at ht;simp -dsimp[aF,stC,-Bool.exists_bool,-List.map_take,-Prod.forall,-Prod.exists];obtain⟨ys,f1,f2,_,f4,f5⟩:=fin _ ht;exact⟨ys,f1,f2,f4,f5⟩
      ·rw[if_neg (of_decide_eq_false h)] at ht;simp -dsimp[aF,stC,-Bool.exists_bool,-List.map_take,-Prod.forall,-Prod.exists];obtain⟨ys,f1,f2,_,f4,f5⟩:=fin _ ht;exact⟨ys,f1,f2,f4,f5⟩
    ·rintro σ H3 ⟨⟨o1,o2,rfl⟩,Xi,s3⟩;simp -dsimp[aF,stC,-Bool.exists_bool,-List.map_take,-Prod.forall,-Prod.exists];rw[List.length_map,← qeA ks ns,List.take_length] at Xi;exact q D H3 (nP s2 hD) Xi (s2.trans s3)
theorem Rh:∀(xs:List V) (n k:Nat),vU (nums n xs) (Sum.inl ((n+k:Nat):Int):Key)=xs[k]?
  | [],n,k=>by simp[nums,vU]
  | x::xs,n,0=>by rw[nums,Hz (by simp)];rfl
  | x::xs,n,k+1=>by
    rw[nums,HB (by intro z;injection z with z;omega)];have:=Rh xs (n+1) k;rw[show n+1+k=n+(k+1) by omega] at this;rw[this];simp
def qeC (ns:List Int) (ps:List (Str×Str)):List yG:=iT (fun k=>ns[k]?) ps 0
theorem Wc {xs:List Str} {ps:List (Str×Str)} {ns:List Int} (hTs:Jl xs ps) (hlen:ns.length=ps.length) (h01:∀n∈ns,0≤n∧n≤1):∀s∈qeC ns ps,s.2.2∈xs:=by
  intro s hs;have h1:s.2.2∈FW ns ps:=by
    rw[← Y_ ns ps 0,← qbX (fun k=>ns[k]?) ps ns 0 (fun i=>by rw[Nat.zero_add]) hlen h01];exact List.mem_map_of_mem hs
  have key:∀(ns:List Int) (ps:List (Str×Str)),(∀e∈ps,e.1∈xs∧e.2∈xs)→∀g∈FW ns ps,g∈xs:=by
    intro ns
    induction ns with
    | nil=>intro ps _ g h;simp[FW] at h
    | cons n ns ih=>
      intro ps hp g h;cases ps with
      | nil=>simp[FW] at h
      | cons e ps=>
        rw[FW] at h
        rcases List.mem_cons.mp h with rfl | h
        · have:=hp e List.mem_cons_self;unfold qd5;split
          ·exact this.2
          ·exact this.1
        ·exact ih ps (fun d hd=>hp d (List.mem_cons_of_mem _ hd)) g h
  exact key ns ps (fun e he=>⟨(hTs.ok e he).1,(hTs.ok e he).2.1⟩) _ h1
def Ey (C N:Addr):Sp:=fun vs H Q E=>∃(o:Addr) (v:V) (d:PyData) (xs:List Str) (ps:List (Str×Str)),vs=[.ref o,v]∧eU C H o xs ps∧bW H d v∧ps.length≤20∧
  ∀H',Same H H'→(vM ps.length d=true→Q .non H')∧(vM ps.length d=false→E (.ref N) none H')
theorem uN (T:Txt K mg a):cT P w K mg base (Pz P w) 4 a.cL a.fK ["web", "thing"] (Ey a.cJ a.aq):=by
  refine T.eN.PB vm (fun vs H Q E h=>?_) (fun cdv A outer s H vs Q E hr h=>?_)
  ·obtain⟨o,v,d,xs,ps,rfl,_⟩:=h;rfl
  · obtain⟨o,v,d,xs,ps,rfl,hw,hd,Ho,q⟩:=h;refine⟨_,(aG (cO (dM (cB (PE.eqv (aO (Ew (K:=K) T) (hr.mono (by decide)) rfl T.zJ T.ug.kp T.zH .nil bD (aj (aL 0) (aj (aL 1) ak))) (aK _ _ _)))) (aG (Ia (E:=E) fM rfl rfl T.jm rfl T.mO (aj bN ak))) bC)),?_⟩;simp -dsimp[aF,stC,-Bool.exists_bool,-List.map_take,-Prod.forall,-Prod.exists];refine⟨o,v,d,xs,ps,rfl,hw,hd,Ho,fun H1 s1=>?_⟩;cases hb:vM ps.length d with
    | true=>
      simp -dsimp[aF,stC,-Bool.exists_bool,-List.map_take,-Prod.forall,-Prod.exists];exact(q _ s1).1 hb
    | false=>
      simp -dsimp[aF,stC,-Bool.exists_bool,-List.map_take,-Prod.forall,-Prod.exists];exact(q _ s1).2 hb
theorem ZK {H:Hp} {d:PyData} {v:V} {n:Nat} (h:bW H d v) (hp:vM n d=true):∃(t:Addr) (ns:List Int),v = .ref t∧Sq H t (ns.map V.int)∧(∀m∈ns,0≤m∧m≤1)∧ns.length=n:=by
  unfold vM at hp;rw[Bool.and_eq_true,Bool.and_eq_true] at hp;obtain⟨h1,h2,h3⟩:=hp;obtain⟨t,ys,rfl,hq,hall⟩:=G3 h h1;have key:∀(ds:List PyData) (ys:List V),aX H ds ys→ds.all X3=true→∃ns:List Int,ys=ns.map V.int∧(∀m∈ns,0≤m∧m≤1)∧ns.length=ds.length:=by
    intro ds
    induction ds with
    | nil=>intro ys h _;exact⟨[],by simpa [aX] using h,by simp,rfl⟩
    | cons c ds ih=>
      intro ys h hl;rw[List.all_cons,Bool.and_eq_true] at hl;simp only[aX] at h;obtain⟨x,r,rfl,hx,hr⟩:=h;obtain⟨ns,rfl,e2,e3⟩:=ih r hr hl.2;cases c with
      | int i=>
        simp only[bW] at hx;subst hx;have hi:0≤i∧i≤1:=by simpa [X3] using hl.1
        refine⟨i::ns,rfl,fun m hm=>?_,by simp[e3]⟩
        rcases List.mem_cons.mp hm with rfl | hm
        ·exact hi
        ·exact e2 m hm
      | _=>exact absurd hl.1 (by simp[X3])
  obtain⟨ns,rfl,e2,e3⟩:=key _ _ hall h3;exact⟨t,ns,rfl,hq,e2,by rw[e3];exact of_decide_eq_true h2⟩
def X6 (C N:Addr):Sp:=fun vs H Q E=>∃(o:Addr) (v:V) (d:PyData) (xs:List Str) (ps:List (Str×Str)),vs=[.ref o,v]∧eU C H o xs ps∧bW H d v∧ps.length≤20∧
  (vM ps.length d=false→∀H',Same H H'→E (.ref N) none H')∧
  ∀t ns,vM ps.length d=true→v = .ref t→qhe C H o t xs ps ns→∀l tv H',H l=none→H' l=some (.lst tv)→gD H' tv (qeC ns ps)→tv.length≤40→Same H H'→Q (.ref l) H'
theorem Cr (T:Txt K mg a):cT P w K mg base (Pz P w) 5 a.qz a.Fl ["web", "pointing"] (X6 a.cJ a.aq):=by
  refine T.Ac.PB qaL (fun vs H Q E h=>?_) (fun cdv A outer s H vs Q E hr h=>?_)
  ·obtain⟨o,v,d,xs,ps,rfl,_⟩:=h;rfl
  · obtain⟨o,v,d,xs,ps,rfl,hw,hd,Ho,q1,q2⟩:=h;refine⟨_,(aC (jT (PE.eqv (aO (uN (K:=K) T) (hr.mono (by decide)) rfl T.jl T.eN.kp T.jk .nil (fM.passes rfl) (aj (aL 0) (aj (aL 1) ak))) (aK _ _ _)))
      (aG (aZ (PE.eqv (aO (Oo (K:=K) T) (hr.mono (by decide)) rfl T.Gd T.zE.kp T.Gb .nil bD (aj (aL 0) (aj (Vk (K:=K) rfl rfl rfl T.nm2.dict rfl T.nm2.enumerate (aj (aL 1) ak)) ak))) (aK _ _ _))))),?_⟩
    simp -dsimp[aF,stC,-Bool.exists_bool,-List.map_take,-Prod.forall,-Prod.exists];refine⟨o,v,d,xs,ps,rfl,hw,hd,Ho,fun H1 s1=>⟨fun hb=>?_,fun hb=>q1 hb _ s1⟩⟩;obtain⟨t,ns,rfl,ht,h01,hl⟩:=ZK hd hb;have q:=q2 t ns hb rfl ⟨hw,ht,h01,hl,Ho⟩;simp -dsimp[aF,stC,-Bool.exists_bool,-List.map_take,-Prod.forall,-Prod.exists];refine⟨_,(ht.same s1).q,fun d hd=>⟨o,d,xs,ps,(fun k=>ns[k]?),rfl,hw.same (s1.trans (aB hd)),⟨_,aA,fun k=>?_⟩,fun l tv H2 hl hl2 hst h40 s2=>q l tv H2 (nP (s1.trans (aB hd)) hl) hl2 hst h40 ((s1.trans (aB hd)).trans s2)⟩⟩;have:=Rh (ns.map V.int) 0 k;rw[Nat.zero_add,List.getElem?_map] at this;exact this
def qhg:PyData→Bool
  | .str _=>true
  | _=>false
def Ow:PyData→Bool
  | .str x=>nameB x
  | _=>false
theorem qcZ (d:PyData):W.kitOne K (.type (tyD d)) (.type "str")=some (qhg d):=by
  cases d with
  | none=>exact JG K
  | bool b=>exact R9 K
  | int i=>exact Ve K
  | str x=>exact KH K
  | list ds=>exact R5 K
  | tuple ds=>exact Pr K
  | dict ds=>exact Sd K
def Wd:Sp:=fun vs H Q _=>∃(d:PyData) (v:V),vs=[v]∧bW H d v∧qhg d=false∧Q (.bl false) H
theorem Wf (T:Txt K mg a):cT P w K mg base rN 1 a.iz a.rZ ["thing"] Wd:=by
  refine T.sy.z9 Nu (fun vs H Q E h=>?_) (fun cdv A outer s H vs Q E hr h=>?_)
  ·obtain⟨d,v,rfl,_⟩:=h;rfl
  · obtain⟨d,v,rfl,hd,hs,q⟩:=h;refine⟨_,(aC (cO (PW.pt (jR (dM (cB (aQ (Tc (K:=K) rfl) rfl T.nm.isinstance boot_isinstance (aj (aL 0) (aj (oh (v:=.ty "str") rfl T.nm.str boot_str rfl) ak))))) (iM (dM (JR zA zA aJ (aQ qco rfl T.nm.len PySem.boot_len (aj (aL 0) ak)) (aW rfl T.xO T.xP)))))) (aG (aZ dX)) bC)
      (aG (aZ (aQ (pO rfl) rfl T.nm.all pK (aj (fL rfl rfl (show bL (ao iy) _ ["thing"] ["sign"] [] ["sign"] from⟨rfl,by decide+kernel,by decide+kernel,rfl,by decide+kernel,by decide+kernel⟩) rfl (PI.eqv (W5 (aL 0)) (M7 _)) (fun C s H fp pn=>(bG (i:=0) (show(["sign"]:List Str).Nodup by decide+kernel) rfl (Or.inl rfl))) (fun C s H fp pn=>eV) (fun C s H fp pn=>(iQ (qjf (K:=K) rfl) (aL 0) (aW rfl T.J3 T.J4) rfl))) ak))))),?_⟩
    simp -dsimp[aF,stC,-Bool.exists_bool,-List.map_take,-Prod.forall,-Prod.exists];refine⟨_,T9 hd,_,qcZ d,?_⟩;rw[hs];refine g8.pos rfl ?_;simp -dsimp[aF,stC,-Bool.exists_bool,-List.map_take,-Prod.forall,-Prod.exists];exact q
def gW (d:PyData):Prop:=∀x,d = .str x→x.length≤sizeLine
def Wg:Sp:=fun vs H Q _=>∃(d:PyData) (v:V),vs=[v]∧bW H d v∧gW d∧∀H',Same H H'→Q (.bl (Ow d)) H'
theorem K5 (T:Txt K mg a):cT P w K mg base rN 1 a.iz a.rZ ["thing"] Wg:=by
  refine((GX T).or (Wf T)).imp fun vs H Q E h=>?_;obtain⟨d,v,rfl,hd,hs,q⟩:=h;cases d with
  | str x=>simp only[bW] at hd;subst hd;exact .inl ⟨x,rfl,hs x rfl,q⟩
  | _=>exact .inr ⟨_,v,rfl,hd,rfl,q H (Same.refl H)⟩
def Jx (xs:List Str):PyData→Bool
  | .str x=>decide (x∈xs)
  | _=>false
theorem qeD {xs:List Str} {d:PyData} (hX:Uq xs) (h:Ow d=false):Jx xs d=false:=by
  cases d with
  | str x=>exact decide_eq_false fun z=>by rw[show Ow (.str x)=nameB x from rfl,hX.nm x z] at h;cases h
  | _=>rfl
theorem Ub {H:Hp} {xs:List Str} {d:PyData} {v:V} (h:bW H d v) (hp:Jx xs d=true):∃x,v = .str x∧x∈xs:=by
  cases d with
  | str x=>simp only[bW] at h;exact⟨x,h,of_decide_eq_true hp⟩
  | _=>cases hp
def Uc (C:Addr):Sp:=fun vs H Q _=>∃(o:Addr) (v:V) (d:PyData) (xs:List Str) (ps:List (Str×Str)),vs=[.ref o,v]∧eU C H o xs ps∧Uq xs∧bW H d v∧gW d∧∀H',Same H H'→Q (.bl (Jx xs d)) H'
theorem Ud (T:Txt K mg a):cT P w K mg base rN 2 a.jg a.yO ["web", "thing"] (Uc a.cJ):=by
  refine T.GJ.z9 VH (fun vs H Q E h=>?_) (fun cdv A outer s H vs Q E hr h=>?_)
  ·obtain⟨o,v,d,xs,ps,rfl,_⟩:=h;rfl
  · obtain⟨o,v,d,xs,ps,rfl,hw,hX,hd,hs,q⟩:=h;refine⟨_,(aG (aZ (vX (PE.eqv (aO (K5 (K:=K) T) (hr.mono (by decide)) rfl T.Ab T.sy.kp T.Aa .nil bD (aj (aL 1) ak)) (aK _ _ _)) (Bk (iQ (qaz (K:=K) rfl) (aL 1) (PE.eqv (jW (aL 0) T.uD T.mL (nW (K:=K) T) (hr.mono (by decide)) T.mK .nil bD) (jX _ _ _ _ _ _)) rfl))))),?_⟩;simp -dsimp[aF,stC,-Bool.exists_bool,-List.map_take,-Prod.forall,-Prod.exists];refine⟨d,v,rfl,hd,hs,fun H1 s1=>?_⟩;cases hn:Ow d with
    | false=>
      rw[qeD hX hn] at q;simp -dsimp[aF,stC,-Bool.exists_bool,-List.map_take,-Prod.forall,-Prod.exists];exact q _ s1
    | true=>
      obtain⟨x,rfl⟩:∃x,d = .str x:=by cases d <;> first | exact⟨_,rfl⟩ | cases hn
      simp only[bW] at hd;subst hd;obtain⟨dx,fs,hi,hno⟩:=(hw.same s1).ins jy.1 jy.2;simp -dsimp[aF,stC,-Bool.exists_bool,-List.map_take,-Prod.forall,-Prod.exists];refine⟨_,_,hi,hno,o,xs,ps,rfl,hw.same s1,fun l2 hl2=>?_⟩;have s2:Same H1 (upd H1 l2 (.lst (xs.map V.str))):=aB hl2;have e2:upd H1 l2 (.lst (xs.map V.str)) l2=some (.lst (xs.map V.str)):=aA;generalize upd H1 l2 (.lst (xs.map V.str))=H2 at s2 e2 ⊢;simp -dsimp[aF,stC,-Bool.exists_bool,-List.map_take,-Prod.forall,-Prod.exists];refine⟨_,.inl (cj.of e2),rfl,List.all_eq_true.mp (JK _),?_⟩;rw[DR];exact q _ (s1.trans s2)
def Jo (C N:Addr):Sp:=fun vs H Q E=>∃(o:Addr) (v:V) (d:PyData) (xs:List Str) (ps:List (Str×Str)),vs=[.ref o,v]∧eU C H o xs ps∧Uq xs∧bW H d v∧gW d∧∀H',Same H H'→(Jx xs d=true→Q .non H')∧(Jx xs d=false→E (.ref N) none H')
theorem qK (T:Txt K mg a):cT P w K mg base (Pz P w) 3 a.dJ a.mz ["web", "thing"] (Jo a.cJ a.aD):=by
  refine T.jt.PB JX (fun vs H Q E h=>?_) (fun cdv A outer s H vs Q E hr h=>?_)
  ·obtain⟨o,v,d,xs,ps,rfl,_⟩:=h;rfl
  · obtain⟨o,v,d,xs,ps,rfl,hw,hX,hd,hs,q⟩:=h;refine⟨_,(aG (cO (dM (cB (PE.eqv (aO (Ud (K:=K) T) (hr.mono (by decide)) rfl T.N8 T.GJ.kp T.N7 .nil bD (aj (aL 0) (aj (aL 1) ak))) (aK _ _ _)))) (aG (Ia (E:=E) fM rfl rfl T.sE rfl T.wM (aj bN ak))) bC)),?_⟩;simp -dsimp[aF,stC,-Bool.exists_bool,-List.map_take,-Prod.forall,-Prod.exists];refine⟨o,v,d,xs,ps,rfl,hw,hX,hd,hs,fun H1 s1=>?_⟩;cases hb:Jx xs d with
    | true=>
      simp -dsimp[aF,stC,-Bool.exists_bool,-List.map_take,-Prod.forall,-Prod.exists];exact(q _ s1).1 hb
    | false=>
      simp -dsimp[aF,stC,-Bool.exists_bool,-List.map_take,-Prod.forall,-Prod.exists];exact(q _ s1).2 hb
def Wh (C N M:Addr):Sp:=fun vs H Q E=>∃(o:Addr) (v u:V) (d e:PyData) (xs:List Str) (ps:List (Str×Str)),vs=[.ref o,v,u]∧eU C H o xs ps∧Uq xs∧Jl xs ps∧bW H d v∧bW H e u∧gW e∧
  ∀H',Same H H'→(vM ps.length d=false→E (.ref N) none H')∧(vM ps.length d=true→Jx xs e=false→E (.ref M) none H')∧(vM ps.length d=true→Jx xs e=true→∀z,Q z H')
theorem Wi (T:Txt K mg a):cT P w K mg base (Pz P w) 6 a.mC a.BX ["web", "pointing", "point"] (Wh a.cJ a.aq a.aD):=by
  refine T.J0.PB Ny (fun vs H Q E h=>?_) (fun cdv A outer s H vs Q E hr h=>?_)
  ·obtain⟨o,v,u,d,e,xs,ps,rfl,_⟩:=h;rfl
  · obtain⟨o,v,u,d,e,xs,ps,rfl,hw,hX,hTs,hd,he,hs,q⟩:=h;refine⟨_,(aC (bO (i:=3) Ny.nd rfl (Or.inl rfl) (PE.eqv (aO (Cr (K:=K) T) (hr.mono (by decide)) rfl T.Eh T.Ac.kp T.Ef .nil (fM.passes rfl) (aj (aL 0) (aj (aL 1) ak))) (aK _ _ _)))
      (aC (jT (PE.eqv (aO (qK (K:=K) T) (hr.mono (by decide)) rfl T.oM T.jt.kp T.oK .nil (fM.passes rfl) (aj (aL 0) (aj (aL 2) ak))) (aK _ _ _)))
      (aG (aZ (PE.eqv (aO (Et (K:=K) T) (hr.mono (by decide)) rfl T.zG T.uc.kp T.zF .nil bD (aj (aL 0) (aj (aL 2) (aj (aL 3) ak)))) (aK _ _ _)))))),?_⟩
    simp -dsimp[aF,stC,-Bool.exists_bool,-List.map_take,-Prod.forall,-Prod.exists];refine⟨o,v,d,xs,ps,rfl,hw,hd,hTs.len,fun hb H1 s1=>(q _ s1).1 hb,fun t ns hb ev hp l tv H1 hl0 hl1 hS h40 s1=>?_⟩;simp -dsimp[aF,stC,-Bool.exists_bool,-List.map_take,-Prod.forall,-Prod.exists];refine⟨o,u,e,xs,ps,rfl,hw.same s1,hX,bW.same s1 e u he,hs,fun H2 s2=>⟨fun h2=>?_,fun h2=>(q _ (s1.trans s2)).2.1 hb h2⟩⟩;obtain⟨x,rfl,hx⟩:=Ub he h2;have s12:=s1.trans s2;simp -dsimp[aF,stC,-Bool.exists_bool,-List.map_take,-Prod.forall,-Prod.exists];refine⟨o,x,l,tv,qeC ns ps,xs,ps,rfl,hw.same s12,s2 _ _ hl1,gD.keep hS (L2.gF.of s2),hx,Wc hTs hp.2.2.2.1 hp.2.2.1,hX.len.2,fun r H3 hr0 hr3 s3=>?_⟩;exact(q _ (s12.trans s3)).2.2 hb h2 _
def Dr (C:Addr):Sp:=fun vs H Q _=>∃(o l:Addr) (tv:List V) (S:List yG) (xs:List Str) (ps:List (Str×Str)),vs=[.ref o,.ref l]∧eU C H o xs ps∧H l=some (.lst tv)∧gD H tv S∧(∀s∈S,s.2.2∈xs)∧xs.length≤9∧
  (∀H',Bq S xs xs=none→Same H H'→Q .non H')∧
  ∀(x:Str) (r:Addr) (H':Hp),Bq S xs xs=some x→H r=none→H' r=some (.lst ((restOf S xs x).map V.str))→Same H H'→Q (.ref r) H'
theorem Dt (T:Txt K mg a):cT P w K mg base rN 3 a.cF a.gH ["web", "steps"] (Dr a.cJ):=by
  refine T.kh.z9 gG (fun vs H Q E h=>?_) (fun cdv A outer s H vs Q E hr h=>?_)
  ·obtain⟨o,l,tv,S,xs,ps,rfl,_⟩:=h;rfl
  · obtain⟨o,l,tv,S,xs,ps,rfl,hw,hl,hS,hSx,h9,q1,q2⟩:=h;refine⟨_,(aC (bO (i:=2) gG.nd rfl (Or.inl rfl) (PE.eqv (jW (aL 0) T.uD T.mL (nW (K:=K) T) (hr.mono (by decide)) T.mK .nil bD) (jX _ _ _ _ _ _)))
      (aC (zx PassesOwn.never rfl (PI.eqv (nO (K:=K) rfl (aL 2)) (ju _ _)) (bG (i:=3) gG.nd rfl (Or.inl rfl))
      (aC (bO (i:=4) gG.nd rfl (Or.inr rfl) (PE.eqv (aO (Et (K:=K) T) (hr.mono (by decide)) rfl T.zG T.uc.kp T.zF .nil bD (aj (aL 0) (aj (aL 3) (aj (aL 1) ak)))) (aK _ _ _)))
      (aG (cO (bx JM (aQ (cN (K:=K) rfl) rfl T.nm.len PySem.boot_len (aj (aL 4) ak)) (aQ (cN (K:=K) rfl) rfl T.nm.len PySem.boot_len (aj (aL 2) ak)) (bZ _)) (aG (aZ (fL rfl rfl (show bL (ao cA) _ ["web", "steps", "points", "point", "found"] ["other"] [4] ["other", "found"] from⟨rfl,by decide+kernel,by decide+kernel,rfl,by decide+kernel,by decide+kernel⟩) rfl (PI.eqv (nO (K:=K) rfl (aL 2)) (ju _ _)) (fun C s H fp pn=>(bG (i:=0) (show(["other", "found"]:List Str).Nodup by decide+kernel) rfl (Or.inl rfl))) (fun C s H fp pn=>(RL (bx (Lq (K:=K) rfl) (aL 0) (aL 1) rfl))) (fun C s H fp pn=>(aL 0))))) bC))))
      (aG (aZ rR)))),?_⟩
    have s60:60≤sizeLine:=by decide
    obtain⟨dx,fs,hi,hno⟩:=hw.ins jy.1 jy.2;simp -dsimp[aF,stC,-Bool.exists_bool,-List.map_take,-Prod.forall,-Prod.exists];refine⟨_,_,hi,hno,o,xs,ps,rfl,hw,fun p hp=>?_⟩;have s1:Same H (upd H p (.lst (xs.map V.str))):=aB hp;have ep:upd H p (.lst (xs.map V.str)) p=some (.lst (xs.map V.str)):=aA;generalize upd H p (.lst (xs.map V.str))=H1 at s1 ep ⊢;simp -dsimp[aF,stC,-Bool.exists_bool,-List.map_take,-Prod.forall,-Prod.exists];refine⟨⟨_,cj.of ep⟩,frL (xs.map V.str) (fun i σ H'=>(∃o3 o4,σ=[some (.ref o),some (.ref l),some (.ref p),o3,o4])∧Bq S xs (xs.take i)=none∧Same H1 H') ⟨⟨_,_,rfl⟩,rfl,Same.refl _⟩ (fun i σ H' _ h=>cj.of (h.2.2 _ _ ep)) ?_ ?_⟩
    · rintro i z σ H2 hi ⟨⟨o3,o4,rfl⟩,hno,s2⟩;obtain⟨x,hx,rfl⟩:=Gs hi;have hxx:=List.mem_of_getElem? hx;have s12:=s1.trans s2;simp -dsimp[aF,stC,-Bool.exists_bool,-List.map_take,-Prod.forall,-Prod.exists];refine⟨o,x,l,tv,S,xs,ps,rfl,hw.same s12,s12 _ _ hl,gD.keep hS (L2.gF.of s12),hxx,hSx,h9,fun r H3 hr0 hr3 s3=>?_⟩;have La:=s12.trans s3;have ep3:=s3 _ _ (s2 _ _ ep);simp -dsimp[aF,stC,-Bool.exists_bool,-List.map_take,-Prod.forall,-Prod.exists];refine⟨_,.inl (cj.of hr3),_,.inl (cj.of ep3),g8.of (fun h=>?_) (fun h=>?_)⟩
      · have h':(Sv S xs x).length<xs.length:=by simpa using h
        have hsh:=Vs hno hx h';simp -dsimp[aF,stC,-Bool.exists_bool,-List.map_take,-Prod.forall,-Prod.exists];refine⟨⟨_,cj.of ep3⟩,fun D hD=>cmL (xs.map V.str) (fun j σ H'=>(∃o',σ=[o',some (.ref r)])∧H' D=some (.lst (((xs.take j).filter fun y=>!decide (y∈Sv S xs x)).map V.str))∧Same H3 H') ⟨⟨_,rfl⟩,aA,aB hD⟩ (fun j σ H' _ h=>cj.of (h.2.2 _ _ ep3)) ?_ ?_⟩
        · rintro j z σ H4 hj ⟨⟨o',rfl⟩,Rg,s4⟩;obtain⟨y,hy,rfl⟩:=Gs hj;have hj2:j<xs.length:=(List.getElem?_eq_some_iff.mp hy).1;have hfl:((xs.take j).filter fun y=>!decide (y∈Sv S xs x)).length≤(xs.take j).length:=List.length_filter_le _ _;rw[List.length_take] at hfl;rw[take_one hy,List.filter_append,List.map_append];simp -dsimp[aF,stC,-Bool.exists_bool,-List.map_take,-Prod.forall,-Prod.exists];have d1:inV (.str y) ((Sv S xs x).map V.str) = !decide (¬y∈Sv S xs x):=by rw[DR];simp
          refine⟨_,.inl (cj.of (s4 _ _ hr3)),rfl,List.all_eq_true.mp (JK _),_,d1,g8.of (fun h=>?_) (fun h=>?_)⟩
          ·have h':¬y∈Sv S xs x:=of_decide_eq_true h;simp -dsimp[aF,stC,-Bool.exists_bool,-List.map_take,-Prod.forall,-Prod.exists];refine⟨_,Rg,by simp;omega,by rw[aA];simp[h'],cU s4 hD⟩
          · have h':y∈Sv S xs x:=by simpa using h
            simp -dsimp[aF,stC,-Bool.exists_bool,-List.map_take,-Prod.forall,-Prod.exists];refine⟨by rw[Rg];simp[h'],s4⟩
        ·rintro σ H4 ⟨⟨o',rfl⟩,Rg,s4⟩;rw[List.length_map,List.take_length] at Rg;simp -dsimp[aF,stC,-Bool.exists_bool,-List.map_take,-Prod.forall,-Prod.exists];exact q2 x D H4 hsh (nP La hD) Rg (La.trans s4)
      · have h':¬(Sv S xs x).length<xs.length:=by simpa using h
        simp -dsimp[aF,stC,-Bool.exists_bool,-List.map_take,-Prod.forall,-Prod.exists];exact⟨Vt hno hx h',s2.trans s3⟩
    ·rintro σ H2 ⟨⟨o3,o4,rfl⟩,hno,s2⟩;rw[List.length_map,List.take_length] at hno;simp -dsimp[aF,stC,-Bool.exists_bool,-List.map_take,-Prod.forall,-Prod.exists];exact q1 _ hno (s1.trans s2)
def qeE (C N M:Addr):Sp:=fun vs H Q E=>∃(o:Addr) (v u w:V) (d e f:PyData) (xs:List Str) (ps:List (Str×Str)),vs=[.ref o,v,u,w]∧eU C H o xs ps∧Uq xs∧Jl xs ps∧bW H d v∧bW H e u∧bW H f w∧gW e∧gW f∧
  ∀H',Same H H'→(vM ps.length d=false→E (.ref N) none H')∧(vM ps.length d=true→(Jx xs e && Jx xs f)=false→E (.ref M) none H')∧(vM ps.length d=true→(Jx xs e && Jx xs f)=true→∀z,Q z H')
theorem qeF (T:Txt K mg a):cT P w K mg base (Pz P w) 6 a.Iu a.Tw ["web", "pointing", "a", "b"] (qeE a.cJ a.aq a.aD):=by
  refine T.qcM.PB qcJ (fun vs H Q E h=>?_) (fun cdv A outer s H vs Q E hr h=>?_)
  ·obtain⟨o,v,u,w,d,e,f,xs,ps,rfl,_⟩:=h;rfl
  · obtain⟨o,v,u,w,d,e,f,xs,ps,rfl,hw,hX,hTs,hd,he,hf,hs,ht,q⟩:=h;refine⟨_,(aC (bO (i:=4) qcJ.nd rfl (Or.inl rfl) (PE.eqv (aO (Cr (K:=K) T) (hr.mono (by decide)) rfl T.Eh T.Ac.kp T.Ef .nil (fM.passes rfl) (aj (aL 0) (aj (aL 1) ak))) (aK _ _ _)))
      (aC (jT (PE.eqv (aO (qK (K:=K) T) (hr.mono (by decide)) rfl T.oM T.jt.kp T.oK .nil (fM.passes rfl) (aj (aL 0) (aj (aL 2) ak))) (aK _ _ _)))
      (aC (jT (PE.eqv (aO (qK (K:=K) T) (hr.mono (by decide)) rfl T.oM T.jt.kp T.oK .nil (fM.passes rfl) (aj (aL 0) (aj (aL 3) ak))) (aK _ _ _)))
      (aG (aZ (PE.eqv (qbO (Mj hr) (PE.eqv (aO (Gk (K:=K) T) (hr.mono (by decide)) rfl T.Cg T.wG.kp T.Ce .nil bD (aj (aL 2) (aj (aL 4) ak))) (aK _ _ _)) (aL 3) ⟨rfl,rfl,rfl,rfl⟩) (qay _ _))))))),?_⟩
    simp -dsimp[aF,stC,-Bool.exists_bool,-List.map_take,-Prod.forall,-Prod.exists];refine⟨o,v,d,xs,ps,rfl,hw,hd,hTs.len,fun hb H1 s1=>(q _ s1).1 hb,fun t ns hb ev hp l tv H1 hl0 hl1 hS h40 s1=>?_⟩;simp -dsimp[aF,stC,-Bool.exists_bool,-List.map_take,-Prod.forall,-Prod.exists];refine⟨o,u,e,xs,ps,rfl,hw.same s1,hX,bW.same s1 e u he,hs,fun H2 s2=>⟨fun h2=>?_,fun h2=>(q _ (s1.trans s2)).2.1 hb (by rw[h2];rfl)⟩⟩;have s12:=s1.trans s2;simp -dsimp[aF,stC,-Bool.exists_bool,-List.map_take,-Prod.forall,-Prod.exists];refine⟨o,w,f,xs,ps,rfl,hw.same s12,hX,bW.same s12 f w hf,ht,fun H3 s3=>⟨fun h3=>?_,fun h3=>(q _ (s12.trans s3)).2.1 hb (by rw[h3,Bool.and_false])⟩⟩;obtain⟨x,rfl,hx⟩:=Ub he h2;obtain⟨y,rfl,hy⟩:=Ub hf h3;have La:=s12.trans s3;simp -dsimp[aF,stC,-Bool.exists_bool,-List.map_take,-Prod.forall,-Prod.exists];refine⟨x,l,tv,qeC ns ps,xs,rfl,(s2.trans s3) _ _ hl1,gD.keep hS (L2.gF.of (s2.trans s3)),hx,Wc hTs hp.2.2.2.1 hp.2.2.1,hX.len.2,fun d kvs R H4 hd hd4 hW hB hF hN s4=>?_⟩;simp -dsimp[aF,stC,-Bool.exists_bool,-List.map_take,-Prod.forall,-Prod.exists];refine⟨isD hd4,_,qdY y hd4,?_⟩;exact(q _ (La.trans s4)).2.2 hb (by rw[h2,h3];rfl) _
def Jp (C N:Addr):Sp:=fun vs H _ E=>∃(o:Addr) (v:V) (d:PyData) (xs:List Str) (ps:List (Str×Str)),vs=[.ref o,v]∧eU C H o xs ps∧bW H d v∧ps.length≤20∧vM ps.length d=false∧∀H',Same H H'→E (.ref N) none H'
theorem Ue (T:Txt K mg a):cT P w K mg base (Pz P w) 6 a.jh a.yP ["web", "pointing"] (Jp a.cJ a.aq):=by
  refine T.GK.PB VJ (fun vs H Q E h=>?_) (fun cdv A outer s H vs Q E hr h=>?_)
  ·obtain⟨o,v,d,xs,ps,rfl,_⟩:=h;rfl
  ·obtain⟨o,v,d,xs,ps,rfl,hw,hd,Ho,hb,q⟩:=h;refine⟨_,(aG (aZ (PE.eqv (aO (Dt (K:=K) T) (hr.mono (by decide)) rfl T.uz T.kh.kp T.uy .nil bD (aj (aL 0) (aj (PE.eqv (aO (Cr (K:=K) T) (hr.mono (by decide)) rfl T.Eh T.Ac.kp T.Ef .nil (fM.passes rfl) (aj (aL 0) (aj (aL 1) ak))) (aK _ _ _)) ak))) (aK _ _ _)))),?_⟩;simp -dsimp[aF,stC,-Bool.exists_bool,-List.map_take,-Prod.forall,-Prod.exists];exact⟨o,v,d,xs,ps,rfl,hw,hd,Ho,fun _ H1 s1=>q _ s1,fun t ns hb2=>by rw[hb] at hb2;cases hb2⟩
theorem Jq (T:Txt K mg a):cT P w K mg base (Pz P w) 6 a.dI a.mq ["web", "pointing"] (Jp a.cJ a.aq):=by
  refine T.uW.PB JW (fun vs H Q E h=>?_) (fun cdv A outer s H vs Q E hr h=>?_)
  ·obtain⟨o,v,d,xs,ps,rfl,_⟩:=h;rfl
  ·obtain⟨o,v,d,xs,ps,rfl,hw,hd,Ho,hb,q⟩:=h;refine⟨_,(aG (aZ (jz (K:=K) rfl PySem.F.plainAttrs_str PySem.F.slot_str_join PySem.F.type_str_join Vq bN (aj (fL rfl rfl (show bL (ao dg) _ ["web", "pointing"] ["number", "origin", "goal"] [] ["number", "origin", "goal"] from⟨rfl,by decide+kernel,by decide+kernel,rfl,by decide+kernel,by decide+kernel⟩) rfl (PI.eqv (nO (K:=K) rfl (PE.eqv (aO (Cr (K:=K) T) (hr.mono (by decide)) rfl T.Eh T.Ac.kp T.Ef .nil (fM.passes rfl) (aj (aL 0) (aj (aL 1) ak))) (aK _ _ _))) (ju _ _)) (fun C s H fp pn=>(PG.eqv (oA (K:=K) (n:=3) rfl rfl (vN.eqv (cP (bG (i:=0) (show(["number", "origin", "goal"]:List Str).Nodup by decide+kernel) rfl (Or.inl rfl)) (vN.eqv (cP (bG (i:=1) (show(["number", "origin", "goal"]:List Str).Nodup by decide+kernel) rfl (Or.inl rfl)) (vN.eqv (cP (bG (i:=2) (show(["number", "origin", "goal"]:List Str).Nodup by decide+kernel) rfl (Or.inl rfl)) (vN.mono ou uU)) (cQ _ _))) (cQ _ _))) (cQ _ _))) (oH _ _ _))) (fun C s H fp pn=>eV) (fun C s H fp pn=>(qaG (.cons (qcD (aL 1)) (.cons (qgQ bN) (.cons (qcD (aL 2)) .nil)))))) ak)))),?_⟩;simp -dsimp[aF,stC,-Bool.exists_bool,-List.map_take,-Prod.forall,-Prod.exists];exact⟨o,v,d,xs,ps,rfl,hw,hd,Ho,fun _ H1 s1=>q _ s1,fun t ns hb2=>by rw[hb] at hb2;cases hb2⟩
def Ri (n:Nat):PyData→Bool
  | .int k=>decide (0≤k) && decide (k<n)
  | _=>false
def Qd (C:Addr):Sp:=fun vs H Q _=>∃(o:Addr) (v:V) (d:PyData) (xs:List Str) (ps:List (Str×Str)),vs=[.ref o,v]∧eU C H o xs ps∧bW H d v∧Q (.bl (Ri ps.length d)) H
theorem Qe (T:Txt K mg a):cT P w K mg base rN 2 a.gk a.qx ["web", "thing"] (Qd a.cJ):=by
  refine T.ux.z9 Ip (fun vs H Q E h=>?_) (fun cdv A outer s H vs Q E hr h=>?_)
  ·obtain⟨o,v,d,xs,ps,rfl,_⟩:=h;rfl
  · obtain⟨o,v,d,xs,ps,rfl,hw,hd,q⟩:=h;refine⟨_,(aG (aZ (vX (PE.eqv (aO (Eu (K:=K) T) (hr.mono (by decide)) rfl T.Cj T.xG.kp T.Ci .nil bD (aj (aL 1) ak)) (aK _ _ _)) (Bk (JQ zA JM aJ (aL 1) (PE.eqv (jW (aL 0) T.uD T.xQ (zp (K:=K) T) (hr.mono (by decide)) T.xH .nil bD) (jX _ _ _ _ _ _))))))),?_⟩;obtain⟨dx,fs,hi,hno⟩:=hw.ins Fq.1 Fq.2;simp -dsimp[aF,stC,-Bool.exists_bool,-List.map_take,-Prod.forall,-Prod.exists];refine⟨d,v,rfl,hd,?_⟩;cases hwh:J_ d with
    | false=>
      rw[show Ri ps.length d=false by cases d <;> first | rfl | cases hwh] at q
      simp -dsimp[aF,stC,-Bool.exists_bool,-List.map_take,-Prod.forall,-Prod.exists];exact q
    | true=>
      obtain⟨k,rfl⟩:∃i,d = .int i:=by cases d <;> first | exact⟨_,rfl⟩ | cases hwh
      simp only[bW] at hd;subst hd;simp only[Ri] at q;simp -dsimp[aF,stC,-Bool.exists_bool,-List.map_take,-Prod.forall,-Prod.exists];refine g8.of (fun h=>?_) (fun h=>?_)
      ·rw[h] at q;simp -dsimp[aF,stC,-Bool.exists_bool,-List.map_take,-Prod.forall,-Prod.exists];exact⟨_,_,hi,hno,o,xs,ps,rfl,hw,q⟩
      ·rw[h] at q;simp -dsimp[aF,stC,-Bool.exists_bool,-List.map_take,-Prod.forall,-Prod.exists];exact q
theorem X7 (val:Nat→Key):∀n,∀i<n,val i∈JC val n
  | 0,i,h=>by omega
  | n+1,i,h=>by
    rw[zZ];unfold DK
    by_cases hm:Ms (JC val n) (val n)=true
    · rw[if_pos hm]
      by_cases hi:i=n
      ·subst hi;exact Mt.mp hm
      ·exact X7 val n i (by omega)
    · rw[if_neg hm]
      by_cases hi:i=n
      ·subst hi;simp
      ·exact List.mem_append_left _ (X7 val n i (by omega))
theorem qc0 (val:Nat→Key):∀n,(JC val n).length=n→∀i j,i<j→j<n→val i≠val j
  | 0,_,i,j,_,h=>by omega
  | n+1,hl,i,j,hij,hj=>by
    rw[zZ] at hl;unfold DK at hl;have le:=W8 val n
    by_cases hm:Ms (JC val n) (val n)=true
    ·rw[if_pos hm] at hl;omega
    · rw[if_neg hm] at hl;simp at hl
      by_cases hjn:j=n
      ·subst hjn;intro e;exact hm (Mt.mpr (e▸X7 val j i hij))
      ·exact qc0 val n hl i j hij (by omega)
theorem qeG (xs:List Int):(JC (fun i=>(keysOf (xs.map V.int))[i]?.getD (Sum.inl 0)) (xs.map V.int).length).length=xs.length↔xs.Nodup:=by
  refine⟨fun h=>?_,qcY⟩;rw[List.length_map] at h;refine List.pairwise_iff_getElem.mpr fun i j hi hj hij e=>?_;refine qc0 _ _ h i j hij hj ?_;rw[G4];simp[hi,hj,e]
def d7:List PyData→List Int
  | []=>[]
  | .int k::ds=>k::d7 ds
  | _::ds=>d7 ds
def nY (n:Nat) (d:PyData):Bool:=Ay d && ((kids d).all (Ri n) && decide (d7 (kids d)).Nodup)
theorem Jr {H:Hp} {n:Nat}:∀{ds:List PyData} {ys:List V},aX H ds ys→ds.all (Ri n)=true→ys=(d7 ds).map V.int∧(∀k∈d7 ds,0≤k∧k<n)∧(d7 ds).length=ds.length
  | [],ys,h,_=>⟨by simpa [aX,d7] using h,by simp[d7],rfl⟩
  | c::ds,ys,h,hl=>by
    rw[List.all_cons,Bool.and_eq_true] at hl;simp only[aX] at h;obtain⟨x,r,rfl,hx,hr⟩:=h;obtain⟨e1,e2,e3⟩:=Jr hr hl.2;cases c with
    | int i=>
      simp only[bW] at hx;subst hx;have hi:0≤i∧i<n:=by simpa [Ri] using hl.1
      refine⟨by simp only[d7,List.map_cons];rw[← e1],fun m hm=>?_,by simp[d7,e3]⟩;simp only[d7] at hm
      rcases List.mem_cons.mp hm with rfl | hm
      ·exact hi
      ·exact e2 m hm
    | _=>exact absurd hl.1 (by simp[Ri])
def Lb (C:Addr):Sp:=fun vs H Q _=>∃(o:Addr) (v:V) (d:PyData) (xs:List Str) (ps:List (Str×Str)),vs=[.ref o,v]∧eU C H o xs ps∧bW H d v∧(kids d).length≤50∧∀H',Same H H'→Q (.bl (nY ps.length d)) H'
theorem Dl (T:Txt K mg a):cT P w K mg base rN 3 a.dW a.j8 ["web", "thing"] (Lb a.cJ):=by
  refine T.jx.z9 Eb (fun vs H Q E h=>?_) (fun cdv A outer s H vs Q E hr h=>?_)
  ·obtain⟨o,v,d,xs,ps,rfl,_⟩:=h;rfl
  · obtain⟨o,v,d,xs,ps,rfl,hw,hd,l50,q⟩:=h;refine⟨_,(aC (cO (PW.pt (jR (dM (cB (PE.eqv (aO (zq (K:=K) T) (hr.mono (by decide)) rfl T.mJ T.iB.kp T.mH .nil bD (aj (aL 1) ak)) (aK _ _ _)))) (iM (dM (cB (aQ (pO rfl) rfl T.nm.all pK (aj (fL rfl rfl (show bL (ao dG) _ ["web", "thing"] ["one"] [0] ["one", "web"] from⟨rfl,by decide+kernel,by decide+kernel,rfl,by decide+kernel,by decide+kernel⟩) rfl (PI.eqv (tU (K:=K) rfl (aL 1)) (nR _ _)) (fun C s H fp pn=>(bG (i:=0) (show(["one", "web"]:List Str).Nodup by decide+kernel) rfl (Or.inl rfl))) (fun C s H fp pn=>eV) (fun C s H fp pn=>(PE.eqv (aO (Qe (K:=K) T) (hr.mono (by decide)) rfl T.Ed T.ux.kp T.Ec .nil bD (aj (aL 1) (aj (aL 0) ak))) (aK _ _ _)))) ak))))))) (aG (aZ dX)) bC)
      (aG (aZ (iQ jA (aQ Fg rfl T.nm.len PySem.boot_len (aj (eG (Fe rfl) rfl T.nm.set Fd (aj (aL 1) ak)) ak)) (aQ (cN (K:=K) rfl) rfl T.nm.len PySem.boot_len (aj (aL 1) ak)) (bZ _))))),?_⟩
    have h60:60<sizeLine:=by decide
    simp -dsimp[aF,stC,-Bool.exists_bool,-List.map_take,-Prod.forall,-Prod.exists];refine⟨d,v,rfl,hd,fun H1 s1=>?_⟩;cases hs:Ay d with
    | false=>
      simp -dsimp[aF,stC,-Bool.exists_bool,-List.map_take,-Prod.forall,-Prod.exists];have e:nY ps.length d=false:=by unfold nY;rw[hs];rfl
      rw[e] at q;exact q _ s1
    | true=>
      obtain⟨t,ys,rfl,hq,hall⟩:=G3 hd hs;have hq1:=hq.same s1;have hlen:=hall.length;obtain⟨b,hb⟩:=hq1.b;simp -dsimp[aF,stC,-Bool.exists_bool,-List.map_take,-Prod.forall,-Prod.exists];refine⟨b,⟨_,hb K H1 (Same.refl _)⟩,fun D hD=>cmQ ys (fun i σ H'=>(∃o',σ=[o',some (.ref o)])∧H' D=some (.lst ((((kids d).take i).map (Ri ps.length)).map V.bl))∧Same H1 H') ⟨⟨none,rfl⟩,aA,aB hD⟩ (fun i σ H' _ h=>hb K H' h.2.2) ?_ ?_⟩
      ·rintro i x σ H2 hi ⟨⟨o',rfl⟩,hD2,s2⟩;have hi2:i<ys.length:=(List.getElem?_eq_some_iff.mp hi).1;obtain⟨c,hc,hx⟩:=hall.at hi;simp -dsimp[aF,stC,-Bool.exists_bool,-List.map_take,-Prod.forall,-Prod.exists];refine⟨o,x,c,xs,ps,rfl,hw.same (s1.trans s2),bW.same (s1.trans s2) c x hx,?_⟩;simp -dsimp[aF,stC,-Bool.exists_bool,-List.map_take,-Prod.forall,-Prod.exists];refine⟨_,hD2,by rw[List.length_map,List.length_map,List.length_take];omega,?_,cU s2 hD⟩;rw[aA,List.take_add_one,hc];simp
      · rintro σ H2 ⟨⟨o',rfl⟩,hD2,s2⟩;simp -dsimp[aF,stC,-Bool.exists_bool,-List.map_take,-Prod.forall,-Prod.exists];refine⟨_,hD2,_,rT _,?_⟩;have e:(((kids d).take ys.length).map (Ri ps.length)).all id=(kids d).all (Ri ps.length):=by
          rw[← hlen,List.take_length,List.all_map];rfl
        rw[e];cases ha:(kids d).all (Ri ps.length) with
        | false=>
          simp -dsimp[aF,stC,-Bool.exists_bool,-List.map_take,-Prod.forall,-Prod.exists];have e:nY ps.length d=false:=by unfold nY;rw[ha];simp
          rw[e] at q;exact q _ (s1.trans s2)
        | true=>
          obtain⟨rfl,e2,e3⟩:=Jr hall ha;have ZD:=hq1.same s2;simp -dsimp[aF,stC,-Bool.exists_bool,-List.map_take,-Prod.forall,-Prod.exists];refine⟨_,ZD.q,by simp[isKey],by rw[List.length_map,e3];unfold scanBound;omega,fun t3 ht3=>⟨_,aA,_,(ZD.same (aB ht3)).q,?_⟩⟩;have e:nY ps.length d=decide (d7 (kids d)).Nodup:=by unfold nY;rw[hs,ha];rfl
          rw[e] at q;generalize d7 (kids d)=c at e3 q ZD ⊢;rw[show decide _=decide c.Nodup from ?_]
          ·exact q _ (s1.trans (s2.trans (aB ht3)))
          ·rw[decide_eq_decide,List.length_map,← qeG c];simp;exact Int.ofNat_inj
theorem qeH {k:Nat} {f:Addr} {fd:FuncData} {ps:List Str} {sp:Sp} (F:cT P w K mg base rN k f fd ps sp):cT P w K mg base (Pz P w) k f fd ps sp:=
  ⟨F.len,fun A outer s H args us vs Q E hr h0 hb hv h=>codeAny_mono (F.run A outer s H args us vs Q E hr h0 hb hv h) fun r s' q=>by
    cases r with
    | ok fl=>cases fl <;> exact q
    | error e=>exact False.elim q⟩
def X8 (C N M:Addr):Sp:=fun vs H Q E=>∃(o:Addr) (v u:V) (d e:PyData) (xs:List Str) (ps:List (Str×Str)),vs=[.ref o,v,u]∧eU C H o xs ps∧bW H d v∧bW H e u∧(kids e).length≤50∧ps.length≤20∧(vM ps.length d && nY ps.length e)=false∧
  ∀H',Same H H'→(vM ps.length d=false→E (.ref N) none H')∧(vM ps.length d=true→nY ps.length e=false→E (.ref M) none H')
theorem X_ (T:Txt K mg a):cT P w K mg base (Pz P w) 5 a.j9 a.wL ["web", "pointing", "numbers"] (X8 a.cJ a.aq a.au):=by
  refine T.Jc.PB Q5 (fun vs H Q E h=>?_) (fun cdv A outer s H vs Q E hr h=>?_)
  ·obtain⟨o,v,u,d,e,xs,ps,rfl,_⟩:=h;rfl
  · obtain⟨o,v,u,d,e,xs,ps,rfl,hw,hd,he,l50,ZJ,hne,q⟩:=h;refine⟨_,(aC (jT (PE.eqv (aO (uN (K:=K) T) (hr.mono (by decide)) rfl T.jl T.eN.kp T.jk .nil (fM.passes rfl) (aj (aL 0) (aj (aL 1) ak))) (aK _ _ _)))
      (aC (cO (dM (cB (PE.eqv (aO (Dl (K:=K) T) (hr.mono (by decide)) rfl T.uf T.jx.kp T.ud .nil bD (aj (aL 0) (aj (aL 2) ak))) (aK _ _ _)))) (aG (Ia (E:=E) fM rfl rfl T.kj rfl T.pP (aj bN ak))) bC)
      (aG (aZ (fL rfl rfl (show bL (ao jZ) _ ["web", "pointing", "numbers"] ["number", "lead"] [2] ["number", "lead", "numbers"] from⟨rfl,by decide+kernel,by decide+kernel,rfl,by decide+kernel,by decide+kernel⟩) rfl (Vu (K:=K) rfl rfl T.nm2.enumerate (aj (aL 1) ak)) (fun C s H fp pn=>(PG.eqv (oA (K:=K) (n:=2) rfl rfl (vN.eqv (cP (bG (i:=0) (show(["number", "lead", "numbers"]:List Str).Nodup by decide+kernel) rfl (Or.inl rfl)) (vN.eqv (cP (bG (i:=1) (show(["number", "lead", "numbers"]:List Str).Nodup by decide+kernel) rfl (Or.inl rfl)) (vN.mono ou uU)) (cQ _ _))) (cQ _ _))) (oH _ _ _))) (fun C s H fp pn=>eV) (fun C s H fp pn=>(Hr (bx (qaz (K:=K) rfl) (aL 0) (aL 2) rfl) (bQ vW aJ (aL 1)) (aL 1)))))))),?_⟩
    simp -dsimp[aF,stC,-Bool.exists_bool,-List.map_take,-Prod.forall,-Prod.exists];refine⟨o,v,d,xs,ps,rfl,hw,hd,ZJ,fun H1 s1=>⟨fun hb=>?_,fun hb=>(q _ s1).1 hb⟩⟩;rw[hb,Bool.true_and] at hne;simp -dsimp[aF,stC,-Bool.exists_bool,-List.map_take,-Prod.forall,-Prod.exists];refine⟨o,u,e,xs,ps,rfl,hw.same s1,bW.same s1 e u he,l50,fun H2 s2=>?_⟩;rw[hne];simp -dsimp[aF,stC,-Bool.exists_bool,-List.map_take,-Prod.forall,-Prod.exists];exact(q _ (s1.trans s2)).2 hb hne
def Yb (C N M:Addr):Sp:=fun vs H Q E=>∃(o:Addr) (v u:V) (d e:PyData) (xs:List Str) (ps:List (Str×Str)),vs=[.ref o,v,u]∧eU C H o xs ps∧bW H d v∧bW H e u∧(kids e).length≤20∧ps.length≤20∧
  ∀H',Same H H'→(vM ps.length d=false→E (.ref N) none H')∧(vM ps.length d=true→nY ps.length e=false→E (.ref M) none H')∧(vM ps.length d=true→nY ps.length e=true→∀z,Q z H')
theorem Yc (T:Txt K mg a):cT P w K mg base (Pz P w) 5 a.j9 a.wL ["web", "pointing", "numbers"] (Yb a.cJ a.aq a.au):=by
  refine((qeH (qaT T)).or (X_ T)).imp fun vs H Q E h=>?_;obtain⟨o,v,u,d,e,xs,ps,rfl,hw,hd,he,l50,ZJ,q⟩:=h;cases hb:(vM ps.length d && nY ps.length e) with
  | false=>exact .inr ⟨o,v,u,d,e,xs,ps,rfl,hw,hd,he,by omega,ZJ,hb,fun H' s'=>⟨(q H' s').1,(q H' s').2.1⟩⟩
  | true=>
    rw[Bool.and_eq_true] at hb;obtain⟨h1,h2⟩:=hb;obtain⟨t,ns,rfl,ht,h01,hl⟩:=ZK hd h1;have h2':=h2;unfold nY at h2';rw[Bool.and_eq_true,Bool.and_eq_true] at h2';obtain⟨g1,g2,g3⟩:=h2';obtain⟨t2,ys,rfl,hq,hall⟩:=G3 he g1;obtain⟨rfl,e2,e3⟩:=Jr hall g2;exact .inl ⟨o,t,t2,xs,ps,ns,_,rfl,⟨hw,ht,h01,hl,ZJ⟩,hq,⟨e2,of_decide_eq_true g3,by rw[e3];exact l50⟩,fun r H' _ _ s'=>(q H' s').2.2 h1 h2 _⟩
def Qf (ps:List (Str×Str)):Str→List Int→List Str
  | _,[]=>[]
  | x,k::ks=>match ps[k.toNat]? with
    | some e=>if x=e.1 then e.2::Qf ps e.2 ks else if x=e.2 then e.1::Qf ps e.1 ks else []
    | none=>[]
theorem qc1 {ps:List (Str×Str)} {k:Int} {e:Str×Str} (he:ps[k.toNat]? = some e) (x:Str) (ks:List Int):Qf ps x (k::ks)=if x=e.1 then e.2::Qf ps e.2 ks else if x=e.2 then e.1::Qf ps e.1 ks else []:=by
  show(match ps[k.toNat]? with
    | some e=>if x=e.1 then e.2::Qf ps e.2 ks else if x=e.2 then e.1::Qf ps e.1 ks else []
    | none=>[])=_
  rw[he]
def Ld (C:Addr):Sp:=fun vs H Q _=>∃(o t:Addr) (x:Str) (xs:List Str) (ps:List (Str×Str)) (ks:List Int),vs=[.ref o,.str x,.ref t]∧eU C H o xs ps∧Sq H t (ks.map V.int)∧(∀k∈ks,0≤k∧k<ps.length)∧ks.length≤20∧ps.length≤20∧
  ∀r H',H r=none→H' r=some (.lst ((Qf ps x ks).map V.str))→Same H H'→Q (.ref r) H'
theorem Dm (T:Txt K mg a):cT P w K mg base rN 2 a.dZ a.oJ ["web", "start", "numbers"] (Ld a.cJ):=by
  refine T.qF.z9 eE (fun vs H Q E h=>?_) (fun cdv A outer s H vs Q E hr h=>?_)
  ·obtain⟨o,t,x,xs,ps,ks,rfl,_⟩:=h;rfl
  · obtain⟨o,t,x,xs,ps,ks,rfl,hw,ht,hk,ZJ,Ho,q⟩:=h;refine⟨_,(aC (bO (i:=3) eE.nd rfl (Or.inl rfl) (PE.eqv (jW (aL 0) T.uD T.GR (K3 (K:=K) T) (hr.mono (by decide)) T.GF .nil bD) (jX _ _ _ _ _ _)))
      (aC (bO (i:=4) eE.nd rfl (Or.inl rfl) (bB ak))
      (aC (bO (i:=5) eE.nd rfl (Or.inl rfl) (aL 1))
      (aC (zx PassesOwn.never rfl (PI.eqv (tU (K:=K) rfl (aL 2)) (nR _ _)) (bG (i:=6) eE.nd rfl (Or.inl rfl))
      (aC (Mh (cX (dB (K:=K) rfl) (aL 3) (aL 6) (fun _ _=>rfl)) (PG.eqv (oA (K:=K) (n:=2) rfl rfl (vN.eqv (cP (bG (i:=7) eE.nd rfl (Or.inl rfl)) (vN.eqv (cP (bG (i:=8) eE.nd rfl (Or.inl rfl)) (vN.mono ou uU)) (cQ _ _))) (cQ _ _))) (oH _ _ _)))
      (aC (cO (PW.pt (qa3 (bx ig (aL 5) (aL 7) (bZ _)) (YF (bx ig (aL 5) (aL 8) (bZ _))))) (aG (aZ (aL 4))) bC)
      (aC (bO (i:=5) eE.nd rfl (Or.inl rfl) (Hr (bx jA (aL 5) (aL 7) (bZ _)) (aL 8) (aL 7)))
      (aG (jT (jz (K:=K) rfl PySem.F.plainAttrs_list PySem.F.slot_list_append PySem.F.type_list_append rY (aL 4) (aj (aL 5) ak))))))))
      (aG (aZ (aL 4))))))),?_⟩
    have h60:60<sizeLine:=by decide
    obtain⟨dx,fs,hi,hno⟩:=hw.ins LR.1 LR.2;simp -dsimp[aF,stC,-Bool.exists_bool,-List.map_take,-Prod.forall,-Prod.exists];refine⟨_,_,hi,hno,o,xs,ps,rfl,hw,fun l2 tv hl2 htv=>?_⟩;have s2:Same H (upd H l2 (.lst tv)):=aB hl2;have e2:upd H l2 (.lst tv) l2=some (.lst tv):=aA;have qcV:=cM.same htv s2;generalize upd H l2 (.lst tv)=H2 at s2 e2 qcV ⊢;simp -dsimp[aF,stC,-Bool.exists_bool,-List.map_take,-Prod.forall,-Prod.exists];intro p hp;have s3:Same H2 (upd H2 p (.lst [])):=aB hp;obtain⟨b,hb⟩:=(ht.same s2).b;refine⟨b,⟨_,hb K _ s3⟩,frQ (ks.map V.int) (fun i σ H'=>(∃y o1 o2 o3 acc,σ=[some (.ref o),some (.str x),some (.ref t),some (.ref l2),some (.ref p),some (.str y),o1,o2,o3]∧H' p=some (.lst (acc.map V.str))∧acc.length=i∧Qf ps x ks=acc++Qf ps y (ks.drop i))∧Same H2 H') ⟨⟨x,none,none,none,[],rfl,aA,rfl,rfl⟩,s3⟩ (fun i σ H' _ h=>?_) ?_ ?_⟩
    ·exact hb K H' h.2
    · rintro i z σ H4 hi' ⟨⟨y,o1,o2,o3,acc,rfl,hp4,hla,hpa⟩,s4⟩;obtain⟨k,hki,rfl⟩:=Jm hi';have hi2:i<ks.length:=(List.getElem?_eq_some_iff.mp hki).1;obtain⟨hk0,hk1⟩:=hk k (List.mem_of_getElem? hki);have hkl:k.toNat<tv.length:=by rw[qcV.1];omega
      have hv:tv[k.toNat]? = some tv[k.toNat]:=List.getElem?_eq_getElem hkl;obtain⟨e,he,tt,ev,htt⟩:=qcV.at hv;rw[ev] at hv;have hat:Lh tv k=some (.ref tt):=by
        rw[show k=((k.toNat:Nat):Int) by omega];exact dj hv
      have hdr:ks.drop i=k::ks.drop (i+1):=(List.drop_eq_getElem_cons hi2).trans (by rw[(List.getElem?_eq_some_iff.mp hki).2]);rw[hdr,qc1 he] at hpa;simp -dsimp[aF,stC,-Bool.exists_bool,-List.map_take,-Prod.forall,-Prod.exists];refine⟨_,.inl (cj.of (s4 _ _ e2)),_,hat,?_⟩;simp -dsimp[aF,stC,-Bool.exists_bool,-List.map_take,-Prod.forall,-Prod.exists];refine⟨_,lR.of (s4 _ _ htt),rfl,?_⟩;simp -dsimp[aF,stC,-Bool.exists_bool,-List.map_take,-Prod.forall,-Prod.exists];have hsz:(acc.map V.str).length<sizeLine:=by rw[List.length_map];omega
      have qjM:∀g:Str,(acc++[g]).length=i+1:=fun g=>by rw[List.length_append,hla];rfl
      by_cases h1:y=e.1
      · rw[if_pos h1] at hpa;refine⟨false,by simp[h1],g8.neg rfl ?_⟩;simp -dsimp[aF,stC,-Bool.exists_bool,-List.map_take,-Prod.forall,-Prod.exists];refine g8.pos (decide_eq_true h1) ?_;simp -dsimp[aF,stC,-Bool.exists_bool,-List.map_take,-Prod.forall,-Prod.exists];refine⟨⟨_,cj.of hp4⟩,_,hp4,hsz,⟨acc++[e.2],?_,qjM _,?_⟩,cU s4 hp⟩
        ·rw[aA,List.map_append];rfl
        ·rw[hpa];simp
      · rw[if_neg h1] at hpa;refine⟨true,by simp[h1],g8.pos rfl ?_⟩;simp -dsimp[aF,stC,-Bool.exists_bool,-List.map_take,-Prod.forall,-Prod.exists]
        by_cases h2:y=e.2
        · rw[if_pos h2] at hpa;refine⟨false,by simp[h2],g8.neg rfl ?_⟩;simp -dsimp[aF,stC,-Bool.exists_bool,-List.map_take,-Prod.forall,-Prod.exists];refine g8.neg (decide_eq_false h1) ?_;simp -dsimp[aF,stC,-Bool.exists_bool,-List.map_take,-Prod.forall,-Prod.exists];refine⟨⟨_,cj.of hp4⟩,_,hp4,hsz,⟨acc++[e.1],?_,qjM _,?_⟩,cU s4 hp⟩
          ·rw[aA,List.map_append];rfl
          ·rw[hpa];simp
        ·rw[if_neg h2,List.append_nil] at hpa;refine⟨true,by simp[h2],g8.pos rfl ?_⟩;simp -dsimp[aF,stC,-Bool.exists_bool,-List.map_take,-Prod.forall,-Prod.exists];rw[← hpa] at hp4;exact q p H4 (nP s2 hp) hp4 (s2.trans s4)
    ·rintro σ H4 ⟨⟨y,o1,o2,o3,acc,rfl,hp4,hla,hpa⟩,s4⟩;simp -dsimp[aF,stC,-Bool.exists_bool,-List.map_take,-Prod.forall,-Prod.exists];rw[List.length_map,List.drop_length,Qf,List.append_nil] at hpa;rw[← hpa] at hp4;exact q p H4 (nP s2 hp) hp4 (s2.trans s4)
theorem qeI {l:List Str} {y:Str} (h:l.getLast? = some y):Lh (l.map V.str) (-1)=some (.str y):=by
  have hl:0<l.length:=by
    cases l with
    | nil=>cases h
    | cons=>exact Nat.succ_pos _
  unfold Lh ixN;rw[if_neg (by decide),List.length_map,if_pos (by omega)];show(l.map V.str)[((l.length:Int) + -1).toNat]? = _;rw[show((l.length:Int) + -1).toNat=l.length - 1 by omega,List.getElem?_map,← List.getLast?_eq_getElem?,h];rfl
theorem qhh {ks:List Int} (h:ks.Nodup) (hk:∀k∈ks,0≤k∧k<(20:Nat)):ks.length≤20:=by
  have h1:=L2.wJ (xs:=(List.range 20).map fun n:Nat=>(n:Int)) h fun k hm=>by
    have:=hk k hm;exact List.mem_map.mpr ⟨k.toNat,List.mem_range.mpr (by omega),by omega⟩
  simpa using h1
inductive qL (x0:Str) (ps:List (Str×Str)):PyData→Prop
  | no {c}:Ay c=false→qL x0 ps c
  | len {c}:(kids c).length≠2→qL x0 ps c
  | st {s n}:Ow s=false→gW s→qL x0 ps (.tuple [s,n])
  | nr {n}:nY ps.length n=false→qL x0 ps (.tuple [.str x0,n])
  | nil {n}:kids n=[]→qL x0 ps (.tuple [.str x0,n])
  | pts {n}:nY ps.length n=true→kids n≠[]→((Qf ps x0 (d7 (kids n))).length<(d7 (kids n)).length∨(Qf ps x0 (d7 (kids n))).getLast?≠some x0)→qL x0 ps (.tuple [.str x0,n])
def Yd (C:Addr):Sp:=fun vs H Q _=>∃(o m g:Addr) (v:V) (c:PyData) (x0:Str) (xs:List Str) (ps:List (Str×Str)),vs=[.ref o,v,.ref m,.ref g]∧eU C H o xs ps∧nameB x0=true∧ps.length≤20∧bW H c v∧(∀n∈kids c,(kids n).length≤50)∧
  H m=some (.lst [.str x0])∧H g=some (.lst [])∧qL x0 ps c∧∀H',Same H H'→Q (.bl false) H'
theorem Ye (T:Txt K mg a):cT P w K mg base rN 4 a.qC a.Fo ["web", "thing", "met", "gone"] (Yd a.cJ):=by
  refine T.Ob.z9 z_ (fun vs H Q E h=>?_) (fun cdv A outer s H vs Q E hr h=>?_)
  ·obtain⟨o,m,g,v,c,x0,xs,ps,rfl,_⟩:=h;rfl
  · obtain⟨o,m,g,v,c,x0,xs,ps,rfl,hw,hn0,Ho,hc,hk,hm,hg,hbad,q⟩:=h;refine⟨_,(aC (cO (PW.pt (jR (dM (cB (PE.eqv (aO (zq (K:=K) T) (hr.mono (by decide)) rfl T.mJ T.iB.kp T.mH .nil bD (aj (aL 1) ak)) (aK _ _ _)))) (iM (bx ig (aQ (cN (K:=K) rfl) rfl T.nm.len PySem.boot_len (aj (aL 1) ak)) aJ (bZ _))))) (aG (aZ dX)) bC)
      (aC (Mh (aL 1) (PG.eqv (oA (K:=K) (n:=2) rfl rfl (vN.eqv (cP (bG (i:=4) z_.nd rfl (Or.inl rfl)) (vN.eqv (cP (bG (i:=5) z_.nd rfl (Or.inl rfl)) (vN.mono ou uU)) (cQ _ _))) (cQ _ _))) (oH _ _ _)))
      (aC (cO (PW.pt (jR (dM (cB (PE.eqv (aO (K5 (K:=K) T) (hr.mono (by decide)) rfl T.Ab T.sy.kp T.Aa .nil bD (aj (aL 4) ak)) (aK _ _ _)))) (iM (bx (Lq (K:=K) rfl) (aL 4) (aL 2) rfl)))) (aG (aZ dX)) bC)
      (aC (cO (PW.pt (jR (dM (cB (PE.eqv (aO (Dl (K:=K) T) (hr.mono (by decide)) rfl T.uf T.jx.kp T.ud .nil bD (aj (aL 0) (aj (aL 5) ak))) (aK _ _ _)))) (jR (bx jA (aQ (cN (K:=K) rfl) rfl T.nm.len PySem.boot_len (aj (aL 5) ak)) aJ (bZ _)) (iM (cB (aQ (QJ rfl) rfl T.nm2.any Qx (aj (fL rfl rfl (show bL (ao j4) _ ["web", "thing", "met", "gone", "start", "numbers", "points", "between"] ["number"] [3] ["number", "gone"] from⟨rfl,by decide+kernel,by decide+kernel,rfl,by decide+kernel,by decide+kernel⟩) rfl (PI.eqv (tU (K:=K) rfl (aL 5)) (nR _ _)) (fun C s H fp pn=>(bG (i:=0) (show(["number", "gone"]:List Str).Nodup by decide+kernel) rfl (Or.inl rfl))) (fun C s H fp pn=>eV) (fun C s H fp pn=>(iQ (qaz (K:=K) rfl) (aL 0) (aL 1) rfl))) ak))))))) (aG (aZ dX)) bC)
      (aC (bO (i:=6) z_.nd rfl (Or.inl rfl) (PE.eqv (aO (Dm (K:=K) T) (hr.mono (by decide)) rfl T.xK T.qF.kp T.xJ .nil bD (aj (aL 0) (aj (aL 4) (aj (aL 5) ak)))) (aK _ _ _)))
      (aC (cO (PW.pt (jR (bx JM (aQ (cN (K:=K) rfl) rfl T.nm.len PySem.boot_len (aj (aL 6) ak)) (aQ (cN (K:=K) rfl) rfl T.nm.len PySem.boot_len (aj (aL 5) ak)) (bZ _)) (iM (bx (Lq (K:=K) rfl) (cX (dB (K:=K) rfl) (aL 6) (Qm Fi aJ) (fun _ _=>rfl)) (aL 2) rfl)))) (aG (aZ dX)) bC)
      (aC (bO (i:=7) z_.nd rfl (Or.inl rfl) (qe (KN (K:=K) rfl) (aL 6) vP (PO.eqv (vQ (Qm Fi aJ)) (qj _))))
      (aG (aZ (vX (iQ jA (aQ Fg rfl T.nm.len PySem.boot_len (aj (eG (Fe rfl) rfl T.nm.set Fd (aj (aL 7) ak)) ak)) (aQ (cN (K:=K) rfl) rfl T.nm.len PySem.boot_len (aj (aL 7) ak)) (bZ _)) (Bk (Zc (aQ (QJ rfl) rfl T.nm2.any Qx (aj (fL rfl rfl (show bL (ao j4) _ ["web", "thing", "met", "gone", "start", "numbers", "points", "between"] ["point"] [2] ["point", "met"] from⟨rfl,by decide+kernel,by decide+kernel,rfl,by decide+kernel,by decide+kernel⟩) rfl (PI.eqv (nO (K:=K) rfl (aL 7)) (ju _ _)) (fun C s H fp pn=>(bG (i:=0) (show(["point", "met"]:List Str).Nodup by decide+kernel) rfl (Or.inl rfl))) (fun C s H fp pn=>eV) (fun C s H fp pn=>(iQ (qaz (K:=K) rfl) (aL 0) (aL 1) rfl))) ak)))))))))))))),?_⟩
    have h60:60<sizeLine:=by decide
    simp -dsimp[aF,stC,-Bool.exists_bool,-List.map_take,-Prod.forall,-Prod.exists];refine⟨c,v,rfl,hc,fun H1 s1=>?_⟩;cases hs:Ay c with
    | false=>
      simp -dsimp[aF,stC,-Bool.exists_bool,-List.map_take,-Prod.forall,-Prod.exists];exact q _ s1
    | true=>
      obtain⟨t,ys,rfl,hq,hall⟩:=G3 hc hs;have hlen:=hall.length;simp -dsimp[aF,stC,-Bool.exists_bool,-List.map_take,-Prod.forall,-Prod.exists];refine⟨_,(hq.same s1).q,?_⟩
      by_cases h2:ys.length=2
      · refine⟨false,by simp[h2],g8.neg rfl ?_⟩;have key:∀s n,c = .tuple [s,n]→∃vs vn,H t=some (.tup [vs,vn])∧bW H s vs∧bW H n vn:=by
          rintro s n rfl;simp only[bW] at hc;obtain⟨a',zs,ev,g1,g2⟩:=hc;cases ev;simp only[aX] at g2;obtain⟨vs,r,rfl,e1,vn,r2,rfl,e2,rfl⟩:=g2;exact⟨vs,vn,g1,e1,e2⟩
        simp -dsimp[aF,stC,-Bool.exists_bool,-List.map_take,-Prod.forall,-Prod.exists];have hb2:(∃sd n,c = .tuple [sd,n]∧Ow sd=false∧gW sd)∨∃n,c = .tuple [.str x0,n]∧(nY ps.length n=true→kids n≠[]→(Qf ps x0 (d7 (kids n))).length<(d7 (kids n)).length∨(Qf ps x0 (d7 (kids n))).getLast?≠some x0):=by
          cases hbad with
          | no h=>rw[hs] at h;cases h
          | len h=>exact absurd (by omega) h
          | st h hsh=>exact .inl ⟨_,_,rfl,h,hsh⟩
          | nr h=>exact .inr ⟨_,rfl,fun h'=>by rw[h] at h';cases h'⟩
          | nil h=>exact .inr ⟨_,rfl,fun _ h'=>absurd h h'⟩
          | pts _ _ h=>exact .inr ⟨_,rfl,fun _ _=>h⟩
        rcases hb2 with⟨sd,n,ec,h,hsh⟩ | ⟨n,ec,hb⟩
        ·obtain⟨vs,vn,g1,g2,g3⟩:=key _ _ ec;refine⟨_,lR.of (s1 _ _ g1),rfl,?_⟩;simp -dsimp[aF,stC,-Bool.exists_bool,-List.map_take,-Prod.forall,-Prod.exists];refine⟨sd,vs,rfl,bW.same s1 sd vs g2,hsh,fun H2 s2=>?_⟩;rw[h];simp -dsimp[aF,stC,-Bool.exists_bool,-List.map_take,-Prod.forall,-Prod.exists];exact q _ (s1.trans s2)
        · obtain⟨vs,vn,g1,g2,g3⟩:=key _ _ ec;have l50:(kids n).length≤50:=hk n (by rw[ec];simp[kids]);simp only[bW] at g2;subst g2;refine⟨_,lR.of (s1 _ _ g1),rfl,?_⟩;simp -dsimp[aF,stC,-Bool.exists_bool,-List.map_take,-Prod.forall,-Prod.exists];refine⟨.str x0,_,rfl,by simp[bW],fun x e=>by cases e;exact GZ hn0,fun H2 s2=>?_⟩;rw[show Ow (.str x0)=true from hn0];have s12:=s1.trans s2;simp -dsimp[aF,stC,-Bool.exists_bool,-List.map_take,-Prod.forall,-Prod.exists];refine⟨_,.inl (cj.of (s12 _ _ hm)),rfl,by simp[nJ],false,by simp[inV,WX],g8.neg rfl ?_⟩;simp -dsimp[aF,stC,-Bool.exists_bool,-List.map_take,-Prod.forall,-Prod.exists];refine⟨o,vn,n,xs,ps,rfl,hw.same s12,bW.same s12 n vn g3,l50,fun H3 s3=>?_⟩;have La:=s12.trans s3;cases hnr:nY ps.length n with
          | false=>
            simp -dsimp[aF,stC,-Bool.exists_bool,-List.map_take,-Prod.forall,-Prod.exists];exact q _ La
          | true=>
            have hb':=hb hnr;have qhi:=hnr;unfold nY at qhi;rw[Bool.and_eq_true,Bool.and_eq_true] at qhi;obtain⟨k1,k2,k3⟩:=qhi;obtain⟨t2,zs,rfl,hq2,hall2⟩:=G3 g3 k1;obtain⟨rfl,e2,e3⟩:=Jr hall2 k2;have hnd:(d7 (kids n)).Nodup:=of_decide_eq_true k3;generalize hks:d7 (kids n)=ks at hq2 e2 e3 hb' hall2 hnd;simp -dsimp[aF,stC,-Bool.exists_bool,-List.map_take,-Prod.forall,-Prod.exists];refine⟨_,(hq2.same La).q,?_⟩
            by_cases hk0:ks=[]
            ·refine g8.pos (decide_eq_true (by rw[hk0];rfl)) ?_;simp -dsimp[aF,stC,-Bool.exists_bool,-List.map_take,-Prod.forall,-Prod.exists];exact q _ La
            refine g8.neg (decide_eq_false (fun z=>hk0 (List.map_eq_nil_iff.mp z))) ?_;have hb3:=hb' (fun z=>hk0 (by rw[← hks,z];rfl));obtain⟨b,hbb⟩:=(hq2.same La).b;simp -dsimp[aF,stC,-Bool.exists_bool,-List.map_take,-Prod.forall,-Prod.exists];refine⟨b,⟨_,hbb K H3 (Same.refl _)⟩,fun D hD=>cmQ (ks.map V.int) (fun i σ H'=>(∃o',σ=[o',some (.ref g)])∧H' D=some (.lst ((List.replicate i false).map V.bl))∧Same H3 H') ⟨⟨none,rfl⟩,aA,aB hD⟩ (fun i σ H' _ h=>hbb K H' h.2.2) ?_ ?_⟩
            ·rintro i z σ H4 hi ⟨⟨o',rfl⟩,Rg,s4⟩;obtain⟨k,hki,rfl⟩:=Jm hi;have hi2:i<ks.length:=(List.getElem?_eq_some_iff.mp hki).1;simp -dsimp[aF,stC,-Bool.exists_bool,-List.map_take,-Prod.forall,-Prod.exists];refine⟨_,.inl (cj.of (s4 _ _ (La _ _ hg))),rfl,by simp,?_⟩;refine⟨_,Rg,by rw[List.length_map,List.length_replicate];omega,?_,cU s4 hD⟩;rw[aA,List.replicate_succ',List.map_replicate];rfl
            · rintro σ H4 ⟨⟨o',rfl⟩,Rg,s4⟩;simp -dsimp[aF,stC,-Bool.exists_bool,-List.map_take,-Prod.forall,-Prod.exists];refine⟨_,Rg,_,rT _,?_⟩;rw[show(List.replicate (ks.map V.int).length false).any id=false by simp];have s14:=La.trans s4;simp -dsimp[aF,stC,-Bool.exists_bool,-List.map_take,-Prod.forall,-Prod.exists];refine⟨o,t2,x0,xs,ps,ks,rfl,hw.same s14,hq2.same s14,e2,?_,Ho,fun r H5 hr0 hr5 s5=>?_⟩
              ·exact qhh hnd (fun k hk=>by have:=e2 k hk;exact⟨this.1,Int.lt_of_lt_of_le this.2 (Int.ofNat_le.mpr Ho)⟩)
              · have Wu:=s14.trans s5;simp -dsimp[aF,stC,-Bool.exists_bool,-List.map_take,-Prod.forall,-Prod.exists];refine⟨_,.inl (cj.of hr5),_,(hq2.same Wu).q,?_⟩
                by_cases hlt:(Qf ps x0 ks).length<ks.length
                ·refine g8.pos (decide_eq_true (by rw[List.length_map,List.length_map];exact hlt)) ?_;simp -dsimp[aF,stC,-Bool.exists_bool,-List.map_take,-Prod.forall,-Prod.exists];exact q _ Wu
                · refine g8.neg (decide_eq_false (by rw[List.length_map,List.length_map];exact hlt)) ?_;have qjN:=hb3.resolve_left hlt;have hkl:0<ks.length:=List.length_pos_iff.mpr hk0;obtain⟨y,hy⟩:∃y,(Qf ps x0 ks).getLast? = some y:=by
                    cases hp0:(Qf ps x0 ks).getLast? with
                    | none=>rw[List.getLast?_eq_none_iff] at hp0;rw[hp0] at hlt;exact absurd hkl hlt
                    | some y=>exact⟨y,rfl⟩
                  have hne:y≠x0:=fun z=>qjN (by rw[hy,z]);simp -dsimp[aF,stC,-Bool.exists_bool,-List.map_take,-Prod.forall,-Prod.exists];refine⟨_,.inl (cj.of hr5),.str y,qeI hy,_,.inl (cj.of (Wu _ _ hm)),rfl,by simp[nJ],true,by simp[inV,WX,Ne.symm hne],g8.pos rfl ?_⟩;simp -dsimp[aF,stC,-Bool.exists_bool,-List.map_take,-Prod.forall,-Prod.exists];exact q _ Wu
      ·refine⟨true,by simp;exact fun z=>h2 (by omega),g8.pos rfl ?_⟩;simp -dsimp[aF,stC,-Bool.exists_bool,-List.map_take,-Prod.forall,-Prod.exists];exact q _ s1
structure Ox (xs:List Str) (ps:List (Str×Str)) (d:PyData):Prop where
  nil:Ay d=true→kids d=[]→2≤xs.length
  one:Ay d=true→∀c cs,kids d=c::cs→∀x0 r,xs=x0::r→qL x0 ps c
  few:(kids d).length≤50
  kid:∀c∈kids d,∀n∈kids c,(kids n).length≤50
def Oz (C:Addr):Sp:=fun vs H Q _=>∃(o:Addr) (v:V) (d:PyData) (xs:List Str) (ps:List (Str×Str)),vs=[.ref o,v]∧eU C H o xs ps∧Uq xs∧ps.length≤20∧bW H d v∧Ox xs ps d∧∀H',Same H H'→Q (.bl false) H'
theorem OD (T:Txt K mg a):cT P w K mg base rN 5 a.fY a.tZ ["web", "thing"] (Oz a.cJ):=by
  refine T.Cm.z9 gj (fun vs H Q E h=>?_) (fun cdv A outer s H vs Q E hr h=>?_)
  ·obtain⟨o,v,d,xs,ps,rfl,_⟩:=h;rfl
  · obtain⟨o,v,d,xs,ps,rfl,hw,hX,Ho,hd,hb,q⟩:=h;refine⟨_,(aC (cO (dM (cB (PE.eqv (aO (zq (K:=K) T) (hr.mono (by decide)) rfl T.mJ T.iB.kp T.mH .nil bD (aj (aL 1) ak)) (aK _ _ _)))) (aG (aZ dX)) bC)
      (aC (bO (i:=2) gj.nd rfl (Or.inl rfl) (qe (KN (K:=K) rfl) (PE.eqv (jW (aL 0) T.uD T.mL (nW (K:=K) T) (hr.mono (by decide)) T.mK .nil bD) (jX _ _ _ _ _ _)) vP (PO.eqv (vQ aJ) (qj _))))
      (aC (bO (i:=3) gj.nd rfl (Or.inl rfl) (bB ak))
      (aC (zx PassesOwn.never rfl (PI.eqv (tU (K:=K) rfl (aL 1)) (nR _ _)) (bG (i:=4) gj.nd rfl (Or.inl rfl))
      (aC (cO (dM (cB (PE.eqv (aO (Ye (K:=K) T) (hr.mono (by decide)) rfl T.V2 T.Ob.kp T.V1 .nil bD (aj (aL 0) (aj (aL 4) (aj (aL 2) (aj (aL 3) ak))))) (aK _ _ _)))) (aG (aZ dX)) bC)
      (aC (Mh (aL 4) (PG.eqv (oA (K:=K) (n:=2) rfl rfl (vN.eqv (cP (bG (i:=5) gj.nd rfl (Or.inl rfl)) (vN.eqv (cP (bG (i:=6) gj.nd rfl (Or.inl rfl)) (vN.mono ou uU)) (cQ _ _))) (cQ _ _))) (oH _ _ _)))
      (aC (bO (i:=2) gj.nd rfl (Or.inl rfl) (bQ oG (aL 2) (qe (KN (K:=K) rfl) (PE.eqv (aO (Dm (K:=K) T) (hr.mono (by decide)) rfl T.xK T.qF.kp T.xJ .nil bD (aj (aL 0) (aj (aL 5) (aj (aL 6) ak)))) (aK _ _ _)) vP (PO.eqv (vQ (Qm Fi aJ)) (qj _)))))
      (aG (bO (i:=3) gj.nd rfl (Or.inl rfl) (bQ oG (aL 3) (eG (M8 (K:=K) rfl) rfl T.nm.list boot_list (aj (aL 6) ak)))))))))
      (aG (aZ (vX (iQ jA (aQ (cN (K:=K) rfl) rfl T.nm.len PySem.boot_len (aj (aL 2) ak)) (aQ (cN (K:=K) rfl) rfl T.nm.len PySem.boot_len (aj (PE.eqv (jW (aL 0) T.uD T.mL (nW (K:=K) T) (hr.mono (by decide)) T.mK .nil bD) (jX _ _ _ _ _ _)) ak)) (bZ _)) (Bk (iQ jA (aQ (cN (K:=K) rfl) rfl T.nm.len PySem.boot_len (aj (aL 3) ak)) (PE.eqv (jW (aL 0) T.uD T.xQ (zp (K:=K) T) (hr.mono (by decide)) T.xH .nil bD) (jX _ _ _ _ _ _)) (bZ _)))))))))),?_⟩
    have h60:60<sizeLine:=by decide
    have l9:=hX.len;simp -dsimp[aF,stC,-Bool.exists_bool,-List.map_take,-Prod.forall,-Prod.exists];refine⟨d,v,rfl,hd,fun H1 s1=>?_⟩;cases hs:Ay d with
    | false=>
      simp -dsimp[aF,stC,-Bool.exists_bool,-List.map_take,-Prod.forall,-Prod.exists];exact q _ s1
    | true=>
      obtain⟨t,ys,rfl,hq,hall⟩:=G3 hd hs;have hlen:=hall.length;obtain⟨dx,fs,hi,hno⟩:=(hw.same s1).ins jy.1 jy.2;simp -dsimp[aF,stC,-Bool.exists_bool,-List.map_take,-Prod.forall,-Prod.exists];refine⟨_,_,hi,hno,o,xs,ps,rfl,hw.same s1,fun l2 hl2=>?_⟩;have s2:Same H1 (upd H1 l2 (.lst (xs.map V.str))):=aB hl2;have e2:upd H1 l2 (.lst (xs.map V.str)) l2=some (.lst (xs.map V.str)):=aA;generalize upd H1 l2 (.lst (xs.map V.str))=H2 at s2 e2 ⊢;have s12:=s1.trans s2;obtain⟨x0,r,rfl⟩:∃x0 r,xs=x0::r:=by
        cases xs with
        | nil=>exact absurd l9.1 (by decide)
        | cons x0 r=>exact⟨x0,r,rfl⟩
      have qpl:K8 ((x0::r).map V.str) none (some 1)=[.str x0]:=by rfl
      simp -dsimp[aF,stC,-Bool.exists_bool,-List.map_take,-Prod.forall,-Prod.exists];refine⟨_,cj.of e2,fun m hm0=>?_⟩;rw[qpl];have s3:Same H2 (upd H2 m (.lst [.str x0])):=aB hm0;have e3:upd H2 m (.lst [.str x0]) m=some (.lst [.str x0]):=aA;generalize upd H2 m (.lst [.str x0])=H3 at s3 e3 ⊢;intro g hg0;have s4:Same H3 (upd H3 g (.lst [])):=aB hg0;have e4:upd H3 g (.lst []) g=some (.lst []):=aA;have e34:=s4 _ _ e3;generalize upd H3 g (.lst [])=H4 at s4 e4 e34 ⊢;have s14:=s12.trans (s3.trans s4);obtain⟨b,hbb⟩:=(hq.same s14).b;refine⟨b,⟨_,hbb K _ (Same.refl _)⟩,frQ ys (fun i σ H'=>i=0∧σ=[some (.ref o),some (.ref t),some (.ref m),some (.ref g),none,none,none]∧Same H4 H') ⟨rfl,rfl,Same.refl _⟩ (fun i σ H' _ h=>hbb K H' h.2.2) ?_ ?_⟩
      · rintro i z σ H5 hz ⟨rfl,rfl,s5⟩;obtain⟨c,hc,hx⟩:=hall.at hz;have Wu:=s14.trans s5;obtain⟨cs,hcs⟩:∃cs,kids d=c::cs:=by
          cases hkd:kids d with
          | nil=>rw[hkd] at hc;cases hc
          | cons c' cs=>rw[hkd] at hc;cases hc;exact⟨cs,rfl⟩
        simp -dsimp[aF,stC,-Bool.exists_bool,-List.map_take,-Prod.forall,-Prod.exists];refine⟨o,m,g,z,c,x0,x0::r,ps,rfl,hw.same Wu,hX.nm x0 List.mem_cons_self,Ho,bW.same Wu c z hx,hb.kid c (by rw[hcs];exact List.mem_cons_self),s5 _ _ e34,s5 _ _ e4,hb.one hs c cs hcs x0 r rfl,fun H6 s6=>?_⟩;simp -dsimp[aF,stC,-Bool.exists_bool,-List.map_take,-Prod.forall,-Prod.exists];exact q _ (Wu.trans s6)
      · rintro σ H5 ⟨h0,rfl,s5⟩;have hy0:ys=[]:=List.eq_nil_of_length_eq_zero h0;have h2:=hb.nil hs (List.eq_nil_of_length_eq_zero (by rw[hlen,h0]));have Wu:=s14.trans s5;obtain⟨dx2,fs2,hi2,qpm⟩:=(hw.same Wu).ins jy.1 jy.2;simp -dsimp[aF,stC,-Bool.exists_bool,-List.map_take,-Prod.forall,-Prod.exists];refine⟨_,.inl (cj.of (s5 _ _ e34)),_,_,hi2,qpm,o,x0::r,ps,rfl,hw.same Wu,fun l6 hl6=>?_⟩;have s6:Same H5 (upd H5 l6 (.lst ((x0::r).map V.str))):=aB hl6;have e6:upd H5 l6 (.lst ((x0::r).map V.str)) l6=some (.lst ((x0::r).map V.str)):=aA;generalize upd H5 l6 (.lst ((x0::r).map V.str))=H6 at s6 e6 ⊢;have hr1:1≤r.length:=by simp at h2;omega
        simp -dsimp[aF,stC,-Bool.exists_bool,-List.map_take,-Prod.forall,-Prod.exists];refine⟨_,.inl (cj.of e6),g8.neg (decide_eq_false fun z=>?_) ?_⟩
        ·simp at z;omega
        simp -dsimp[aF,stC,-Bool.exists_bool,-List.map_take,-Prod.forall,-Prod.exists];exact q _ (Wu.trans s6)
def Wj (C N:Addr):Sp:=fun vs H _ E=>∃(o:Addr) (v:V) (d:PyData) (xs:List Str) (ps:List (Str×Str)),vs=[.ref o,v]∧eU C H o xs ps∧Uq xs∧ps.length≤20∧bW H d v∧Ox xs ps d∧∀H',Same H H'→E (.ref N) none H'
theorem Wk (T:Txt K mg a):cT P w K mg base (Pz P w) 6 a.mD a.BZ ["web", "row"] (Wj a.cJ a.aH):=by
  refine T.J1.PB XF (fun vs H Q E h=>?_) (fun cdv A outer s H vs Q E hr h=>?_)
  ·obtain⟨o,v,d,xs,ps,rfl,_⟩:=h;rfl
  · obtain⟨o,v,d,xs,ps,rfl,hw,hX,Ho,hd,hb,q⟩:=h;refine⟨_,(aC (cO (dM (cB (PE.eqv (aO (OD (K:=K) T) (hr.mono (by decide)) rfl T.Je T.Cm.kp T.Jd .nil bD (aj (aL 0) (aj (aL 1) ak))) (aK _ _ _)))) (aG (Ia (E:=E) fM rfl rfl T.xT rfl T.Ad (aj bN ak))) bC)
      ZQ),?_⟩
    simp -dsimp[aF,stC,-Bool.exists_bool,-List.map_take,-Prod.forall,-Prod.exists];refine⟨o,v,d,xs,ps,rfl,hw,hX,Ho,hd,hb,fun H1 s1=>?_⟩;simp -dsimp[aF,stC,-Bool.exists_bool,-List.map_take,-Prod.forall,-Prod.exists];exact q _ s1
def uO (C:Addr) (w:Str):Addr→Sp:=fun e vs H Q _=>vs=[.ref e]∧H e=some (vY e C)∧∀H',Same H H'→Q (.str w) H'
theorem qaU (T:Txt K mg a):DY P w K mg base 1 a.mF a.uw ["_law_e"] (uO a.aq "pointing"):=by
  refine T.Fp.qep jr (fun e vs H Q E h=>?_) (fun e cdv A outer s H vs Q hr h=>?_)
  ·obtain⟨rfl,_⟩:=h;rfl
  · obtain⟨rfl,he,q⟩:=h;refine⟨_,(aC (bO (i:=1) jr.nd rfl (Or.inl rfl) (bB (aj (iw (K:=K) rfl rfl T.nm.isinstance T.gK T.pR (aj (aL 0) (aj (aW (v:=.ref a.aq) rfl T.mO rfl) ak))) (aj (iw (K:=K) rfl rfl T.nm.isinstance T.gK T.qG (aj (aL 0) (aj (aW (v:=.ref a.au) rfl T.pP rfl) ak))) (aj (iw (K:=K) rfl rfl T.nm.isinstance T.gK T.uE (aj (aL 0) (aj (aW (v:=.ref a.aD) rfl T.wM rfl) ak))) (aj (iw (K:=K) rfl rfl T.nm.isinstance T.gK T.vp (aj (aL 0) (aj (aW (v:=.ref a.aH) rfl T.Ad rfl) ak))) ak))))))
      (aC (bO (i:=2) jr.nd rfl (Or.inl rfl) (uo (K:=K) (Ds:=[a.bV,a.bH,a.cI,a.cH,a.bA,a.bR,a.cG]) rfl rfl T.nm.isinstance T.gK (aP T.vB (aP T.uF (aP T.xW (aP T.xV (aP T.rO (aP T.vo (aP T.xU jY))))))) (by simp) (t:=(bY (tC (.ref a.bV)) (bY (tC (.ref a.bH)) (bY (tC (.ref a.cI)) (bY (tC (.ref a.cH)) (bY (tC (.ref a.bA)) (bY (tC (.ref a.bR)) (bY (tC (.ref a.cG)) vO)))))))) (fun _ _ _=>rfl) (by exact(aj (aL 0) (aj (dh (aj (aW (v:=.ref a.bV) rfl T.El rfl) (aj (aW (v:=.ref a.bH) rfl T.Ae rfl) (aj (aW (v:=.ref a.cI) rfl T.Jk rfl) (aj (aW (v:=.ref a.cH) rfl T.Jj rfl) (aj (aW (v:=.ref a.bA) rfl T.xR rfl) (aj (aW (v:=.ref a.bR) rfl T.Ei rfl) (aj (aW (v:=.ref a.cG) rfl T.Ji rfl) ak)))))))) ak)))))
      (aC (cO (PW.pt (jR (cB (aL 2)) (jR (cB (uo (K:=K) (Ds:=[a.bI,a.bU,a.cY,a.cZ,a.bJ,a.bT]) rfl rfl T.nm.isinstance T.gK (aP T.uG (aP T.vA (aP T.yS (aP T.yU (aP T.uH (aP T.vq jY)))))) (by simp) (t:=(bY (tC (.ref a.bI)) (bY (tC (.ref a.bU)) (bY (tC (.ref a.cY)) (bY (tC (.ref a.cZ)) (bY (tC (.ref a.bJ)) (bY (tC (.ref a.bT)) vO))))))) (fun _ _ _=>rfl) (by exact(aj (aL 0) (aj (dh (aj (aW (v:=.ref a.bI) rfl T.Af rfl) (aj (aW (v:=.ref a.bU) rfl T.Ek rfl) (aj (aW (v:=.ref a.cY) rfl T.Oh rfl) (aj (aW (v:=.ref a.cZ) rfl T.Oi rfl) (aj (aW (v:=.ref a.bJ) rfl T.Ag rfl) (aj (aW (v:=.ref a.bT) rfl T.Ej rfl) ak))))))) ak))))) (iM (dM (cB (iw (K:=K) rfl rfl T.nm.isinstance T.gK T.pU (aj (aL 0) (aj (oh (v:=.ty "ValueError") rfl T.gb Lr rfl) ak))))))))) (aG (aZ bN)) bC)
      (aC (cO (bx ig (jz (K:=K) rfl PySem.F.plainAttrs_list PySem.F.slot_list_count PySem.F.type_list_count (Bv (K:=K) rfl) (aL 1) (aj dX ak)) aJ (bZ _)) (aG (aZ bN)) bC)
      (aG (aZ (cX (dB (K:=K) rfl) (bB (aj bN (aj bN (aj bN (aj bN ak))))) (jz (K:=K) rfl PySem.F.plainAttrs_list PySem.F.slot_list_index PySem.F.type_list_index (Bw (K:=K) rfl) (aL 1) (aj dX ak)) (fun _ _=>rfl)))))))),?_⟩
    simp -dsimp[aF,stC,-Bool.exists_bool,-List.map_take,-Prod.forall,-Prod.exists];simp only[List.map_cons,List.map_nil];refine⟨he,fun p1 h1=>?_⟩;have e1:upd H p1 (.lst [.bl true,.bl false,.bl false,.bl false]) p1=some (.lst [.bl true,.bl false,.bl false,.bl false]):=aA;have s1:Same H (upd H p1 (.lst [.bl true,.bl false,.bl false,.bl false])):=aB h1;generalize upd H p1 (.lst [.bl true,.bl false,.bl false,.bl false])=H1 at e1 s1 ⊢;refine⟨s1 _ _ he,fun p2 h2=>?_⟩;have s2:=aB (o:=.tup [V.ref a.bV,V.ref a.bH,V.ref a.cI,V.ref a.cH,V.ref a.bA,V.ref a.bR,V.ref a.cG]) h2;have s12:=s1.trans s2;refine⟨s12 _ _ he,fun p3 h3=>?_⟩;have s3:=aB (o:=.tup [V.ref a.bI,V.ref a.bU,V.ref a.cY,V.ref a.cZ,V.ref a.bJ,V.ref a.bT]) h3;have La:=s12.trans s3;have e3:=s3 _ _ (s2 _ _ e1);refine⟨La _ _ he,⟨_,cj.of e3⟩,[true,false,false,false],cj.of e3,false,by decide,g8.neg rfl ?_⟩;simp -dsimp[aF,stC,-Bool.exists_bool,-List.map_take,-Prod.forall,-Prod.exists];intro p4 h4;have s4:=aB (o:=.lst [V.str (Str.ofString "pointing"),V.str (Str.ofString "numbers"),V.str (Str.ofString "point"),V.str (Str.ofString "ears")]) h4;have e4:=s4 _ _ e3;refine⟨⟨_,cj.of e4⟩,[true,false,false,false],cj.of e4,by simp,_,.inl (cj.of aA),.str "pointing",rfl,q _ (La.trans s4)⟩
theorem qaV (T:Txt K mg a):DY P w K mg base 1 a.mF a.uw ["_law_e"] (uO a.au "numbers"):=by
  refine T.Fp.qep jr (fun e vs H Q E h=>?_) (fun e cdv A outer s H vs Q hr h=>?_)
  ·obtain⟨rfl,_⟩:=h;rfl
  · obtain⟨rfl,he,q⟩:=h;refine⟨_,(aC (bO (i:=1) jr.nd rfl (Or.inl rfl) (bB (aj (iw (K:=K) rfl rfl T.nm.isinstance T.iK T.qI (aj (aL 0) (aj (aW (v:=.ref a.aq) rfl T.mO rfl) ak))) (aj (iw (K:=K) rfl rfl T.nm.isinstance T.iK T.rP (aj (aL 0) (aj (aW (v:=.ref a.au) rfl T.pP rfl) ak))) (aj (iw (K:=K) rfl rfl T.nm.isinstance T.iK T.vC (aj (aL 0) (aj (aW (v:=.ref a.aD) rfl T.wM rfl) ak))) (aj (iw (K:=K) rfl rfl T.nm.isinstance T.iK T.xY (aj (aL 0) (aj (aW (v:=.ref a.aH) rfl T.Ad rfl) ak))) ak))))))
      (aC (bO (i:=2) jr.nd rfl (Or.inl rfl) (uo (K:=K) (Ds:=[a.bV,a.bH,a.cI,a.cH,a.bA,a.bR,a.cG]) rfl rfl T.nm.isinstance T.iK (aP T.yd (aP T.vD (aP T.yX (aP T.yW (aP T.uI (aP T.xX (aP T.yV jY))))))) (by simp) (t:=(bY (tC (.ref a.bV)) (bY (tC (.ref a.bH)) (bY (tC (.ref a.cI)) (bY (tC (.ref a.cH)) (bY (tC (.ref a.bA)) (bY (tC (.ref a.bR)) (bY (tC (.ref a.cG)) vO)))))))) (fun _ _ _=>rfl) (by exact(aj (aL 0) (aj (dh (aj (aW (v:=.ref a.bV) rfl T.El rfl) (aj (aW (v:=.ref a.bH) rfl T.Ae rfl) (aj (aW (v:=.ref a.cI) rfl T.Jk rfl) (aj (aW (v:=.ref a.cH) rfl T.Jj rfl) (aj (aW (v:=.ref a.bA) rfl T.xR rfl) (aj (aW (v:=.ref a.bR) rfl T.Ei rfl) (aj (aW (v:=.ref a.cG) rfl T.Ji rfl) ak)))))))) ak)))))
      (aC (cO (PW.pt (jR (cB (aL 2)) (jR (cB (uo (K:=K) (Ds:=[a.bI,a.bU,a.cY,a.cZ,a.bJ,a.bT]) rfl rfl T.nm.isinstance T.iK (aP T.vG (aP T.yc (aP T.Ah (aP T.Ai (aP T.vH (aP T.xZ jY)))))) (by simp) (t:=(bY (tC (.ref a.bI)) (bY (tC (.ref a.bU)) (bY (tC (.ref a.cY)) (bY (tC (.ref a.cZ)) (bY (tC (.ref a.bJ)) (bY (tC (.ref a.bT)) vO))))))) (fun _ _ _=>rfl) (by exact(aj (aL 0) (aj (dh (aj (aW (v:=.ref a.bI) rfl T.Af rfl) (aj (aW (v:=.ref a.bU) rfl T.Ek rfl) (aj (aW (v:=.ref a.cY) rfl T.Oh rfl) (aj (aW (v:=.ref a.cZ) rfl T.Oi rfl) (aj (aW (v:=.ref a.bJ) rfl T.Ag rfl) (aj (aW (v:=.ref a.bT) rfl T.Ej rfl) ak))))))) ak))))) (iM (dM (cB (iw (K:=K) rfl rfl T.nm.isinstance T.iK T.qJ (aj (aL 0) (aj (oh (v:=.ty "ValueError") rfl T.gb Lr rfl) ak))))))))) (aG (aZ bN)) bC)
      (aC (cO (bx ig (jz (K:=K) rfl PySem.F.plainAttrs_list PySem.F.slot_list_count PySem.F.type_list_count (Bv (K:=K) rfl) (aL 1) (aj dX ak)) aJ (bZ _)) (aG (aZ bN)) bC)
      (aG (aZ (cX (dB (K:=K) rfl) (bB (aj bN (aj bN (aj bN (aj bN ak))))) (jz (K:=K) rfl PySem.F.plainAttrs_list PySem.F.slot_list_index PySem.F.type_list_index (Bw (K:=K) rfl) (aL 1) (aj dX ak)) (fun _ _=>rfl)))))))),?_⟩
    simp -dsimp[aF,stC,-Bool.exists_bool,-List.map_take,-Prod.forall,-Prod.exists];simp only[List.map_cons,List.map_nil];refine⟨he,fun p1 h1=>?_⟩;have e1:upd H p1 (.lst [.bl false,.bl true,.bl false,.bl false]) p1=some (.lst [.bl false,.bl true,.bl false,.bl false]):=aA;have s1:Same H (upd H p1 (.lst [.bl false,.bl true,.bl false,.bl false])):=aB h1;generalize upd H p1 (.lst [.bl false,.bl true,.bl false,.bl false])=H1 at e1 s1 ⊢;refine⟨s1 _ _ he,fun p2 h2=>?_⟩;have s2:=aB (o:=.tup [V.ref a.bV,V.ref a.bH,V.ref a.cI,V.ref a.cH,V.ref a.bA,V.ref a.bR,V.ref a.cG]) h2;have s12:=s1.trans s2;refine⟨s12 _ _ he,fun p3 h3=>?_⟩;have s3:=aB (o:=.tup [V.ref a.bI,V.ref a.bU,V.ref a.cY,V.ref a.cZ,V.ref a.bJ,V.ref a.bT]) h3;have La:=s12.trans s3;have e3:=s3 _ _ (s2 _ _ e1);refine⟨La _ _ he,⟨_,cj.of e3⟩,[false,true,false,false],cj.of e3,false,by decide,g8.neg rfl ?_⟩;simp -dsimp[aF,stC,-Bool.exists_bool,-List.map_take,-Prod.forall,-Prod.exists];intro p4 h4;have s4:=aB (o:=.lst [V.str (Str.ofString "pointing"),V.str (Str.ofString "numbers"),V.str (Str.ofString "point"),V.str (Str.ofString "ears")]) h4;have e4:=s4 _ _ e3;refine⟨⟨_,cj.of e4⟩,[false,true,false,false],cj.of e4,by simp,_,.inl (cj.of aA),.str "numbers",rfl,q _ (La.trans s4)⟩
theorem qaW (T:Txt K mg a):DY P w K mg base 1 a.mF a.uw ["_law_e"] (uO a.aD "point"):=by
  refine T.Fp.qep jr (fun e vs H Q E h=>?_) (fun e cdv A outer s H vs Q hr h=>?_)
  ·obtain⟨rfl,_⟩:=h;rfl
  · obtain⟨rfl,he,q⟩:=h;refine⟨_,(aC (bO (i:=1) jr.nd rfl (Or.inl rfl) (bB (aj (iw (K:=K) rfl rfl T.nm.isinstance T.pW T.uK (aj (aL 0) (aj (aW (v:=.ref a.aq) rfl T.mO rfl) ak))) (aj (iw (K:=K) rfl rfl T.nm.isinstance T.pW T.vI (aj (aL 0) (aj (aW (v:=.ref a.au) rfl T.pP rfl) ak))) (aj (iw (K:=K) rfl rfl T.nm.isinstance T.pW T.yZ (aj (aL 0) (aj (aW (v:=.ref a.aD) rfl T.wM rfl) ak))) (aj (iw (K:=K) rfl rfl T.nm.isinstance T.pW T.Ak (aj (aL 0) (aj (aW (v:=.ref a.aH) rfl T.Ad rfl) ak))) ak))))))
      (aC (bO (i:=2) jr.nd rfl (Or.inl rfl) (uo (K:=K) (Ds:=[a.bV,a.bH,a.cI,a.cH,a.bA,a.bR,a.cG]) rfl rfl T.nm.isinstance T.pW (aP T.Ao (aP T.za (aP T.Df (aP T.Dd (aP T.yg (aP T.Aj (aP T.Dc jY))))))) (by simp) (t:=(bY (tC (.ref a.bV)) (bY (tC (.ref a.bH)) (bY (tC (.ref a.cI)) (bY (tC (.ref a.cH)) (bY (tC (.ref a.bA)) (bY (tC (.ref a.bR)) (bY (tC (.ref a.cG)) vO)))))))) (fun _ _ _=>rfl) (by exact(aj (aL 0) (aj (dh (aj (aW (v:=.ref a.bV) rfl T.El rfl) (aj (aW (v:=.ref a.bH) rfl T.Ae rfl) (aj (aW (v:=.ref a.cI) rfl T.Jk rfl) (aj (aW (v:=.ref a.cH) rfl T.Jj rfl) (aj (aW (v:=.ref a.bA) rfl T.xR rfl) (aj (aW (v:=.ref a.bR) rfl T.Ei rfl) (aj (aW (v:=.ref a.cG) rfl T.Ji rfl) ak)))))))) ak)))))
      (aC (cO (PW.pt (jR (cB (aL 2)) (jR (cB (uo (K:=K) (Ds:=[a.bI,a.bU,a.cY,a.cZ,a.bJ,a.bT]) rfl rfl T.nm.isinstance T.pW (aP T.zc (aP T.Am (aP T.Em (aP T.En (aP T.zf (aP T.Al jY)))))) (by simp) (t:=(bY (tC (.ref a.bI)) (bY (tC (.ref a.bU)) (bY (tC (.ref a.cY)) (bY (tC (.ref a.cZ)) (bY (tC (.ref a.bJ)) (bY (tC (.ref a.bT)) vO))))))) (fun _ _ _=>rfl) (by exact(aj (aL 0) (aj (dh (aj (aW (v:=.ref a.bI) rfl T.Af rfl) (aj (aW (v:=.ref a.bU) rfl T.Ek rfl) (aj (aW (v:=.ref a.cY) rfl T.Oh rfl) (aj (aW (v:=.ref a.cZ) rfl T.Oi rfl) (aj (aW (v:=.ref a.bJ) rfl T.Ag rfl) (aj (aW (v:=.ref a.bT) rfl T.Ej rfl) ak))))))) ak))))) (iM (dM (cB (iw (K:=K) rfl rfl T.nm.isinstance T.pW T.uL (aj (aL 0) (aj (oh (v:=.ty "ValueError") rfl T.gb Lr rfl) ak))))))))) (aG (aZ bN)) bC)
      (aC (cO (bx ig (jz (K:=K) rfl PySem.F.plainAttrs_list PySem.F.slot_list_count PySem.F.type_list_count (Bv (K:=K) rfl) (aL 1) (aj dX ak)) aJ (bZ _)) (aG (aZ bN)) bC)
      (aG (aZ (cX (dB (K:=K) rfl) (bB (aj bN (aj bN (aj bN (aj bN ak))))) (jz (K:=K) rfl PySem.F.plainAttrs_list PySem.F.slot_list_index PySem.F.type_list_index (Bw (K:=K) rfl) (aL 1) (aj dX ak)) (fun _ _=>rfl)))))))),?_⟩
    simp -dsimp[aF,stC,-Bool.exists_bool,-List.map_take,-Prod.forall,-Prod.exists];simp only[List.map_cons,List.map_nil];refine⟨he,fun p1 h1=>?_⟩;have e1:upd H p1 (.lst [.bl false,.bl false,.bl true,.bl false]) p1=some (.lst [.bl false,.bl false,.bl true,.bl false]):=aA;have s1:Same H (upd H p1 (.lst [.bl false,.bl false,.bl true,.bl false])):=aB h1;generalize upd H p1 (.lst [.bl false,.bl false,.bl true,.bl false])=H1 at e1 s1 ⊢;refine⟨s1 _ _ he,fun p2 h2=>?_⟩;have s2:=aB (o:=.tup [V.ref a.bV,V.ref a.bH,V.ref a.cI,V.ref a.cH,V.ref a.bA,V.ref a.bR,V.ref a.cG]) h2;have s12:=s1.trans s2;refine⟨s12 _ _ he,fun p3 h3=>?_⟩;have s3:=aB (o:=.tup [V.ref a.bI,V.ref a.bU,V.ref a.cY,V.ref a.cZ,V.ref a.bJ,V.ref a.bT]) h3;have La:=s12.trans s3;have e3:=s3 _ _ (s2 _ _ e1);refine⟨La _ _ he,⟨_,cj.of e3⟩,[false,false,true,false],cj.of e3,false,by decide,g8.neg rfl ?_⟩;simp -dsimp[aF,stC,-Bool.exists_bool,-List.map_take,-Prod.forall,-Prod.exists];intro p4 h4;have s4:=aB (o:=.lst [V.str (Str.ofString "pointing"),V.str (Str.ofString "numbers"),V.str (Str.ofString "point"),V.str (Str.ofString "ears")]) h4;have e4:=s4 _ _ e3;refine⟨⟨_,cj.of e4⟩,[false,false,true,false],cj.of e4,by simp,_,.inl (cj.of aA),.str "point",rfl,q _ (La.trans s4)⟩
theorem qaX (T:Txt K mg a):DY P w K mg base 1 a.mF a.uw ["_law_e"] (uO a.aH "ears"):=by
  refine T.Fp.qep jr (fun e vs H Q E h=>?_) (fun e cdv A outer s H vs Q hr h=>?_)
  ·obtain⟨rfl,_⟩:=h;rfl
  · obtain⟨rfl,he,q⟩:=h;refine⟨_,(aC (bO (i:=1) jr.nd rfl (Or.inl rfl) (bB (aj (iw (K:=K) rfl rfl T.nm.isinstance T.uM T.vK (aj (aL 0) (aj (aW (v:=.ref a.aq) rfl T.mO rfl) ak))) (aj (iw (K:=K) rfl rfl T.nm.isinstance T.uM T.yh (aj (aL 0) (aj (aW (v:=.ref a.au) rfl T.pP rfl) ak))) (aj (iw (K:=K) rfl rfl T.nm.isinstance T.uM T.Aq (aj (aL 0) (aj (aW (v:=.ref a.aD) rfl T.wM rfl) ak))) (aj (iw (K:=K) rfl rfl T.nm.isinstance T.uM T.Dh (aj (aL 0) (aj (aW (v:=.ref a.aH) rfl T.Ad rfl) ak))) ak))))))
      (aC (bO (i:=2) jr.nd rfl (Or.inl rfl) (uo (K:=K) (Ds:=[a.bV,a.bH,a.cI,a.cH,a.bA,a.bR,a.cG]) rfl rfl T.nm.isinstance T.uM (aP T.Dk (aP T.Ar (aP T.Es (aP T.Ep (aP T.zj (aP T.Dg (aP T.Eo jY))))))) (by simp) (t:=(bY (tC (.ref a.bV)) (bY (tC (.ref a.bH)) (bY (tC (.ref a.cI)) (bY (tC (.ref a.cH)) (bY (tC (.ref a.bA)) (bY (tC (.ref a.bR)) (bY (tC (.ref a.cG)) vO)))))))) (fun _ _ _=>rfl) (by exact(aj (aL 0) (aj (dh (aj (aW (v:=.ref a.bV) rfl T.El rfl) (aj (aW (v:=.ref a.bH) rfl T.Ae rfl) (aj (aW (v:=.ref a.cI) rfl T.Jk rfl) (aj (aW (v:=.ref a.cH) rfl T.Jj rfl) (aj (aW (v:=.ref a.bA) rfl T.xR rfl) (aj (aW (v:=.ref a.bR) rfl T.Ei rfl) (aj (aW (v:=.ref a.cG) rfl T.Ji rfl) ak)))))))) ak)))))
      (aC (cO (PW.pt (jR (cB (aL 2)) (jR (cB (uo (K:=K) (Ds:=[a.bI,a.bU,a.cY,a.cZ,a.bJ,a.bT]) rfl rfl T.nm.isinstance T.uM (aP T.Av (aP T.Dj (aP T.Gi (aP T.Gj (aP T.Aw (aP T.Di jY)))))) (by simp) (t:=(bY (tC (.ref a.bI)) (bY (tC (.ref a.bU)) (bY (tC (.ref a.cY)) (bY (tC (.ref a.cZ)) (bY (tC (.ref a.bJ)) (bY (tC (.ref a.bT)) vO))))))) (fun _ _ _=>rfl) (by exact(aj (aL 0) (aj (dh (aj (aW (v:=.ref a.bI) rfl T.Af rfl) (aj (aW (v:=.ref a.bU) rfl T.Ek rfl) (aj (aW (v:=.ref a.cY) rfl T.Oh rfl) (aj (aW (v:=.ref a.cZ) rfl T.Oi rfl) (aj (aW (v:=.ref a.bJ) rfl T.Ag rfl) (aj (aW (v:=.ref a.bT) rfl T.Ej rfl) ak))))))) ak))))) (iM (dM (cB (iw (K:=K) rfl rfl T.nm.isinstance T.uM T.vL (aj (aL 0) (aj (oh (v:=.ty "ValueError") rfl T.gb Lr rfl) ak))))))))) (aG (aZ bN)) bC)
      (aC (cO (bx ig (jz (K:=K) rfl PySem.F.plainAttrs_list PySem.F.slot_list_count PySem.F.type_list_count (Bv (K:=K) rfl) (aL 1) (aj dX ak)) aJ (bZ _)) (aG (aZ bN)) bC)
      (aG (aZ (cX (dB (K:=K) rfl) (bB (aj bN (aj bN (aj bN (aj bN ak))))) (jz (K:=K) rfl PySem.F.plainAttrs_list PySem.F.slot_list_index PySem.F.type_list_index (Bw (K:=K) rfl) (aL 1) (aj dX ak)) (fun _ _=>rfl)))))))),?_⟩
    simp -dsimp[aF,stC,-Bool.exists_bool,-List.map_take,-Prod.forall,-Prod.exists];simp only[List.map_cons,List.map_nil];refine⟨he,fun p1 h1=>?_⟩;have e1:upd H p1 (.lst [.bl false,.bl false,.bl false,.bl true]) p1=some (.lst [.bl false,.bl false,.bl false,.bl true]):=aA;have s1:Same H (upd H p1 (.lst [.bl false,.bl false,.bl false,.bl true])):=aB h1;generalize upd H p1 (.lst [.bl false,.bl false,.bl false,.bl true])=H1 at e1 s1 ⊢;refine⟨s1 _ _ he,fun p2 h2=>?_⟩;have s2:=aB (o:=.tup [V.ref a.bV,V.ref a.bH,V.ref a.cI,V.ref a.cH,V.ref a.bA,V.ref a.bR,V.ref a.cG]) h2;have s12:=s1.trans s2;refine⟨s12 _ _ he,fun p3 h3=>?_⟩;have s3:=aB (o:=.tup [V.ref a.bI,V.ref a.bU,V.ref a.cY,V.ref a.cZ,V.ref a.bJ,V.ref a.bT]) h3;have La:=s12.trans s3;have e3:=s3 _ _ (s2 _ _ e1);refine⟨La _ _ he,⟨_,cj.of e3⟩,[false,false,false,true],cj.of e3,false,by decide,g8.neg rfl ?_⟩;simp -dsimp[aF,stC,-Bool.exists_bool,-List.map_take,-Prod.forall,-Prod.exists];intro p4 h4;have s4:=aB (o:=.lst [V.str (Str.ofString "pointing"),V.str (Str.ofString "numbers"),V.str (Str.ofString "point"),V.str (Str.ofString "ears")]) h4;have e4:=s4 _ _ e3;refine⟨⟨_,cj.of e4⟩,[false,false,false,true],cj.of e4,by simp,_,.inl (cj.of aA),.str "ears",rfl,q _ (La.trans s4)⟩
theorem Yg {k:Nat} {f:Addr} {fd:FuncData} {ps:List Str} {sp sp':Addr→Sp} (F:DY P w K mg base k f fd ps sp) (F':DY P w K mg base k f fd ps sp'):DY P w K mg base k f fd ps (fun c vs H Q E=>sp c vs H Q E∨sp' c vs H Q E):=by
  refine⟨fun c vs H Q E h=>h.elim (F.len c vs H Q E) (F'.len c vs H Q E),?_⟩
  intros
  rename_i h
  rcases h with h | h
  ·apply F.run <;> assumption
  ·apply F'.run <;> assumption
def qaY (C1 C2 C3 C4:Addr):Addr→Sp:=fun c vs H Q E=>(uO C1 "pointing" c vs H Q E∨uO C2 "numbers" c vs H Q E)∨(uO C3 "point" c vs H Q E∨uO C4 "ears" c vs H Q E)
theorem qc2 (T:Txt K mg a):DY P w K mg base 1 a.mF a.uw ["_law_e"] (qaY a.aq a.au a.aD a.aH):=Yg (Yg (qaU T) (qaV T)) (Yg (qaW T) (qaX T))
def Asks (N M R E:Addr) (xs:List Str) (ps:List (Str×Str)) (k:Int) (d e f:PyData) (x:Option Addr) (z:Str):Prop:=
  ((0≤k∧k≤4)∧vM ps.length d=false∧x=some N∧z = "pointing")∨
  (k=0∧vM ps.length d=true∧((nY ps.length e=false∧x=some M∧z = "numbers")∨(nY ps.length e=true∧x=none∧z = "told")))∨
  (k=2∧vM ps.length d=true∧(((Jx xs e && Jx xs f)=false∧x=some R∧z = "point")∨((Jx xs e && Jx xs f)=true∧x=none∧z = "told")))∨
  (k=3∧vM ps.length d=true∧Jx xs e=false∧x=some R∧z = "point")∨
  (k=5∧Ox xs ps d∧x=some E∧z = "ears")
section
variable {N M R E:Addr} {xs:List Str} {ps:List (Str×Str)} {k:Int} {d e f:PyData} {x:Option Addr} {z:Str}
theorem qjO (h:Asks N M R E xs ps 0 d e f x z):(vM ps.length d=false→x=some N)∧(vM ps.length d=true→nY ps.length e=false→x=some M)∧(vM ps.length d=true→nY ps.length e=true→x=none):=by
  rcases h with⟨_,h1,rfl,_⟩ | ⟨_,h1,⟨h2,rfl,_⟩ | ⟨h2,rfl,_⟩⟩ | ⟨h0,_⟩ | ⟨h0,_⟩ | ⟨h0,_⟩
  ·simp[h1]
  ·simp[h1,h2]
  ·simp[h1,h2]
  all_goals exact absurd h0 (by decide)
theorem qft (h:Asks N M R E xs ps k d e f x z) (hk:k=1∨k=4):vM ps.length d=false∧x=some N:=by
  rcases h with⟨_,h1,rfl,_⟩ | ⟨h0,_⟩ | ⟨h0,_⟩ | ⟨h0,_⟩ | ⟨h0,_⟩
  ·exact⟨h1,rfl⟩
  all_goals exact absurd h0 (by omega)
theorem qjP (h:Asks N M R E xs ps 2 d e f x z):(vM ps.length d=false→x=some N)∧(vM ps.length d=true→(Jx xs e && Jx xs f)=false→x=some R)∧(vM ps.length d=true→(Jx xs e && Jx xs f)=true→x=none):=by
  rcases h with⟨_,h1,rfl,_⟩ | ⟨h0,_⟩ | ⟨_,h1,⟨h2,rfl,_⟩ | ⟨h2,rfl,_⟩⟩ | ⟨h0,_⟩ | ⟨h0,_⟩
  ·simp[h1]
  ·exact absurd h0 (by decide)
  ·rw[h1,h2];simp
  ·rw[h1,h2];simp
  all_goals exact absurd h0 (by decide)
theorem qjQ (h:Asks N M R E xs ps 3 d e f x z):(vM ps.length d=false→x=some N)∧(vM ps.length d=true→Jx xs e=false→x=some R)∧(vM ps.length d=true→Jx xs e=true→x=none):=by
  rcases h with⟨_,h1,rfl,_⟩ | ⟨h0,_⟩ | ⟨h0,_⟩ | ⟨_,h1,h2,rfl,_⟩ | ⟨h0,_⟩
  ·simp[h1]
  ·exact absurd h0 (by decide)
  ·exact absurd h0 (by decide)
  ·simp[h1,h2]
  ·exact absurd h0 (by decide)
theorem qjR (h:Asks N M R E xs ps k d e f x z) (hk:¬(k=0∨k=1∨k=2∨k=3∨k=4)):Ox xs ps d∧x=some E:=by
  rcases h with⟨h0,_⟩ | ⟨h0,_⟩ | ⟨h0,_⟩ | ⟨h0,_⟩ | ⟨_,h1,rfl,_⟩
  ·exact absurd h0 (by omega)
  ·exact absurd h0 (by omega)
  ·exact absurd h0 (by omega)
  ·exact absurd h0 (by omega)
  ·exact⟨h1,rfl⟩
theorem qjS {X:Addr} (h:Asks N M R E xs ps k d e f (some X) z):(X=N∧z = "pointing")∨(X=M∧z = "numbers")∨(X=R∧z = "point")∨(X=E∧z = "ears"):=by
  rcases h with⟨_,h1,h2,h3⟩ | ⟨_,h1,⟨_,h2,h3⟩ | ⟨_,h2,_⟩⟩ | ⟨_,h1,⟨_,h2,h3⟩ | ⟨_,h2,_⟩⟩ | ⟨_,_,_,h2,h3⟩ | ⟨_,_,h2,h3⟩
  all_goals cases h2
  ·exact .inl ⟨rfl,h3⟩
  ·exact .inr (.inl ⟨rfl,h3⟩)
  ·exact .inr (.inr (.inl ⟨rfl,h3⟩))
  ·exact .inr (.inr (.inl ⟨rfl,h3⟩))
  ·exact .inr (.inr (.inr ⟨rfl,h3⟩))
theorem qjT (h:Asks N M R E xs ps k d e f none z):z = "told" :=by
  rcases h with⟨_,h1,h2,h3⟩ | ⟨_,h1,⟨_,h2,h3⟩ | ⟨_,h2,h3⟩⟩ | ⟨_,h1,⟨_,h2,h3⟩ | ⟨_,h2,h3⟩⟩ | ⟨_,_,_,h2,h3⟩ | ⟨_,_,h2,h3⟩
  all_goals first | exact h3 | cases h2
end
def qc3 (C N M R Er:Addr):Sp:=fun vs H Q E=>∃(k:Int) (o:Addr) (v u y:V) (d e f:PyData) (xs:List Str) (ps:List (Str×Str)) (x:Option Addr) (z:Str),vs=[.int k,.ref o,v,u,y]∧eU C H o xs ps∧Uq xs∧Jl xs ps∧bW H d v∧bW H e u∧bW H f y∧gW e∧gW f∧(kids e).length≤20∧Asks N M R Er xs ps k d e f x z∧
  ∀H',Same H H'→(x=none→∀u,Q u H')∧(∀X,x=some X→E (.ref X) none H')
theorem qc4 (T:Txt K mg a):cT P w K mg base (Pz P w) 7 a.wF a.IW ["_law_road", "_law_made", "_law_row", "_law_one", "_law_other"] (qc3 a.cJ a.aq a.au a.aD a.aH):=by
  refine T.T3.PB qcL (fun vs H Q E h=>?_) (fun cdv A outer s H vs Q E hr h=>?_)
  ·obtain⟨k,o,v,u,y,d,e,f,xs,ps,x,z,rfl,_⟩:=h;rfl
  · obtain⟨k,o,v,u,y,d,e,f,xs,ps,x,z,rfl,hw,hX,hT,hd,he,hf,hse,hsf,hke,ha,q⟩:=h;refine⟨_,(aC (cO (bx jA (aL 0) aJ (bZ _)) (aG (aZ (PE.eqv (aO (Yc (K:=K) T) (hr.mono (by decide)) rfl T.V0 T.Jc.kp T.VR .nil (fM.passes rfl) (aj (aL 1) (aj (aL 2) (aj (aL 3) ak)))) (aK _ _ _)))) bC)
      (aC (cO (bx jA (aL 0) aJ (bZ _)) (aG (aZ (PE.eqv (aO (Jq (K:=K) T) (hr.mono (by decide)) rfl T.C_ T.uW.kp T.CZ .nil (fM.passes rfl) (aj (aL 1) (aj (aL 2) ak))) (aK _ _ _)))) bC)
      (aC (cO (bx jA (aL 0) aJ (bZ _)) (aG (aZ (PE.eqv (aO (qeF (K:=K) T) (hr.mono (by decide)) rfl T.qfi T.qcM.kp T.qfh .nil (fM.passes rfl) (aj (aL 1) (aj (aL 2) (aj (aL 3) (aj (aL 4) ak))))) (aK _ _ _)))) bC)
      (aC (cO (bx jA (aL 0) aJ (bZ _)) (aG (aZ (PE.eqv (aO (Wi (K:=K) T) (hr.mono (by decide)) rfl T.Q9 T.J0.kp T.Q8 .nil (fM.passes rfl) (aj (aL 1) (aj (aL 2) (aj (aL 3) ak)))) (aK _ _ _)))) bC)
      (aC (cO (bx jA (aL 0) aJ (bZ _)) (aG (aZ (PE.eqv (aO (Ue (K:=K) T) (hr.mono (by decide)) rfl T.Oa T.GK.kp T.N_ .nil (fM.passes rfl) (aj (aL 1) (aj (aL 2) ak))) (aK _ _ _)))) bC)
      (aG (aZ (PE.eqv (aO (Wk (K:=K) T) (hr.mono (by decide)) rfl T.Ra T.J1.kp T.Q_ .nil (fM.passes rfl) (aj (aL 1) (aj (aL 2) ak))) (aK _ _ _))))))))),?_⟩
    simp -dsimp[aF,stC,-Bool.exists_bool,-List.map_take,-Prod.forall,-Prod.exists];refine g8.of (fun h=>?_) (fun h0=>?_)
    · obtain rfl:k=0:=of_decide_eq_true h;obtain⟨a1,a2,a3⟩:=qjO ha;simp -dsimp[aF,stC,-Bool.exists_bool,-List.map_take,-Prod.forall,-Prod.exists];refine⟨o,v,u,d,e,xs,ps,rfl,hw,hd,he,hke,hT.len,fun H' s'=>⟨fun h1=>?_,fun h1 h2=>?_,fun h1 h2 z'=>?_⟩⟩
      ·exact(q H' s').2 _ (a1 h1)
      ·exact(q H' s').2 _ (a2 h1 h2)
      ·exact(q H' s').1 (a3 h1 h2) _
    simp -dsimp[aF,stC,-Bool.exists_bool,-List.map_take,-Prod.forall,-Prod.exists];refine g8.of (fun h=>?_) (fun h1=>?_)
    ·obtain rfl:k=1:=of_decide_eq_true h;obtain⟨a1,a2⟩:=qft ha (.inl rfl);simp -dsimp[aF,stC,-Bool.exists_bool,-List.map_take,-Prod.forall,-Prod.exists];exact⟨o,v,d,xs,ps,rfl,hw,hd,hT.len,a1,fun H' s'=>(q H' s').2 _ a2⟩
    simp -dsimp[aF,stC,-Bool.exists_bool,-List.map_take,-Prod.forall,-Prod.exists];refine g8.of (fun h=>?_) (fun h2=>?_)
    · obtain rfl:k=2:=of_decide_eq_true h;obtain⟨a1,a2,a3⟩:=qjP ha;simp -dsimp[aF,stC,-Bool.exists_bool,-List.map_take,-Prod.forall,-Prod.exists];refine⟨o,v,u,y,d,e,f,xs,ps,rfl,hw,hX,hT,hd,he,hf,hse,hsf,fun H' s'=>⟨fun h1=>?_,fun h1 h2=>?_,fun h1 h2 z'=>?_⟩⟩
      ·exact(q H' s').2 _ (a1 h1)
      ·exact(q H' s').2 _ (a2 h1 h2)
      ·exact(q H' s').1 (a3 h1 h2) _
    simp -dsimp[aF,stC,-Bool.exists_bool,-List.map_take,-Prod.forall,-Prod.exists];refine g8.of (fun h=>?_) (fun h3=>?_)
    · obtain rfl:k=3:=of_decide_eq_true h;obtain⟨a1,a2,a3⟩:=qjQ ha;simp -dsimp[aF,stC,-Bool.exists_bool,-List.map_take,-Prod.forall,-Prod.exists];refine⟨o,v,u,d,e,xs,ps,rfl,hw,hX,hT,hd,he,hse,fun H' s'=>⟨fun h1=>?_,fun h1 h2=>?_,fun h1 h2 z'=>?_⟩⟩
      ·exact(q H' s').2 _ (a1 h1)
      ·exact(q H' s').2 _ (a2 h1 h2)
      ·exact(q H' s').1 (a3 h1 h2) _
    simp -dsimp[aF,stC,-Bool.exists_bool,-List.map_take,-Prod.forall,-Prod.exists];refine g8.of (fun h=>?_) (fun h4=>?_)
    ·obtain rfl:k=4:=of_decide_eq_true h;obtain⟨a1,a2⟩:=qft ha (.inr rfl);simp -dsimp[aF,stC,-Bool.exists_bool,-List.map_take,-Prod.forall,-Prod.exists];exact⟨o,v,d,xs,ps,rfl,hw,hd,hT.len,a1,fun H' s'=>(q H' s').2 _ a2⟩
    simp -dsimp[aF,stC,-Bool.exists_bool,-List.map_take,-Prod.forall,-Prod.exists];obtain⟨a1,a2⟩:=qjR ha (by
      have:=of_decide_eq_false h0;have:=of_decide_eq_false h1;have:=of_decide_eq_false h2;have:=of_decide_eq_false h3;have:=of_decide_eq_false h4;omega)
    exact⟨o,v,d,xs,ps,rfl,hw,hX,hT.len,hd,a1,fun H' s'=>(q H' s').2 _ a2⟩
theorem qpn {d e f:PyData} (hd:lU 30 30000 d) (he:lU 30 30000 e) (hf:lU 30 30000 f):lU 31 100000 (.list [d,e,f]):=lU.list (k:=30) (n:=30000) (fun c hc=>by
  simp only[List.mem_cons,List.not_mem_nil,or_false] at hc
  rcases hc with rfl | rfl | rfl
  ·exact hd
  ·exact he
  ·exact hf) (by simp)
def qeJ (C N M R Er:Addr):Sp:=fun vs H Q _=>∃(k:Int) (o:Addr) (v u y:V) (d e f:PyData) (xs:List Str) (ps:List (Str×Str)) (x:Option Addr) (z:Str),vs=[.int k,.ref o,v,u,y]∧eU C H o xs ps∧Uq xs∧Jl xs ps∧bW H d v∧bW H e u∧bW H f y∧gW e∧gW f∧(kids e).length≤20∧lU 30 30000 d∧lU 30 30000 e∧lU 30 30000 f∧Asks N M R Er xs ps k d e f x z∧
  ∀H',Same H H'→Q (.str z) H'
theorem wH (T:Txt K mg a):cT P w K mg base rN 8 a.Ca a.Ly ["_law_road", "_law_made", "_law_row", "_law_one", "_law_other"] (qeJ a.cJ a.aq a.au a.aD a.aH):=by
  refine T.xM.z9 Ir (fun vs H Q E h=>?_) (fun cdv A outer s H vs Q E hr h=>?_)
  ·obtain⟨k,o,v,u,y,d,e,f,xs,ps,x,z,rfl,_⟩:=h;rfl
  · obtain⟨k,o,v,u,y,d,e,f,xs,ps,x,z,rfl,hw,hX,hT,hd,he,hf,hse,hsf,hke,hsd,hme,hmf,ha,q⟩:=h;refine⟨_,(aC (bO (i:=5) Ir.nd rfl (Or.inl rfl) bN)
      (aC (bO (i:=6) Ir.nd rfl (Or.inl rfl) (aQ (KQ hr.gd hr.units) rfl T.nm2.repr boot_repr (aj (bB (aj (aL 2) (aj (aL 3) (aj (aL 4) ak)))) ak)))
      (aC (qgM (i:=7) rfl rfl rfl Ir.nd rfl rfl (fun R pn xe hx=>(aG (jT (qcx hx rfl (qc4 (K:=K) T) (hr.mono (by decide)) rfl T.ZC T.T3.kp T.Zz (aj (aL 0) (aj (aL 1) (aj (aL 2) (aj (aL 3) (aj (aL 4) ak))))))))) rfl T.Jh T.mQ (fun e=>(aG (bO (i:=5) Ir.nd rfl (Or.inl rfl) (qcz (qc2 (K:=K) T) (hr.mono (by decide)) rfl T.Zy T.Fp.kp T.Zx (aj (aL 7) ak))))))
      (aC (cO (bx ig (aQ (KQ hr.gd hr.units) rfl T.nm2.repr boot_repr (aj (bB (aj (aL 2) (aj (aL 3) (aj (aL 4) ak)))) ak)) (aL 6) (bZ _)) (aG (aZ bN)) bC)
      (aG (aZ (aL 5))))))),?_⟩
    have s5:(100000:Nat)≤sizeLine:=by decide
    have hsm:=qpn hsd hme hmf;simp -dsimp[aF,stC,-Bool.exists_bool,-List.map_take,-Prod.forall,-Prod.exists];intro p1 hp1;have s1:Same H (upd H p1 (.lst [v,u,y])):=aB hp1;have e1:upd H p1 (.lst [v,u,y]) p1=some (.lst [v,u,y]):=aA;generalize upd H p1 (.lst [v,u,y])=H1 at s1 e1 ⊢;have lst:∀{H':Hp} {p:Addr},Same H H'→H' p=some (.lst [v,u,y])→jB H' (.list [d,e,f]) (.ref p):=fun s hp=>by
      simp only[jB,dw];exact⟨_,_,rfl,hp,_,_,rfl,bW.x _ _ (bW.same s d v hd),_,_,rfl,bW.x _ _ (bW.same s e u he),_,_,rfl,bW.x _ _ (bW.same s f y hf),rfl⟩
    refine⟨[d,e,f],lst s1 e1,hsm.sh,Nat.le_trans hsm.dp (by decide),Nat.le_trans hsm.ln s5,?_⟩;generalize hNx:qdp (qdq (FZ (K6 fNe _ _)) _ _) _ _=Nx;have tail:∀(o7:Option V) (H':Hp),Same H H'→Nx [some (V.int k),some (V.ref o),some v,some u,some y,some (V.str z),some (V.str (PyData.list [d,e,f]).shown),o7] H':=by
      intro o7 H' s';subst hNx;simp -dsimp[aF,stC,-Bool.exists_bool,-List.map_take,-Prod.forall,-Prod.exists];intro p2 hp2;have s2:Same H' (upd H' p2 (.lst [v,u,y])):=aB hp2;have e2:upd H' p2 (.lst [v,u,y]) p2=some (.lst [v,u,y]):=aA;generalize upd H' p2 (.lst [v,u,y])=H2 at s2 e2 ⊢;refine⟨[d,e,f],lst (s'.trans s2) e2,hsm.sh,Nat.le_trans hsm.dp (by decide),Nat.le_trans hsm.ln s5,false,by simp,g8.neg rfl ?_⟩;simp -dsimp[aF,stC,-Bool.exists_bool,-List.map_take,-Prod.forall,-Prod.exists];exact q _ (s'.trans s2)
    refine⟨k,o,v,u,y,d,e,f,xs,ps,x,z,rfl,hw.same s1,hX,hT,bW.same s1 d v hd,bW.same s1 e u he,bW.same s1 f y hf,hse,hsf,hke,ha,fun H2 s2=>⟨fun hx z'=>?_,fun X hx=>⟨_,rfl,?_⟩⟩⟩
    ·subst hx;obtain rfl:=qjT ha;exact tail none H2 (s1.trans s2)
    · subst hx;have S2:=s1.trans s2
      rcases qjS ha with⟨rfl,rfl⟩ | ⟨rfl,rfl⟩ | ⟨rfl,rfl⟩ | ⟨rfl,rfl⟩
      ·refine⟨⟨Ni.of T.jm,T.pQ⟩,fun ex hex=>?_⟩;have se:Same H2 (upd H2 ex (vY ex a.aq)):=aB hex;have ee:upd H2 ex (vY ex a.aq) ex=some (vY ex a.aq):=aA;generalize upd H2 ex (vY ex a.aq)=H3 at se ee ⊢;simp -dsimp[aF,stC,-Bool.exists_bool,-List.map_take,-Prod.forall,-Prod.exists];exact .inl (.inl ⟨rfl,ee,fun H4 s4=>tail _ H4 (S2.trans (se.trans s4))⟩)
      ·refine⟨⟨Ni.of T.kj,T.qH⟩,fun ex hex=>?_⟩;have se:Same H2 (upd H2 ex (vY ex a.au)):=aB hex;have ee:upd H2 ex (vY ex a.au) ex=some (vY ex a.au):=aA;generalize upd H2 ex (vY ex a.au)=H3 at se ee ⊢;simp -dsimp[aF,stC,-Bool.exists_bool,-List.map_take,-Prod.forall,-Prod.exists];exact .inl (.inr ⟨rfl,ee,fun H4 s4=>tail _ H4 (S2.trans (se.trans s4))⟩)
      ·refine⟨⟨Ni.of T.sE,T.uJ⟩,fun ex hex=>?_⟩;have se:Same H2 (upd H2 ex (vY ex a.aD)):=aB hex;have ee:upd H2 ex (vY ex a.aD) ex=some (vY ex a.aD):=aA;generalize upd H2 ex (vY ex a.aD)=H3 at se ee ⊢;simp -dsimp[aF,stC,-Bool.exists_bool,-List.map_take,-Prod.forall,-Prod.exists];exact .inr (.inl ⟨rfl,ee,fun H4 s4=>tail _ H4 (S2.trans (se.trans s4))⟩)
      ·refine⟨⟨Ni.of T.xT,T.vJ⟩,fun ex hex=>?_⟩;have se:Same H2 (upd H2 ex (vY ex a.aH)):=aB hex;have ee:upd H2 ex (vY ex a.aH) ex=some (vY ex a.aH):=aA;generalize upd H2 ex (vY ex a.aH)=H3 at se ee ⊢;simp -dsimp[aF,stC,-Bool.exists_bool,-List.map_take,-Prod.forall,-Prod.exists];exact .inr (.inr ⟨rfl,ee,fun H4 s4=>tail _ H4 (S2.trans (se.trans s4))⟩)
theorem jU.zu {H H':Hp} {p:Addr} (h:jU H p) (s:Same H H'):jU H' p:=by
  obtain⟨x,y,e,z⟩:=h;exact⟨x,y,s _ _ e,z⟩
theorem jU.ex {H:Hp} {p:Addr} (h:jU H p):∃o,H p=some o:=by
  obtain⟨x,y,u,_⟩:=h;exact⟨_,u⟩
theorem jU.lst {H:Hp} {p:Addr} (h:jU H p):∃xs,H p=some (.lst xs):=by
  obtain⟨x,y,u,_⟩:=h;exact⟨_,u⟩
structure Yh (n:Nat) (d:PyData):Prop where
  no:vM n d=false
  sm:lU 30 30000 d
theorem Js {n:Nat} {d:PyData} (hs:Ay d=false) (hm:lU 30 30000 d):Yh n d:=⟨by unfold vM;rw[hs];rfl,hm⟩
theorem Yi {n:Nat} {d:PyData} (h:(kids d).length≠n) (hm:lU 30 30000 d):Yh n d:=⟨by unfold vM;rw[decide_eq_false h];simp,hm⟩
theorem Ug {n:Nat} {d c:PyData} (hc:c∈kids d) (h:X3 c=false) (hm:lU 30 30000 d):Yh n d:=⟨by
  unfold vM;have:(kids d).all X3=false:=by rw[List.all_eq_false];exact⟨c,hc,by rw[h];simp⟩
  rw[this];simp,hm⟩
theorem Jt {i:Int} (h0:0≤i) (h1:i≤20):lU 0 100 (.int i):=by
  obtain⟨n,rfl⟩:∃n:Nat,i=(n:Int):=⟨i.toNat,by omega⟩;have h:n≤20:=by omega
  have z:∀n,n≤20→(PyData.int (n:Nat)).showable=true∧(PyData.int (n:Nat)).depth≤0∧(PyData.int (n:Nat)).shown.length≤100:=by decide+kernel
  exact⟨(z n h).1,(z n h).2.1,(z n h).2.2⟩
theorem smL {ds:List PyData} (h:∀c∈ds,lU 29 300 c) (hl:ds.length≤60):lU 30 30000 (.list ds):=lU.list h (by omega)
theorem smT {ds:List PyData} (h:∀c∈ds,lU 29 300 c) (hl:ds.length≤60):lU 30 30000 (.tuple ds):=lU.tuple h (by omega)
theorem Rj {ns:List Int} (h01:∀n∈ns,0≤n∧n≤1):∀c∈ns.map PyData.int,lU 0 100 c:=fun c hc=>by
  obtain⟨i,hi,rfl⟩:=List.mem_map.mp hc;have:=h01 i hi;exact Jt (by omega) (by omega)
theorem lit (d:PyData) (h1:d.showable=true:=by decide+kernel) (h2:d.depth≤3:=by decide+kernel) (h3:d.shown.length≤100:=by decide+kernel):lU 3 100 d:=⟨h1,h2,h3⟩
theorem Uh {d:PyData} {k:Nat} (h:lU k 100 d) (hk:k≤3):lU 29 300 d:=h.mono (by omega) (by decide)
theorem yC {d:PyData} (h:lU 3 100 d):lU 30 30000 d:=h.mono (by decide) (by decide)
theorem Az {H:Hp} {r:Addr} {ns:List Int} (h:H r=some (.lst (ns.map V.int))):bW H (.list (ns.map PyData.int)) (.ref r):=by
  simp only[bW];exact⟨r,_,rfl,h,aX.ints H ns⟩
def qpo (d:PyData):Prop:=X3 d=false∧lU 3 100 d
def OJ:Sp:=fun vs H Q _=>∃(p r:Addr) (ns:List Int),vs=[.ref p,.ref r]∧jU H p∧H r=some (.lst (ns.map V.int))∧r≠p∧ns.length≤20∧(∀n∈ns,0≤n∧n≤1)∧
  ∀(v:V) (d:PyData) (H':Hp),bW (hid p H') d v→Yh ns.length d→jU H' p→But p H H'→Q v H'
theorem O1 (T:Txt K mg a):cT P w K mg base rN 2 a.fG a.qD ["_law_pot_here", "_law_row"] OJ:=by
  refine T.zM.z9 j7 (fun vs H Q E h=>?_) (fun cdv A outer s H vs Q E hr h=>?_)
  ·obtain⟨p,r,ns,rfl,_⟩:=h;rfl
  · obtain⟨p,r,ns,rfl,hp,hrx,rp,ZJ,h01,q⟩:=h;refine⟨_,(@FN.out _ _ _ (gq (wj (i:=2) j7.nd rfl (Or.inl rfl) (wk (wg (aR rR (aR dX (aR aJ (aR (bQ Vy bN (aQ (cN (K:=K) rfl) rfl T.nm.len PySem.boot_len (aj (aL 1) ak))) (aR (bQ oG (aL 1) (bB (aj aJ ak))) (aR (bB (aj (aL 1) ak)) (aR HD (aR (bQ Nq (eG z8 rfl T.nm.tuple boot_tuple (aj (aL 1) ak)) (dh (aj aJ ak))) vZ)))))))))))
      (gq (Xw (bx (qcn (K:=K) rfl hr.units) (aL 1) (bB ak) (bZ _)) (gq (PSq.mk (bO (i:=3) j7.nd rfl (Or.inl rfl) (PE.eqv (aO (eF (K:=K) T) (hr.mono (by decide)) rfl T.gC T.f9.kp T.gB .nil bD (aj (aL 0) (aj (aQ (cN (K:=K) rfl) rfl T.nm.len PySem.boot_len (aj (aL 1) ak)) ak))) (aK _ _ _))))
      (gq (wj (i:=4) j7.nd rfl (Or.inl rfl) (qgR (dB (K:=K) rfl) (wk (wg (aR dX (aR dX (aR aJ (aR (Qm Fi aJ) (aR rR (aR bN (aR (bB (aj aJ ak)) vZ))))))))) (Xv.mk (PE.eqv (aO (eF (K:=K) T) (hr.mono (by decide)) rfl T.gC T.f9.kp T.gB .nil bD (aj (aL 0) (aj aJ ak))) (aK _ _ _))) (fun _ _=>rfl)))
      (Np (wj (i:=2) j7.nd rfl (Or.inl rfl) (Tp oG (Xv.mk (aL 2)) (wk (wg (aR (qe (KN (K:=K) rfl) (aL 1) (PO.eqv (vQ aJ) (qj _)) vP) (aR (bQ oG (bQ oG (qe (KN (K:=K) rfl) (aL 1) vP (PO.eqv (vQ (aL 3)) (qj _))) (bB (aj (aL 4) ak))) (qe (KN (K:=K) rfl) (aL 1) (PO.eqv (vQ (bQ oF (aL 3) aJ)) (qj _)) vP)) (aR (bQ Nq (bQ Nq (eG z8 rfl T.nm.tuple boot_tuple (aj (qe (KN (K:=K) rfl) (aL 1) vP (PO.eqv (vQ (aL 3)) (qj _))) ak)) (dh (aj (aL 4) ak))) (eG z8 rfl T.nm.tuple boot_tuple (aj (qe (KN (K:=K) rfl) (aL 1) (PO.eqv (vQ (bQ oF (aL 3) aJ)) (qj _)) vP) ak))) vZ)))))))))) (FN.mk bC))
      (FN.mk (aG (aZ (cX (dB (K:=K) rfl) (aL 2) (PE.eqv (aO (eF (K:=K) T) (hr.mono (by decide)) rfl T.gC T.f9.kp T.gB .nil bD (aj (aL 0) (aj (aQ (cN (K:=K) rfl) rfl T.nm.len PySem.boot_len (aj (aL 2) ak)) ak))) (aK _ _ _)) (fun _ _=>rfl)))))))),?_⟩
    have s60:60≤sizeLine:=by decide
    have tr:bW (hid p H) (.list (ns.map PyData.int)) (.ref r):=Az (uV rp hrx);have sl:=Rj h01;have sl2:∀c∈ns.map PyData.int,lU 29 300 c:=fun c hc=>Uh (sl c hc) (by decide);have v1:∀{o2 o3 o4:Option V},GD p (fVar 1) [some (V.ref p),some (V.ref r),o2,o3,o4] H (.list (ns.map PyData.int)):=Gy rfl tr;simp -dsimp[aF,stC,-Bool.exists_bool,-List.map_take,-Prod.forall,-Prod.exists];refine ql (φ:=Yh ns.length) (p:=p) (n:=8) (
      aU (cg Gx (Js rfl (yC (lit .none)))) <|
      aU (cg Ie (Js rfl (yC (lit (.bool true))))) <|
      aU (cg dF (Js rfl (yC (lit (.int 0))))) <|
      aU (qgY (k:=ns.length) xq (by have:=qgX (K:=K) (v1 (o2:=none) (o3:=none) (o4:=none));rw[List.length_map] at this;exact this) (by omega) (by show 1 * ns.length≤_;omega) (fun z hz=>Js rfl (by
        have hc:∀c∈z.cps.toList,c=48:=fun c hc=>by
          rw[hz,List.mem_flatten] at hc;obtain⟨l,hl,hc⟩:=hc;obtain rfl:=List.eq_of_mem_replicate hl;rw[show(Str.ofString "0").cps.toList=[48] by decide+kernel,List.mem_singleton] at hc;exact hc
        have hl:z.length=ns.length:=by
          have:=congrArg List.length hz;rw[List.length_flatten,List.map_replicate,List.sum_replicate_nat,show(Str.ofString "0").cps.toList.length=1 by decide+kernel] at this;show z.cps.size=_;rw[Array.length_toList] at this;omega
        exact(lU.str (n:=300) (fun c h=>by rw[hc c h];decide) (by omega)).mono (by decide) (by decide)))) <|
      aU (cg (Xy v1 (cW (bh dF bM) (by simp)) (by simp;omega)) (Yi (by simp[kids]) (smL (fun c hc=>by
        rcases List.mem_append.mp hc with h | h
        ·exact sl2 c h
        ·rw[List.mem_singleton] at h;subst h;exact Uh (lit (.int 0)) (by decide)) (by simp;omega)))) <|
      aU (cg (cW (bh v1 bM) (by simp)) (Ug (c:=.list (ns.map PyData.int)) (by simp[kids]) rfl (lU.list (k:=29) (n:=29000) (m:=30000) (fun c hc=>by
        rw[List.mem_singleton] at hc;subst hc;exact(lU.list (k:=0) (n:=100) (m:=29000) sl (by rw[List.length_map];omega)).mono (by decide) (by decide)) (by simp)))) <|
      aU (cg Ii (Js rfl (yC (lit (.dict []))))) <|
      aU (cg (Tt hp.lst (Nr hp.lst v1) (zB (bh dF bM) (by simp)) (by simp;omega)) (Yi (by simp[kids]) (smT (fun c hc=>by
        rcases List.mem_append.mp hc with h | h
        ·exact sl2 c h
        ·rw[List.mem_singleton] at h;subst h;exact Uh (lit (.int 1)) (by decide)) (by simp;omega)))) wu) hp.ex (by decide) fun b vs H1 hb s1 hn e1 a1=>?_
    have bp:b≠p:=iV hp.ex (Same.refl _) hb;generalize hNx:qa6 (K6 (Xk K) (fVar 2) _) _=Nx;have tail:∀(c:Addr) (jV:List V) (o3 o4:Option V) (H':Hp),c≠p→H' c=some (.lst jV)→0<jV.length→jV.length≤100→Ij (Yh ns.length) (hid p H') jV→jU H' p→But p H H'→Nx [some (.ref p),some (.ref r),some (.ref c),o3,o4] H':=by
      intro c jV o3 o4 H' cp hc h0 h1 hW hP hB;subst hNx;simp -dsimp[aF,stC,-Bool.exists_bool,-List.map_take,-Prod.forall,-Prod.exists];refine⟨_,.inl (cj.of hc),p,_,rfl,hP,by omega,by omega,fun k H2 hk0 hk1 hP2 hB2=>?_⟩;obtain⟨v,hv,ha⟩:=Ih (n:=jV.length) rfl hk0 hk1;obtain⟨d,hd1,hd2⟩:=hW v hv;exact⟨_,.inl (cj.of (hB2 _ _ cp hc)),v,ha,q v d H2 (bW.same (iU hB2) d v hd1) hd2 hP2 (hB.trans hB2)⟩
    intro c hc;have s2:Same H1 (upd H1 c (.lst [])):=aB hc;have e2:upd H1 c (.lst []) c=some (.lst []):=aA;generalize upd H1 c (.lst [])=H2 at s2 e2 ⊢;have S2:=s1.trans s2;have hP2:=hp.zu S2;have r2:=S2 _ _ hrx;have hic:PyData.canLay0 (.list (qg ns))=true:=by simp[PyData.canLay0,lay_ints]
    have qhj:(PyData.list (qg ns)).depth≤64:=by
      have:=Vm ns;simp[PyData.depth];omega
    refine⟨.list (qg ns),⟨r,_,rfl,cj.of r2,Y9 _⟩,.list [],⟨c,_,rfl,cj.of e2,rfl⟩,hic,rfl,qhj,!decide (ns=[]),by
      simpa [PyData.eqv,qg] using Vn ns [],?_⟩
    by_cases hne:ns=[]
    ·rw[decide_eq_true hne];refine g8.neg rfl ?_;simp -dsimp[aF,stC,-Bool.exists_bool,-List.map_take,-Prod.forall,-Prod.exists];exact tail b vs _ _ H2 bp (s2 _ _ e1) (by omega) (by omega) (a1.same (b_ s2)) hP2 (But.of S2)
    · rw[decide_eq_false hne];refine g8.pos rfl ?_;have n0:0<ns.length:=List.length_pos_iff.mpr hne;simp -dsimp[aF,stC,-Bool.exists_bool,-List.map_take,-Prod.forall,-Prod.exists];refine⟨_,.inl (cj.of r2),p,_,rfl,hP2,by simp;omega,by simp;omega,fun j0 H3 hj0 hj1 LK hB3=>?_⟩;rw[List.length_map] at hj1;obtain⟨j,rfl⟩:∃j:Nat,j0=(j:Int):=⟨j0.toNat,by omega⟩;have B3:=(But.of S2).trans hB3;simp -dsimp[aF,stC,-Bool.exists_bool,-List.map_take,-Prod.forall,-Prod.exists];refine ql (φ:=qpo) (p:=p) (n:=7) (
        aU (cg Ie ⟨rfl,lit _⟩) <| aU (cg Ie ⟨rfl,lit _⟩) <| aU (cg dF ⟨rfl,lit _⟩) <|
        aU (cg (Xz dF) ⟨rfl,lit _⟩) <| aU (cg Gx ⟨rfl,lit _⟩) <| aU (cg xq ⟨rfl,lit _⟩) <|
        aU (cg (cW (bh dF bM) (by simp)) ⟨rfl,lit _⟩) wu) LK.ex (by decide) fun b4 w4 H4 hb4 s4 hn4 e4 a4=>?_
      have b4p:b4≠p:=iV LK.ex (Same.refl _) hb4;refine⟨p,7,rfl,LK.zu s4,by decide,by decide,fun k5 H5 hk0 hk1 Jw K4=>?_⟩;obtain⟨v5,hv5,ha5⟩:=Ih (n:=7) hn4 hk0 hk1;obtain⟨d5,L_,hod⟩:=a4 v5 hv5;refine⟨_,.inl (cj.of (K4 _ _ b4p e4)),v5,ha5,?_⟩;have B5:=(B3.same s4).trans K4;have t5:=bW.same (iU K4) d5 v5 L_;have tr5:bW (hid p H5) (.list (ns.map PyData.int)) (.ref r):=Az (uV rp (B5 _ _ rp hrx));simp -dsimp[aF,stC,-Bool.exists_bool,-List.map_take,-Prod.forall,-Prod.exists];have eb5:=K4 _ _ bp (s4 _ _ (hB3 _ _ bp (s2 _ _ e1)));have ab5:=((((a1.same (b_ s2)).same (iU hB3)).same (b_ s4)).same (iU K4));have w1:GD p (fVar 1) [some (V.ref p),some (V.ref r),some (V.ref b),some (V.int j),some v5] H5 (.list (ns.map PyData.int)):=Gy rfl tr5;have w3:GD p (fVar 3) [some (V.ref p),some (V.ref r),some (V.ref b),some (V.int j),some v5] H5 (.int (j:Nat)):=Gy rfl (by simp[bW]);have w4:GD p (fVar 4) [some (V.ref p),some (V.ref r),some (V.ref b),some (V.int j),some v5] H5 d5:=Gy rfl t5;have w5:GD p (K6 (fI0 fun i j=>V.int (i+j)) (fVar 3) (tC (V.int 1))) [some (V.ref p),some (V.ref r),some (V.ref b),some (V.int j),some v5] H5 (.int ((j+1:Nat):Int)):=qcI w3 dF;have hm:∀c∈((ns.map PyData.int).take j++[d5])++(ns.map PyData.int).drop (j+1),lU 29 300 c:=fun c hc=>by
        simp only[List.mem_append,List.mem_singleton] at hc
        rcases hc with(h | h) | h
        ·exact sl2 c (List.mem_of_mem_take h)
        ·exact h▸Uh hod.2 (by decide)
        ·exact sl2 c (List.mem_of_mem_drop h)
      have hml:(((ns.map PyData.int).take j++[d5])++(ns.map PyData.int).drop (j+1)).length≤60:=by simp;omega
      have hmd:d5∈((ns.map PyData.int).take j++[d5])++(ns.map PyData.int).drop (j+1):=by simp
      refine ql (φ:=Yh ns.length) (p:=p) (n:=3) (
        aU (cg (Tv (j:=1) w1 dF) (Yi (by simp[kids];omega) (smL (fun c hc=>sl2 c (List.mem_of_mem_drop hc)) (by simp;omega)))) <|
        aU (cg (Xy (Xy (qfg w1 w3) (cW (bh w4 bM) (by simp)) (by simp;omega)) (Tv w1 w5) (by simp;omega)) (Ug hmd hod.1 (smL hm hml))) <|
        aU (cg (Tt Jw.lst (Tt Jw.lst (Nr Jw.lst (qfg w1 w3)) (zB (bh w4 bM) (by simp)) (by simp;omega)) (Nr Jw.lst (Tv w1 w5)) (by simp;omega)) (Ug hmd hod.1 (smT hm hml))) wu) Jw.ex (by decide) fun b6 w6 H6 hb6 s6 hn6 e6 a6=>?_
      refine⟨_,s6 _ _ eb5,_,e6,by omega,fun b7 hb7=>?_⟩;have s7:Same H6 (upd H6 b7 (.lst (vs++w6))):=aB hb7;exact tail b7 (vs++w6) _ _ _ (iV Jw.ex s6 hb7) aA (by rw[List.length_append];omega) (by rw[List.length_append];omega) (((ab5.same (b_ s6)).app a6).same (b_ s7)) (Jw.zu (s6.trans s7)) (B5.same (s6.trans s7))
structure Yj (n:Nat) (d:PyData):Prop where
  no:nY n d=false
  sm:lU 30 30000 d
  sh:gW d
  kd:(kids d).length≤20
theorem pX {d:PyData} (h:∀x,d = .str x→x.length≤60):gW d:=fun x e=>Nat.le_trans (h x e) (by decide)
theorem Ft {n:Nat} {d:PyData} (hs:Ay d=false) (hm:lU 30 30000 d) (hh:gW d):Yj n d:=⟨by unfold nY;rw[hs];rfl,hm,hh,by cases d <;> first | exact Nat.zero_le _ | cases hs⟩
theorem oN {n:Nat} {d c:PyData} (hc:c∈kids d) (h:Ri n c=false):nY n d=false:=by
  unfold nY;have:(kids d).all (Ri n)=false:=by rw[List.all_eq_false];exact⟨c,hc,by rw[h];simp⟩
  rw[this];simp
theorem Yk {n:Nat} {d:PyData} (h:¬(d7 (kids d)).Nodup):nY n d=false:=by
  unfold nY;rw[decide_eq_false h];simp
theorem qM {n:Nat} {ds:List PyData} (hn:nY n (.list ds)=false) (h:∀c∈ds,lU 3 100 c) (hl:ds.length≤20):Yj n (.list ds):=⟨hn,smL (fun c hc=>Uh (h c hc) (by decide)) (by omega),(fun x e=>by cases e),hl⟩
theorem Wm {n:Nat} {ds:List PyData} (hn:nY n (.tuple ds)=false) (h:∀c∈ds,lU 3 100 c) (hl:ds.length≤20):Yj n (.tuple ds):=⟨hn,smT (fun c hc=>Uh (h c hc) (by decide)) (by omega),(fun x e=>by cases e),hl⟩
theorem all1 {φ:PyData→Prop} {d:PyData} (h:φ d):∀c∈[d],φ c:=fun c hc=>by rw[List.mem_singleton] at hc;subst hc;exact h
theorem all2 {φ:PyData→Prop} {d e:PyData} (h:φ d) (k:φ e):∀c∈[d,e],φ c:=fun c hc=>by
  rcases List.mem_cons.mp hc with rfl | hc
  ·exact h
  ·exact all1 k c hc
theorem qhk {φ:PyData→Prop} {d e f:PyData} (h:φ d) (k:φ e) (l:φ f):∀c∈[d,e,f],φ c:=fun c hc=>by
  rcases List.mem_cons.mp hc with rfl | hc
  ·exact h
  ·exact all2 k l c hc
theorem qjU:gW .none:=pX fun x e=>by cases e
theorem Rk (s:String) (h:(Str.ofString s).length≤60):gW (.str (Str.ofString s)):=pX fun x e=>by cases e;exact h
def Qg:Sp:=fun vs H Q _=>∃(p r:Addr) (ns:List Int),vs=[.ref p,.ref r]∧jU H p∧H r=some (.lst (ns.map V.int))∧r≠p∧ns.length≤20∧
  ∀(v:V) (d:PyData) (H':Hp),bW (hid p H') d v→Yj ns.length d→jU H' p→But p H H'→Q v H'
theorem Qh (T:Txt K mg a):cT P w K mg base rN 2 a.fZ a.t_ ["_law_pot_here", "_law_row"] Qg:=by
  refine T.Cp.z9 tV (fun vs H Q E h=>?_) (fun cdv A outer s H vs Q E hr h=>?_)
  ·obtain⟨p,r,ns,rfl,_⟩:=h;rfl
  · obtain⟨p,r,ns,rfl,hp,hrx,rp,ZJ,q⟩:=h;refine⟨_,(@FN.out _ _ _ (gq (PSq.mk (bO (i:=2) tV.nd rfl (Or.inl rfl) (aQ (cN (K:=K) rfl) rfl T.nm.len PySem.boot_len (aj (aL 1) ak))))
      (gq (wj (i:=3) tV.nd rfl (Or.inl rfl) (wk (wg (aR rR (aR aJ (aR dX (aR bN (aR bN (aR HD (aR (bB (aj (aL 2) ak)) (aR (bB (aj (Qm Fi aJ) ak)) (aR (bB (aj dX ak)) (aR (bB (aj rR ak)) (aR (bB (aj bN ak)) (aR (bB (aj (bB (aj aJ ak)) ak)) (aR (dh (aj (aL 2) ak)) (aR (bB (aj (bQ Zg aJ aJ) ak)) vZ)))))))))))))))))
      (gq (Xw (bx JN (aL 2) aJ (bZ _)) (Np (wj (i:=3) tV.nd rfl (Or.inl rfl) (Tp oG (Xv.mk (aL 3)) (wk (wg (aR (bB (aj aJ (aj (bQ vW (aL 2) aJ) (aj aJ ak)))) (aR (dh (aj (bQ vW (aL 2) aJ) (aj (bQ vW (aL 2) aJ) ak))) (aR (bB (aj dX ak)) (aR (bB (aj aJ (aj (aL 2) ak))) (aR (bB (aj (bB (aj aJ ak)) (aj aJ ak))) vZ)))))))))) (FN.mk bC))
      (FN.mk (aG (aZ (cX (dB (K:=K) rfl) (aL 3) (PE.eqv (aO (eF (K:=K) T) (hr.mono (by decide)) rfl T.gC T.f9.kp T.gB .nil bD (aj (aL 0) (aj (aQ (cN (K:=K) rfl) rfl T.nm.len PySem.boot_len (aj (aL 3) ak)) ak))) (aK _ _ _)) (fun _ _=>rfl))))))))),?_⟩
    have s60:60≤sizeLine:=by decide
    simp -dsimp[aF,stC,-Bool.exists_bool,-List.map_take,-Prod.forall,-Prod.exists];refine⟨_,.inl (cj.of hrx),?_⟩;rw[List.length_map];generalize hn:ns.length=n at ZJ q ⊢;have v2:∀{o3:Option V} {H:Hp},GD p (fVar 2) [some (V.ref p),some (V.ref r),some (V.int n),o3] H (.int n):=Gy rfl (by simp[bW]);have sn:lU 3 100 (.int n):=(Jt (by omega) (by omega)).mono (by decide) (Nat.le_refl _);have nn:Ri n (.int n)=false:=by simp[Ri]
    have n17:Ri n (.int (10 ^ (17:Int).toNat))=false:=by
      have:¬((10:Int) ^ (17:Int).toNat<(n:Int)):=by
        have:(10:Int) ^ (17:Int).toNat=100000000000000000:=by decide+kernel
        omega
      simp only[Ri,decide_eq_false this,Bool.and_false]
    refine ql (φ:=Yj n) (p:=p) (n:=14) (
      aU (cg Gx (Ft rfl (yC (lit _)) qjU)) <|
      aU (cg dF (Ft rfl (yC (lit _)) (pX fun x e=>by cases e))) <|
      aU (cg Ie (Ft rfl (yC (lit _)) (pX fun x e=>by cases e))) <|
      aU (cg xq (Ft rfl (yC (lit _)) (Rk "" (by decide+kernel)))) <|
      aU (cg xq (Ft rfl (yC (lit _)) (Rk "0" (by decide+kernel)))) <|
      aU (cg Ii (Ft rfl (yC (lit _)) (pX fun x e=>by cases e))) <|
      aU (cg (cW (bh v2 bM) (by simp)) (qM (oN (c:=.int n) (by simp[kids]) nn) (all1 sn) (by simp))) <|
      aU (cg (cW (bh (Xz dF) bM) (by simp)) (qM (oN (c:=.int (-1)) (by simp[kids]) rfl) (all1 (lit _)) (by simp))) <|
      aU (cg (cW (bh Ie bM) (by simp)) (qM (oN (c:=.bool true) (by simp[kids]) rfl) (all1 (lit _)) (by simp))) <|
      aU (cg (cW (bh Gx bM) (by simp)) (qM (oN (c:=.none) (by simp[kids]) rfl) (all1 (lit _)) (by simp))) <|
      aU (cg (cW (bh xq bM) (by simp)) (qM (oN (c:=.str (Str.ofString "0")) (by simp[kids]) rfl) (all1 (lit _)) (by simp))) <|
      aU (cg (cW (bh (cW (bh dF bM) (by simp)) bM) (by simp)) (qM (oN (c:=.list [.int 0]) (by simp[kids]) rfl) (all1 (lit _)) (by simp))) <|
      aU (cg (zB (bh v2 bM) (by simp)) (Wm (oN (c:=.int n) (by simp[kids]) nn) (all1 sn) (by simp))) <|
      aU (cg (cW (bh (qgV dF dF ⟨by decide,by decide,by decide⟩) bM) (by simp)) (qM (oN (c:=.int (10 ^ (17:Int).toNat)) (by simp[kids]) n17) (all1 (lit _)) (by simp))) wu) hp.ex (by decide) fun b vs H1 hb s1 hn1 e1 a1=>?_
    have bp:b≠p:=iV hp.ex (Same.refl _) hb;generalize hNx:qa6 (K6 (Xk K) (fVar 3) _) _=Nx;have tail:∀(c:Addr) (jV:List V) (H':Hp),c≠p→H' c=some (.lst jV)→0<jV.length→jV.length≤100→Ij (Yj n) (hid p H') jV→jU H' p→But p H H'→Nx [some (.ref p),some (.ref r),some (.int n),some (.ref c)] H':=by
      intro c jV H' cp hc h0 h1 hW hP hB;subst hNx;simp -dsimp[aF,stC,-Bool.exists_bool,-List.map_take,-Prod.forall,-Prod.exists];refine⟨_,.inl (cj.of hc),p,_,rfl,hP,by omega,by omega,fun k H2 hk0 hk1 hP2 hB2=>?_⟩;obtain⟨v,hv,ha⟩:=Ih (n:=jV.length) rfl hk0 hk1;obtain⟨d,hd1,hd2⟩:=hW v hv;exact⟨_,.inl (cj.of (hB2 _ _ cp hc)),v,ha,q v d H2 (bW.same (iU hB2) d v hd1) hd2 hP2 (hB.trans hB2)⟩
    refine g8.of (fun h=>?_) (fun h=>?_)
    · have n0:0<n:=by
        have:=of_decide_eq_true h;omega
      have v2m:∀{o3:Option V} {H:Hp},GD p (K6 (fI0 fun i j=>V.int (i - j)) (fVar 2) (tC (V.int 1))) [some (V.ref p),some (V.ref r),some (V.int n),o3] H (.int ((n:Int) - 1)):=qcI v2 dF;have sm:lU 3 100 (.int ((n:Int) - 1)):=(Jt (by omega) (by omega)).mono (by decide) (Nat.le_refl _);simp -dsimp[aF,stC,-Bool.exists_bool,-List.map_take,-Prod.forall,-Prod.exists];refine ql (φ:=Yj n) (p:=p) (n:=5) (
        aU (cg (cW (bh dF (bh v2m (bh dF bM))) (by simp)) (qM (Yk (by simp[kids,d7])) (qhk (lit _) sm (lit _)) (by simp))) <|
        aU (cg (zB (bh v2m (bh v2m bM)) (by simp)) (Wm (Yk (by simp[kids,d7])) (all2 sm sm) (by simp))) <|
        aU (cg (cW (bh Ie bM) (by simp)) (qM (oN (c:=.bool false) (by simp[kids]) rfl) (all1 (lit _)) (by simp))) <|
        aU (cg (cW (bh dF (bh v2 bM)) (by simp)) (qM (oN (c:=.int n) (by simp[kids]) nn) (all2 (lit _) sn) (by simp))) <|
        aU (cg (cW (bh (cW (bh dF bM) (by simp)) (bh dF bM)) (by simp)) (qM (oN (c:=.list [.int 0]) (by simp[kids]) rfl) (all2 (lit _) (lit _)) (by simp))) wu) (hp.zu s1).ex (by decide) fun b6 w6 H6 hb6 s6 hn6 e6 a6=>?_
      refine⟨_,s6 _ _ e1,_,e6,by omega,fun b7 hb7=>?_⟩;have s7:Same H6 (upd H6 b7 (.lst (vs++w6))):=aB hb7;exact tail b7 (vs++w6) _ (iV hp.ex (s1.trans s6) hb7) aA (by rw[List.length_append];omega) (by rw[List.length_append];omega) (((a1.same (b_ s6)).app a6).same (b_ s7)) (hp.zu (s1.trans (s6.trans s7))) (But.of (s1.trans (s6.trans s7)))
    ·simp -dsimp[aF,stC,-Bool.exists_bool,-List.map_take,-Prod.forall,-Prod.exists];exact tail b vs H1 bp e1 (by omega) (by omega) a1 (hp.zu s1) (But.of s1)
theorem PJ.name {x:Str} (h:nameB x=true):PJ 4 x:=by
  unfold nameB at h;simp only[Bool.and_eq_true,decide_eq_true_eq] at h;refine⟨fun c hc=>?_,h.1.2⟩;have:=qbR (List.all_eq_true.mp h.2 c hc);have:(16:Nat) ^ 8=4294967296:=by decide
  omega
theorem qeK {c:Nat} (h:Y0 c=true):c∈("abcdefghijklmnopqrstuvwxyz" : Str).cps.toList:=by
  rw[Y7] at h;exact of_decide_eq_true h
theorem qc5 {c:Nat} (h:Y0 c=true):Unicode.upperOf c=[c - 32]∧Y0 (c - 32)=false:=by
  have z:∀c∈("abcdefghijklmnopqrstuvwxyz" : Str).cps.toList,Unicode.upperOf c=[c - 32]∧Y0 (c - 32)=false:=by decide+kernel
  exact z c (qeK h)
theorem qc6 {x:Str} {e:Nat}:e∈(placed x fun _ c=>Unicode.upperOf c).toList↔∃c∈x.cps.toList,e∈Unicode.upperOf c:=by
  unfold placed;rw[Array.mem_toList_iff,Array.mem_flatten];constructor
  ·rintro⟨l,hl,he⟩;obtain⟨i,h,rfl⟩:=Array.mem_mapIdx.mp hl;exact⟨x.cps[i],by simp,by simpa using he⟩
  ·rintro⟨c,hc,he⟩;rw[Array.mem_toList_iff] at hc;obtain⟨i,h,rfl⟩:=Array.mem_iff_getElem.mp hc;exact⟨_,Array.mem_mapIdx.mpr ⟨i,h,rfl⟩,by simpa using he⟩
theorem qjV {x:Str} (h:nameB x=true):nameB ⟨placed x fun _ c=>Unicode.upperOf c⟩=false:=by
  have h':=h;unfold nameB at h;simp only[Bool.and_eq_true,decide_eq_true_eq] at h;have hc:x.cps[0]?≠none:=by
    have h1:1≤x.cps.size:=h.1.1;rw[Array.getElem?_eq_getElem (show 0<x.cps.size from h1)];simp
  obtain⟨c,hc⟩:=Option.ne_none_iff_exists'.mp hc;have hm:c∈x.cps.toList:=by rw[Array.mem_toList_iff];exact Array.mem_of_getElem? hc
  have hL:=List.all_eq_true.mp h.2 c hm;cases e:nameB ⟨placed x fun _ c=>Unicode.upperOf c⟩ with
  | false=>rfl
  | true=>
    unfold nameB at e;simp only[Bool.and_eq_true] at e;have:=List.all_eq_true.mp e.2 (c - 32) (qc6.mpr ⟨c,hm,by rw[(qc5 hL).1];simp⟩);rw[(qc5 hL).2] at this;cases this
theorem qc7 {x:Str} (h:nameB x=true):PJ 12 ⟨placed x fun _ c=>Unicode.upperOf c⟩:=by
  have L:=PJ.name h;refine⟨fun e he=>?_,?_⟩
  ·obtain⟨c,hc,he⟩:=qc6.mp he;unfold nameB at h;simp only[Bool.and_eq_true] at h;rw[(qc5 (List.all_eq_true.mp h.2 c hc)).1,List.mem_singleton] at he;have:=L.cp c hc;omega
  ·have h1:(placed x fun _ c=>Unicode.upperOf c).size≤3 * x.length:=PyProof.Rows.placed_le3 x _ fun _ c=>StrLaws.upperOf_le3 c;have:=L.ln;show(placed x fun _ c=>Unicode.upperOf c).size≤12;omega
theorem qhl {x:Str} {l u:Option Int} {e:Nat} (h:e∈(Txt.slice x l u).cps.toList):e∈x.cps.toList:=by
  unfold Txt.slice at h;split at h
  ·exact h
  ·rw[List.mem_filterMap] at h;obtain⟨i,_,h⟩:=h;rw[Array.mem_toList_iff];exact Array.mem_of_getElem? h
theorem qhm {x:Str} {n:Nat} {l u:Option Int} (h:PJ n x):PJ n (Txt.slice x l u):=⟨fun c hc=>h.cp c (qhl hc),Nat.le_trans (Txt.slice_le x l u) h.ln⟩
theorem no_space {x:Str}:nameB (x++Str.ofString " ")=false:=by
  cases e:nameB (x++Str.ofString " ") with
  | false=>rfl
  | true=>
    unfold nameB at e;simp only[Bool.and_eq_true] at e;have:=List.all_eq_true.mp e.2 32 (show 32∈(x.cps++(Str.ofString " ").cps).toList by simp;exact .inr (by decide+kernel));exact absurd this (by decide+kernel)
theorem qeL {x:Str}:nameB (x++Str.ofString "aaaaa")=false:=by
  have la:(x++Str.ofString "aaaaa").length=x.length+5:=Array.size_append;unfold nameB;rw[decide_eq_false (p:=(x++Str.ofString "aaaaa").length≤4) (by omega)];simp
structure qaZ (xs:List Str) (d:PyData):Prop where
  no:Jx xs d=false
  sm:lU 30 30000 d
  sh:gW d
  kd:(kids d).length≤20
theorem Fv {xs:List Str} {d:PyData} (hs:qhg d=false) (hm:lU 30 30000 d) (hk:(kids d).length≤20):qaZ xs d:=⟨(by cases d <;> first | rfl | cases hs),hm,(fun x e=>by subst e;cases hs),hk⟩
theorem Ka {xs:List Str} {x:Str} {n:Nat} (h:x∉xs) (L:PJ n x) (hn:n≤20):qaZ xs (.str x):=by
  have:=L.ln;exact⟨by simp only[Jx];exact decide_eq_false h,(lU.str (n:=300) L.cp (by omega)).mono (by decide) (by decide),pX fun y e=>by cases e;omega,Nat.zero_le _⟩
theorem O2 {xs:List Str} {x:Str} (hX:Uq xs) (h:nameB x=false):x∉xs:=fun z=>by
  rw[hX.nm x z] at h;cases h
theorem qhn {σ:St} {H:Hp} {p:Addr} {ta tb:TE} {x z0:Str} {k:Nat} (h1:GD p ta σ H (.str x)) (h2:GD p tb σ H (.int k)) (hk:k≤1000) (hl:x.length * k≤sizeLine) (hz:z0.cps.toList=(List.replicate k x.cps.toList).flatten):GD p (K6 Zq ta tb) σ H (.str z0):=fun H1 Q hp s q=>
  h1 H1 _ hp s fun v H2 s2 hv=>h2 H2 _ hp (s.trans s2) fun u H3 s3 hu=>by
    simp only[bW] at hv hu;subst hv hu;refine⟨⟨by omega,by omega⟩,hl,fun z hz'=>?_⟩;obtain rfl:z=z0:=by
      cases z;cases z0;congr;exact Array.toList_inj.mp (hz'.trans hz.symm)
    exact q _ H3 (s2.trans s3) (by simp[bW])
theorem qjW {σ:St} {H:Hp} {p:Addr} {t:TE} {x:Str} (h1:GD p t σ H (.str x)) (hl:(placed x fun _ c=>Unicode.upperOf c).size≤sizeLine):GD p (qdF K "str" Xx t) σ H (.str ⟨placed x fun _ c=>Unicode.upperOf c⟩):=fun H1 Q hp s q=>
  h1 H1 _ hp s fun v H2 s2 hv=>by
    simp only[bW] at hv;subst hv;exact⟨rfl,rfl,hl,q _ H2 s2 (by simp[bW])⟩
theorem qho {H:Hp} {p r:Addr} {xs:List Str} (hp:jU H p) (h:H r=some (.lst (xs.map V.str))) (hl:1≤xs.length):r≠p:=fun z=>by
  obtain⟨x,y,e,_⟩:=hp;rw[z,e] at h;cases xs with
  | nil=>simp at hl
  | cons a l=>simp at h
theorem O4 {x:Str} (h:nameB x=true):lU 0 100 (.str x):=by
  have L:=PJ.name h;have:=L.ln;exact lU.str L.cp (by omega)
def rQ (x:Str):List Str:=iW++iW.map fun l=>Txt.slice x none (some 3)++l
theorem Rm:∀x∈iW,nameB x=true:=by decide+kernel
theorem qc8 {x:Str} (h:nameB x=true):∀y∈rQ x,PJ 8 y:=fun y hy=>by
  rcases List.mem_append.mp hy with h1 | h1
  ·exact(PJ.name (Rm y h1)).mono (by decide)
  ·obtain⟨l,hl,rfl⟩:=List.mem_map.mp h1;exact(qhm (PJ.name h)).app (PJ.name (Rm l hl))
theorem qa0 {x:Str} {xs:List Str} (h:xs.length≤9):0<((rQ x).filter fun y=>!decide (y∈xs)).length:=by
  have h1:=qes (l:=iW) (xs:=xs) qaJ;rw[Bx] at h1;unfold rQ;rw[List.filter_append,List.length_append];omega
def Wn:Sp:=fun vs H Q _=>∃(p t n l:Addr) (xs:List Str),vs=[.ref p,.ref t]∧jU H p∧H t=some (.tup [.ref n,.ref l])∧H n=some (.lst (xs.map V.str))∧Uq xs∧
  ∀(v:V) (d:PyData) (H':Hp),bW (hid p H') d v→qaZ xs d→jU H' p→But p H H'→Q v H'
theorem Wo (T:Txt K mg a):cT P w K mg base rN 2 a.jj a.yR ["_law_pot_here", "_law_web_here"] Wn:=by
  refine T.GQ.z9 ur (fun vs H Q E h=>?_) (fun cdv A outer s H vs Q E hr h=>?_)
  ·obtain⟨p,t,n,l,xs,rfl,_⟩:=h;rfl
  · obtain⟨p,t,n,l,xs,rfl,hp,ht,hn,hX,q⟩:=h;refine⟨_,(@FN.out _ _ _ (gq (PSq.mk (bO (i:=2) ur.nd rfl (Or.inr rfl) (cX (dB (K:=K) rfl) (cX (dB (K:=K) rfl) (aL 1) aJ (fun _ _=>rfl)) (PE.eqv (aO (eF (K:=K) T) (hr.mono (by decide)) rfl T.gC T.f9.kp T.gB .nil bD (aj (aL 0) (aj (aQ (cN (K:=K) rfl) rfl T.nm.len PySem.boot_len (aj (cX (dB (K:=K) rfl) (aL 1) aJ (fun _ _=>rfl)) ak)) ak))) (aK _ _ _)) (fun _ _=>rfl))))
      (gq (wj (i:=3) ur.nd rfl (Or.inl rfl) (wk (wg (aR rR (aR aJ (aR dX (aR bN (aR (bQ cu (aL 2) (bQ Vy bN aJ)) (aR (qdX (K:=K) rfl PySem.F.plainAttrs_str PySem.F.slot_str_upper PySem.F.type_str_upper qaI (aL 2)) (aR (bQ cu (aL 2) bN) (aR (bB (aj (aL 2) ak)) (aR (dh (aj (aL 2) ak)) (aR HD (aR bN vZ))))))))))))))
      (FN.mk (aC (bO (i:=4) ur.nd rfl (Or.inl rfl) bN)
      (aC (wY (i:=5) ur.nd rfl rfl rfl rfl (show bL (ao gw) _ ["_law_pot_here", "_law_web_here", "_law_name", "_law_some", "_law_letters", "_law_others"] ["_law_one"] [1] ["_law_one", "_law_web_here"] from⟨rfl,by decide+kernel,by decide+kernel,rfl,by decide+kernel,by decide+kernel⟩) rfl (PI.eqv (nO (K:=K) rfl (bQ oG (eG (qgS rfl) rfl T.nm.list boot_list (aj (aL 4) ak)) (fL rfl rfl (show bL (ao gw) _ ["_law_pot_here", "_law_web_here", "_law_name", "_law_some", "_law_letters", "_law_others"] ["_law_letter"] [2] ["_law_letter", "_law_name"] from⟨rfl,by decide+kernel,by decide+kernel,rfl,by decide+kernel,by decide+kernel⟩) rfl (PI.eqv (W5 (aL 4)) (M7 _)) (fun C s H fp pn=>(bG (i:=0) (show(["_law_letter", "_law_name"]:List Str).Nodup by decide+kernel) rfl (Or.inl rfl))) (fun C s H fp pn=>eV) (fun C s H fp pn=>(bQ cu (qe qeq (aL 1) vP (PO.eqv (vQ aJ) (qj _))) (aL 0)))))) (ju _ _)) (fun C s H fp pn=>(bG (i:=0) (show(["_law_one", "_law_web_here"]:List Str).Nodup by decide+kernel) rfl (Or.inl rfl))) (fun C s H fp pn=>(RL (bx (Lq (K:=K) rfl) (aL 0) (cX (dB (K:=K) rfl) (aL 1) aJ (fun _ _=>rfl)) rfl))) (fun C s H fp pn=>(aL 0)))
      (aG (aZ (cX (dB (K:=K) rfl) (bQ oG (aL 3) (bQ Zt (bB (aj (cX (dB (K:=K) rfl) (aL 5) (PE.eqv (aO (eF (K:=K) T) (hr.mono (by decide)) rfl T.gC T.f9.kp T.gB .nil bD (aj (aL 0) (aj (aQ (cN (K:=K) rfl) rfl T.nm.len PySem.boot_len (aj (aL 5) ak)) ak))) (aK _ _ _)) (fun _ _=>rfl)) ak)) aJ)) (PE.eqv (aO (eF (K:=K) T) (hr.mono (by decide)) rfl T.gC T.f9.kp T.gB .nil bD (aj (aL 0) (aj aJ ak))) (aK _ _ _)) (fun _ _=>rfl)))))))))),?_⟩
    have s60:60≤sizeLine:=by decide
    have l9:=hX.len;have np:=qho hp hn l9.1;have tp:t≠p:=Lw hp.lst (Same.refl _) ht;simp -dsimp[aF,stC,-Bool.exists_bool,-List.map_take,-Prod.forall,-Prod.exists];refine⟨_,.inr (lR.of ht),_,rfl,?_⟩;refine⟨_,.inr (lR.of ht),_,rfl,_,.inl (cj.of hn),p,_,rfl,hp,by simp;omega,by simp;omega,fun k1 H1 hk0 hk1 V7 Ur=>?_⟩;rw[List.length_map] at hk1;obtain⟨nm,hnm⟩:∃nm,xs[k1.toNat]? = some nm:=⟨_,List.getElem?_eq_getElem (show k1.toNat<xs.length by omega)⟩;have hmx:=List.mem_of_getElem? hnm;have hN:=hX.nm nm hmx;have n1:=Ur _ _ np hn;have t1:=Ur _ _ tp ht;have L:=PJ.name hN;have L4:=L.ln;refine⟨_,.inl (cj.of n1),.str nm,?_,?_⟩
    ·rw[show k1=(k1.toNat:Int) by omega];exact dj (by rw[List.getElem?_map,hnm];rfl)
    simp -dsimp[aF,stC,-Bool.exists_bool,-List.map_take,-Prod.forall,-Prod.exists];have v2:GD p (fVar 2) [some (V.ref p),some (V.ref t),some (V.str nm),none,none,none] H1 (.str nm):=Gy rfl (by simp[bW]);have la:∀x y:Str,(x++y).length=x.length+y.length:=fun x y=>Array.size_append;refine ql (φ:=qaZ xs) (p:=p) (n:=11) (
      aU (cg Gx (Fv rfl (yC (lit _)) (Nat.zero_le _))) <|
      aU (cg dF (Fv rfl (yC (lit _)) (Nat.zero_le _))) <|
      aU (cg Ie (Fv rfl (yC (lit _)) (Nat.zero_le _))) <|
      aU (cg xq (Ka (n:=0) (O2 hX (by decide+kernel)) ⟨by decide+kernel,by decide+kernel⟩ (by decide))) <|
      aU (cg (qcA v2 (qhn (k:=5) (z0:=Str.ofString "aaaaa") xq dF (by decide) (by decide+kernel) (by decide+kernel)) (by show nm.length+5≤_;omega)) (Ka (n:=4+5) (O2 hX qeL) (L.app ⟨by decide+kernel,by decide+kernel⟩) (by decide))) <|
      aU (cg (qjW v2 (by have:(placed nm fun _ c=>Unicode.upperOf c).size≤12:=(qc7 hN).ln;omega)) (Ka (O2 hX (qjV hN)) (qc7 hN) (by decide))) <|
      aU (cg (qcA v2 xq (by show nm.length+1≤_;omega)) (Ka (n:=4+1) (O2 hX no_space) (L.app ⟨by decide+kernel,by decide+kernel⟩) (by decide))) <|
      aU (cg (cW (bh v2 bM) (by simp)) (Fv rfl (smL (fun c hc=>by rw[List.mem_singleton] at hc;subst hc;exact Uh (O4 hN) (by decide)) (by simp)) (by simp[kids]))) <|
      aU (cg (zB (bh v2 bM) (by simp)) (Fv rfl (smT (fun c hc=>by rw[List.mem_singleton] at hc;subst hc;exact Uh (O4 hN) (by decide)) (by simp)) (by simp[kids]))) <|
      aU (cg Ii (Fv rfl (yC (lit _)) (Nat.zero_le _))) <|
      aU (cg xq (Ka (n:=1) (O2 hX (by decide+kernel)) ⟨by decide+kernel,by decide+kernel⟩ (by decide))) wu) V7.ex (by decide) fun b vs H2 hb s2 hvn e2 a2=>?_
    have bp:b≠p:=iV V7.ex (Same.refl _) hb;have el:((Str.ofString "abcdefghijklmnopqrstuvwxyz").cps.toList.map fun c=>V.str ⟨#[c]⟩)=iW.map V.str:=by
      unfold iW;rw[List.map_map];rfl
    rw[el];refine⟨by decide+kernel,fun l3 hl3=>?_⟩;have s3:Same H2 (upd H2 l3 (.lst (iW.map V.str))):=aB hl3;have e3:upd H2 l3 (.lst (iW.map V.str)) l3=some (.lst (iW.map V.str)):=aA;generalize upd H2 l3 (.lst (iW.map V.str))=H3 at s3 e3 ⊢;refine fun D hD=>cmS (fun i σ H'=>(∃o',σ=[o',some (.str nm)])∧H' D=some (.lst (((iW.take i).map fun l=>Txt.slice nm none (some 3)++l).map V.str))∧Same H3 H') ⟨⟨_,rfl⟩,aA,aB hD⟩ ?_ ?_
    · rintro i c σ H4 hi ⟨⟨o',rfl⟩,Rg,s4⟩;have hc:iW[i]? = some ⟨#[c]⟩:=by
        unfold iW;rw[List.getElem?_map,Array.getElem?_toList,hi];rfl
      have hi2:i<26:=by
        have:=(List.getElem?_eq_some_iff.mp hc).1
        rwa [Bx] at this
      have:=Txt.slice_le nm none (some 3);rw[take_one hc,List.map_append,List.map_append];simp -dsimp[aF,stC,-Bool.exists_bool,-List.map_take,-Prod.forall,-Prod.exists];refine⟨by omega,by show _+1≤_;omega,_,Rg,by simp;omega,?_,cU s4 hD⟩;rw[aA];simp
    · rintro σ H4 ⟨⟨o',rfl⟩,Rg,s4⟩;rw[show(Str.ofString "abcdefghijklmnopqrstuvwxyz").cps.size=26 from rfl,show iW.take 26=iW from rfl] at Rg;simp -dsimp[aF,stC,-Bool.exists_bool,-List.map_take,-Prod.forall,-Prod.exists];have ec:iW.map V.str++(iW.map fun l=>Txt.slice nm none (some 3)++l).map V.str=(rQ nm).map V.str:=by
        unfold rQ;rw[List.map_append]
      have cl:(rQ nm).length=52:=by
        unfold rQ;rw[List.length_append,List.length_map,Bx]
      refine⟨_,s4 _ _ e3,_,Rg,by simp[Bx];omega,?_⟩;rw[ec];intro c5 hc5;have s5:Same H4 (upd H4 c5 (.lst ((rQ nm).map V.str))):=aB hc5;have e5:upd H4 c5 (.lst ((rQ nm).map V.str)) c5=some (.lst ((rQ nm).map V.str)):=aA;generalize upd H4 c5 (.lst ((rQ nm).map V.str))=H5 at s5 e5 ⊢;have S5:Same H1 H5:=s2.trans (s3.trans (s4.trans s5));refine⟨⟨_,cj.of e5⟩,fun D6 hD6=>cmL ((rQ nm).map V.str) (fun i σ H'=>(∃o',σ=[o',some (.ref t)])∧H' D6=some (.lst ((((rQ nm).take i).filter fun y=>!decide (y∈xs)).map V.str))∧Same H5 H') ⟨⟨_,rfl⟩,aA,aB hD6⟩ (fun i σ H' _ h=>cj.of (h.2.2 _ _ e5)) ?_ ?_⟩
      · rintro i x σ H6 hi ⟨⟨o',rfl⟩,Yl,s6⟩;obtain⟨y,hy,rfl⟩:=Gs hi;have hi2:i<52:=by
          have:=(List.getElem?_eq_some_iff.mp hy).1
          rwa [cl] at this
        have hfl:(((rQ nm).take i).filter fun y=>!decide (y∈xs)).length≤((rQ nm).take i).length:=List.length_filter_le _ _;rw[List.length_take] at hfl;rw[take_one hy,List.filter_append];simp -dsimp[aF,stC,-Bool.exists_bool,-List.map_take,-Prod.forall,-Prod.exists];refine⟨_,.inr (lR.of (s6 _ _ (S5 _ _ t1))),_,rfl,?_⟩;simp -dsimp[aF,stC,-Bool.exists_bool,-List.map_take,-Prod.forall,-Prod.exists];refine⟨_,.inl (cj.of (s6 _ _ (S5 _ _ n1))),rfl,List.all_eq_true.mp (JK _),?_⟩;rw[DR]
        by_cases hx:y∈xs
        ·refine⟨false,by simp[hx],g8.neg rfl ?_⟩;simp -dsimp[aF,stC,-Bool.exists_bool,-List.map_take,-Prod.forall,-Prod.exists];refine⟨?_,s6⟩;rw[Yl];simp[hx]
        ·refine⟨true,by simp[hx],g8.pos rfl ?_⟩;simp -dsimp[aF,stC,-Bool.exists_bool,-List.map_take,-Prod.forall,-Prod.exists];refine⟨_,Yl,by simp;omega,?_,cU s6 hD6⟩;rw[aA];simp[hx]
      · rintro σ H6 ⟨⟨o',rfl⟩,Yl,s6⟩;rw[List.length_map,List.take_length] at Yl;simp -dsimp[aF,stC,-Bool.exists_bool,-List.map_take,-Prod.forall,-Prod.exists];have S6:=S5.trans s6;have XR:=V7.zu S6;have h0:=qa0 (x:=nm) (xs:=xs) l9.2;have hfl:((rQ nm).filter fun y=>!decide (y∈xs)).length≤(rQ nm).length:=List.length_filter_le _ _;rw[cl] at hfl;have D6p:D6≠p:=iV V7.ex S5 hD6;generalize hO:((rQ nm).filter fun y=>!decide (y∈xs))=O at Yl h0 hfl;refine⟨_,.inl (cj.of Yl),p,_,rfl,XR,by simp;omega,by simp;omega,fun k7 H7 hk0 hk1 ZF LQ=>?_⟩;rw[List.length_map] at hk1;obtain⟨ot,hot⟩:∃ot,O[k7.toNat]? = some ot:=⟨_,List.getElem?_eq_getElem (show k7.toNat<O.length by omega)⟩;have hom:=List.mem_of_getElem? hot;rw[← hO,List.mem_filter] at hom;have bo:qaZ xs (.str ot):=Ka (by simpa using hom.2) (qc8 hN ot hom.1) (by decide);have D7:=LQ _ _ D6p Yl;refine⟨_,.inl (cj.of D7),.str ot,?_,?_⟩
        ·rw[show k7=(k7.toNat:Int) by omega];exact dj (by rw[List.getElem?_map,hot];rfl)
        simp -dsimp[aF,stC,-Bool.exists_bool,-List.map_take,-Prod.forall,-Prod.exists];intro c8 hc8;have s8:Same H7 (upd H7 c8 (.lst [V.str ot])):=aB hc8;have e8:upd H7 c8 (.lst [V.str ot]) c8=some (.lst [V.str ot]):=aA;generalize upd H7 c8 (.lst [V.str ot])=H8 at s8 e8 ⊢;refine⟨_,e8,by show 1 * 8≤_;omega,fun c9 hc9=>?_⟩;have ef : [V.str ot]++([V.str ot]++([V.str ot]++([V.str ot]++([V.str ot]++([V.str ot]++([V.str ot]++[V.str ot]))))))=List.replicate 8 (V.str ot):=rfl;rw[ef];have s9:Same H8 (upd H8 c9 (.lst (List.replicate 8 (V.str ot)))):=aB hc9;have e9:upd H8 c9 (.lst (List.replicate 8 (V.str ot))) c9=some (.lst (List.replicate 8 (V.str ot))):=aA;generalize upd H8 c9 (.lst (List.replicate 8 (V.str ot)))=H9 at s9 e9 ⊢;have S26:Same H2 H6:=s3.trans (s4.trans (s5.trans s6));have b6:=S26 _ _ e2;have a6:=a2.same (b_ S26);have b9:=(s8.trans s9) _ _ (LQ _ _ bp b6);have a9:=(a6.same (iU LQ)).same (b_ (s8.trans s9));refine⟨_,b9,_,e9,by rw[List.length_replicate];omega,fun c10 qjX=>?_⟩;have s10:Same H9 (upd H9 c10 (.lst (vs++List.replicate 8 (V.str ot)))):=aB qjX;have e10:upd H9 c10 (.lst (vs++List.replicate 8 (V.str ot))) c10=some (.lst (vs++List.replicate 8 (V.str ot))):=aA;generalize upd H9 c10 (.lst (vs++List.replicate 8 (V.str ot)))=H10 at s10 e10 ⊢;have a10:Ij (qaZ xs) (hid p H10) (vs++List.replicate 8 (V.str ot)):=(a9.same (b_ s10)).app fun v hv=>by
          obtain rfl:=List.eq_of_mem_replicate hv;exact⟨.str ot,by simp[bW],bo⟩
        have qpp:c10≠p:=iV ZF.ex (s8.trans s9) qjX;have S10:=s8.trans (s9.trans s10);have qpq:=ZF.zu S10;have B10:=((Ur.same S6).trans LQ).same S10;have ln:(vs++List.replicate 8 (V.str ot)).length=19:=by rw[List.length_append,List.length_replicate,hvn]
        generalize vs++List.replicate 8 (V.str ot)=jV at e10 a10 ln;refine⟨p,19,rfl,qpq,by decide,by decide,fun k11 H11 hk0 hk1 qpr qhp=>?_⟩;obtain⟨v,hv,ha⟩:=Ih (n:=19) ln hk0 hk1;obtain⟨d,hd1,hd2⟩:=a10 v hv;exact⟨_,.inl (cj.of (qhp _ _ qpp e10)),v,ha,q v d H11 (bW.same (iU qhp) d v hd1) hd2 qpr (B10.trans qhp)⟩
theorem ZL {K:W.Frag} {H:Hp}:∀{tv:List V} {ps:List (Str×Str)},cM H tv ps→CV K H (iR ps) tv
  | [],[],_=>rfl
  | [],_::_,h=>by have:=h.1;simp at this
  | _::_,[],h=>by have:=h.1;simp at this
  | v::tv,e::ps,h=>by
    obtain⟨t,rfl,z⟩:=h.2 0 v e rfl rfl;refine⟨_,_,rfl,⟨t,_,rfl,lR.of z,⟨_,_,rfl,rfl,_,_,rfl,rfl,rfl⟩⟩,ZL ⟨by simpa using h.1,fun i v d h1 h2=>h.2 (i+1) v d (by simpa using h1) (by simpa using h2)⟩⟩
theorem Rn:∀a b:List (Str×Str),PyData.eqvAll (iR a) (iR b)=decide (a=b)
  | [],[]=>rfl
  | [],y::b=>by simp[iR,PyData.eqvAll]
  | x::a,[]=>by simp[iR,PyData.eqvAll]
  | x::a,y::b=>by
    show(PyData.eqv (.tuple [.str x.1,.str x.2]) (.tuple [.str y.1,.str y.2]) && PyData.eqvAll (iR a) (iR b))=_;rw[Rn a b,Bool.eq_iff_iff];simp[PyData.eqv,PyData.eqvAll,Prod.ext_iff]
structure O5 (xs:List Str) (ps:List (Str×Str)) (d:PyData):Prop where
  row:Ox xs ps d
  sm:lU 30 30000 d
theorem Ju {xs:List Str} {ps:List (Str×Str)} {d:PyData} (hs:Ay d=false) (hm:lU 30 30000 d):O5 xs ps d:=by
  have e:kids d=[]:=by cases d <;> first | rfl | cases hs
  refine⟨⟨fun h=>?_,fun h=>?_,by rw[e];exact Nat.zero_le _,by rw[e];intro c hc;cases hc⟩,hm⟩
  ·rw[hs] at h;cases h
  ·rw[hs] at h;cases h
theorem Kc {x0:Str} {r:List Str} {ps:List (Str×Str)} {c:PyData} (h:qL x0 ps c) (hk:∀n∈kids c,(kids n).length≤50) (hm:lU 20 20000 c):O5 (x0::r) ps (.list [c]):=by
  refine⟨⟨fun _ h=>?_,fun _ c' cs h x0' r' h2=>?_,by simp[kids],fun c' hc n hn=>?_⟩,(lU.list (k:=20) (n:=20000) (m:=30000) (all1 hm) (by simp)).mono (by decide) (Nat.le_refl _)⟩
  ·simp[kids] at h
  ·simp only[kids,List.cons.injEq] at h h2;obtain⟨rfl,rfl⟩:=h;obtain⟨rfl,rfl⟩:=h2;assumption
  ·simp only[kids,List.mem_singleton] at hc;subst hc;exact hk n hn
theorem Ym {x0:Str} {r:List Str} {ps:List (Str×Str)} {n:PyData} (hx:nameB x0=true) (h:qL x0 ps (.tuple [.str x0,n])) (hk:(kids n).length≤50) (hm:lU 10 9000 n):O5 (x0::r) ps (.list [.tuple [.str x0,n]]):=
  Kc h (all2 (φ:=fun c=>(kids c).length≤50) (Nat.zero_le _) hk) ((lU.tuple (k:=10) (n:=9000) (m:=20000) (all2 ((O4 hx).mono (by decide) (by decide)) hm) (by simp)).mono (by decide) (Nat.le_refl _))
theorem G5 {x0:Str} {r:List Str} {ps:List (Str×Str)} {ds:List PyData} (hx:nameB x0=true) (h:qL x0 ps (.tuple [.str x0,.list ds])) (hk:ds.length≤50) (hm:∀c∈ds,lU 3 100 c):O5 (x0::r) ps (.list [.tuple [.str x0,.list ds]]):=
  Ym hx h hk ((lU.list (k:=3) (n:=100) (m:=9000) hm (by omega)).mono (by decide) (Nat.le_refl _))
theorem qhq {xs:List Str} {ps:List (Str×Str)} (h:2≤xs.length):O5 xs ps (.list []):=⟨⟨fun _ _=>h,fun _ c cs e=>by simp[kids] at e,by simp[kids],fun c hc=>by simp[kids] at hc⟩,yC (lit _)⟩
theorem two_pts {xs:List Str} {ps:List (Str×Str)} (hT:Jl xs ps) (h:ps≠[]):2≤xs.length:=by
  obtain⟨e,r,rfl⟩:=List.exists_cons_of_ne_nil h;obtain⟨h1,h2,h3⟩:=hT.ok e List.mem_cons_self
  match xs,h1,h2 with
  | [x],h1,h2=>
    simp only[List.mem_singleton] at h1 h2;exact absurd (h1.trans h2.symm) h3
  | _::_::_,_,_=>simp
theorem qc9 {xs:List Str} {ps:List (Str×Str)} {x0:Str} (hT:Jl xs ps) (h:ps≠[]):qL x0 ps (.tuple [.str x0,.list [.int 0]]):=by
  obtain⟨e,r,rfl⟩:=List.exists_cons_of_ne_nil h;have h3:=(hT.ok e List.mem_cons_self).2.2;refine .pts (by simp[nY,Ay,kids,Ri,d7]) (by simp[kids]) ?_
  by_cases h1:x0=e.1
  ·refine .inr ?_;simp only[kids,d7,Qf];simp[h1,h3.symm]
  · by_cases h2:x0=e.2
    ·refine .inr ?_;simp only[kids,d7,Qf];simp[h2,h3,h3.symm]
    ·refine .inl ?_;simp[kids,d7,Qf,h1,h2]
theorem ints_app:∀a b:List PyData,d7 (a++b)=d7 a++d7 b
  | [],b=>rfl
  | c::a,b=>by
    have ih:=ints_app a b;cases c <;> simp[d7,ih]
theorem O6 {i:Int}:∀{ds:List PyData},.int i∈ds→i∈d7 ds
  | c::ds,h=>by
    rcases List.mem_cons.mp h with h | h
    ·subst h;simp[d7]
    ·have ih:=O6 h;cases c <;> simp[d7,ih]
theorem qa1 {ds:List PyData} {i:Int} (h : .int i∈ds):¬(d7 (List.replicate 2 ds).flatten).Nodup:=fun z=>by
  rw[show(List.replicate 2 ds).flatten=ds++(ds++[]) from rfl,List.append_nil,ints_app,List.nodup_append] at z;exact z.2.2 i (O6 h) i (O6 h) rfl
def Yn:Sp:=fun vs H Q _=>∃(p t n l:Addr) (xs:List Str) (tv:List V) (ps:List (Str×Str)),vs=[.ref p,.ref t]∧jU H p∧H t=some (.tup [.ref n,.ref l])∧H n=some (.lst (xs.map V.str))∧H l=some (.lst tv)∧l≠p∧cM H tv ps∧Uq xs∧Jl xs ps∧
  ∀(v:V) (d:PyData) (H':Hp),bW (hid p H') d v→O5 xs ps d→jU H' p→But p H H'→Q v H'
theorem Yo (T:Txt K mg a):cT P w K mg base rN 2 a.mG a.Cd ["_law_pot_here", "_law_web_here"] Yn:=by
  refine T.J2.z9 xr (fun vs H Q E h=>?_) (fun cdv A outer s H vs Q E hr h=>?_)
  ·obtain⟨p,t,n,l,xs,tv,ps,rfl,_⟩:=h;rfl
  · obtain⟨p,t,n,l,xs,tv,ps,rfl,hp,ht,hn,hl,lp,htv,hX,hT,q⟩:=h;refine⟨_,(@FN.out _ _ _ (gq (PSq.mk (bO (i:=2) xr.nd rfl (Or.inl rfl) (cX (dB (K:=K) rfl) (cX (dB (K:=K) rfl) (aL 1) aJ (fun _ _=>rfl)) aJ (fun _ _=>rfl))))
      (gq (wj (i:=3) xr.nd rfl (Or.inl rfl) (wk (wg (aR rR (aR aJ (aR dX (aR bN (aR HD (aR (bB (aj (aL 2) ak)) (aR (bB (aj (dh (aj (aL 2) ak)) ak)) (aR (bB (aj (dh (aj (aL 2) (aj (bB ak) ak))) ak)) (aR (bB (aj (dh (aj (aL 2) (aj aJ ak))) ak)) (aR (bB (aj (dh (aj aJ (aj (bB (aj aJ ak)) ak))) ak)) (aR (bB (aj (bB (aj (aL 2) (aj (bB (aj aJ ak)) (aj aJ ak)))) ak)) vZ))))))))))))))
      (gq (wj (i:=3) xr.nd rfl (Or.inl rfl) (Tp oG (Xv.mk (aL 3)) (wk (wg (aR (bB (aj (dh (aj (aL 2) (aj (bB (aj (aQ (cN (K:=K) rfl) rfl T.nm.len PySem.boot_len (aj (cX (dB (K:=K) rfl) (aL 1) aJ (fun _ _=>rfl)) ak)) ak)) ak))) ak)) (aR (bB (aj (dh (aj (aL 2) (aj (bB (aj (Qm Fi aJ) ak)) ak))) ak)) (aR (bB (aj (dh (aj (aL 2) (aj (bB (aj dX ak)) ak))) ak)) (aR (bB (aj (dh (aj (aL 2) (aj bN ak))) ak)) (aR (bB (aj rR ak)) vZ)))))))))
      (gq (Xw (bx (qcn (K:=K) rfl hr.units) (cX (dB (K:=K) rfl) (aL 1) aJ (fun _ _=>rfl)) (bB ak) (bZ _)) (Np (wj (i:=3) xr.nd rfl (Or.inl rfl) (Tp oG (Xv.mk (aL 3)) (wk (wg (aR (bB ak) (aR (bB (aj (dh (aj (aL 2) (aj (bB (aj aJ ak)) ak))) ak)) (aR (bB (aj (dh (aj (aL 2) (aj (bB (aj aJ (aj aJ ak))) ak))) ak)) (aR (bB (aj (dh (aj (aL 2) (aj (bQ Zt (Tf rfl rfl T.nm.list rfl T.nm.range (aj (aQ (cN (K:=K) rfl) rfl T.nm.len PySem.boot_len (aj (cX (dB (K:=K) rfl) (aL 1) aJ (fun _ _=>rfl)) ak)) ak)) aJ) ak))) ak)) vZ))))))))) (FN.mk bC))
      (FN.mk (aG (aZ (cX (dB (K:=K) rfl) (aL 3) (PE.eqv (aO (eF (K:=K) T) (hr.mono (by decide)) rfl T.gC T.f9.kp T.gB .nil bD (aj (aL 0) (aj (aQ (cN (K:=K) rfl) rfl T.nm.len PySem.boot_len (aj (aL 3) ak)) ak))) (aK _ _ _)) (fun _ _=>rfl)))))))))),?_⟩
    have s60:60≤sizeLine:=by decide
    have l9:=hX.len;have tp:t≠p:=Lw hp.lst (Same.refl _) ht;have ZJ:=hT.len;have tl:=htv.1;obtain⟨x0,r,rfl⟩:∃x0 r,xs=x0::r:=by
      cases xs with
      | nil=>simp at l9
      | cons x r=>exact⟨x,r,rfl⟩
    have hN:=hX.nm x0 List.mem_cons_self;have sN:=(O4 hN).mono (k':=3) (by decide) (Nat.le_refl _);simp -dsimp[aF,stC,-Bool.exists_bool,-List.map_take,-Prod.forall,-Prod.exists];refine⟨_,.inr (lR.of ht),_,rfl,?_⟩;simp -dsimp[aF,stC,-Bool.exists_bool,-List.map_take,-Prod.forall,-Prod.exists];refine⟨_,.inl (cj.of hn),.str x0,dj (j:=0) rfl,?_⟩;have v2:∀{o3:Option V} {H:Hp},GD p (fVar 2) [some (V.ref p),some (V.ref t),some (V.str x0),o3] H (.str x0):=Gy rfl (by simp[bW]);have no:∀{c:PyData},Ri ps.length c=false→qL x0 ps (.tuple [.str x0,.list [c]]):=fun h=>.nr (oN (by simp[kids]) h);refine ql (φ:=O5 (x0::r) ps) (p:=p) (n:=11) (
      aU (cg Gx (Ju rfl (yC (lit _)))) <|
      aU (cg dF (Ju rfl (yC (lit _)))) <|
      aU (cg Ie (Ju rfl (yC (lit _)))) <|
      aU (cg xq (Ju rfl (yC (lit _)))) <|
      aU (cg Ii (Ju rfl (yC (lit _)))) <|
      aU (cg (cW (bh v2 bM) (by simp)) (Kc (.no rfl) (fun n h=>by simp[kids] at h) (sN.mono (by decide) (by decide)))) <|
      aU (cg (cW (bh (zB (bh v2 bM) (by simp)) bM) (by simp)) (Kc (.len (by simp[kids])) (all1 (φ:=fun c=>(kids c).length≤50) (Nat.zero_le _)) ((lU.tuple (k:=3) (n:=100) (m:=20000) (all1 sN) (by simp)).mono (by decide) (Nat.le_refl _)))) <|
      aU (cg (cW (bh (zB (bh v2 (bh (cW bM (by simp)) bM)) (by simp)) bM) (by simp)) (G5 hN (.nil rfl) (by simp) (fun c h=>by cases h))) <|
      aU (cg (cW (bh (zB (bh v2 (bh dF bM)) (by simp)) bM) (by simp)) (Ym hN (.nr rfl) (Nat.zero_le _) ((lit _).mono (by decide) (by decide)))) <|
      aU (cg (cW (bh (zB (bh dF (bh (cW (bh dF bM) (by simp)) bM)) (by simp)) bM) (by simp)) (Kc (.st rfl (pX fun x e=>by cases e)) (all2 (φ:=fun c=>(kids c).length≤50) (Nat.zero_le _) (by simp[kids])) ((lit _).mono (by decide) (by decide)))) <|
      aU (cg (cW (bh (cW (bh v2 (bh (cW (bh dF bM) (by simp)) (bh dF bM))) (by simp)) bM) (by simp)) (Kc (.len (by simp[kids])) (qhk (φ:=fun c=>(kids c).length≤50) (Nat.zero_le _) (by simp[kids]) (Nat.zero_le _)) ((lU.list (k:=3) (n:=100) (m:=20000) (qhk sN (lit _) (lit _)) (by simp)).mono (by decide) (Nat.le_refl _)))) wu) hp.ex (by decide) fun b vs H1 hb s1 hvn e1 a1=>?_
    have bp:b≠p:=iV hp.ex (Same.refl _) hb;have len:∀{o2 o3:Option V} {H1:Hp},Same H H1→GD p (tCB (M6 K) (bY (K6 (Xk K) (fVar 1) (tC (V.int 1))) vO)) [some (V.ref p),some (V.ref t),o2,o3] H1 (.int ps.length):=fun s0=>qgU fun H2 Q s2 q=>by
      simp -dsimp[aF,stC,-Bool.exists_bool,-List.map_take,-Prod.forall,-Prod.exists];refine⟨_,.inr (lR.of (s2 _ _ (s0 _ _ ht))),.ref l,rfl,?_⟩;simp -dsimp[aF,stC,-Bool.exists_bool,-List.map_take,-Prod.forall,-Prod.exists];refine⟨_,.inl (cj.of (s2 _ _ (s0 _ _ hl))),?_⟩;rw[tl];exact q _ (by simp[bW])
    have sn:lU 3 100 (.int ps.length):=(Jt (by omega) (by omega)).mono (by decide) (Nat.le_refl _);have ear:∀{tn:TE} {n:PyData} {o3:Option V} {H:Hp},GD p tn [some (V.ref p),some (V.ref t),some (V.str x0),o3] H n→GD p (Z9 (bY (WT (bY (fVar 2) (bY tn vO))) vO)) [some (V.ref p),some (V.ref t),some (V.str x0),o3] H (.list [.tuple [.str x0,n]]):=fun h=>cW (bh (zB (bh v2 (bh h bM)) (by simp)) bM) (by simp);refine ql (φ:=O5 (x0::r) ps) (p:=p) (n:=5) (
      aU (cg (ear (cW (bh (len s1) bM) (by simp))) (G5 hN (no (by simp[Ri])) (by simp) (all1 sn))) <|
      aU (cg (ear (cW (bh (Xz dF) bM) (by simp))) (G5 hN (no rfl) (by simp) (all1 (lit _)))) <|
      aU (cg (ear (cW (bh Ie bM) (by simp))) (G5 hN (no rfl) (by simp) (all1 (lit _)))) <|
      aU (cg (ear xq) (Ym hN (.nr rfl) (Nat.zero_le _) ((lit _).mono (by decide) (by decide)))) <|
      aU (cg (cW (bh Gx bM) (by simp)) (Kc (.no rfl) (fun n h=>by simp[kids] at h) ((lit _).mono (by decide) (by decide)))) wu) (hp.zu s1).ex (by decide) fun b2 w2 H2 hb2 s2 hn2 e2 a2=>?_
    refine⟨_,s2 _ _ e1,_,e2,by omega,fun b3 hb3=>?_⟩;have s3:Same H2 (upd H2 b3 (.lst (vs++w2))):=aB hb3;have e3:upd H2 b3 (.lst (vs++w2)) b3=some (.lst (vs++w2)):=aA;generalize upd H2 b3 (.lst (vs++w2))=H3 at s3 e3 ⊢;have a3:Ij (O5 (x0::r) ps) (hid p H3) (vs++w2):=((a1.same (b_ s2)).app a2).same (b_ s3);have l3:(vs++w2).length=16:=by rw[List.length_append,hvn,hn2]
    generalize vs++w2=W3 at e3 a3 l3;have S3:=s1.trans (s2.trans s3);have b3p:b3≠p:=iV hp.ex (s1.trans s2) hb3;refine⟨_,.inr (lR.of (S3 _ _ ht)),.ref l,rfl,fun c hc=>?_⟩;have s4:Same H3 (upd H3 c (.lst [])):=aB hc;have e4:upd H3 c (.lst []) c=some (.lst []):=aA;generalize upd H3 c (.lst [])=H4 at s4 e4 ⊢;have S4:=S3.trans s4;generalize hNx:qa6 (K6 (Xk K) (fVar 3) _) _=Nx;have tail:∀(c:Addr) (jV:List V) (H':Hp),c≠p→H' c=some (.lst jV)→0<jV.length→jV.length≤100→Ij (O5 (x0::r) ps) (hid p H') jV→Same H H'→Nx [some (.ref p),some (.ref t),some (.str x0),some (.ref c)] H':=by
      intro c jV H' cp hc h0 h1 hW hS;subst hNx;simp -dsimp[aF,stC,-Bool.exists_bool,-List.map_take,-Prod.forall,-Prod.exists];refine⟨_,.inl (cj.of hc),p,_,rfl,hp.zu hS,by omega,by omega,fun k H2 hk0 hk1 hP2 hB2=>?_⟩;obtain⟨v,hv,ha⟩:=Ih (n:=jV.length) rfl hk0 hk1;obtain⟨d,hd1,hd2⟩:=hW v hv;exact⟨_,.inl (cj.of (hB2 _ _ cp hc)),v,ha,q v d H2 (bW.same (iU hB2) d v hd1) hd2 hP2 ((But.of hS).trans hB2)⟩
    have hic:PyData.canLay0 (.list (iR ps))=true:=by
      simp only[PyData.canLay0];exact QC ps fun e he=>⟨Y8 (hX.nm _ (hT.ok e he).1),Y8 (hX.nm _ (hT.ok e he).2.1)⟩
    have qhj:(PyData.list (iR ps)).depth≤64:=by
      have:=QD ps;simp[PyData.depth];omega
    refine⟨.list (iR ps),⟨l,_,rfl,cj.of (S4 _ _ hl),ZL (htv.same S4)⟩,.list [],⟨c,_,rfl,cj.of e4,rfl⟩,hic,rfl,qhj,!decide (ps=[]),by
      simpa [PyData.eqv,iR] using Rn ps [],?_⟩
    by_cases hne:ps=[]
    ·rw[decide_eq_true hne];refine g8.neg rfl ?_;simp -dsimp[aF,stC,-Bool.exists_bool,-List.map_take,-Prod.forall,-Prod.exists];exact tail b3 W3 H4 b3p (s4 _ _ e3) (by omega) (by omega) (a3.same (b_ s4)) S4
    · rw[decide_eq_false hne];refine g8.pos rfl ?_;have n0:0<ps.length:=List.length_pos_iff.mpr hne;have dup:∀ds:List PyData,¬(d7 ds).Nodup→qL x0 ps (.tuple [.str x0,.list ds]):=fun ds h=>.nr (Yk h);simp -dsimp[aF,stC,-Bool.exists_bool,-List.map_take,-Prod.forall,-Prod.exists];refine ql (φ:=O5 (x0::r) ps) (p:=p) (n:=4) (
        aU (cg (cW bM (by simp)) (qhq (two_pts hT hne))) <|
        aU (cg (ear (cW (bh dF bM) (by simp))) (G5 hN (qc9 hT hne) (by simp) (all1 (lit _)))) <|
        aU (cg (ear (cW (bh dF (bh dF bM)) (by simp))) (G5 hN (dup _ (by simp[d7])) (by simp) (all2 (lit _) (lit _)))) <|
        aU (cg (ear (qgW (k:=2) (qjx (len S4) (by omega)) dF (by decide) (by rw[List.length_map,List.length_range];omega))) (G5 hN (dup _ (qa1 (i:=0) (List.mem_map.mpr ⟨0,List.mem_range.mpr n0,rfl⟩))) (by simp;omega) (fun c hc=>by
          simp only[List.mem_flatten,List.mem_replicate] at hc;obtain⟨l',⟨_,rfl⟩,hc⟩:=hc;obtain⟨i,hi,rfl⟩:=List.mem_map.mp hc;rw[List.mem_range] at hi;exact(Jt (by omega) (by omega)).mono (by decide) (Nat.le_refl _)))) wu) (hp.zu S4).ex (by decide) fun b6 w6 H6 hb6 s6 hn6 e6 a6=>?_
      refine⟨_,s6 _ _ (s4 _ _ e3),_,e6,by omega,fun b7 hb7=>?_⟩;have s7:Same H6 (upd H6 b7 (.lst (W3++w6))):=aB hb7;exact tail b7 (W3++w6) _ (iV hp.ex (S4.trans s6) hb7) aA (by rw[List.length_append];omega) (by rw[List.length_append];omega) ((((a3.same (b_ s4)).same (b_ s6)).app a6).same (b_ s7)) (S4.trans (s6.trans s7))
theorem jU.qhr {p b:Addr} {H:Hp} {o:HO} (x:jU H p) (h:H b=some o) (hn:∀zs,o≠.lst zs):b≠p:=fun z=>by
  subst z;obtain⟨u,v,e,_⟩:=x;rw[h] at e;exact hn _ (Option.some.inj e)
theorem eU.but {C p:Addr} {H H':Hp} {o:Addr} {xs:List Str} {ps:List (Str×Str)} (h:eU C H o xs ps) (hp:jU H p) (b:But p H H'):eU C H' o xs ps:=by
  obtain⟨dx,n,m,tv,h1,h2,h3,h4,h5⟩:=h.ex;exact⟨⟨dx,n,m,tv,b _ _ (hp.qhr h1 (by intro zs z;cases z)) h1,b _ _ (hp.qhr h2 (by intro zs z;cases z)) h2,b _ _ (hp.qhr h3 (by intro zs z;cases z)) h3,h4.but hp b,h5⟩⟩
theorem qeM {ns:List Int} {n:Nat} (hl:ns.length=n) (h01:∀m∈ns,0≤m∧m≤1):vM n (.list (ns.map PyData.int))=true:=by
  show(decide ((ns.map PyData.int).length=n) && (ns.map PyData.int).all X3)=true;rw[List.length_map,decide_eq_true hl,Bool.true_and,List.all_eq_true];intro c hc;obtain⟨m,hm,rfl⟩:=List.mem_map.mp hc;have:=h01 m hm;obtain rfl | rfl:m=0∨m=1:=by omega
  ·rfl
  ·rfl
theorem qeN {xs:List Str} {x:Str} (h:x∈xs):Jx xs (.str x)=true:=by simp only[Jx];exact decide_eq_true h
def Ui (K:W.Frag):Sp:=fun vs H Q _=>∃(l:Addr) (ns:List Int),vs=[.ref l]∧cj K H l (ns.map V.int)∧ns.length≤63∧∀H',Q (.bl true) H'
theorem qhs (T:Txt K mg a):cT P w K mg base rN 9 a.KY a.TQ ["_law_script"] (Ui K):=by
  refine T.qfp.z9 BP (fun vs H Q E h=>?_) (fun cdv A outer s H vs Q E hr h=>?_)
  ·obtain⟨l,ns,rfl,_⟩:=h;rfl
  · obtain⟨sl,ns0,rfl,hS,qrE,q⟩:=h;refine⟨_,(aC (zx PassesOwn.never rfl (PI.eqv (wI rfl T.nm.range (aj (aQ (M_ rfl) rfl T.nm.max boot_max (aj aJ (aj (aQ (Xn rfl) rfl T.nm.min boot_min (aj aJ (aj (aQ (cN (K:=K) rfl) rfl T.nm.len PySem.boot_len (aj (aL 0) ak)) ak))) ak))) ak)) (wK _)) (bG (i:=1) BP.nd rfl (Or.inl rfl))
      (aC (bO (i:=2) BP.nd rfl (Or.inl rfl) (PE.eqv (aO (qg0 (K:=K) T) (hr.mono (by decide)) rfl T.qfk T.qcN.kp T.qfj .nil bD (aj (aL 0) (aj (aL 1) ak))) (aK _ _ _)))
      (aC (bO (i:=3) BP.nd rfl (Or.inl rfl) (PE.eqv (aO (qg5 (K:=K) T) (hr.mono (by decide)) rfl T.qfo T.qcP.kp T.qfn .nil bD (aj (aL 2) (aj aJ (aj aJ ak)))) (aK _ _ _)))
      (aC (bO (i:=4) BP.nd rfl (Or.inl rfl) (PE.eqv (qdB T.qfr (V5 (K:=K) T) (hr.mono (by decide)) rfl T.qfq T.NZ .nil bD (aj (cX (dB (K:=K) rfl) (aL 3) aJ (fun _ _=>rfl)) (aj (cX (dB (K:=K) rfl) (aL 3) aJ (fun _ _=>rfl)) ak))) (qch _ _ _ _)))
      (aC (bO (i:=5) BP.nd rfl (Or.inl rfl) (PE.eqv (aO (V_ (K:=K) T) (hr.mono (by decide)) rfl T.Od T.GP.kp T.Oc .nil bD (aj (aL 2) (aj (aL 3) ak))) (aK _ _ _)))
      (aC (qer (i:=6) (j:=7) (k:=8) rfl BP.nd rfl rfl rfl (by decide) (by decide) (by decide) rfl rfl rfl (aj (PE.eqv (aO (O1 (K:=K) T) (hr.mono (by decide)) rfl T.Gf T.zM.kp T.Ge .nil bD (aj (aL 2) (aj (aL 5) ak))) (aK _ _ _)) (aj (PE.eqv (aO (Wo (K:=K) T) (hr.mono (by decide)) rfl T.Og T.GQ.kp T.Oe .nil bD (aj (aL 2) (aj (aL 3) ak))) (aK _ _ _)) (aj (PE.eqv (aO (Qh (K:=K) T) (hr.mono (by decide)) rfl T.Jg T.Cp.kp T.Jf .nil bD (aj (aL 2) (aj (aL 5) ak))) (aK _ _ _)) ak))) rfl)
      (aC (bO (i:=9) BP.nd rfl (Or.inl rfl) (cX (dB (K:=K) rfl) (cX (dB (K:=K) rfl) (aL 3) aJ (fun _ _=>rfl)) (PE.eqv (aO (eF (K:=K) T) (hr.mono (by decide)) rfl T.gC T.f9.kp T.gB .nil bD (aj (aL 2) (aj (aQ (cN (K:=K) rfl) rfl T.nm.len PySem.boot_len (aj (cX (dB (K:=K) rfl) (aL 3) aJ (fun _ _=>rfl)) ak)) ak))) (aK _ _ _)) (fun _ _=>rfl)))
      (aC (zx PassesOwn.never rfl (PI.eqv (wI rfl T.nm.range (aj aJ ak)) (wK _)) (bG (i:=10) BP.nd rfl (Or.inl rfl))
      (aG (cO (bx ig (PE.eqv (aO (wH (K:=K) T) (hr.mono (by decide)) rfl T.zL T.xM.kp T.zK .nil bD (aj (aL 10) (aj (aL 4) (aj (aL 6) (aj (cX (dB (K:=K) rfl) (bB (aj (aL 8) (aj (aL 7) ak))) (eG M9 rfl T.nm.int JB (aj (iQ JN (aL 10) aJ (bZ _)) ak)) (fun _ _=>rfl)) (aj (aL 7) ak)))))) (aK _ _ _)) bN (bZ _)) (aG (aZ dX)) bC)))
      (aC (cO (PW.pt (jR (bx ig (PE.eqv (aO (wH (K:=K) T) (hr.mono (by decide)) rfl T.zL T.xM.kp T.zK .nil bD (aj aJ (aj (aL 4) (aj (aL 5) (aj (aL 8) (aj rR ak)))))) (aK _ _ _)) bN (bZ _)) (iM (bx ig (PE.eqv (aO (wH (K:=K) T) (hr.mono (by decide)) rfl T.zL T.xM.kp T.zK .nil bD (aj aJ (aj (aL 4) (aj (aL 5) (aj (aL 7) (aj rR ak)))))) (aK _ _ _)) bN (bZ _))))) (aG (aZ dX)) bC)
      (aC (cO (PW.pt (jR (bx ig (PE.eqv (aO (wH (K:=K) T) (hr.mono (by decide)) rfl T.zL T.xM.kp T.zK .nil bD (aj aJ (aj (aL 4) (aj (aL 5) (aj (aL 7) (aj (aL 9) ak)))))) (aK _ _ _)) bN (bZ _)) (iM (bx ig (PE.eqv (aO (wH (K:=K) T) (hr.mono (by decide)) rfl T.zL T.xM.kp T.zK .nil bD (aj aJ (aj (aL 4) (aj (aL 5) (aj (aL 9) (aj (aL 7) ak)))))) (aK _ _ _)) bN (bZ _))))) (aG (aZ dX)) bC)
      (aC (cO (bx ig (PE.eqv (aO (wH (K:=K) T) (hr.mono (by decide)) rfl T.zL T.xM.kp T.zK .nil bD (aj aJ (aj (aL 4) (aj (aL 5) (aj (aL 7) (aj (aL 7) ak)))))) (aK _ _ _)) bN (bZ _)) (aG (aZ dX)) bC)
      (aC (cO (bx ig (PE.eqv (aO (wH (K:=K) T) (hr.mono (by decide)) rfl T.zL T.xM.kp T.zK .nil bD (aj aJ (aj (aL 4) (aj (PE.eqv (aO (Yo (K:=K) T) (hr.mono (by decide)) rfl T.Rf T.J2.kp T.Rb .nil bD (aj (aL 2) (aj (aL 3) ak))) (aK _ _ _)) (aj rR (aj rR ak)))))) (aK _ _ _)) bN (bZ _)) (aG (aZ dX)) bC)
      (aG (cO (PW.pt (jR (bx ig (PE.eqv (aO (wH (K:=K) T) (hr.mono (by decide)) rfl T.zL T.xM.kp T.zK .nil bD (aj aJ (aj (aL 4) (aj (aL 5) (aj (aL 9) (aj (aL 9) ak)))))) (aK _ _ _)) bN (bZ _)) (iM (bx ig (PE.eqv (aO (wH (K:=K) T) (hr.mono (by decide)) rfl T.zL T.xM.kp T.zK .nil bD (aj aJ (aj (aL 4) (aj (aL 5) (aj (bB ak) (aj rR ak)))))) (aK _ _ _)) bN (bZ _))))) (aG (aZ dX)) bC))))))))))))))
      (aG (aZ dX))),?_⟩
    have s60:60≤sizeLine:=by decide
    simp -dsimp[aF,stC,-Bool.exists_bool,-List.map_take,-Prod.forall,-Prod.exists];refine⟨_,.inl hS,?_⟩;simp only[List.length_map];obtain⟨m,hm,hm6⟩:∃m:Nat,(if 1<if (ns0.length:Int)<8 then (ns0.length:Int) else 8 then if (ns0.length:Int)<8 then (ns0.length:Int) else 8 else 1)=m∧m≤8:=by
      by_cases h1:(ns0.length:Int)<8
      · rw[if_pos h1]
        by_cases h2:1<(ns0.length:Int)
        ·exact⟨ns0.length,by rw[if_pos h2],by omega⟩
        ·exact⟨1,by rw[if_neg h2];rfl,by decide⟩
      ·rw[if_neg h1];exact⟨8,rfl,by decide⟩
    simp only[hm,Int.toNat_natCast];refine⟨by omega,by omega,frR (fun i σ H'=>(∃o1 o2 o3 o4 o5 o6 o7 o8 o9 o10,σ=[some (.ref sl),o1,o2,o3,o4,o5,o6,o7,o8,o9,o10])∧Same H H') ⟨⟨_,_,_,_,_,_,_,_,_,_,rfl⟩,Same.refl _⟩ ?_ ?_⟩
    · rintro i σ H0 hi ⟨⟨o1,o2,o3,o4,o5,o6,o7,o8,o9,o10,rfl⟩,s0⟩;simp -dsimp[aF,stC,-Bool.exists_bool,-List.map_take,-Prod.forall,-Prod.exists];refine⟨sl,ns0,i,rfl,s0.seq hS,by omega,fun p Hp hp0 hPp hBp=>?_⟩;have sp1:Same H0 Hp:=fun b o e=>hBp b o (aY e hp0) e;simp -dsimp[aF,stC,-Bool.exists_bool,-List.map_take,-Prod.forall,-Prod.exists];refine⟨p,9,20,rfl,hPp,by decide,by decide,by decide,by decide,fun t n l xs tv ps H1 ht0 hn0 hl0 ht1 hn1 hl1 qeO hX hTs _ _ V7 Ur=>?_⟩;have np:n≠p:=(hPp.ne hn0).symm;have lp:l≠p:=(hPp.ne hl0).symm;have tp:t≠p:=(hPp.ne ht0).symm;have l9:=hX.len;have Ho:=hTs.len;simp -dsimp[aF,stC,-Bool.exists_bool,-List.map_take,-Prod.forall,-Prod.exists];refine⟨_,.inr (lR.of ht1),_,dj (j:=0) rfl,_,.inr (lR.of ht1),_,dj (j:=1) rfl,fun o dx ho hdx qrW=>?_⟩;have so:Same H1 (upd (upd H1 dx (.own o)) o (.ins a.cJ dx [])):=fun b u e=>by
        rw[aV (aY e ho),aV (aY e hdx)];exact e
      have hpr:zm H1 tv ps:=⟨qeO.1,fun i v e h1 h2=>by
        obtain⟨t,rfl,z⟩:=qeO.2 i v e h1 h2;exact⟨t,rfl,.inr z⟩⟩
      refine⟨o,dx,n,l,tv,xs,ps,rfl,aA,.inl (so _ _ hl1),hpr.same so,.inl (so _ _ hn1),hX,hTs,fun H2 hW2 hB2=>⟨rfl,?_⟩⟩;have s2:Same H1 H2:=fun b u e=>hB2 b u (aY e ho) (so b u e);have hP2:=V7.zu s2;simp -dsimp[aF,stC,-Bool.exists_bool,-List.map_take,-Prod.forall,-Prod.exists];have tl:=qeO.1;refine⟨p,t,n,l,tv,rfl,hP2,s2 _ _ ht1,s2 _ _ hl1,lp,by omega,fun r ns H3 hr0 hr3 hrl h01 LK hB3=>?_⟩;have rp:r≠p:=(hP2.ne hr0).symm;have hW3:=hW2.but hP2 hB3;rw[tl] at hrl;simp -dsimp[aF,stC,-Bool.exists_bool,-List.map_take,-Prod.forall,-Prod.exists];refine⟨p,r,ns,rfl,LK,hr3,rp,by omega,h01,fun v4 d4 H4 hv4 hd4 V8 T8=>?_⟩;have hW4:=hW3.but LK T8;have r4:=T8 _ _ rp hr3;have t4:=T8 _ _ tp (hB3 _ _ tp (s2 _ _ ht1));have n4:=T8 _ _ np (hB3 _ _ np (s2 _ _ hn1));simp -dsimp[aF,stC,-Bool.exists_bool,-List.map_take,-Prod.forall,-Prod.exists];refine⟨p,t,n,l,xs,rfl,V8,t4,n4,hX,fun v5 d5 H5 hv5 L_ Jw K4=>?_⟩;have hW5:=hW4.but V8 K4;have r5:=K4 _ _ rp r4;simp -dsimp[aF,stC,-Bool.exists_bool,-List.map_take,-Prod.forall,-Prod.exists];refine⟨p,r,ns,rfl,Jw,r5,rp,by omega,fun v6 d6 H6 hv6 hd6 XR P_=>?_⟩;have hW6:=hW5.but Jw P_;have r6:=P_ _ _ rp r5;have t6:=P_ _ _ tp (K4 _ _ tp t4);have n6:=P_ _ _ np (K4 _ _ np n4);have w4:=bW.same (iU P_) _ _ (bW.same (iU K4) _ _ hv4);have w5:=bW.same (iU P_) _ _ hv5;simp -dsimp[aF,stC,-Bool.exists_bool,-List.map_take,-Prod.forall,-Prod.exists];refine⟨_,.inr (lR.of t6),_,dj (j:=0) rfl,_,.inr (lR.of t6),_,dj (j:=0) rfl,_,.inl (cj.of n6),p,_,rfl,XR,by simp;omega,by simp;omega,fun k7 H7 hk0 hk1 ZF LQ=>?_⟩;rw[List.length_map] at hk1;obtain⟨gd,hgd⟩:∃gd,xs[k7.toNat]? = some gd:=⟨_,List.getElem?_eq_getElem (show k7.toNat<xs.length by omega)⟩;have hgx:=List.mem_of_getElem? hgd;have hgN:=hX.nm gd hgx;have n7:=LQ _ _ np n6;have t7:=LQ _ _ tp t6;have r7:=LQ _ _ rp r6;have l7:=LQ _ _ lp (P_ _ _ lp (K4 _ _ lp (T8 _ _ lp (hB3 _ _ lp (s2 _ _ hl1)))));have XS:cM H7 tv ps:=((((((qeO.same s2).but hP2 hB3).but LK T8).but V8 K4).but Jw P_).but XR LQ);have hW7:=hW6.but XR LQ;have b4:bW H7 d4 v4:=bW.same iu _ _ (bW.same (iU LQ) _ _ w4);have b5:bW H7 d5 v5:=bW.same iu _ _ (bW.same (iU LQ) _ _ w5);have b6:bW H7 d6 v6:=bW.same iu _ _ (bW.same (iU LQ) _ _ hv6);have B7:But p Hp H7:=(((((Ur.same s2).trans hB3).trans T8).trans K4).trans P_).trans LQ;rw[hrl] at hd4 hd6;have pr:vM ps.length (.list (ns.map PyData.int))=true:=qeM hrl h01;have qc_:∀{H':L2.Hp},Same H7 H'→bW H' (.list (ns.map PyData.int)) (.ref r):=fun s=>Az (s _ _ r7);have Yp:lU 30 30000 (.list (ns.map PyData.int)):=smL (fun c hc=>Uh (Rj h01 c hc) (by decide)) (by rw[List.length_map];omega);have tgd:∀{H':L2.Hp},bW H' (.str gd) (.str gd):=by intros;simp[bW]
      have sgd:lU 30 30000 (.str gd):=(O4 hgN).mono (by decide) (by decide);have qeP:gW (.str gd):=pX fun x e=>by cases e;have:=(PJ.name hgN).ln;omega
      have tno:∀{H':L2.Hp},bW H' .none .non:=by intros;simp[bW]
      have sno:lU 30 30000 .none:=yC (lit _);have hno:gW .none:=qjU;refine⟨_,.inl (cj.of n7),.str gd,?_,?_⟩
      ·rw[show k7=(k7.toNat:Int) by omega];exact dj (by rw[List.getElem?_map,hgd];rfl)
      simp -dsimp[aF,stC,-Bool.exists_bool,-List.map_take,-Prod.forall,-Prod.exists];refine frR (fun i' σ H'=>(∃o10,σ=[some (.ref sl),some (.int i),some (.ref p),some (.ref t),some (.ref o),some (.ref r),some v4,some v5,some v6,some (.str gd),o10])∧Same H7 H') ⟨⟨_,rfl⟩,Same.refl _⟩ ?_ ?_
      · rintro i' σ H8 hi' ⟨⟨o10,rfl⟩,s8⟩;simp -dsimp[aF,stC,-Bool.exists_bool,-List.map_take,-Prod.forall,-Prod.exists];intro b9 hb9;have s9:Same H8 (upd H8 b9 (.lst [v6,v5])):=aB hb9;have e9:upd H8 b9 (.lst [v6,v5]) b9=some (.lst [v6,v5]):=aA;generalize upd H8 b9 (.lst [v6,v5])=H9 at s9 e9 ⊢;have S9:=s8.trans s9;have two:∃v d,Lh [v6,v5] (if 0<i' then 1 else 0)=some v∧bW H9 d v∧gW d∧(kids d).length≤20∧lU 30 30000 d:=by
          by_cases h0:0<i'
          ·rw[if_pos h0];exact⟨v5,d5,dj (j:=1) rfl,bW.same S9 _ _ b5,L_.sh,L_.kd,L_.sm⟩
          ·rw[if_neg h0];exact⟨v6,d6,dj (j:=0) rfl,bW.same S9 _ _ b6,hd6.sh,hd6.kd,hd6.sm⟩
        obtain⟨u,du,hu1,hu2,hu3,hu4,hu5⟩:=two;refine⟨_,.inl (cj.of e9),u,hu1,i',o,v4,u,v5,d4,du,d5,xs,ps,some a.aq, "pointing",rfl,hW7.same S9,hX,hTs,bW.same S9 _ _ b4,hu2,bW.same S9 _ _ b5,hu3,L_.sh,hu4,hd4.sm,hu5,L_.sm,.inl ⟨⟨by omega,by omega⟩,hd4.no,rfl,rfl⟩,fun H10 s10=>?_⟩;simp -dsimp[aF,stC,-Bool.exists_bool,-List.map_take,-Prod.forall,-Prod.exists];exact S9.trans s10
      ·rintro σ H8 ⟨⟨o10,rfl⟩,s8⟩;have gg:Jx xs (.str gd)=true:=qeN hgx;simp -dsimp[aF,stC,-Bool.exists_bool,-List.map_take,-Prod.forall,-Prod.exists];refine⟨0,o,.ref r,v6,.non,.list (ns.map PyData.int),d6,.none,xs,ps,some a.au, "numbers",rfl,hW7.same s8,hX,hTs,qc_ s8,bW.same s8 _ _ b6,tno,hd6.sh,hno,hd6.kd,Yp,hd6.sm,sno,.inr (.inl ⟨rfl,pr,.inl ⟨hd6.no,rfl,rfl⟩⟩),fun H9 s9=>?_⟩;have S9:=s8.trans s9;simp -dsimp[aF,stC,-Bool.exists_bool,-List.map_take,-Prod.forall,-Prod.exists];refine⟨3,o,.ref r,v5,.non,.list (ns.map PyData.int),d5,.none,xs,ps,some a.aD, "point",rfl,hW7.same S9,hX,hTs,qc_ S9,bW.same S9 _ _ b5,tno,L_.sh,hno,L_.kd,Yp,L_.sm,sno,.inr (.inr (.inr (.inl ⟨rfl,pr,L_.no,rfl,rfl⟩))),fun H10 s10=>?_⟩;have S10:=S9.trans s10;simp -dsimp[aF,stC,-Bool.exists_bool,-List.map_take,-Prod.forall,-Prod.exists];refine⟨2,o,.ref r,v5,.str gd,.list (ns.map PyData.int),d5,.str gd,xs,ps,some a.aD, "point",rfl,hW7.same S10,hX,hTs,qc_ S10,bW.same S10 _ _ b5,tgd,L_.sh,qeP,L_.kd,Yp,L_.sm,sgd,.inr (.inr (.inl ⟨rfl,pr,.inl ⟨by rw[L_.no];rfl,rfl,rfl⟩⟩)),fun H11 s11=>?_⟩;have S11:=S10.trans s11;simp -dsimp[aF,stC,-Bool.exists_bool,-List.map_take,-Prod.forall,-Prod.exists];refine⟨2,o,.ref r,.str gd,v5,.list (ns.map PyData.int),.str gd,d5,xs,ps,some a.aD, "point",rfl,hW7.same S11,hX,hTs,qc_ S11,tgd,bW.same S11 _ _ b5,qeP,L_.sh,Nat.zero_le _,Yp,sgd,L_.sm,.inr (.inr (.inl ⟨rfl,pr,.inl ⟨by rw[L_.no,Bool.and_false],rfl,rfl⟩⟩)),fun H12 s12=>?_⟩;have S12:=S11.trans s12;simp -dsimp[aF,stC,-Bool.exists_bool,-List.map_take,-Prod.forall,-Prod.exists];refine⟨2,o,.ref r,v5,v5,.list (ns.map PyData.int),d5,d5,xs,ps,some a.aD, "point",rfl,hW7.same S12,hX,hTs,qc_ S12,bW.same S12 _ _ b5,bW.same S12 _ _ b5,L_.sh,L_.sh,L_.kd,Yp,L_.sm,L_.sm,.inr (.inr (.inl ⟨rfl,pr,.inl ⟨by rw[L_.no];rfl,rfl,rfl⟩⟩)),fun H13 La=>?_⟩;have S13:=S12.trans La;simp -dsimp[aF,stC,-Bool.exists_bool,-List.map_take,-Prod.forall,-Prod.exists];refine⟨p,t,n,l,xs,tv,ps,rfl,ZF.zu S13,S13 _ _ t7,S13 _ _ n7,S13 _ _ l7,lp,XS.same S13,hX,hTs,fun v14 d14 H14 qps qjY qrX qht=>?_⟩;have qhu:=(hW7.same S13).but (ZF.zu S13) qht;have r14:=qht _ _ rp (S13 _ _ r7);simp -dsimp[aF,stC,-Bool.exists_bool,-List.map_take,-Prod.forall,-Prod.exists];refine⟨5,o,v14,.non,.non,d14,.none,.none,xs,ps,some a.aH, "ears",rfl,qhu,hX,hTs,bW.same iu _ _ qps,tno,tno,hno,hno,Nat.zero_le _,qjY.sm,sno,sno,.inr (.inr (.inr (.inr ⟨rfl,qjY.row,rfl,rfl⟩))),fun H15 Wu=>?_⟩;simp -dsimp[aF,stC,-Bool.exists_bool,-List.map_take,-Prod.forall,-Prod.exists];refine⟨2,o,.ref r,.str gd,.str gd,.list (ns.map PyData.int),.str gd,.str gd,xs,ps,none, "told",rfl,qhu.same Wu,hX,hTs,Az (Wu _ _ r14),tgd,tgd,qeP,qeP,Nat.zero_le _,Yp,sgd,sgd,.inr (.inr (.inl ⟨rfl,pr,.inr ⟨by rw[gg];rfl,rfl,rfl⟩⟩)),fun H16 s16=>?_⟩;simp -dsimp[aF,stC,-Bool.exists_bool,-List.map_take,-Prod.forall,-Prod.exists];intro b17 qpt;have s17:Same H16 (upd H16 b17 (.lst [])):=aB qpt;have e17:upd H16 b17 (.lst []) b17=some (.lst []):=aA;generalize upd H16 b17 (.lst [])=H17 at s17 e17 ⊢;have S17:=Wu.trans (s16.trans s17);refine⟨0,o,.ref r,.ref b17,.non,.list (ns.map PyData.int),.list [],.none,xs,ps,none, "told",rfl,qhu.same S17,hX,hTs,Az (S17 _ _ r14),by simp only[bW];exact⟨b17,[],rfl,e17,by simp[aX]⟩,tno,(fun x e=>by cases e),hno,by simp[kids],Yp,yC (lit _),sno,.inr (.inl ⟨rfl,pr,.inr ⟨by simp[nY,Ay,kids,d7],rfl,rfl⟩⟩),fun H18 s18=>?_⟩;simp -dsimp[aF,stC,-Bool.exists_bool,-List.map_take,-Prod.forall,-Prod.exists];have BB:But p Hp H18:=(B7.same S13).trans (qht.same (S17.trans s18));exact s0.trans fun b u e=>BB b u (aY e hp0) (sp1 b u e)
    ·rintro σ H1 ⟨⟨o1,o2,o3,o4,o5,o6,o7,o8,o9,o10,rfl⟩,s1⟩;simp -dsimp[aF,stC,-Bool.exists_bool,-List.map_take,-Prod.forall,-Prod.exists];exact q _
end K36
namespace K36
open PySem L2
theorem Yq {α:Type} {n:Nat} (l:List α) (h:l.length=n+1):∃a r,l=a::r:=by
  cases l with
  | nil=>cases h
  | cons a r=>exact⟨a,r,rfl⟩
theorem zN {fd:FuncData} {ps:List Str} (h:∀v0,bindArgs fd {pos:=[v0]}=pure (ps.zip [v0])):∀us:List Value,us.length=1→bindArgs fd {pos:=us}=pure (ps.zip us):=by
  intro us hl;obtain⟨v0,us,rfl⟩:=Yq us hl;replace hl:=Nat.succ.inj hl;obtain rfl:=List.eq_nil_of_length_eq_zero hl;exact h v0
theorem fJ {fd:FuncData} {ps:List Str} (h:∀v0 v1,bindArgs fd {pos:=[v0,v1]}=pure (ps.zip [v0,v1])):∀us:List Value,us.length=2→bindArgs fd {pos:=us}=pure (ps.zip us):=by
  intro us hl;obtain⟨v0,us,rfl⟩:=Yq us hl;replace hl:=Nat.succ.inj hl;obtain⟨v1,us,rfl⟩:=Yq us hl;replace hl:=Nat.succ.inj hl;obtain rfl:=List.eq_nil_of_length_eq_zero hl;exact h v0 v1
theorem Kd {fd:FuncData} {ps:List Str} (h:∀v0 v1 v2,bindArgs fd {pos:=[v0,v1,v2]}=pure (ps.zip [v0,v1,v2])):∀us:List Value,us.length=3→bindArgs fd {pos:=us}=pure (ps.zip us):=by
  intro us hl;obtain⟨v0,us,rfl⟩:=Yq us hl;replace hl:=Nat.succ.inj hl;obtain⟨v1,us,rfl⟩:=Yq us hl;replace hl:=Nat.succ.inj hl;obtain⟨v2,us,rfl⟩:=Yq us hl;replace hl:=Nat.succ.inj hl;obtain rfl:=List.eq_nil_of_length_eq_zero hl;exact h v0 v1 v2
theorem qda {fd:FuncData} {ps:List Str} (h:∀v0 v1 v2 v3,bindArgs fd {pos:=[v0,v1,v2,v3]}=pure (ps.zip [v0,v1,v2,v3])):∀us:List Value,us.length=4→bindArgs fd {pos:=us}=pure (ps.zip us):=by
  intro us hl;obtain⟨v0,us,rfl⟩:=Yq us hl;replace hl:=Nat.succ.inj hl;obtain⟨v1,us,rfl⟩:=Yq us hl;replace hl:=Nat.succ.inj hl;obtain⟨v2,us,rfl⟩:=Yq us hl;replace hl:=Nat.succ.inj hl;obtain⟨v3,us,rfl⟩:=Yq us hl;replace hl:=Nat.succ.inj hl;obtain rfl:=List.eq_nil_of_length_eq_zero hl;exact h v0 v1 v2 v3
theorem qdb {fd:FuncData} {ps:List Str} (h:∀v0 v1 v2 v3 v4,bindArgs fd {pos:=[v0,v1,v2,v3,v4]}=pure (ps.zip [v0,v1,v2,v3,v4])):∀us:List Value,us.length=5→bindArgs fd {pos:=us}=pure (ps.zip us):=by
  intro us hl;obtain⟨v0,us,rfl⟩:=Yq us hl;replace hl:=Nat.succ.inj hl;obtain⟨v1,us,rfl⟩:=Yq us hl;replace hl:=Nat.succ.inj hl;obtain⟨v2,us,rfl⟩:=Yq us hl;replace hl:=Nat.succ.inj hl;obtain⟨v3,us,rfl⟩:=Yq us hl;replace hl:=Nat.succ.inj hl;obtain⟨v4,us,rfl⟩:=Yq us hl;replace hl:=Nat.succ.inj hl;obtain rfl:=List.eq_nil_of_length_eq_zero hl;exact h v0 v1 v2 v3 v4
theorem all_mk {l:W.OpenLaw} {w:World} {K:W.Frag} {h:Heap} {mg:Str→Option Value} {fa cJ fu fW fB jw je iz fX qw jf gQ fC gR gU jg gk dW mj fD cL qz j9 dI dJ Iu mC cF jh dZ qC fY mD Iv B_ wC wD IK IV ji mF wF Ca fG jj fZ mG KY bK cG bR au cH aD aq aH bH bA bT bI bJ bU cY cZ bV cI:Addr} (X:K.In h) (G:h.Ns mainGlobals mg) (hfa:mg "law" = some (.ref fa))
    {od1 an1 od2 an2 od3 an3 od4 an4 od5 an5 od6 an6 od7 an7 od8 an8 od9 an9 qpu qjZ qpv qj0 qpw qj1 qpx qj2 qpy qj3 qpz qj4 qpA qj5 qpB qj6 qpC qj7 qpD qj8 qpE qj9 qpF qj_ qpG qka qpH qkb qpI qkc qpJ qkd qpK qke qpL qkf qpM qkg qpN qkh qpO qki qpP qkj qpQ qkk qpR qkl qpS qkm qpT qkn qpU qko qpV qkp qpW qkq qpX qkr qpY qks qpZ qkt qp0 qku qp1 qkv qp2 qkw qp3 qkx qp4 qky:Option Addr} {sl1 sl2 sl3 sl4 sl5 sl6 sl7 sl8 sl9 qp5 qp6 qp7 qp8 qp9 qp_ qqa qqb qqc qqd qqe qqf qqg qqh qqi qqj qqk qql qqm qqn qqo qqp qqq qqr qqs qqt qqu qqv qqw qqx qqy qqz qqA qqB qqC qqD qqE:Array (Option Value)} {oc1 kV1 dc1 pm1 cd1 ct1 oc2 kV2 dc2 pm2 cd2 ct2 oc3 kV3 dc3 pm3 cd3 ct3 oc4 kV4 dc4 pm4 cd4 ct4 oc5 kV5 dc5 pm5 cd5 ct5 oc6 kV6 dc6 pm6 cd6 ct6 oc7 kV7 dc7 pm7 cd7 ct7 oc8 kV8 dc8 pm8 cd8 ct8 oc9 kV9 dc9 pm9 cd9 ct9 qqF qkz qkA qkB qhv qkC qqG qkD qkE qkF qhw qkG qqH qkH qkI qkJ qhx qkK qqI qkL qkM qkN qhy qkO qqJ qkP qkQ qkR qhz qkS qqK qkT qkU qkV qhA qkW qqL qkX qkY qkZ qhB qk0 qqM qk1 qk2 qk3 qhC qk4 qqN qk5 qk6 qk7 qhD qk8 qqO qk9 qk_ qla qhE qlb qqP qlc qld qle qhF qlf qqQ qlg qlh qli qhG qlj qqR qlk qll qlm qhH qln qqS qlo qlp qlq qhI qlr qqT qls qlt qlu qhJ qlv qqU qlw qlx qly qhK qlz qqV qlA qlB qlC qhL qlD qqW qlE qlF qlG qhM qlH qqX qlI qlJ qlK qhN qlL qqY qlM qlN qlO qhO qlP qqZ qlQ qlR qlS qhP qlT qq0 qlU qlV qlW qhQ qlX qq1 qlY qlZ ql0 qhR ql1 qq2 ql2 ql3 ql4 qhS ql5 qq3 ql6 ql7 ql8 qhT ql9 qq4 ql_ qma qmb qhU qmc qq5 qmd qme qmf qhV qmg qq6 qmh qmi qmj qhW qmk qq7 qml qmm qmn qhX qmo qq8 qmp qmq qmr qhY qms qq9 qmt qmu qmv qhZ qmw qq_ qmx qmy qmz qh0 qmA qra qmB qmC qmD qh1 qmE qrb qmF qmG qmH qh2 qmI qrc qmJ qmK qmL qh3 qmM qrd qmN qmO qmP qh4 qmQ qre qmR qmS qmT qh5 qmU:Value} {G6 uX yj Cu:Tok}
    (Yr:W.nsIn K mainGlobals "Web" = some (some (.ref cJ)))
    (a1:W.nsIn K mainGlobals "steps_along" = some (some (.ref fu)))
    (l1:K.lookup fu=some ⟨oc1,od1,.func (W.fnOf "steps_along" "steps_along" (aN eX) (aM eX) (ao eX) .none kV1 dc1 pm1 an1 cd1 ct1),sl1⟩) (c1:W.codeIn K cd1 "steps_along" = true) (k1:W.keepIn K (.ref fu)=true)
    (a2:W.nsIn K mainGlobals "ways_along" = some (some (.ref fW)))
    (l2:K.lookup fW=some ⟨oc2,od2,.func (W.fnOf "ways_along" "ways_along" (aN fO) (aM fO) (ao fO) .none kV2 dc2 pm2 an2 cd2 ct2),sl2⟩) (c2:W.codeIn K cd2 "ways_along" = true) (k2:W.keepIn K (.ref fW)=true)
    (a3:W.nsIn K mainGlobals "found_along" = some (some (.ref fB)))
    (l3:K.lookup fB=some ⟨oc3,od3,.func (W.fnOf "found_along" "found_along" (aN dO) (aM dO) (ao dO) .none kV3 dc3 pm3 an3 cd3 ct3),sl3⟩) (c3:W.codeIn K cd3 "found_along" = true) (k3:W.keepIn K (.ref fB)=true)
    (a4:W.nsIn K mainGlobals "is_list" = some (some (.ref jw)))
    (l4:K.lookup jw=some ⟨oc4,od4,.func (W.fnOf "is_list" "is_list" (aN lV) (aM lV) (ao lV) .none kV4 dc4 pm4 an4 cd4 ct4),sl4⟩) (c4:W.codeIn K cd4 "is_list" = true) (k4:W.keepIn K (.ref jw)=true)
    (a5:W.nsIn K mainGlobals "is_whole" = some (some (.ref je)))
    (l5:K.lookup je=some ⟨oc5,od5,.func (W.fnOf "is_whole" "is_whole" (aN iY) (aM iY) (ao iY) .none kV5 dc5 pm5 an5 cd5 ct5),sl5⟩) (c5:W.codeIn K cd5 "is_whole" = true) (k5:W.keepIn K (.ref je)=true)
    (a6:W.nsIn K mainGlobals "is_name" = some (some (.ref iz)))
    (l6:K.lookup iz=some ⟨oc6,od6,.func (W.fnOf "is_name" "is_name" (aN iy) (aM iy) (ao iy) .none kV6 dc6 pm6 an6 cd6 ct6),sl6⟩) (c6:W.codeIn K cd6 "is_name" = true) (k6:W.keepIn K (.ref iz)=true)
    (a7:W.nsIn K mainGlobals "are_points" = some (some (.ref fX)))
    (l7:K.lookup fX=some ⟨oc7,od7,.func (W.fnOf "are_points" "are_points" (aN eY) (aM eY) (ao eY) .none kV7 dc7 pm7 an7 cd7 ct7),sl7⟩) (c7:W.codeIn K cd7 "are_points" = true) (k7:W.keepIn K (.ref fX)=true)
    (a8:W.nsIn K mainGlobals "is_tie" = some (some (.ref qw)))
    (l8:K.lookup qw=some ⟨oc8,od8,.func (W.fnOf "is_tie" "is_tie" (aN nU) (aM nU) (ao nU) .none kV8 dc8 pm8 an8 cd8 ct8),sl8⟩) (c8:W.codeIn K cd8 "is_tie" = true) (k8:W.keepIn K (.ref qw)=true)
    (a9:W.nsIn K mainGlobals "are_ties" = some (some (.ref jf)))
    (l9:K.lookup jf=some ⟨oc9,od9,.func (W.fnOf "are_ties" "are_ties" (aN gM) (aM gM) (ao gM) .none kV9 dc9 pm9 an9 cd9 ct9),sl9⟩) (c9:W.codeIn K cd9 "are_ties" = true) (k9:W.keepIn K (.ref jf)=true)
    (a10:W.findIn K (.ref cJ) "__init__" = some (some (.ref gQ))) (i10:W.isFn K (.ref gQ)=true)
    (l10:K.lookup gQ=some ⟨qqF,qpu,.func (W.fnOf "__init__" "Web.__init__" (aN gO) (aM gO) (ao gO) .none qkz qkA qkB qjZ qhv qkC),qp5⟩) (c10:W.codeIn K qhv "Web.__init__" = true) (k10:W.keepIn K (.ref gQ)=true)
    (a11:W.findIn K (.ref cJ) "points" = some (some (.ref fC))) (i11:W.isFn K (.ref fC)=true)
    (l11:K.lookup fC=some ⟨qqG,qpv,.func (W.fnOf "points" "Web.points" (aN fP) (aM fP) (ao fP) .none qkD qkE qkF qj0 qhw qkG),qp6⟩) (c11:W.codeIn K qhw "Web.points" = true) (k11:W.keepIn K (.ref fC)=true)
    (a12:W.findIn K (.ref cJ) "ties" = some (some (.ref gR))) (i12:W.isFn K (.ref gR)=true)
    (l12:K.lookup gR=some ⟨qqH,qpw,.func (W.fnOf "ties" "Web.ties" (aN iZ) (aM iZ) (ao iZ) .none qkH qkI qkJ qj1 qhx qkK),qp7⟩) (c12:W.codeIn K qhx "Web.ties" = true) (k12:W.keepIn K (.ref gR)=true)
    (a13:W.findIn K (.ref cJ) "many" = some (some (.ref gU))) (i13:W.isFn K (.ref gU)=true)
    (l13:K.lookup gU=some ⟨qqI,qpx,.func (W.fnOf "many" "Web.many" (aN i_) (aM i_) (ao i_) .none qkL qkM qkN qj2 qhy qkO),qp8⟩) (c13:W.codeIn K qhy "Web.many" = true) (k13:W.keepIn K (.ref gU)=true)
    (a14:W.nsIn K mainGlobals "is_point" = some (some (.ref jg)))
    (l14:K.lookup jg=some ⟨qqJ,qpy,.func (W.fnOf "is_point" "is_point" (aN jc) (aM jc) (ao jc) .none qkP qkQ qkR qj3 qhz qkS),qp9⟩) (c14:W.codeIn K qhz "is_point" = true) (k14:W.keepIn K (.ref jg)=true)
    (a15:W.nsIn K mainGlobals "is_number" = some (some (.ref gk)))
    (l15:K.lookup gk=some ⟨qqK,qpz,.func (W.fnOf "is_number" "is_number" (aN gJ) (aM gJ) (ao gJ) .none qkT qkU qkV qj4 qhA qkW),qp_⟩) (c15:W.codeIn K qhA "is_number" = true) (k15:W.keepIn K (.ref gk)=true)
    (a16:W.nsIn K mainGlobals "are_numbers" = some (some (.ref dW)))
    (l16:K.lookup dW=some ⟨qqL,qpA,.func (W.fnOf "are_numbers" "are_numbers" (aN dG) (aM dG) (ao dG) .none qkX qkY qkZ qj5 qhB qk0),qqa⟩) (c16:W.codeIn K qhB "are_numbers" = true) (k16:W.keepIn K (.ref dW)=true)
    (a17:W.nsIn K mainGlobals "is_lead" = some (some (.ref mj)))
    (l17:K.lookup mj=some ⟨qqM,qpB,.func (W.fnOf "is_lead" "is_lead" (aN lW) (aM lW) (ao lW) .none qk1 qk2 qk3 qj6 qhC qk4),qqb⟩) (c17:W.codeIn K qhC "is_lead" = true) (k17:W.keepIn K (.ref mj)=true)
    (a18:W.nsIn K mainGlobals "is_pointing" = some (some (.ref fD)))
    (l18:K.lookup fD=some ⟨qqN,qpC,.func (W.fnOf "is_pointing" "is_pointing" (aN dU) (aM dU) (ao dU) .none qk5 qk6 qk7 qj7 qhD qk8),qqc⟩) (c18:W.codeIn K qhD "is_pointing" = true) (k18:W.keepIn K (.ref fD)=true)
    (a19:W.nsIn K mainGlobals "sure_of_pointing" = some (some (.ref cL)))
    (l19:K.lookup cL=some ⟨qqO,qpD,.func (W.fnOf "sure_of_pointing" "sure_of_pointing" (aN cR) (aM cR) (ao cR) .none qk9 qk_ qla qj8 qhE qlb),qqd⟩) (c19:W.codeIn K qhE "sure_of_pointing" = true) (k19:W.keepIn K (.ref cL)=true)
    (a20:W.nsIn K mainGlobals "arrows" = some (some (.ref qz)))
    (ZJ:K.lookup qz=some ⟨qqP,qpE,.func (W.fnOf "arrows" "arrows" (aN qm) (aM qm) (ao qm) .none qlc qld qle qj9 qhF qlf),qqe⟩) (c20:W.codeIn K qhF "arrows" = true) (k20:W.keepIn K (.ref qz)=true)
    (a21:W.nsIn K mainGlobals "turned" = some (some (.ref j9)))
    (l21:K.lookup j9=some ⟨qqQ,qpF,.func (W.fnOf "turned" "turned" (aN jZ) (aM jZ) (ao jZ) .none qlg qlh qli qj_ qhG qlj),qqf⟩) (c21:W.codeIn K qhG "turned" = true) (k21:W.keepIn K (.ref j9)=true)
    (a22:W.nsIn K mainGlobals "pointing_text" = some (some (.ref dI)))
    (l22:K.lookup dI=some ⟨qqR,qpG,.func (W.fnOf "pointing_text" "pointing_text" (aN dg) (aM dg) (ao dg) .none qlk qll qlm qka qhH qln),qqg⟩) (c22:W.codeIn K qhH "pointing_text" = true) (k22:W.keepIn K (.ref dI)=true)
    (a23:W.nsIn K mainGlobals "sure_of_point" = some (some (.ref dJ)))
    (l23:K.lookup dJ=some ⟨qqS,qpH,.func (W.fnOf "sure_of_point" "sure_of_point" (aN dH) (aM dH) (ao dH) .none qlo qlp qlq qkb qhI qlr),qqh⟩) (c23:W.codeIn K qhI "sure_of_point" = true) (k23:W.keepIn K (.ref dJ)=true)
    (a24:W.nsIn K mainGlobals "way" = some (some (.ref Iu)))
    (l24:K.lookup Iu=some ⟨qqT,qpI,.func (W.fnOf "way" "way" (aN Ik) (aM Ik) (ao Ik) .none qls qlt qlu qkc qhJ qlv),qqi⟩) (c24:W.codeIn K qhJ "way" = true) (k24:W.keepIn K (.ref Iu)=true)
    (a25:W.nsIn K mainGlobals "reached" = some (some (.ref mC)))
    (l25:K.lookup mC=some ⟨qqU,qpJ,.func (W.fnOf "reached" "reached" (aN lX) (aM lX) (ao lX) .none qlw qlx qly qkd qhK qlz),qqj⟩) (c25:W.codeIn K qhK "reached" = true) (k25:W.keepIn K (.ref mC)=true)
    (a26:W.nsIn K mainGlobals "lot_without_way_in" = some (some (.ref cF)))
    (l26:K.lookup cF=some ⟨qqV,qpK,.func (W.fnOf "lot_without_way_in" "lot_without_way_in" (aN cA) (aM cA) (ao cA) .none qlA qlB qlC qke qhL qlD),qqk⟩) (c26:W.codeIn K qhL "lot_without_way_in" = true) (k26:W.keepIn K (.ref cF)=true)
    (a27:W.nsIn K mainGlobals "shut_lot" = some (some (.ref jh)))
    (l27:K.lookup jh=some ⟨qqW,qpL,.func (W.fnOf "shut_lot" "shut_lot" (aN jd) (aM jd) (ao jd) .none qlE qlF qlG qkf qhM qlH),qql⟩) (c27:W.codeIn K qhM "shut_lot" = true) (k27:W.keepIn K (.ref jh)=true)
    (a28:W.nsIn K mainGlobals "points_along" = some (some (.ref dZ)))
    (l28:K.lookup dZ=some ⟨qqX,qpM,.func (W.fnOf "points_along" "points_along" (aN dY) (aM dY) (ao dY) .none qlI qlJ qlK qkg qhN qlL),qqm⟩) (c28:W.codeIn K qhN "points_along" = true) (k28:W.keepIn K (.ref dZ)=true)
    (a29:W.nsIn K mainGlobals "is_ear" = some (some (.ref qC)))
    (l29:K.lookup qC=some ⟨qqY,qpN,.func (W.fnOf "is_ear" "is_ear" (aN j4) (aM j4) (ao j4) .none qlM qlN qlO qkh qhO qlP),qqn⟩) (c29:W.codeIn K qhO "is_ear" = true) (k29:W.keepIn K (.ref qC)=true)
    (a30:W.nsIn K mainGlobals "reads_ears" = some (some (.ref fY)))
    (l30:K.lookup fY=some ⟨qqZ,qpO,.func (W.fnOf "reads_ears" "reads_ears" (aN fQ) (aM fQ) (ao fQ) .none qlQ qlR qlS qki qhP qlT),qqo⟩) (c30:W.codeIn K qhP "reads_ears" = true) (k30:W.keepIn K (.ref fY)=true)
    (a31:W.nsIn K mainGlobals "by_ears" = some (some (.ref mD)))
    (l31:K.lookup mD=some ⟨qq0,qpP,.func (W.fnOf "by_ears" "by_ears" (aN lY) (aM lY) (ao lY) .none qlU qlV qlW qkj qhQ qlX),qqp⟩) (c31:W.codeIn K qhQ "by_ears" = true) (k31:W.keepIn K (.ref mD)=true)
    (a32:W.nsIn K mainGlobals "_law_pot" = some (some (.ref Iv)))
    (l32:K.lookup Iv=some ⟨qq1,qpQ,.func (W.fnOf "_law_pot" "_law_pot" (aN Il) (aM Il) (ao Il) .none qlY qlZ ql0 qkk qhR ql1),qqq⟩) (c32:W.codeIn K qhR "_law_pot" = true) (k32:W.keepIn K (.ref Iv)=true)
    (a33:W.nsIn K mainGlobals "_law_take" = some (some (.ref B_)))
    (l33:K.lookup B_=some ⟨qq2,qpR,.func (W.fnOf "_law_take" "_law_take" (aN BJ) (aM BJ) (ao BJ) .none ql2 ql3 ql4 qkl qhS ql5),qqr⟩) (c33:W.codeIn K qhS "_law_take" = true) (k33:W.keepIn K (.ref B_)=true)
    (a34:W.nsIn K mainGlobals "_law_names" = some (some (.ref wC)))
    (l34:K.lookup wC=some ⟨qq3,qpS,.func (W.fnOf "_law_names" "_law_names" (aN qp) (aM qp) (ao qp) .none ql6 ql7 ql8 qkm qhT ql9),qqs⟩) (c34:W.codeIn K qhT "_law_names" = true) (k34:W.keepIn K (.ref wC)=true)
    (a35:W.nsIn K mainGlobals "_law_mixed" = some (some (.ref wD)))
    (l35:K.lookup wD=some ⟨qq4,qpT,.func (W.fnOf "_law_mixed" "_law_mixed" (aN wz) (aM wz) (ao wz) .none ql_ qma qmb qkn qhU qmc),qqt⟩) (c35:W.codeIn K qhU "_law_mixed" = true) (k35:W.keepIn K (.ref wD)=true)
    (a36:W.nsIn K mainGlobals "_law_tie" = some (some (.ref IK)))
    (l36:K.lookup IK=some ⟨qq5,qpU,.func (W.fnOf "_law_tie" "_law_tie" (aN Im) (aM Im) (ao Im) .none qmd qme qmf qko qhV qmg),qqu⟩) (c36:W.codeIn K qhV "_law_tie" = true) (k36:W.keepIn K (.ref IK)=true)
    (a37:W.nsIn K mainGlobals "_law_web" = some (some (.ref IV)))
    (l37:K.lookup IV=some ⟨qq6,qpV,.func (W.fnOf "_law_web" "_law_web" (aN CW) (aM CW) (ao CW) .none qmh qmi qmj qkp qhW qmk),qqv⟩) (c37:W.codeIn K qhW "_law_web" = true) (k37:W.keepIn K (.ref IV)=true)
    (a38:W.nsIn K mainGlobals "_law_pointing" = some (some (.ref ji)))
    (l38:K.lookup ji=some ⟨qq7,qpW,.func (W.fnOf "_law_pointing" "_law_pointing" (aN gP) (aM gP) (ao gP) .none qml qmm qmn qkq qhX qmo),qqw⟩) (c38:W.codeIn K qhX "_law_pointing" = true) (k38:W.keepIn K (.ref ji)=true)
    (a39:W.nsIn K mainGlobals "_law_class" = some (some (.ref mF)))
    (l39:K.lookup mF=some ⟨qq8,qpX,.func (W.fnOf "_law_class" "_law_class" (aN wA) (aM wA) (ao wA) .none qmp qmq qmr qkr qhY qms),qqx⟩) (c39:W.codeIn K qhY "_law_class" = true) (k39:W.keepIn K (.ref mF)=true)
    (a40:W.nsIn K mainGlobals "_law_asked" = some (some (.ref wF)))
    (l40:K.lookup wF=some ⟨qq9,qpY,.func (W.fnOf "_law_asked" "_law_asked" (aN wB) (aM wB) (ao wB) .none qmt qmu qmv qks qhZ qmw),qqy⟩) (c40:W.codeIn K qhZ "_law_asked" = true) (k40:W.keepIn K (.ref wF)=true)
    (a41:W.nsIn K mainGlobals "_law_said" = some (some (.ref Ca)))
    (l41:K.lookup Ca=some ⟨qq_,qpZ,.func (W.fnOf "_law_said" "_law_said" (aN BK) (aM BK) (ao BK) .none qmx qmy qmz qkt qh0 qmA),qqz⟩) (c41:W.codeIn K qh0 "_law_said" = true) (k41:W.keepIn K (.ref Ca)=true)
    (a42:W.nsIn K mainGlobals "_law_no_pointing" = some (some (.ref fG)))
    (l42:K.lookup fG=some ⟨qra,qp0,.func (W.fnOf "_law_no_pointing" "_law_no_pointing" (aN eZ) (aM eZ) (ao eZ) .none qmB qmC qmD qku qh1 qmE),qqA⟩) (c42:W.codeIn K qh1 "_law_no_pointing" = true) (k42:W.keepIn K (.ref fG)=true)
    (a43:W.nsIn K mainGlobals "_law_no_point" = some (some (.ref jj)))
    (l43:K.lookup jj=some ⟨qrb,qp1,.func (W.fnOf "_law_no_point" "_law_no_point" (aN gw) (aM gw) (ao gw) .none qmF qmG qmH qkv qh2 qmI),qqB⟩) (c43:W.codeIn K qh2 "_law_no_point" = true) (k43:W.keepIn K (.ref jj)=true)
    (a44:W.nsIn K mainGlobals "_law_no_numbers" = some (some (.ref fZ)))
    (l44:K.lookup fZ=some ⟨qrc,qp2,.func (W.fnOf "_law_no_numbers" "_law_no_numbers" (aN fV) (aM fV) (ao fV) .none qmJ qmK qmL qkw qh3 qmM),qqC⟩) (c44:W.codeIn K qh3 "_law_no_numbers" = true) (k44:W.keepIn K (.ref fZ)=true)
    (a45:W.nsIn K mainGlobals "_law_no_ears" = some (some (.ref mG)))
    (l45:K.lookup mG=some ⟨qrd,qp3,.func (W.fnOf "_law_no_ears" "_law_no_ears" (aN lZ) (aM lZ) (ao lZ) .none qmN qmO qmP qkx qh4 qmQ),qqD⟩) (c45:W.codeIn K qh4 "_law_no_ears" = true) (k45:W.keepIn K (.ref mG)=true)
    (a46:W.nsIn K mainGlobals "law" = some (some (.ref KY)))
    (l46:K.lookup KY=some ⟨qre,qp4,.func (W.fnOf "law" "law" (aN Io) (aM Io) (ao Io) .none qmR qmS qmT qky qh5 qmU),qqE⟩) (c46:W.codeIn K qh5 "law" = true) (k46:W.keepIn K (.ref KY)=true)
    (su:W.nsIn K mainGlobals "LETTERS" = some (some (.str "abcdefghijklmnopqrstuvwxyz" G6)))
    (gA:W.nsIn K mainGlobals "MOST_LETTERS" = some (some (.int 4 uX)))
    (gV:W.nsIn K mainGlobals "MOST_POINTS" = some (some (.int 9 yj)))
    (j_:W.nsIn K mainGlobals "MOST_TIES" = some (some (.int 20 Cu)))
    (Ys:W.plainGet K cJ Str.empty=true) (Yt:W.hasDictIn K cJ=true) (Yu:W.plainOver K cJ=true) (Yv:W.findIn K (.ref cJ) "__setattr__" = some (some (.builtin "object.__setattr__"))) (Yw:W.makesIn K cJ=true) (Yx:W.keepIn K (.ref cJ)=true)
    (O7:W.findIn K (.ref cJ) "names" = some none)
    (O8:W.findIn K (.ref cJ) "pairs" = some none)
    (qdc:W.nsIn K mainGlobals "len" = some none)
    (qdd:W.nsIn K mainGlobals "max" = some none)
    (qde:W.nsIn K mainGlobals "min" = some none)
    (qdf:W.nsIn K mainGlobals "abs" = some none)
    (O9:W.nsIn K mainGlobals "divmod" = some none)
    (Uj:W.nsIn K mainGlobals "range" = some none)
    (qdg:W.nsIn K mainGlobals "zip" = some none)
    (Yy:W.nsIn K mainGlobals "list" = some none)
    (Uk:W.nsIn K mainGlobals "tuple" = some none)
    (qdh:W.nsIn K mainGlobals "int" = some none)
    (qdi:W.nsIn K mainGlobals "str" = some none)
    (qdj:W.nsIn K mainGlobals "set" = some none)
    (qdk:W.nsIn K mainGlobals "all" = some none)
    (Cv:W.nsIn K mainGlobals "isinstance" = some none)
    (Ez:W.nsIn K mainGlobals "enumerate" = some none)
    (qdl:W.nsIn K mainGlobals "any" = some none)
    (Yz:W.nsIn K mainGlobals "dict" = some none)
    (O_:W.nsIn K mainGlobals "sorted" = some none)
    (YB:W.nsIn K mainGlobals "repr" = some none)
    (YC:W.nsIn K mainGlobals "bool" = some none)
    (qdm:W.nsIn K mainGlobals "sum" = some none)
    (zO:W.nsIn K mainGlobals "PointError" = some (some (.ref bK)))
    (Pa:W.nsIn K mainGlobals "NoWeb" = some (some (.ref cG)))
    (Ke:W.nsIn K mainGlobals "NoText" = some (some (.ref bR)))
    (Cw:W.nsIn K mainGlobals "NoNumbers" = some (some (.ref au)))
    (Pb:W.nsIn K mainGlobals "NoLot" = some (some (.ref cH)))
    (G7:W.nsIn K mainGlobals "NoPoint" = some (some (.ref aD)))
    (zP:W.nsIn K mainGlobals "NoPointing" = some (some (.ref aq)))
    (Kf:W.nsIn K mainGlobals "NoEars" = some (some (.ref aH)))
    (G8:W.nsIn K mainGlobals "NoFixed" = some (some (.ref bH)))
    (EY:W.nsIn K mainGlobals "NoNumber" = some (some (.ref bA)))
    (Kg:W.nsIn K mainGlobals "Unlike" = some (some (.ref bT)))
    (G9:W.nsIn K mainGlobals "NotOver" = some (some (.ref bI)))
    (G_:W.nsIn K mainGlobals "TooMuch" = some (some (.ref bJ)))
    (Kh:W.nsIn K mainGlobals "Parted" = some (some (.ref bU)))
    (Ul:W.nsIn K mainGlobals "Shut" = some (some (.ref cY)))
    (Um:W.nsIn K mainGlobals "Thin" = some (some (.ref cZ)))
    (Kl:W.nsIn K mainGlobals "Barred" = some (some (.ref bV)))
    (Pg:W.nsIn K mainGlobals "NoIns" = some (some (.ref cI)))
    (jm:W.excIn K aq Ga "ValueError.__new__" = true)
    (kj:W.excIn K au Ga "ValueError.__new__" = true)
    (sE:W.excIn K aD Ga "ValueError.__new__" = true)
    (xT:W.excIn K aH Ga "ValueError.__new__" = true)
    (mQ:W.excIn K bK Ga "ValueError.__new__" = true)
    (Ro:W.specialIn K (.builtin "object.__class__") "__get__" = some (some (.builtin "getset_descriptor.__get__"))) (Rp:W.takesIn K (.builtin "object.__class__")=some true)
    (zQ:W.findIn K (.ref aq) "__getattribute__" = some (some (.builtin "BaseException.__getattribute__"))) (zR:W.findIn K (.ref aq) "__getattr__" = some none) (zT:W.findIn K (.ref aq) "__class__" = some (some (.builtin "object.__class__"))) (zU:W.mroIn K aq (.type "object")=some true) (zV:W.mroIn K aq (.type "BaseException")=some true) (zW:W.isClsIn K aq=true)
    (gY:W.mroIn K aq (.ref bK)=some true) (gZ:(aq == bK)=false)
    (mU:(aq == cG)=false) (mV:W.subIn K (.ref aq) (.ref cG)=some false)
    (kE:(aq == bR)=false) (kI:W.subIn K (.ref aq) (.ref bR)=some false)
    (iC:(aq == au)=false) (iD:W.subIn K (.ref aq) (.ref au)=some false)
    (mW:(aq == cH)=false) (mX:W.subIn K (.ref aq) (.ref cH)=some false)
    (jC:(aq == aD)=false) (jD:W.subIn K (.ref aq) (.ref aD)=some false)
    (kJ:(aq == aH)=false) (kO:W.subIn K (.ref aq) (.ref aH)=some false)
    (jE:(aq == bH)=false) (jF:W.subIn K (.ref aq) (.ref bH)=some false)
    (jo:(aq == bA)=false) (jq:W.subIn K (.ref aq) (.ref bA)=some false)
    (kW:(aq == bT)=false) (kY:W.subIn K (.ref aq) (.ref bT)=some false)
    (jG:(aq == bI)=false) (jH:W.subIn K (.ref aq) (.ref bI)=some false)
    (jJ:(aq == bJ)=false) (jK:W.subIn K (.ref aq) (.ref bJ)=some false)
    (kZ:(aq == bU)=false) (k_:W.subIn K (.ref aq) (.ref bU)=some false)
    (oO:(aq == cY)=false) (oR:W.subIn K (.ref aq) (.ref cY)=some false)
    (oU:(aq == cZ)=false) (oV:W.subIn K (.ref aq) (.ref cZ)=some false)
    (lg:(aq == bV)=false) (lq:W.subIn K (.ref aq) (.ref bV)=some false)
    (mY:(aq == cI)=false) (mZ:W.subIn K (.ref aq) (.ref cI)=some false)
    (sG:W.subIn K (.ref aq) (.type "ValueError")=some true)
    (Cy:W.findIn K (.ref au) "__getattribute__" = some (some (.builtin "BaseException.__getattribute__"))) (Cz:W.findIn K (.ref au) "__getattr__" = some none) (CG:W.findIn K (.ref au) "__class__" = some (some (.builtin "object.__class__"))) (CJ:W.mroIn K au (.type "object")=some true) (CK:W.mroIn K au (.type "BaseException")=some true) (CN:W.isClsIn K au=true)
    (iG:W.mroIn K au (.ref bK)=some true) (iH:(au == bK)=false)
    (oW:(au == cG)=false) (oX:W.subIn K (.ref au) (.ref cG)=some false)
    (m5:(au == bR)=false) (m6:W.subIn K (.ref au) (.ref bR)=some false)
    (oY:(au == cH)=false) (oZ:W.subIn K (.ref au) (.ref cH)=some false)
    (lu:(au == aD)=false) (lA:W.subIn K (.ref au) (.ref aD)=some false)
    (iI:(au == aq)=false) (iJ:W.subIn K (.ref au) (.ref aq)=some false)
    (m7:(au == aH)=false) (m8:W.subIn K (.ref au) (.ref aH)=some false)
    (lB:(au == bH)=false) (lC:W.subIn K (.ref au) (.ref bH)=some false)
    (jL:(au == bA)=false) (jM:W.subIn K (.ref au) (.ref bA)=some false)
    (m9:(au == bT)=false) (m_:W.subIn K (.ref au) (.ref bT)=some false)
    (lE:(au == bI)=false) (lF:W.subIn K (.ref au) (.ref bI)=some false)
    (lG:(au == bJ)=false) (lH:W.subIn K (.ref au) (.ref bJ)=some false)
    (ni:(au == bU)=false) (nj:W.subIn K (.ref au) (.ref bU)=some false)
    (qN:(au == cY)=false) (qO:W.subIn K (.ref au) (.ref cY)=some false)
    (qP:(au == cZ)=false) (qQ:W.subIn K (.ref au) (.ref cZ)=some false)
    (nq:(au == bV)=false) (nu:W.subIn K (.ref au) (.ref bV)=some false)
    (o_:(au == cI)=false) (pq:W.subIn K (.ref au) (.ref cI)=some false)
    (uY:W.subIn K (.ref au) (.type "ValueError")=some true)
    (Hf:W.findIn K (.ref aD) "__getattribute__" = some (some (.builtin "BaseException.__getattribute__"))) (Hg:W.findIn K (.ref aD) "__getattr__" = some none) (Hh:W.findIn K (.ref aD) "__class__" = some (some (.builtin "object.__class__"))) (Hi:W.mroIn K aD (.type "object")=some true) (Hj:W.mroIn K aD (.type "BaseException")=some true) (Hl:W.isClsIn K aD=true)
    (jN:W.mroIn K aD (.ref bK)=some true) (jO:(aD == bK)=false)
    (sH:(aD == cG)=false) (sI:W.subIn K (.ref aD) (.ref cG)=some false)
    (qR:(aD == bR)=false) (qT:W.subIn K (.ref aD) (.ref bR)=some false)
    (lJ:(aD == au)=false) (lK:W.subIn K (.ref aD) (.ref au)=some false)
    (sJ:(aD == cH)=false) (sO:W.subIn K (.ref aD) (.ref cH)=some false)
    (jP:(aD == aq)=false) (jQ:W.subIn K (.ref aD) (.ref aq)=some false)
    (qU:(aD == aH)=false) (qW:W.subIn K (.ref aD) (.ref aH)=some false)
    (pA:(aD == bH)=false) (pB:W.subIn K (.ref aD) (.ref bH)=some false)
    (nA:(aD == bA)=false) (nC:W.subIn K (.ref aD) (.ref bA)=some false)
    (qX:(aD == bT)=false) (qY:W.subIn K (.ref aD) (.ref bT)=some false)
    (pC:(aD == bI)=false) (pF:W.subIn K (.ref aD) (.ref bI)=some false)
    (pG:(aD == bJ)=false) (pH:W.subIn K (.ref aD) (.ref bJ)=some false)
    (qZ:(aD == bU)=false) (q_:W.subIn K (.ref aD) (.ref bU)=some false)
    (uZ:(aD == cY)=false) (u0:W.subIn K (.ref aD) (.ref cY)=some false)
    (u5:(aD == cZ)=false) (u6:W.subIn K (.ref aD) (.ref cZ)=some false)
    (rm:(aD == bV)=false) (rA:W.subIn K (.ref aD) (.ref bV)=some false)
    (sS:(aD == cI)=false) (sU:W.subIn K (.ref aD) (.ref cI)=some false)
    (zX:W.subIn K (.ref aD) (.type "ValueError")=some true)
    (Km:W.findIn K (.ref aH) "__getattribute__" = some (some (.builtin "BaseException.__getattribute__"))) (Ko:W.findIn K (.ref aH) "__getattr__" = some none) (Kp:W.findIn K (.ref aH) "__class__" = some (some (.builtin "object.__class__"))) (Kq:W.mroIn K aH (.type "object")=some true) (Kr:W.mroIn K aH (.type "BaseException")=some true) (Ks:W.isClsIn K aH=true)
    (lM:W.mroIn K aH (.ref bK)=some true) (lN:(aH == bK)=false)
    (u9:(aH == cG)=false) (u_:W.subIn K (.ref aH) (.ref cG)=some false)
    (sV:(aH == bR)=false) (sW:W.subIn K (.ref aH) (.ref bR)=some false)
    (nF:(aH == au)=false) (nG:W.subIn K (.ref aH) (.ref au)=some false)
    (vd:(aH == cH)=false) (vf:W.subIn K (.ref aH) (.ref cH)=some false)
    (rB:(aH == aD)=false) (rC:W.subIn K (.ref aH) (.ref aD)=some false)
    (lO:(aH == aq)=false) (lQ:W.subIn K (.ref aH) (.ref aq)=some false)
    (rD:(aH == bH)=false) (rE:W.subIn K (.ref aH) (.ref bH)=some false)
    (pI:(aH == bA)=false) (pJ:W.subIn K (.ref aH) (.ref bA)=some false)
    (sX:(aH == bT)=false) (sY:W.subIn K (.ref aH) (.ref bT)=some false)
    (rF:(aH == bI)=false) (rG:W.subIn K (.ref aH) (.ref bI)=some false)
    (rH:(aH == bJ)=false) (rJ:W.subIn K (.ref aH) (.ref bJ)=some false)
    (sZ:(aH == bU)=false) (tu:W.subIn K (.ref aH) (.ref bU)=some false)
    (yp:(aH == cY)=false) (yq:W.subIn K (.ref aH) (.ref cY)=some false)
    (yr:(aH == cZ)=false) (yt:W.subIn K (.ref aH) (.ref cZ)=some false)
    (tD:(aH == bV)=false) (tE:W.subIn K (.ref aH) (.ref bV)=some false)
    (vg:(aH == cI)=false) (vh:W.subIn K (.ref aH) (.ref cI)=some false)
    (CP:W.subIn K (.ref aH) (.type "ValueError")=some true)
    (A_:W.isClsIn K cG=true) (Ba:W.typeIn K (.ref cG)=some (.type "type"))
    (wN:W.isClsIn K bR=true) (wO:W.typeIn K (.ref bR)=some (.type "type"))
    (rK:W.isClsIn K au=true) (rM:W.typeIn K (.ref au)=some (.type "type"))
    (Bb:W.isClsIn K cH=true) (Bc:W.typeIn K (.ref cH)=some (.type "type"))
    (yu:W.isClsIn K aD=true) (yx:W.typeIn K (.ref aD)=some (.type "type"))
    (nZ:W.isClsIn K aq=true) (n_:W.typeIn K (.ref aq)=some (.type "type"))
    (Bd:W.isClsIn K aH=true) (Bf:W.typeIn K (.ref aH)=some (.type "type"))
    (tG:W.isClsIn K bH=true) (tH:W.typeIn K (.ref bH)=some (.type "type"))
    (pY:W.isClsIn K bA=true) (pZ:W.typeIn K (.ref bA)=some (.type "type"))
    (wQ:W.isClsIn K bT=true) (wR:W.typeIn K (.ref bT)=some (.type "type"))
    (tK:W.isClsIn K bI=true) (tM:W.typeIn K (.ref bI)=some (.type "type"))
    (tO:W.isClsIn K bJ=true) (tQ:W.typeIn K (.ref bJ)=some (.type "type"))
    (wU:W.isClsIn K bU=true) (wV:W.typeIn K (.ref bU)=some (.type "type"))
    (Fw:W.isClsIn K cY=true) (Fx:W.typeIn K (.ref cY)=some (.type "type"))
    (Fy:W.isClsIn K cZ=true) (Fz:W.typeIn K (.ref cZ)=some (.type "type"))
    (wW:W.isClsIn K bV=true) (wX:W.typeIn K (.ref bV)=some (.type "type"))
    (Bg:W.isClsIn K cI=true) (Bh:W.typeIn K (.ref cI)=some (.type "type"))
    (gb:W.nsIn K mainGlobals "ValueError" = some none)
    : ∃fd:FuncData,(∀(s:Shared) (v:Value),BindsTo s fd ⟨[v],[]⟩ [("_law_script",v)])∧∀base:Heap,K.In base→base.Ns mainGlobals mg→cT l.prog w K mg base rN 9 fa fd ["_law_script"] (Ui K):=by
  have e:=hfa.symm.trans (W.mg_of X G a46);cases e;have F1:=cC (st:=eX) l1 c1 k1;have b1:=F1.binds (ps:=["web", "fixed"]) fun _ _ _ _ _ _=>fJ fun _ _=>rfl;have F2:=cC (st:=fO) l2 c2 k2;have b2:=F2.binds (ps:=["start", "steps"]) fun _ _ _ _ _ _=>fJ fun _ _=>rfl;have F3:=cC (st:=dO) l3 c3 k3;have b3:=F3.binds (ps:=["web", "start", "steps"]) fun _ _ _ _ _ _=>Kd fun _ _ _=>rfl;have F4:=cC (st:=lV) l4 c4 k4;have b4:=F4.binds (ps:=["thing"]) fun _ _ _ _ _ _=>zN fun _=>rfl;have F5:=cC (st:=iY) l5 c5 k5;have b5:=F5.binds (ps:=["thing"]) fun _ _ _ _ _ _=>zN fun _=>rfl;have F6:=cC (st:=iy) l6 c6 k6;have b6:=F6.binds (ps:=["thing"]) fun _ _ _ _ _ _=>zN fun _=>rfl;have F7:=cC (st:=eY) l7 c7 k7;have b7:=F7.binds (ps:=["thing"]) fun _ _ _ _ _ _=>zN fun _=>rfl;have F8:=cC (st:=nU) l8 c8 k8;have b8:=F8.binds (ps:=["thing", "points"]) fun _ _ _ _ _ _=>fJ fun _ _=>rfl;have F9:=cC (st:=gM) l9 c9 k9;have b9:=F9.binds (ps:=["thing", "points"]) fun _ _ _ _ _ _=>fJ fun _ _=>rfl;have F10:=cC (st:=gO) l10 c10 k10;have b10:=F10.binds (ps:=["self", "points", "ties"]) fun _ _ _ _ _ _=>Kd fun _ _ _=>rfl;have F11:=cC (st:=fP) l11 c11 k11;have b11:=F11.binds (ps:=["self"]) fun _ _ _ _ _ _=>zN fun _=>rfl;have F12:=cC (st:=iZ) l12 c12 k12;have b12:=F12.binds (ps:=["self"]) fun _ _ _ _ _ _=>zN fun _=>rfl;have F13:=cC (st:=i_) l13 c13 k13;have b13:=F13.binds (ps:=["self"]) fun _ _ _ _ _ _=>zN fun _=>rfl;have F14:=cC (st:=jc) l14 c14 k14;have b14:=F14.binds (ps:=["web", "thing"]) fun _ _ _ _ _ _=>fJ fun _ _=>rfl;have F15:=cC (st:=gJ) l15 c15 k15;have b15:=F15.binds (ps:=["web", "thing"]) fun _ _ _ _ _ _=>fJ fun _ _=>rfl;have F16:=cC (st:=dG) l16 c16 k16;have b16:=F16.binds (ps:=["web", "thing"]) fun _ _ _ _ _ _=>fJ fun _ _=>rfl;have F17:=cC (st:=lW) l17 c17 k17;have b17:=F17.binds (ps:=["thing"]) fun _ _ _ _ _ _=>zN fun _=>rfl;have F18:=cC (st:=dU) l18 c18 k18;have b18:=F18.binds (ps:=["web", "thing"]) fun _ _ _ _ _ _=>fJ fun _ _=>rfl;have F19:=cC (st:=cR) l19 c19 k19;have b19:=F19.binds (ps:=["web", "thing"]) fun _ _ _ _ _ _=>fJ fun _ _=>rfl;have F20:=cC (st:=qm) ZJ c20 k20;have b20:=F20.binds (ps:=["web", "pointing"]) fun _ _ _ _ _ _=>fJ fun _ _=>rfl;have F21:=cC (st:=jZ) l21 c21 k21;have b21:=F21.binds (ps:=["web", "pointing", "numbers"]) fun _ _ _ _ _ _=>Kd fun _ _ _=>rfl;have F22:=cC (st:=dg) l22 c22 k22;have b22:=F22.binds (ps:=["web", "pointing"]) fun _ _ _ _ _ _=>fJ fun _ _=>rfl;have F23:=cC (st:=dH) l23 c23 k23;have b23:=F23.binds (ps:=["web", "thing"]) fun _ _ _ _ _ _=>fJ fun _ _=>rfl;have F24:=cC (st:=Ik) l24 c24 k24;have b24:=F24.binds (ps:=["web", "pointing", "a", "b"]) fun _ _ _ _ _ _=>qda fun _ _ _ _=>rfl;have F25:=cC (st:=lX) l25 c25 k25;have b25:=F25.binds (ps:=["web", "pointing", "point"]) fun _ _ _ _ _ _=>Kd fun _ _ _=>rfl;have F26:=cC (st:=cA) l26 c26 k26;have b26:=F26.binds (ps:=["web", "steps"]) fun _ _ _ _ _ _=>fJ fun _ _=>rfl;have F27:=cC (st:=jd) l27 c27 k27;have b27:=F27.binds (ps:=["web", "pointing"]) fun _ _ _ _ _ _=>fJ fun _ _=>rfl;have F28:=cC (st:=dY) l28 c28 k28;have b28:=F28.binds (ps:=["web", "start", "numbers"]) fun _ _ _ _ _ _=>Kd fun _ _ _=>rfl;have F29:=cC (st:=j4) l29 c29 k29;have b29:=F29.binds (ps:=["web", "thing", "met", "gone"]) fun _ _ _ _ _ _=>qda fun _ _ _ _=>rfl;have F30:=cC (st:=fQ) l30 c30 k30;have b30:=F30.binds (ps:=["web", "thing"]) fun _ _ _ _ _ _=>fJ fun _ _=>rfl;have F31:=cC (st:=lY) l31 c31 k31;have b31:=F31.binds (ps:=["web", "row"]) fun _ _ _ _ _ _=>fJ fun _ _=>rfl;have F32:=cC (st:=Il) l32 c32 k32;have b32:=F32.binds (ps:=["_law_script", "_law_k"]) fun _ _ _ _ _ _=>fJ fun _ _=>rfl;have F33:=cC (st:=BJ) l33 c33 k33;have b33:=F33.binds (ps:=["_law_pot_here", "_law_many"]) fun _ _ _ _ _ _=>fJ fun _ _=>rfl;have F34:=cC (st:=qp) l34 c34 k34;have b34:=F34.binds (ps:=["_law_pot_here", "_law_many"]) fun _ _ _ _ _ _=>fJ fun _ _=>rfl;have F35:=cC (st:=wz) l35 c35 k35;have b35:=F35.binds (ps:=["_law_pot_here", "_law_things"]) fun _ _ _ _ _ _=>fJ fun _ _=>rfl;have F36:=cC (st:=Im) l36 c36 k36;have b36:=F36.binds (ps:=["_law_pot_here", "_law_names_here"]) fun _ _ _ _ _ _=>fJ fun _ _=>rfl;have F37:=cC (st:=CW) l37 c37 k37;have b37:=F37.binds (ps:=["_law_pot_here", "_law_points", "_law_most"]) fun _ _ _ _ _ _=>Kd fun _ _ _=>rfl;have F38:=cC (st:=gP) l38 c38 k38;have b38:=F38.binds (ps:=["_law_pot_here", "_law_web_here"]) fun _ _ _ _ _ _=>fJ fun _ _=>rfl;have F39:=cC (st:=wA) l39 c39 k39;have b39:=F39.binds (ps:=["_law_e"]) fun _ _ _ _ _ _=>zN fun _=>rfl;have F40:=cC (st:=wB) l40 c40 k40;have b40:=F40.binds (ps:=["_law_road", "_law_made", "_law_row", "_law_one", "_law_other"]) fun _ _ _ _ _ _=>qdb fun _ _ _ _ _=>rfl;have F41:=cC (st:=BK) l41 c41 k41;have b41:=F41.binds (ps:=["_law_road", "_law_made", "_law_row", "_law_one", "_law_other"]) fun _ _ _ _ _ _=>qdb fun _ _ _ _ _=>rfl;have F42:=cC (st:=eZ) l42 c42 k42;have b42:=F42.binds (ps:=["_law_pot_here", "_law_row"]) fun _ _ _ _ _ _=>fJ fun _ _=>rfl;have F43:=cC (st:=gw) l43 c43 k43;have b43:=F43.binds (ps:=["_law_pot_here", "_law_web_here"]) fun _ _ _ _ _ _=>fJ fun _ _=>rfl;have F44:=cC (st:=fV) l44 c44 k44;have b44:=F44.binds (ps:=["_law_pot_here", "_law_row"]) fun _ _ _ _ _ _=>fJ fun _ _=>rfl;have F45:=cC (st:=lZ) l45 c45 k45;have b45:=F45.binds (ps:=["_law_pot_here", "_law_web_here"]) fun _ _ _ _ _ _=>fJ fun _ _=>rfl;have F46:=cC (st:=Io) l46 c46 k46;have b46:=F46.binds (ps:=["_law_script"]) fun _ _ _ _ _ _=>zN fun _=>rfl;have T:Txt K mg {fu:=fu,qt:=W.fnOf "steps_along" "steps_along" (aN eX) (aM eX) (ao eX) .none kV1 dc1 pm1 an1 cd1 ct1,fW:=fW,tW:=W.fnOf "ways_along" "ways_along" (aN fO) (aM fO) (ao fO) .none kV2 dc2 pm2 an2 cd2 ct2,fB:=fB,qu:=W.fnOf "found_along" "found_along" (aN dO) (aM dO) (ao dO) .none kV3 dc3 pm3 an3 cd3 ct3,jw:=jw,xu:=W.fnOf "is_list" "is_list" (aN lV) (aM lV) (ao lV) .none kV4 dc4 pm4 an4 cd4 ct4,je:=je,yJ:=W.fnOf "is_whole" "is_whole" (aN iY) (aM iY) (ao iY) .none kV5 dc5 pm5 an5 cd5 ct5,iz:=iz,rZ:=W.fnOf "is_name" "is_name" (aN iy) (aM iy) (ao iy) .none kV6 dc6 pm6 an6 cd6 ct6,fX:=fX,tX:=W.fnOf "are_points" "are_points" (aN eY) (aM eY) (ao eY) .none kV7 dc7 pm7 an7 cd7 ct7,qw:=qw,Fj:=W.fnOf "is_tie" "is_tie" (aN nU) (aM nU) (ao nU) .none kV8 dc8 pm8 an8 cd8 ct8,jf:=jf,yK:=W.fnOf "are_ties" "are_ties" (aN gM) (aM gM) (ao gM) .none kV9 dc9 pm9 an9 cd9 ct9,gQ:=gQ,yL:=W.fnOf "__init__" "Web.__init__" (aN gO) (aM gO) (ao gO) .none qkz qkA qkB qjZ qhv qkC,fC:=fC,tY:=W.fnOf "points" "Web.points" (aN fP) (aM fP) (ao fP) .none qkD qkE qkF qj0 qhw qkG,gR:=gR,yM:=W.fnOf "ties" "Web.ties" (aN iZ) (aM iZ) (ao iZ) .none qkH qkI qkJ qj1 qhx qkK,gU:=gU,yN:=W.fnOf "many" "Web.many" (aN i_) (aM i_) (ao i_) .none qkL qkM qkN qj2 qhy qkO,jg:=jg,yO:=W.fnOf "is_point" "is_point" (aN jc) (aM jc) (ao jc) .none qkP qkQ qkR qj3 qhz qkS,gk:=gk,qx:=W.fnOf "is_number" "is_number" (aN gJ) (aM gJ) (ao gJ) .none qkT qkU qkV qj4 qhA qkW,dW:=dW,j8:=W.fnOf "are_numbers" "are_numbers" (aN dG) (aM dG) (ao dG) .none qkX qkY qkZ qj5 qhB qk0,mj:=mj,BW:=W.fnOf "is_lead" "is_lead" (aN lW) (aM lW) (ao lW) .none qk1 qk2 qk3 qj6 qhC qk4,fD:=fD,qy:=W.fnOf "is_pointing" "is_pointing" (aN dU) (aM dU) (ao dU) .none qk5 qk6 qk7 qj7 qhD qk8,cL:=cL,fK:=W.fnOf "sure_of_pointing" "sure_of_pointing" (aN cR) (aM cR) (ao cR) .none qk9 qk_ qla qj8 qhE qlb,qz:=qz,Fl:=W.fnOf "arrows" "arrows" (aN qm) (aM qm) (ao qm) .none qlc qld qle qj9 qhF qlf,j9:=j9,wL:=W.fnOf "turned" "turned" (aN jZ) (aM jZ) (ao jZ) .none qlg qlh qli qj_ qhG qlj,dI:=dI,mq:=W.fnOf "pointing_text" "pointing_text" (aN dg) (aM dg) (ao dg) .none qlk qll qlm qka qhH qln,dJ:=dJ,mz:=W.fnOf "sure_of_point" "sure_of_point" (aN dH) (aM dH) (ao dH) .none qlo qlp qlq qkb qhI qlr,Iu:=Iu,Tw:=W.fnOf "way" "way" (aN Ik) (aM Ik) (ao Ik) .none qls qlt qlu qkc qhJ qlv,mC:=mC,BX:=W.fnOf "reached" "reached" (aN lX) (aM lX) (ao lX) .none qlw qlx qly qkd qhK qlz,cF:=cF,gH:=W.fnOf "lot_without_way_in" "lot_without_way_in" (aN cA) (aM cA) (ao cA) .none qlA qlB qlC qke qhL qlD,jh:=jh,yP:=W.fnOf "shut_lot" "shut_lot" (aN jd) (aM jd) (ao jd) .none qlE qlF qlG qkf qhM qlH,dZ:=dZ,oJ:=W.fnOf "points_along" "points_along" (aN dY) (aM dY) (ao dY) .none qlI qlJ qlK qkg qhN qlL,qC:=qC,Fo:=W.fnOf "is_ear" "is_ear" (aN j4) (aM j4) (ao j4) .none qlM qlN qlO qkh qhO qlP,fY:=fY,tZ:=W.fnOf "reads_ears" "reads_ears" (aN fQ) (aM fQ) (ao fQ) .none qlQ qlR qlS qki qhP qlT,mD:=mD,BZ:=W.fnOf "by_ears" "by_ears" (aN lY) (aM lY) (ao lY) .none qlU qlV qlW qkj qhQ qlX,Iv:=Iv,Tz:=W.fnOf "_law_pot" "_law_pot" (aN Il) (aM Il) (ao Il) .none qlY qlZ ql0 qkk qhR ql1,B_:=B_,Lx:=W.fnOf "_law_take" "_law_take" (aN BJ) (aM BJ) (ao BJ) .none ql2 ql3 ql4 qkl qhS ql5,wC:=wC,Iw:=W.fnOf "_law_names" "_law_names" (aN qp) (aM qp) (ao qp) .none ql6 ql7 ql8 qkm qhT ql9,wD:=wD,Iz:=W.fnOf "_law_mixed" "_law_mixed" (aN wz) (aM wz) (ao wz) .none ql_ qma qmb qkn qhU qmc,IK:=IK,TF:=W.fnOf "_law_tie" "_law_tie" (aN Im) (aM Im) (ao Im) .none qmd qme qmf qko qhV qmg,IV:=IV,TJ:=W.fnOf "_law_web" "_law_web" (aN CW) (aM CW) (ao CW) .none qmh qmi qmj qkp qhW qmk,ji:=ji,yQ:=W.fnOf "_law_pointing" "_law_pointing" (aN gP) (aM gP) (ao gP) .none qml qmm qmn qkq qhX qmo,mF:=mF,uw:=W.fnOf "_law_class" "_law_class" (aN wA) (aM wA) (ao wA) .none qmp qmq qmr qkr qhY qms,wF:=wF,IW:=W.fnOf "_law_asked" "_law_asked" (aN wB) (aM wB) (ao wB) .none qmt qmu qmv qks qhZ qmw,Ca:=Ca,Ly:=W.fnOf "_law_said" "_law_said" (aN BK) (aM BK) (ao BK) .none qmx qmy qmz qkt qh0 qmA,fG:=fG,qD:=W.fnOf "_law_no_pointing" "_law_no_pointing" (aN eZ) (aM eZ) (ao eZ) .none qmB qmC qmD qku qh1 qmE,jj:=jj,yR:=W.fnOf "_law_no_point" "_law_no_point" (aN gw) (aM gw) (ao gw) .none qmF qmG qmH qkv qh2 qmI,fZ:=fZ,t_:=W.fnOf "_law_no_numbers" "_law_no_numbers" (aN fV) (aM fV) (ao fV) .none qmJ qmK qmL qkw qh3 qmM,mG:=mG,Cd:=W.fnOf "_law_no_ears" "_law_no_ears" (aN lZ) (aM lZ) (ao lZ) .none qmN qmO qmP qkx qh4 qmQ,KY:=fa,TQ:=W.fnOf "law" "law" (aN Io) (aM Io) (ao Io) .none qmR qmS qmT qky qh5 qmU,su:=.str "abcdefghijklmnopqrstuvwxyz" G6,gA:=.int 4 uX,gV:=.int 9 yj,j_:=.int 20 Cu,cJ:=cJ,bK:=bK,cG:=cG,bR:=bR,au:=au,cH:=cH,aD:=aD,aq:=aq,aH:=aH,bH:=bH,bA:=bA,bT:=bT,bI:=bI,bJ:=bJ,bU:=bU,cY:=cY,cZ:=cZ,bV:=bV,cI:=cI}:={zE:=F1,Gb:=b1,Gd:=W.mg_of X G a1,wG:=F2,Ce:=b2,Cg:=W.mg_of X G a2,uc:=F3,zF:=b3,zG:=W.mg_of X G a3,iB:=F4,mH:=b4,mJ:=W.mg_of X G a4,xG:=F5,Ci:=b5,Cj:=W.mg_of X G a5,sy:=F6,Aa:=b6,Ab:=W.mg_of X G a6,Ck:=F7,I_:=b7,Ja:=W.mg_of X G a7,NK:=F8,VN:=b8,VP:=W.mg_of X G a8,GC:=F9,NP:=b9,NQ:=W.mg_of X G a9,NT:=F10,NZ:=b10,Jb:=F11,mK:=b11,mL:=⟨a11,i11,k11⟩,N5:=F12,GF:=b12,GR:=⟨a12,i12,k12⟩,N6:=F13,xH:=b13,xQ:=⟨a13,i13,k13⟩,GJ:=F14,N7:=b14,N8:=W.mg_of X G a14,ux:=F15,Ec:=b15,Ed:=W.mg_of X G a15,jx:=F16,ud:=b16,uf:=W.mg_of X G a16,JZ:=F17,Q6:=b17,Q7:=W.mg_of X G a17,ug:=F18,zH:=b18,zJ:=W.mg_of X G a18,eN:=F19,jk:=b19,jl:=W.mg_of X G a19,Ac:=F20,Ef:=b20,Eh:=W.mg_of X G a20,Jc:=F21,VR:=b21,V0:=W.mg_of X G a21,uW:=F22,CZ:=b22,C_:=W.mg_of X G a22,jt:=F23,oK:=b23,oM:=W.mg_of X G a23,qcM:=F24,qfh:=b24,qfi:=W.mg_of X G a24,J0:=F25,Q8:=b25,Q9:=W.mg_of X G a25,kh:=F26,uy:=b26,uz:=W.mg_of X G a26,GK:=F27,N_:=b27,Oa:=W.mg_of X G a27,qF:=F28,xJ:=b28,xK:=W.mg_of X G a28,Ob:=F29,V1:=b29,V2:=W.mg_of X G a29,Cm:=F30,Jd:=b30,Je:=W.mg_of X G a30,J1:=F31,Q_:=b31,Ra:=W.mg_of X G a31,qcN:=F32,qfj:=b32,qfk:=W.mg_of X G a32,f9:=F33,gB:=b33,gC:=W.mg_of X G a33,TV:=F34,Zv:=b34,Zw:=W.mg_of X G a34,Lz:=F35,TX:=b35,TY:=W.mg_of X G a35,qcO:=F36,qfl:=b36,qfm:=W.mg_of X G a36,qcP:=F37,qfn:=b37,qfo:=W.mg_of X G a37,GP:=F38,Oc:=b38,Od:=W.mg_of X G a38,Fp:=F39,Zx:=b39,Zy:=W.mg_of X G a39,T3:=F40,Zz:=b40,ZC:=W.mg_of X G a40,xM:=F41,zK:=b41,zL:=W.mg_of X G a41,zM:=F42,Ge:=b42,Gf:=W.mg_of X G a42,GQ:=F43,Oe:=b43,Og:=W.mg_of X G a43,Cp:=F44,Jf:=b44,Jg:=W.mg_of X G a44,J2:=F45,Rb:=b45,Rf:=W.mg_of X G a45,qfp:=F46,qjy:=b46,qjz:=W.mg_of X G a46,J3:=W.mg_of X G su,J4:=⟨G6,rfl⟩,xO:=W.mg_of X G gA,xP:=⟨uX,rfl⟩,Gg:=W.mg_of X G gV,Gh:=⟨yj,rfl⟩,KZ:=W.mg_of X G j_,K1:=⟨Cu,rfl⟩,T7:=O7,LC:=O8,qfq:=W.mg_of X G Yr,uD:=⟨Ys,Yt,Yu,Yv⟩,qfr:=⟨Yw,a10,i10,Yx⟩,nm:=⟨W.mg_none_of X G qdc,W.mg_none_of X G qdd,W.mg_none_of X G qde,W.mg_none_of X G qdf,W.mg_none_of X G O9,W.mg_none_of X G Uj,W.mg_none_of X G qdg,W.mg_none_of X G Yy,W.mg_none_of X G Uk,W.mg_none_of X G qdh,W.mg_none_of X G qdi,W.mg_none_of X G qdj,W.mg_none_of X G qdk,W.mg_none_of X G Cv⟩,nm2:=⟨W.mg_none_of X G Ez,W.mg_none_of X G qdl,W.mg_none_of X G Yz,W.mg_none_of X G O_,W.mg_none_of X G YB,W.mg_none_of X G YC⟩,nm3:=⟨W.mg_none_of X G qdm⟩,Jh:=W.mg_of X G zO,Ji:=W.mg_of X G Pa,Ei:=W.mg_of X G Ke,pP:=W.mg_of X G Cw,Jj:=W.mg_of X G Pb,wM:=W.mg_of X G G7,mO:=W.mg_of X G zP,Ad:=W.mg_of X G Kf,Ae:=W.mg_of X G G8,xR:=W.mg_of X G EY,Ej:=W.mg_of X G Kg,Af:=W.mg_of X G G9,Ag:=W.mg_of X G G_,Ek:=W.mg_of X G Kh,Oh:=W.mg_of X G Ul,Oi:=W.mg_of X G Um,El:=W.mg_of X G Kl,Jk:=W.mg_of X G Pg,jm:=jm,kj:=kj,sE:=sE,xT:=xT,mQ:=mQ,gK:=⟨⟨zQ,zR,zT,Ro,Rp,zU,zV⟩,Option.isSome_iff_exists.mp (show(W.clsIn K aq).isSome=true from zW)⟩,pQ:=⟨gY,Ls gZ⟩,xU:=bw mU A_ Ba mV,vo:=bw kE wN wO kI,qG:=bw iC rK rM iD,xV:=bw mW Bb Bc mX,uE:=bw jC yu yx jD,pR:=Ig,vp:=bw kJ Bd Bf kO,uF:=bw jE tG tH jF,rO:=bw jo pY pZ jq,vq:=bw kW wQ wR kY,uG:=bw jG tK tM jH,uH:=bw jJ tO tQ jK,vA:=bw kZ wU wV k_,yS:=bw oO Fw Fx oR,yU:=bw oU Fy Fz oV,vB:=bw lg wW wX lq,xW:=bw mY Bg Bh mZ,pU:=Tr Tq sG,iK:=⟨⟨Cy,Cz,CG,Ro,Rp,CJ,CK⟩,Option.isSome_iff_exists.mp (show(W.clsIn K au).isSome=true from CN)⟩,qH:=⟨iG,Ls iH⟩,yV:=bw oW A_ Ba oX,xX:=bw m5 wN wO m6,rP:=Ig,yW:=bw oY Bb Bc oZ,vC:=bw lu yu yx lA,qI:=bw iI nZ n_ iJ,xY:=bw m7 Bd Bf m8,vD:=bw lB tG tH lC,uI:=bw jL pY pZ jM,xZ:=bw m9 wQ wR m_,vG:=bw lE tK tM lF,vH:=bw lG tO tQ lH,yc:=bw ni wU wV nj,Ah:=bw qN Fw Fx qO,Ai:=bw qP Fy Fz qQ,yd:=bw nq wW wX nu,yX:=bw o_ Bg Bh pq,qJ:=Tr Tq uY,pW:=⟨⟨Hf,Hg,Hh,Ro,Rp,Hi,Hj⟩,Option.isSome_iff_exists.mp (show(W.clsIn K aD).isSome=true from Hl)⟩,uJ:=⟨jN,Ls jO⟩,Dc:=bw sH A_ Ba sI,Aj:=bw qR wN wO qT,vI:=bw lJ rK rM lK,Dd:=bw sJ Bb Bc sO,yZ:=Ig,uK:=bw jP nZ n_ jQ,Ak:=bw qU Bd Bf qW,za:=bw pA tG tH pB,yg:=bw nA pY pZ nC,Al:=bw qX wQ wR qY,zc:=bw pC tK tM pF,zf:=bw pG tO tQ pH,Am:=bw qZ wU wV q_,Em:=bw uZ Fw Fx u0,En:=bw u5 Fy Fz u6,Ao:=bw rm wW wX rA,Df:=bw sS Bg Bh sU,uL:=Tr Tq zX,uM:=⟨⟨Km,Ko,Kp,Ro,Rp,Kq,Kr⟩,Option.isSome_iff_exists.mp (show(W.clsIn K aH).isSome=true from Ks)⟩,vJ:=⟨lM,Ls lN⟩,Eo:=bw u9 A_ Ba u_,Dg:=bw sV wN wO sW,yh:=bw nF rK rM nG,Ep:=bw vd Bb Bc vf,Aq:=bw rB yu yx rC,vK:=bw lO nZ n_ lQ,Dh:=Ig,Ar:=bw rD tG tH rE,zj:=bw pI pY pZ pJ,Di:=bw sX wQ wR sY,Av:=bw rF tK tM rG,Aw:=bw rH tO tQ rJ,Dj:=bw sZ wU wV tu,Gi:=bw yp Fw Fx yq,Gj:=bw yr Fy Fz yt,Dk:=bw tD wW wX tE,Es:=bw vg Bg Bh vh,vL:=Tr Tq CP,gb:=W.mg_none_of X G gb};exact⟨_,fun s v=>.of_eq rfl,fun base _ _=>qhs T⟩
theorem walk {l:W.OpenLaw} {q:Program} {loose:List Str} {XP:(Str→Option Value)→Heap→Prop} {YP:World→Heap→Prop} {d:DefRec} {K:Params→W.Frag} (hn:l.most=some 63) (hdf:d.params.defaults=[])
    (hY:∀(w:World) (h:Heap),YP w h→(K w.params).In h)
    (F:∀(w:World) (mg:Str→Option Value) (fa:Addr) (h:Heap),(K w.params).In h→h.Ns mainGlobals mg→mg d.name=some (.ref fa)→
      ∃fd:FuncData,(∀(s:Shared) (u:Value),BindsTo s fd ⟨[u],[]⟩ [("_law_script",u)])∧∀base:Heap,(K w.params).In base→base.Ns mainGlobals mg→cT l.prog w (K w.params) mg base rN 9 fa fd ["_law_script"] (Ui (K w.params))) :
    W.WalkO q loose XP YP l.row.toRowW d [] (fun f vs=>PySem.call f vs):=
  L2.qdH (n:=63) (k:=9) (x:= "_law_script") (CX:=fun _=>rN) (sp:=fun w=>Ui (K w.params)) hn (by decide) hdf ⟨rfl,by decide,by decide,rfl⟩ hY F (fun _ _ a ns hl _ hS=>⟨a,ns,rfl,hS,hl,fun _=>rfl⟩) fun _ _ _ _ _ z=>z
end K36
end
set_option Elab.async false
set_option maxRecDepth 100000
set_option maxHeartbeats 4000000
open PySem PySem.W PyProof.Rows
namespace PySem.W.Fast
def tw18422758492804623343:=0
def tw9007941091908035709:=0
def tw16724323440313676309:=0
def tw748553973290440639:=0
def tw12892991619157318923:=0
def tw6986340079765858264:=0
def tw11255625455418913922:=0
def tw1749754413131264998:=0
def tw1026874784009997975:=0
def tw11818044041398764693:=0
def tw3154668320195829834:=0
def tw4723269294171288984:=0
def tw16494681808407548959:=0
def tw8392380007480085518:=0
def tw808018543609544312:=0
def tw9099781099430700954:=0
def tw1001386984142764274:=0
def tw6195509847268105983:=0
def tw11711164246604523906:=0
def tw5058737560522345795:=0
def tw18122598391701499412:=0
def tw17965308147634042629:=0
def tw7225659443813339241:=0
def tw3690673074956062614:=0
def tw2024791372556134770:=0
def tw3525317347021819635:=0
def tw8646198168792434598:=0
def tw1156849989392785247:=0
def tw13992145832060084563:=0
def tw12392481309352301919:=0
end PySem.W.Fast
set_option maxRecDepth 100000 in
set_option maxHeartbeats 0 in
theorem PySem.Challenge.cw_pointways_k36_refused_pointings_holds : PySem.Challenge.rw_pointways_k36_refused_pointings.Holds := by
  w_on;o_law;k_head;(case hw=>w_witness2)
  k_fill
  refine K36.walk (l:=PySem.Challenge.rw_pointways_k36_refused_pointings) rfl rfl (fun w h Y=>W.kIn_of Y) ?F
  case F=>
    intro w mg fa h KX G hmg;refine' K36.all_mk KX G hmg ?Yr ?a1 ?l1 ?c1 ?k1 ?a2 ?l2 ?c2 ?k2 ?a3 ?l3 ?c3 ?k3 ?a4 ?l4 ?c4 ?k4 ?a5 ?l5 ?c5 ?k5 ?a6 ?l6 ?c6 ?k6 ?a7 ?l7 ?c7 ?k7 ?a8 ?l8 ?c8 ?k8 ?a9 ?l9 ?c9 ?k9 ?a10 ?i10 ?l10 ?c10 ?k10 ?a11 ?i11 ?l11 ?c11 ?k11 ?a12 ?i12 ?l12 ?c12 ?k12 ?a13 ?i13 ?l13 ?c13 ?k13 ?a14 ?l14 ?c14 ?k14 ?a15 ?l15 ?c15 ?k15 ?a16 ?l16 ?c16 ?k16 ?a17 ?l17 ?c17 ?k17 ?a18 ?l18 ?c18 ?k18 ?a19 ?l19 ?c19 ?k19 ?a20 ?ZJ ?c20 ?k20 ?a21 ?l21 ?c21 ?k21 ?a22 ?l22 ?c22 ?k22 ?a23 ?l23 ?c23 ?k23 ?a24 ?l24 ?c24 ?k24 ?a25 ?l25 ?c25 ?k25 ?a26 ?l26 ?c26 ?k26 ?a27 ?l27 ?c27 ?k27 ?a28 ?l28 ?c28 ?k28 ?a29 ?l29 ?c29 ?k29 ?a30 ?l30 ?c30 ?k30 ?a31 ?l31 ?c31 ?k31 ?a32 ?l32 ?c32 ?k32 ?a33 ?l33 ?c33 ?k33 ?a34 ?l34 ?c34 ?k34 ?a35 ?l35 ?c35 ?k35 ?a36 ?l36 ?c36 ?k36 ?a37 ?l37 ?c37 ?k37 ?a38 ?l38 ?c38 ?k38 ?a39 ?l39 ?c39 ?k39 ?a40 ?l40 ?c40 ?k40 ?a41 ?l41 ?c41 ?k41 ?a42 ?l42 ?c42 ?k42 ?a43 ?l43 ?c43 ?k43 ?a44 ?l44 ?c44 ?k44 ?a45 ?l45 ?c45 ?k45 ?a46 ?l46 ?c46 ?k46 ?su ?gA ?gV ?j_ ?Ys ?Yt ?Yu ?Yv ?Yw ?Yx ?O7 ?O8 ?qdc ?qdd ?qde ?qdf ?O9 ?Uj ?qdg ?Yy ?Uk ?qdh ?qdi ?qdj ?qdk ?Cv ?Ez ?qdl ?Yz ?O_ ?YB ?YC ?qdm ?zO ?Pa ?Ke ?Cw ?Pb ?G7 ?zP ?Kf ?G8 ?EY ?Kg ?G9 ?G_ ?Kh ?Ul ?Um ?Kl ?Pg ?jm ?kj ?sE ?xT ?mQ ?Ro ?Rp ?zQ ?zR ?zT ?zU ?zV ?zW ?gY ?gZ ?mU ?mV ?kE ?kI ?iC ?iD ?mW ?mX ?jC ?jD ?kJ ?kO ?jE ?jF ?jo ?jq ?kW ?kY ?jG ?jH ?jJ ?jK ?kZ ?k_ ?oO ?oR ?oU ?oV ?lg ?lq ?mY ?mZ ?sG ?Cy ?Cz ?CG ?CJ ?CK ?CN ?iG ?iH ?oW ?oX ?m5 ?m6 ?oY ?oZ ?lu ?lA ?iI ?iJ ?m7 ?m8 ?lB ?lC ?jL ?jM ?m9 ?m_ ?lE ?lF ?lG ?lH ?ni ?nj ?qN ?qO ?qP ?qQ ?nq ?nu ?o_ ?pq ?uY ?Hf ?Hg ?Hh ?Hi ?Hj ?Hl ?jN ?jO ?sH ?sI ?qR ?qT ?lJ ?lK ?sJ ?sO ?jP ?jQ ?qU ?qW ?pA ?pB ?nA ?nC ?qX ?qY ?pC ?pF ?pG ?pH ?qZ ?q_ ?uZ ?u0 ?u5 ?u6 ?rm ?rA ?sS ?sU ?zX ?Km ?Ko ?Kp ?Kq ?Kr ?Ks ?lM ?lN ?u9 ?u_ ?sV ?sW ?nF ?nG ?vd ?vf ?rB ?rC ?lO ?lQ ?rD ?rE ?pI ?pJ ?sX ?sY ?rF ?rG ?rH ?rJ ?sZ ?tu ?yp ?yq ?yr ?yt ?tD ?tE ?vg ?vh ?CP ?A_ ?Ba ?wN ?wO ?rK ?rM ?Bb ?Bc ?yu ?yx ?nZ ?n_ ?Bd ?Bf ?tG ?tH ?pY ?pZ ?wQ ?wR ?tK ?tM ?tO ?tQ ?wU ?wV ?Fw ?Fx ?Fy ?Fz ?wW ?wX ?Bg ?Bh ?gb
    (case Yr=>k_is)
    (case a1=>k_is)
    (case l1=>k_is)
    (case c1=>k_is)
    (case k1=>k_is)
    (case a2=>k_is)
    (case l2=>k_is)
    (case c2=>k_is)
    (case k2=>k_is)
    (case a3=>k_is)
    (case l3=>k_is)
    (case c3=>k_is)
    (case k3=>k_is)
    (case a4=>k_is)
    (case l4=>k_is)
    (case c4=>k_is)
    (case k4=>k_is)
    (case a5=>k_is)
    (case l5=>k_is)
    (case c5=>k_is)
    (case k5=>k_is)
    (case a6=>k_is)
    (case l6=>k_is)
    (case c6=>k_is)
    (case k6=>k_is)
    (case a7=>k_is)
    (case l7=>k_is)
    (case c7=>k_is)
    (case k7=>k_is)
    (case a8=>k_is)
    (case l8=>k_is)
    (case c8=>k_is)
    (case k8=>k_is)
    (case a9=>k_is)
    (case l9=>k_is)
    (case c9=>k_is)
    (case k9=>k_is)
    (case a10=>k_is)
    (case i10=>k_is)
    (case l10=>k_is)
    (case c10=>k_is)
    (case k10=>k_is)
    (case a11=>k_is)
    (case i11=>k_is)
    (case l11=>k_is)
    (case c11=>k_is)
    (case k11=>k_is)
    (case a12=>k_is)
    (case i12=>k_is)
    (case l12=>k_is)
    (case c12=>k_is)
    (case k12=>k_is)
    (case a13=>k_is)
    (case i13=>k_is)
    (case l13=>k_is)
    (case c13=>k_is)
    (case k13=>k_is)
    (case a14=>k_is)
    (case l14=>k_is)
    (case c14=>k_is)
    (case k14=>k_is)
    (case a15=>k_is)
    (case l15=>k_is)
    (case c15=>k_is)
    (case k15=>k_is)
    (case a16=>k_is)
    (case l16=>k_is)
    (case c16=>k_is)
    (case k16=>k_is)
    (case a17=>k_is)
    (case l17=>k_is)
    (case c17=>k_is)
    (case k17=>k_is)
    (case a18=>k_is)
    (case l18=>k_is)
    (case c18=>k_is)
    (case k18=>k_is)
    (case a19=>k_is)
    (case l19=>k_is)
    (case c19=>k_is)
    (case k19=>k_is)
    (case a20=>k_is)
    (case ZJ=>k_is)
    (case c20=>k_is)
    (case k20=>k_is)
    (case a21=>k_is)
    (case l21=>k_is)
    (case c21=>k_is)
    (case k21=>k_is)
    (case a22=>k_is)
    (case l22=>k_is)
    (case c22=>k_is)
    (case k22=>k_is)
    (case a23=>k_is)
    (case l23=>k_is)
    (case c23=>k_is)
    (case k23=>k_is)
    (case a24=>k_is)
    (case l24=>k_is)
    (case c24=>k_is)
    (case k24=>k_is)
    (case a25=>k_is)
    (case l25=>k_is)
    (case c25=>k_is)
    (case k25=>k_is)
    (case a26=>k_is)
    (case l26=>k_is)
    (case c26=>k_is)
    (case k26=>k_is)
    (case a27=>k_is)
    (case l27=>k_is)
    (case c27=>k_is)
    (case k27=>k_is)
    (case a28=>k_is)
    (case l28=>k_is)
    (case c28=>k_is)
    (case k28=>k_is)
    (case a29=>k_is)
    (case l29=>k_is)
    (case c29=>k_is)
    (case k29=>k_is)
    (case a30=>k_is)
    (case l30=>k_is)
    (case c30=>k_is)
    (case k30=>k_is)
    (case a31=>k_is)
    (case l31=>k_is)
    (case c31=>k_is)
    (case k31=>k_is)
    (case a32=>k_is)
    (case l32=>k_is)
    (case c32=>k_is)
    (case k32=>k_is)
    (case a33=>k_is)
    (case l33=>k_is)
    (case c33=>k_is)
    (case k33=>k_is)
    (case a34=>k_is)
    (case l34=>k_is)
    (case c34=>k_is)
    (case k34=>k_is)
    (case a35=>k_is)
    (case l35=>k_is)
    (case c35=>k_is)
    (case k35=>k_is)
    (case a36=>k_is)
    (case l36=>k_is)
    (case c36=>k_is)
    (case k36=>k_is)
    (case a37=>k_is)
    (case l37=>k_is)
    (case c37=>k_is)
    (case k37=>k_is)
    (case a38=>k_is)
    (case l38=>k_is)
    (case c38=>k_is)
    (case k38=>k_is)
    (case a39=>k_is)
    (case l39=>k_is)
    (case c39=>k_is)
    (case k39=>k_is)
    (case a40=>k_is)
    (case l40=>k_is)
    (case c40=>k_is)
    (case k40=>k_is)
    (case a41=>k_is)
    (case l41=>k_is)
    (case c41=>k_is)
    (case k41=>k_is)
    (case a42=>k_is)
    (case l42=>k_is)
    (case c42=>k_is)
    (case k42=>k_is)
    (case a43=>k_is)
    (case l43=>k_is)
    (case c43=>k_is)
    (case k43=>k_is)
    (case a44=>k_is)
    (case l44=>k_is)
    (case c44=>k_is)
    (case k44=>k_is)
    (case a45=>k_is)
    (case l45=>k_is)
    (case c45=>k_is)
    (case k45=>k_is)
    (case a46=>k_is)
    (case l46=>k_is)
    (case c46=>k_is)
    (case k46=>k_is)
    (case su=>k_is)
    (case gA=>k_is)
    (case gV=>k_is)
    (case j_=>k_is)
    (case Ys=>k_is)
    (case Yt=>k_is)
    (case Yu=>k_is)
    (case Yv=>k_is)
    (case Yw=>k_is)
    (case Yx=>k_is)
    (case O7=>k_is)
    (case O8=>k_is)
    (case qdc=>k_is)
    (case qdd=>k_is)
    (case qde=>k_is)
    (case qdf=>k_is)
    (case O9=>k_is)
    (case Uj=>k_is)
    (case qdg=>k_is)
    (case Yy=>k_is)
    (case Uk=>k_is)
    (case qdh=>k_is)
    (case qdi=>k_is)
    (case qdj=>k_is)
    (case qdk=>k_is)
    (case Cv=>k_is)
    (case Ez=>k_is)
    (case qdl=>k_is)
    (case Yz=>k_is)
    (case O_=>k_is)
    (case YB=>k_is)
    (case YC=>k_is)
    (case qdm=>k_is)
    (case zO=>k_is)
    (case Pa=>k_is)
    (case Ke=>k_is)
    (case Cw=>k_is)
    (case Pb=>k_is)
    (case G7=>k_is)
    (case zP=>k_is)
    (case Kf=>k_is)
    (case G8=>k_is)
    (case EY=>k_is)
    (case Kg=>k_is)
    (case G9=>k_is)
    (case G_=>k_is)
    (case Kh=>k_is)
    (case Ul=>k_is)
    (case Um=>k_is)
    (case Kl=>k_is)
    (case Pg=>k_is)
    (case jm=>k_exc)
    (case kj=>k_exc)
    (case sE=>k_exc)
    (case xT=>k_exc)
    (case mQ=>k_exc)
    (case Ro=>k_is)
    (case Rp=>k_is)
    (case zQ=>k_is)
    (case zR=>k_is)
    (case zT=>k_is)
    (case zU=>k_is)
    (case zV=>k_is)
    (case zW=>k_is)
    (case gY=>k_is)
    (case gZ=>decide+kernel)
    (case mU=>decide+kernel)
    (case mV=>k_is)
    (case kE=>decide+kernel)
    (case kI=>k_is)
    (case iC=>decide+kernel)
    (case iD=>k_is)
    (case mW=>decide+kernel)
    (case mX=>k_is)
    (case jC=>decide+kernel)
    (case jD=>k_is)
    (case kJ=>decide+kernel)
    (case kO=>k_is)
    (case jE=>decide+kernel)
    (case jF=>k_is)
    (case jo=>decide+kernel)
    (case jq=>k_is)
    (case kW=>decide+kernel)
    (case kY=>k_is)
    (case jG=>decide+kernel)
    (case jH=>k_is)
    (case jJ=>decide+kernel)
    (case jK=>k_is)
    (case kZ=>decide+kernel)
    (case k_=>k_is)
    (case oO=>decide+kernel)
    (case oR=>k_is)
    (case oU=>decide+kernel)
    (case oV=>k_is)
    (case lg=>decide+kernel)
    (case lq=>k_is)
    (case mY=>decide+kernel)
    (case mZ=>k_is)
    (case sG=>k_is)
    (case Cy=>k_is)
    (case Cz=>k_is)
    (case CG=>k_is)
    (case CJ=>k_is)
    (case CK=>k_is)
    (case CN=>k_is)
    (case iG=>k_is)
    (case iH=>decide+kernel)
    (case oW=>decide+kernel)
    (case oX=>k_is)
    (case m5=>decide+kernel)
    (case m6=>k_is)
    (case oY=>decide+kernel)
    (case oZ=>k_is)
    (case lu=>decide+kernel)
    (case lA=>k_is)
    (case iI=>decide+kernel)
    (case iJ=>k_is)
    (case m7=>decide+kernel)
    (case m8=>k_is)
    (case lB=>decide+kernel)
    (case lC=>k_is)
    (case jL=>decide+kernel)
    (case jM=>k_is)
    (case m9=>decide+kernel)
    (case m_=>k_is)
    (case lE=>decide+kernel)
    (case lF=>k_is)
    (case lG=>decide+kernel)
    (case lH=>k_is)
    (case ni=>decide+kernel)
    (case nj=>k_is)
    (case qN=>decide+kernel)
    (case qO=>k_is)
    (case qP=>decide+kernel)
    (case qQ=>k_is)
    (case nq=>decide+kernel)
    (case nu=>k_is)
    (case o_=>decide+kernel)
    (case pq=>k_is)
    (case uY=>k_is)
    (case Hf=>k_is)
    (case Hg=>k_is)
    (case Hh=>k_is)
    (case Hi=>k_is)
    (case Hj=>k_is)
    (case Hl=>k_is)
    (case jN=>k_is)
    (case jO=>decide+kernel)
    (case sH=>decide+kernel)
    (case sI=>k_is)
    (case qR=>decide+kernel)
    (case qT=>k_is)
    (case lJ=>decide+kernel)
    (case lK=>k_is)
    (case sJ=>decide+kernel)
    (case sO=>k_is)
    (case jP=>decide+kernel)
    (case jQ=>k_is)
    (case qU=>decide+kernel)
    (case qW=>k_is)
    (case pA=>decide+kernel)
    (case pB=>k_is)
    (case nA=>decide+kernel)
    (case nC=>k_is)
    (case qX=>decide+kernel)
    (case qY=>k_is)
    (case pC=>decide+kernel)
    (case pF=>k_is)
    (case pG=>decide+kernel)
    (case pH=>k_is)
    (case qZ=>decide+kernel)
    (case q_=>k_is)
    (case uZ=>decide+kernel)
    (case u0=>k_is)
    (case u5=>decide+kernel)
    (case u6=>k_is)
    (case rm=>decide+kernel)
    (case rA=>k_is)
    (case sS=>decide+kernel)
    (case sU=>k_is)
    (case zX=>k_is)
    (case Km=>k_is)
    (case Ko=>k_is)
    (case Kp=>k_is)
    (case Kq=>k_is)
    (case Kr=>k_is)
    (case Ks=>k_is)
    (case lM=>k_is)
    (case lN=>decide+kernel)
    (case u9=>decide+kernel)
    (case u_=>k_is)
    (case sV=>decide+kernel)
    (case sW=>k_is)
    (case nF=>decide+kernel)
    (case nG=>k_is)
    (case vd=>decide+kernel)
    (case vf=>k_is)
    (case rB=>decide+kernel)
    (case rC=>k_is)
    (case lO=>decide+kernel)
    (case lQ=>k_is)
    (case rD=>decide+kernel)
    (case rE=>k_is)
    (case pI=>decide+kernel)
    (case pJ=>k_is)
    (case sX=>decide+kernel)
    (case sY=>k_is)
    (case rF=>decide+kernel)
    (case rG=>k_is)
    (case rH=>decide+kernel)
    (case rJ=>k_is)
    (case sZ=>decide+kernel)
    (case tu=>k_is)
    (case yp=>decide+kernel)
    (case yq=>k_is)
    (case yr=>decide+kernel)
    (case yt=>k_is)
    (case tD=>decide+kernel)
    (case tE=>k_is)
    (case vg=>decide+kernel)
    (case vh=>k_is)
    (case CP=>k_is)
    (case A_=>k_is)
    (case Ba=>k_is)
    (case wN=>k_is)
    (case wO=>k_is)
    (case rK=>k_is)
    (case rM=>k_is)
    (case Bb=>k_is)
    (case Bc=>k_is)
    (case yu=>k_is)
    (case yx=>k_is)
    (case nZ=>k_is)
    (case n_=>k_is)
    (case Bd=>k_is)
    (case Bf=>k_is)
    (case tG=>k_is)
    (case tH=>k_is)
    (case pY=>k_is)
    (case pZ=>k_is)
    (case wQ=>k_is)
    (case wR=>k_is)
    (case tK=>k_is)
    (case tM=>k_is)
    (case tO=>k_is)
    (case tQ=>k_is)
    (case wU=>k_is)
    (case wV=>k_is)
    (case Fw=>k_is)
    (case Fx=>k_is)
    (case Fy=>k_is)
    (case Fz=>k_is)
    (case wW=>k_is)
    (case wX=>k_is)
    (case Bg=>k_is)
    (case Bh=>k_is)
    (case gb=>k_is)


