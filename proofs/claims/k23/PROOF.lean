import PyProof.Rows.All
import Wide.All
import OpenK.AllK
import Wide.FinOn
import Lean
import PyProof.EqAt
import PyProof.EqKinds
import PyProof.TupleCall
import PyProof.NeData
import PyProof.AttrMissHeap
import PyProof.FactsAll.enumerate_1
import KE.KDictOf
import PyProof.EnumMake
import PyProof.Rows.SumAny
import PyProof.Rows.StrJoin2
import PyProof.Rows.CountFlat
import PyProof.Rows.FoldWordsD
import PyProof.Rows.SeqMore2
import PyProof.Rows.MinMaxN
import PyProof.Rows.StrInSeq3
import PyProof.Rows.ReprR
import PyProof.StrLawsRepr
import PyProof.StrOps2
import PyProof.Rows.SeqMore
import PyProof.DictItems
import KE.KPairComp
import PySem.Challenge.RW_pointways_k23_whole_ears_told
set_option genSizeOfSpec false
noncomputable section
set_option Elab.async false
set_option linter.all false
set_option maxRecDepth 100000
namespace L2
open PySem PySem.Spec PyProof.Rows
abbrev Key:=Sum Int Str
def tM:Key→Value→Bool
  | .inl k,v=>Value.isInt k v
  | .inr x,v=>Value.isStrOf x v
def qjX (w:World):Key→Int
  | .inl k=>hashInt k
  | .inr x=>hashStr w x
theorem fD:∀{k:Key} {v:Value},tM k v=true→(∃i t,k=Sum.inl i∧v=Value.int i t)∨(∃x t,k=Sum.inr x∧v=Value.str x t)
  | .inl i,v,h=>by
    obtain⟨t,e⟩:=Value.isInt_shape (k:=i) (v:=v) h;exact .inl ⟨i,t,rfl,e⟩
  | .inr x,v,h=>by
    obtain⟨t,e⟩:=Value.isStrOf_shape (x:=x) (v:=v) h;exact .inr ⟨x,t,rfl,e⟩
theorem GZ (i:Int) (t:Tok):tM (.inl i) (.int i t)=true:=by simp[tM,Value.isInt]
theorem G3 (x:Str) (t:Tok):tM (.inr x) (.str x t)=true:=by simp[tM,Value.isStrOf]
theorem qbM (a b:Int):decide ((Sum.inl a:Key)=Sum.inl b)=(a == b):=by
  by_cases e:a=b
  ·subst e;simp
  ·have h:¬(Sum.inl a:Key)=Sum.inl b:=fun q=>e (Sum.inl.inj q);rw[decide_eq_false h];exact(beq_eq_false_iff_ne.mpr e).symm
theorem qbN (a b:Str):decide ((Sum.inr a:Key)=Sum.inr b)=decide (a=b):=by
  by_cases e:a=b
  ·subst e;simp
  ·have h:¬(Sum.inr a:Key)=Sum.inr b:=fun q=>e (Sum.inr.inj q);rw[decide_eq_false h,decide_eq_false e]
theorem qbO (a:Int) (b:Str):decide ((Sum.inl a:Key)=Sum.inr b)=false:=decide_eq_false (fun q=>nomatch q)
theorem qbP (a:Str) (b:Int):decide ((Sum.inr a:Key)=Sum.inl b)=false:=decide_eq_false (fun q=>nomatch q)
def cV (prog:Program) (w:World):PySem.KeyKind prog w Key where
  is:=tM
  hash:=qjX w
  inj:=fun v a b ha hb=>by
    rcases fD ha with⟨i,t,rfl,rfl⟩ | ⟨x,t,rfl,rfl⟩
    · rcases fD hb with⟨j,u,rfl,e⟩ | ⟨y,u,rfl,e⟩
      ·injection e with e1 _;rw[e1]
      ·exact nomatch e
    · rcases fD hb with⟨j,u,rfl,e⟩ | ⟨y,u,rfl,e⟩
      ·exact nomatch e
      ·injection e with e1 _;rw[e1]
  byValue:=fun k v h=>by
    rcases fD h with⟨i,t,rfl,rfl⟩ | ⟨x,t,rfl,rfl⟩ <;> rfl
  pyHash:=fun hv h=>by
    rcases fD hv with⟨i,t,rfl,rfl⟩ | ⟨x,t,rfl,rfl⟩
    ·exact wpAny_pyHash_int h
    ·exact wpAny_pyHash_str h
  eqBool:=fun hu hv h=>by
    rcases fD hu with⟨i,t,rfl,rfl⟩ | ⟨x,t,rfl,rfl⟩
    · rcases fD hv with⟨j,u,rfl,rfl⟩ | ⟨y,u,rfl,rfl⟩
      ·rw[qbM] at h;exact wpAny_eqBool_int h
      ·rw[qbO] at h;exact SeqAt.EqAt.int_str i t y u _ _ _ _ h
    · rcases fD hv with⟨j,u,rfl,rfl⟩ | ⟨y,u,rfl,rfl⟩
      ·rw[qbP] at h;exact SeqAt.EqAt.str_int x t j u _ _ _ _ h
      ·rw[qbN] at h;exact wpAny_eqBool_str h
  «strs»:=fun k x t v h=>by
    rcases fD h with⟨i,u,rfl,e⟩ | ⟨y,u,rfl,e⟩
    ·exact nomatch e
    ·injection e with e1 _;subst e1;cases v <;> rfl
theorem Kv (prog:Program) (w:World) (i:Int) (t:Tok):(cV prog w).is (.inl i) (.int i t)=true:=GZ i t
theorem Kw (prog:Program) (w:World) (x:Str) (t:Tok):(cV prog w).is (.inr x) (.str x t)=true:=G3 x t
inductive V where
  | non | bl (b:Bool) | int (i:Int) | str (x:Str) | U9 (b:Array UInt8) | flt (b:UInt64) | ref (a:Addr) | ty (n:String)
  deriving DecidableEq
def RelV:V→Value→Prop
  | .non,u=>u=Value.none
  | .bl b,u=>u=Value.bool b
  | .int i,u=>∃t,u=Value.int i t
  | .str x,u=>∃t,u=Value.str x t
  | .U9 b,u=>∃t,u=Value.bytes b t
  | .flt b,u=>∃t,u=Value.float b t
  | .ref a,u=>u=Value.ref a
  | .ty n,u=>u=Value.type n
abbrev Vals:List V→List Value→Prop:=Paired RelV
theorem Vals.length {xs:List V} {us:List Value} (r:Vals xs us):xs.length=us.length:=Paired.length r
theorem Vals.get:∀{xs:List V} {us:List Value} {i:Nat} {x:V},Vals xs us→xs[i]? = some x→∃u,us[i]? = some u∧RelV x u
  | _,_,_,_,.nil,e=>by simp at e
  | _,_,0,_,.cons r _,e=>by simp at e;subst e;exact⟨_,rfl,r⟩
  | _,_,i+1,x,.cons _ t,e=>by
    obtain⟨u,h1,h2⟩:=Vals.get (i:=i) (x:=x) t (by simpa using e);exact⟨u,by simpa using h1,h2⟩
theorem Vals.set {x:V} {u:Value} (r:RelV x u):∀{xs:List V} {us:List Value} (i:Nat),Vals xs us→Vals (xs.set i x) (us.set i u)
  | _,_,_,.nil=>.nil
  | _,_,0,.cons _ t=>.cons r t
  | _,_,i+1,.cons q t=>.cons q (Vals.set r i t)
theorem Vals.append:∀{xs ys:List V} {us ws:List Value},Vals xs us→Vals ys ws→Vals (xs++ys) (us++ws)
  | _,_,_,_,.nil,s=>s
  | _,_,_,_,.cons r t,s=>.cons r (Vals.append t s)
theorem Vals.take:∀{xs:List V} {us:List Value} (n:Nat),Vals xs us→Vals (xs.take n) (us.take n)
  | _,_,0,_=>.nil
  | _,_,_+1,.nil=>.nil
  | _,_,n+1,.cons r t=>.cons r (Vals.take n t)
theorem Vals.drop:∀{xs:List V} {us:List Value} (n:Nat),Vals xs us→Vals (xs.drop n) (us.drop n)
  | _,_,0,r=>r
  | _,_,_+1,.nil=>.nil
  | _,_,n+1,.cons _ t=>Vals.drop n t
def mU:Option V→Option Value→Prop
  | some v,some u=>RelV v u
  | none,none=>True
  | _,_=>False
def KV {κ:Type}:List (κ×V)→List (κ×Value)→Prop:=Paired fun(p:κ×V) (q:κ×Value)=>p.1=q.1∧RelV p.2 q.2
def kV:Key→V
  | .inl i=>.int i
  | .inr x=>.str x
inductive HO where
  | lst (xs:List V)
  | tup (xs:List V)
  | dK (kvs:List (Key×V)) | dT (kvs:List (List Key×V))
  | set (S:Int→Bool) (n:Nat)
  | ins (C dx:Addr) (fs:List (Str×V))
  | own (x:Addr)
  | xd (fs:List (Str×V))
  | met (f x:Addr)
  | rng (lo hi:Int)
  | Ky (o:Obj) (u:HO)
  | tbl (ps:Array Value)
  | ext (φ:Heap→Prop)
abbrev Hp:=Addr→Option HO
def upd (H:Hp) (a:Addr) (o:HO):Hp:=fun b=>if b=a then some o else H b
theorem ak {H:Hp} {a:Addr} {o:HO}:upd H a o a=some o:=by unfold upd;rw[if_pos rfl]
theorem aC {H:Hp} {a b:Addr} {o:HO} (h:b≠a):upd H a o b=H b:=by unfold upd;rw[if_neg h]
theorem Cg {H:Hp} {a b:Addr} {o u:HO} (h:H a=some o) (h':H b=some u) (d:o≠u):a≠b:=by
  intro e;subst e;rw[h] at h';exact d (Option.some.inj h')
theorem aP {H:Hp} {a b:Addr} {o:HO} (h:H a=some o) (h':H b=none):a≠b:=by
  intro e;subst e;rw[h] at h';cases h'
section
variable (P:Program) (w:World)
def cM (H:Hp) (h:Heap) (a:Addr):HO→Prop
  | .lst xs=>xs.length≤sizeLine∧∃(its:List Value) (n:Nat),Vals xs its∧h.get? a=some {cls:=.type "list",data:=.seq its.toArray n}
  | .tup xs=>xs.length≤sizeLine∧∃its:List Value,Vals xs its∧IsTup h a its.toArray
  | .dK kvs=>kvs.length≤sizeLine∧(a == sysModules)=false∧∃vs,KV kvs vs∧h.DictOf (cV P w) a vs
  | .dT kvs=>kvs.length≤sizeLine∧(a == sysModules)=false∧∃xs:List (List Key×Addr×Value),
      Paired (fun(p:List Key×V) (q:List Key×Addr×Value)=>p.1=q.1∧H q.2.1=some (.tup (p.1.map kV))∧RelV p.2 q.2.2) kvs xs∧
      ∃o es ep,h.get? a=some o∧o.ExactDict∧o.data = .dict es ep∧es.toList=xs.map (entryOfKey (tupleKind (cV P w)))∧(xs.map (·.1)).Nodup
  | .set S n=>h.SetOf (intKind P w) a S n
  | .ins C dx fs=>H dx=some (.own a)∧fs.length≤1000∧dx≠a∧h.get? a=some (W.instObj C dx)∧
      ∃mA,h.Ns1 dx mA∧(∀f,mU (fs.lookup f) (mA f))∧PySem.Within mA (fs.map (·.1))
  | .own _=>∃o,h.get? a=some o
  | .xd fs=>∃mA,h.Ns1 a mA∧∀f,mU (fs.lookup f) (mA f)
  | .rng lo hi=>∃t u v,h.get? a=some {cls:=.type "range",data:=.fields #[.int lo t,.int hi u,.int 1 v]}
  | .Ky o u=>h.get? a=some o∧cM H h a u
  | .tbl ps=>h.get? a=some {cls:=.none,data:=.fields ps}
  | .met f x=>h.get? a=some (W.methodObj (.ref f) (.ref x))
  | .ext φ=>φ h∧(∃o,h.get? a=some o)∧∀h1 h2:Heap,φ h1→(∀o,h1.get? a=some o→h2.get? a=some o)→φ h2
def tO (H:Hp) (h:Heap):Prop:=∀a o,H a=some o→cM P w H h a o
end
section
variable {P:Program} {w:World} {H H':Hp} {h h':Heap} {a:Addr} {o:HO}
theorem cM.lt (x:cM P w H h a o):a<h.objs.size:=by
  cases o with
  | lst xs=>obtain⟨_,_,_,_,e⟩:=x;exact Heap.lt_size e
  | tup xs=>obtain⟨_,_,_,p⟩:=x;exact p.lt
  | dK kvs=>obtain⟨_,_,_,_,o,_,_,e,_⟩:=x;exact Heap.lt_size e
  | dT kvs=>obtain⟨_,_,_,_,o,_,_,e,_⟩:=x;exact Heap.lt_size e
  | set S n=>obtain⟨o,_,_,_,e,_⟩:=x;exact Heap.lt_size e
  | ins C dx fs=>obtain⟨_,_,_,e,_⟩:=x;exact Heap.lt_size e
  | own y=>obtain⟨_,e⟩:=x;exact Heap.lt_size e
  | xd fs=>obtain⟨_,⟨_,_,_,e,_⟩,_⟩:=x;exact Heap.lt_size e
  | rng lo hi=>obtain⟨_,_,_,e⟩:=x;exact Heap.lt_size e
  | Ky ob u=>obtain⟨e,_⟩:=x;exact Heap.lt_size e
  | tbl ps=>exact Heap.lt_size (show h.get? a=some _ from x)
  | met f y=>exact Heap.lt_size (show h.get? a=some _ from x)
  | ext φ=>obtain⟨_,⟨_,e⟩,_⟩:=x;exact Heap.lt_size e
theorem Paired.qbQ {α β:Type} {F G:α→β→Prop}:∀{l₁:List α} {l₂:List β},Paired F l₁ l₂→(∀a b,F a b→G a b)→Paired G l₁ l₂
  | _,_,.nil,_=>.nil
  | _,_,.cons r t,f=>.cons (f _ _ r) (Paired.qbQ t f)
theorem cM.stay (x:cM P w H h a o) (k:∀b u,(b=a∨H b=some (.own a))→h.get? b=some u→h'.get? b=some u)
    (ho:∀b,H b=some (.own a)→H' b=some (.own a)) (ht:∀b xs,H b=some (.tup xs)→H' b=some (.tup xs)):cM P w H' h' a o:=by
  induction o with
  | lst xs=>obtain⟨z,its,n,r,e⟩:=x;exact⟨z,its,n,r,k _ _ (.inl rfl) e⟩
  | tup xs=>obtain⟨z,its,r,ob,e,c⟩:=x;exact⟨z,its,r,ob,k _ _ (.inl rfl) e,c⟩
  | dK kvs=>obtain⟨z,y,vs,r,ob,es,ep,e,c⟩:=x;exact⟨z,y,vs,r,ob,es,ep,k _ _ (.inl rfl) e,c⟩
  | dT kvs=>
    obtain⟨z,y,xs,r,ob,es,ep,e,c⟩:=x;exact⟨z,y,xs,Paired.qbQ r fun p q z=>⟨z.1,ht _ _ z.2.1,z.2.2⟩,ob,es,ep,k _ _ (.inl rfl) e,c⟩
  | set S n=>obtain⟨ob,es,ep,t,e,c⟩:=x;exact⟨ob,es,ep,t,k _ _ (.inl rfl) e,c⟩
  | ins C dx fs=>
    obtain⟨d,z,ne,e,mA,⟨od,es,ep,e2,c⟩,r⟩:=x;exact⟨ho _ d,z,ne,k _ _ (.inl rfl) e,mA,⟨od,es,ep,k _ _ (.inr d) e2,c⟩,r⟩
  | own y=>obtain⟨ob,e⟩:=x;exact⟨ob,k _ _ (.inl rfl) e⟩
  | xd fs=>obtain⟨mA,⟨od,es,ep,e,c⟩,r⟩:=x;exact⟨mA,⟨od,es,ep,k _ _ (.inl rfl) e,c⟩,r⟩
  | rng lo hi=>obtain⟨t,u,v,e⟩:=x;exact⟨t,u,v,k _ _ (.inl rfl) e⟩
  | Ky ob u ih=>obtain⟨e,q⟩:=x;exact⟨k _ _ (.inl rfl) e,ih q⟩
  | tbl ps=>
    have e:h.get? a=some {cls:=.none,data:=.fields ps}:=x;show h'.get? a=some {cls:=.none,data:=.fields ps};exact k a _ (.inl rfl) e
  | met f y=>
    have e:h.get? a=some (W.methodObj (.ref f) (.ref y)):=x;show h'.get? a=some (W.methodObj (.ref f) (.ref y));exact k a _ (.inl rfl) e
  | ext φ=>obtain⟨p,⟨o,e⟩,st⟩:=x;exact⟨st _ _ p fun o q=>k _ _ (.inl rfl) q,⟨o,k _ _ (.inl rfl) e⟩,st⟩
theorem tO.lt (x:tO P w H h) (e:H a=some o):a<h.objs.size:=(x a o e).lt
theorem tO.fresh (x:tO P w H h) (e:h.objs.size≤a):H a=none:=by
  cases q:H a with
  | none=>rfl
  | some u=>exact absurd (Nat.lt_of_lt_of_le (x.lt q) e) (Nat.lt_irrefl _)
theorem tO.kept (x:tO P w H h) (k:∀b u,h.get? b=some u→h'.get? b=some u):tO P w H h':=fun a o e=>
  (x a o e).stay (fun b u _ q=>k b u q) (fun _ q=>q) fun _ _ q=>q
theorem tO.laid (x:tO P w H h) (k:∀b u,h.get? b=some u→h'.get? b=some u) (hp:h.objs.size≤a) (new:cM P w (upd H a o) h' a o):tO P w (upd H a o) h':=fun b u e=>by
  have hn:=x.fresh hp
  by_cases hb:b=a
  ·subst hb;rw[ak] at e;cases e;exact new
  ·rw[aC hb] at e;exact(x b u e).stay (fun c v _ q=>k c v q) (fun c q=>by rw[aC (aP q hn)];exact q) fun c xs q=>by rw[aC (aP q hn)];exact q
end
def Rd (H:Hp) (a:Addr) (u:HO):Prop:=H a=some u∨∃o,H a=some (.Ky o u)
theorem Rd.ok {P:Program} {w:World} {H:Hp} {h:Heap} {a:Addr} {u:HO} (r:Rd H a u) (x:tO P w H h):cM P w H h a u:=by
  rcases r with r | ⟨o,r⟩
  ·exact x a u r
  ·obtain⟨_,q⟩:=x a _ r;exact q
def Mut:Option HO→Prop
  | some (.lst _)=>True
  | some (.dK _)=>True
  | some (.dT _)=>True
  | some (.set _ _)=>True
  | some (.ins _ _ _)=>True
  | some (.ext _)=>True
  | _=>False
section
variable {P:Program} {w:World} {H:Hp} {h h':Heap} {x e:Addr} {o':HO}
theorem tO.write (ok:tO P w H h) (mu:Mut (H x)) (he:e=x∨H e=some (.own x)) (k:∀b u,b≠e→h.get? b=some u→h'.get? b=some u) (heo:∃u,h'.get? e=some u)
    (new:cM P w (upd H x o') h' x o'):tO P w (upd H x o') h':=fun b u q=>by
  have qeM:∀c y,H c=some (.own y)→c≠x:=fun c y r z=>by subst z;rw[r] at mu;exact mu
  have qjY:∀c xs,H c=some (.tup xs)→c≠x:=fun c xs r z=>by subst z;rw[r] at mu;exact mu
  by_cases hb:b=x
  ·subst hb;rw[ak] at q;cases q;exact new
  · rw[aC hb] at q
    by_cases hbe:b=e
    · have q':H b=some (.own x):=by
        rcases he with z | z
        ·exact absurd (hbe.trans z) hb
        ·rw[hbe];exact z
      rw[q] at q';cases q';obtain⟨v,hv⟩:=heo;exact⟨v,by rw[hbe];exact hv⟩
    · refine(ok b u q).stay (fun c v hc r=>k c v ?_ r) (fun c r=>by rw[aC (qeM c b r)];exact r) fun c xs r=>by rw[aC (qjY c xs r)];exact r
      rcases hc with rfl | hc
      ·exact hbe
      · rintro rfl
        rcases he with z | z
        ·exact qeM c b hc z
        ·rw[hc] at z;cases z;exact hb rfl
end
structure Un (fs ex:List Addr) (H H':Hp) (h h':Heap):Prop where
  keep:∀b o,h.get? b=some o→H b=none→b∉fs→b∉ex→h'.get? b=some o
  slot:∀b o,h.get? b=some o→H b=none→b∈fs→b∉ex→∃sl,h'.get? b=some {o with slots:=sl}
  free:∀b o,h.get? b=some o→H b=none→b∉ex→H' b=none
  there:∀b o,h.get? b=some o→b∉ex→∃o',h'.get? b=some o'
  tups:∀b xs,H b=some (.tup xs)→H' b=some (.tup xs)
  qW:∀b o u,H b=some (.Ky o u)→H' b=some (.Ky o u)
  tE:∀b ps,H b=some (.tbl ps)→∃more,H' b=some (.tbl (ps++more))
section
variable {fs fs' ex ex':List Addr} {H H1 H2:Hp} {h h1 h2 h':Heap} {a x e:Addr} {o:HO}
theorem Un.any (u:Un fs ex H H1 h h1) {b:Addr} {ob:Obj} (q:h.get? b=some ob) (n:H b=none) (hx:b∉ex):∃sl,h1.get? b=some {ob with slots:=sl}:=by
  by_cases hb:b∈fs
  ·exact u.slot b ob q n hb hx
  ·exact⟨ob.slots,u.keep b ob q n hb hx⟩
theorem Un.kept (k:∀b u,h.get? b=some u→h'.get? b=some u):Un fs ex H H h h':=
  ⟨fun b ob q _ _ _=>k b ob q,fun b ob q _ _ _=>⟨ob.slots,k b ob q⟩,fun _ _ _ n _=>n,fun b ob q _=>⟨ob,k b ob q⟩,fun _ _ q=>q,fun _ _ _ q=>q,fun _ ps q=>⟨#[],by rw[q];simp⟩⟩
theorem Un.refl:Un fs ex H H h h:=Un.kept fun _ _ q=>q
theorem Un.laid (k:∀b u,h.get? b=some u→h'.get? b=some u) (hp:h.objs.size≤a) (hn:H a=none):Un fs ex H (upd H a o) h h' where
  keep:=fun b u q _ _ _=>k b u q
  slot:=fun b u q _ _ _=>⟨u.slots,k b u q⟩
  free:=fun b u q n _=>by rw[aC (Nat.ne_of_lt (Nat.lt_of_lt_of_le (Heap.lt_size q) hp))];exact n
  there:=fun b u q _=>⟨u,k b u q⟩
  tups:=fun b xs q=>by rw[aC (aP q hn)];exact q
  qW:=fun b u xs q=>by rw[aC (aP q hn)];exact q
  tE:=fun b ps q=>⟨#[],by rw[aC (aP q hn),q];simp⟩
theorem Un.write (mu:Mut (H x)) (he:e=x∨H e=some (.own x)) (k:∀b u,b≠e→h.get? b=some u→h'.get? b=some u) (heo:∃u,h'.get? e=some u):Un fs ex H (upd H x o) h h':=by
  have hx:∀b,H b=none→b≠x:=fun b n z=>by subst z;rw[n] at mu;exact mu
  have hb:∀b,H b=none→b≠e:=fun b n z=>by
    subst z
    rcases he with r | r
    ·exact hx b n r
    ·rw[n] at r;cases r
  have hm:∀b u,H b=some u→¬Mut (some u)→b≠x:=fun b u q nm z=>by subst z;rw[q] at mu;exact nm mu
  refine⟨fun b u q n _ _=>k b u (hb b n) q,fun b u q n _ _=>⟨u.slots,k b u (hb b n) q⟩,fun b u q n _=>by rw[aC (hx b n)];exact n,fun b u q _=>?_,
    fun b xs q=>by rw[aC (hm b _ q fun z=>z)];exact q,fun b u xs q=>by rw[aC (hm b _ q fun z=>z)];exact q,fun b ps q=>⟨#[],by rw[aC (hm b _ q fun z=>z),q];simp⟩⟩
  by_cases hbe:b=e
  ·subst hbe;exact heo
  ·exact⟨u,k b u hbe q⟩
end
def trk (h:Heap) (H:Hp):List Addr:=(List.range h.objs.size).filter fun a=>(H a).isSome
def Io (h:Heap) (H:Hp):Heap:=W.hideAll h (trk h H)
theorem RJ (h:Heap) (H:Hp):(Io h H).objs.size=h.objs.size:=W.hideAll_size _ _
theorem Vk {h:Heap} {H:Hp} {b:Addr} {o:Obj} (e:h.get? b=some o) (n:H b=none):(Io h H).get? b=some o:=
  W.hideAll_get _ e fun hm=>by
    have q:(H b).isSome=true:=(List.mem_filter.mp hm).2;rw[n] at q;simp at q
theorem Zg {h:Heap} {H:Hp} {b:Addr} {o:Obj} (e:(Io h H).get? b=some o):h.get? b=some o∧H b=none:=by
  have e':h.get? b=some o:=W.of_hideAll (trk h H) e;refine⟨e',?_⟩;cases q:H b with
  | none=>rfl
  | some x=>
    have hm:b∈trk h H:=List.mem_filter.mpr ⟨List.mem_range.mpr (Heap.lt_size e'),by simp[q]⟩;have z:(Io h H).get? b=none:=W.hideAll_none (trk h H) hm;rw[z] at e;cases e
def Zh (g h:Heap) (L:Addr):List (Addr×Obj):=(List.range h.objs.size).filterMap fun a=>if a=L∨(g.get? a).isSome=true then none else (h.get? a).map fun o=>(a,o)
def rest (g h:Heap) (L d:Addr):List (Addr×Obj):=(Zh g h L).filter fun p=>decide (p.1≠d)
structure Mod (K:W.Frag) (mg:Str→Option Value) (base:Heap):Prop where
  Ip:K.In base
  glob:base.Ns mainGlobals mg
  blt:∃mb,base.Ns builtinsNs mb∧∀x:Str,x≠ "__name__" →mb x=bootBuiltins x
  nolimit:base.NoLimit
set_option genInjectivity false in
structure Cx where
  prog:Program
  w:World
  K:W.Frag
  mg:Str→Option Value
  base:Heap
  A:Around
  N:List Str
  s₀:Shared
  H₀:Hp
  env:Env
  outer:List Env
  stack:List Env
  ex:List Addr
  fn:Str→Bool
  calm:Bool
  pn:List (Addr×Obj)
  xe:Value→Shared→Prop
def frs (l:List Env):List Addr:=l.filterMap (·.frame)
abbrev Cx.fs (X:Cx):List Addr:=frs X.outer
def Vis (sc:Scope) (x:Str):Prop:=sc.names.lookup x=some .local∨sc.names.lookup x=some .cell∨sc.names.lookup x=some .free
def Loc (sc:Scope) (x:Str):Prop:=sc.names.lookup x=some .local∨sc.names.lookup x=some .cell
def Look (env:Env) (h:Heap) (m:Str→Option Value) (x:Str) (u:Value):Prop:=
  (env.kindOf x=some .local∧m x=some u)∨((env.kindOf x=some .cell∨env.kindOf x=some .free)∧∃c,env.cells.lookup x=some c∧h.IsCell c (some u))
structure Cx.Ok (X:Cx):Prop where
  mod:Mod X.K X.mg X.base
  kind:X.env.scope.kind = .function
  glob:X.env.globals=mainGlobals
  blt:X.env.builtins=builtinsNs
  above:X.s₀.heap.objs.size≤X.env.locals
  inj:∀x y c,X.env.cells.lookup x=some c→X.env.cells.lookup y=some c→x=y
  has:∀x,(X.env.kindOf x=some .cell∨X.env.kindOf x=some .free)→∃c,X.env.cells.lookup x=some c
  cab:∀x c,X.fn x=true→X.env.cells.lookup x=some c→X.s₀.heap.objs.size≤c
  hd:X.calm=true→X.A.handled=none
  frames:X.A.frames=some X.stack
  stk:X.stack=X.outer∨(X.stack=X.env::X.outer∧X.env.frame=some X.env.locals)
  Zi:∀b∈X.ex,b≠X.env.locals∧∀x c,X.env.cells.lookup x=some c→c≠b
  bs:∀b o,X.base.get? b=some o→X.s₀.heap.get? b=some o∧X.H₀ b=none
  RK:X.base.objs.size≤X.s₀.heap.objs.size
  Kz:∀b o,X.base.get? b=some o→b∉X.ex
  Ir:∀b∈X.ex,b∉X.fs
  tQ:X.s₀.heap.FunFrames X.base X.outer
  Vl:∀b∈X.fs,X.H₀ b=none
structure Inv (X:Cx) (p_:List (Addr×Obj)) (σ:List (Option V)) (H:Hp) (s:Shared):Prop where
  ok:X.Ok
  os:s.os=X.s₀.os
  bare:AllBare s.gens
  base:Un X.fs X.ex X.H₀ H X.s₀.heap s.heap
  loc:∃m,s.heap.Ns X.env.locals m∧∀(i:Nat) (x:Str) (v:V),X.N[i]? = some x→σ[i]? = some (some v)→Vis X.env.scope x→∃u,RelV v u∧Look X.env s.heap m x u
  cell:∀x c,X.env.cells.lookup x=some c→∃v,s.heap.IsCell c v
  free:H X.env.locals=none
  iH:∀x c,X.env.cells.lookup x=some c→H c=none
  pin:∀p∈X.pn++p_,s.heap.get? p.1=some p.2∧H p.1=none∧p.1≠X.env.locals∧p.1∉X.fs∧∀v,p.2.data≠.cell v
  hok:tO X.prog X.w H s.heap
  len:σ.length=X.N.length
section
variable {X:Cx} {p_:List (Addr×Obj)} {σ:List (Option V)} {H H':Hp} {s:Shared} {h':Heap}
theorem Cx.Ok.qjZ (ok:X.Ok) {b:Addr} {o:Obj} (e:X.base.get? b=some o):b∉X.fs:=fun hb=>by
  have:=(ok.tQ.mem hb).1;rw[e] at this;cases this
theorem Inv.bs (I:Inv X p_ σ H s):∀b o,X.base.get? b=some o→s.heap.get? b=some o∧H b=none:=fun b o e=>
  ⟨I.base.keep b o (I.ok.bs b o e).1 (I.ok.bs b o e).2 (I.ok.qjZ e) (I.ok.Kz b o e),I.base.free b o (I.ok.bs b o e).1 (I.ok.bs b o e).2 (I.ok.Kz b o e)⟩
theorem Inv.bk (I:Inv X p_ σ H s):∀b o,X.base.get? b=some o→s.heap.get? b=some o:=fun b o e=>(I.bs b o e).1
theorem Inv.mod (I:Inv X p_ σ H s):Mod X.K X.mg X.base:=I.ok.mod
theorem Inv.oE (I:Inv X p_ σ H s):X.K.In s.heap:=I.ok.mod.Ip.keeps I.bk
theorem Inv.lt (I:Inv X p_ σ H s):X.env.locals<s.heap.objs.size:=let ⟨_,hn,_⟩:=I.loc;hn.lt
theorem Inv.sz (I:Inv X p_ σ H s):X.s₀.heap.objs.size≤s.heap.objs.size:=Nat.le_trans I.ok.above (Nat.le_of_lt I.lt)
theorem Inv.qj0 (I:Inv X p_ σ H s) {a:Addr} (h:s.heap.objs.size≤a):a∉X.fs:=fun hb=>by
  obtain⟨_,o,ho,_⟩:=I.ok.tQ.mem hb;exact absurd (Nat.lt_of_lt_of_le (Heap.lt_size ho) (Nat.le_trans I.sz h)) (Nat.lt_irrefl _)
theorem Inv.Zj (I:Inv X p_ σ H s):∀x c,X.env.cells.lookup x=some c→c≠X.env.locals:=fun x c e z=>by
  obtain⟨v,o,ho,hd⟩:=I.cell x c e;obtain⟨m,⟨o',es,ep,ho',hd',_⟩,_⟩:=I.loc;rw[z,ho'] at ho;cases ho;rw[hd'] at hd;cases hd
theorem Inv.tQ (I:Inv X p_ σ H s):s.heap.FunFrames X.base X.outer:=by
  have all:∀(l:List Env),(∀b∈frs l,b∈X.fs)→X.s₀.heap.FunFrames X.base l→s.heap.FunFrames X.base l:=by
    intro l
    induction l with
    | nil=>intro _ _;trivial
    | cons env r ih=>
      intro hs hl;obtain⟨hk,⟨L,o,hf,hn,ho,hd⟩,hr⟩:=hl;have hL:L∈X.fs:=hs L (by unfold frs;rw[List.filterMap_cons,hf];exact List.mem_cons_self);obtain⟨sl,e⟩:=I.base.slot L o ho (I.ok.Vl L hL) hL fun z=>I.ok.Ir L z hL;exact⟨hk,⟨L,_,hf,hn,e,hd⟩,ih (fun b hb=>hs b (by unfold frs;rw[List.filterMap_cons,hf];exact List.mem_cons_of_mem _ hb)) hr⟩
  exact all X.outer (fun _ hb=>hb) I.ok.tQ
theorem Inv.stack (I:Inv X p_ σ H s):s.heap.FunFrames X.base X.stack:=by
  rcases I.ok.stk with e | ⟨e,hf⟩
  ·rw[e];exact I.tQ
  ·rw[e];obtain⟨m,hn,_⟩:=I.loc;refine .cons (by rw[I.ok.kind];decide) hf hn ?_ I.tQ;exact Heap.get?_none_of_le (Nat.le_trans I.ok.RK I.ok.above)
theorem Inv.vR (I:Inv X p_ σ H s):∀b∈frs X.stack,b∈X.env.locals::X.fs:=fun b hb=>by
  rcases I.ok.stk with e | ⟨e,hf⟩
  ·rw[e] at hb;exact List.mem_cons_of_mem _ hb
  ·rw[e] at hb;unfold frs at hb;rw[List.filterMap_cons,hf] at hb;exact hb
theorem Inv.Bq (I:Inv X p_ σ H s):∀b∈frs X.stack,H b=none:=fun b hb=>by
  rcases List.mem_cons.mp (I.vR b hb) with e | hb
  ·rw[e];exact I.free
  ·obtain⟨_,o,ho,_⟩:=I.ok.tQ.mem hb;exact I.base.free b o ho (I.ok.Vl b hb) fun z=>I.ok.Ir b z hb
theorem Inv.step {g':Array GenState} {t':Nat} {d':Drawn} {ch:List Addr} (I:Inv X p_ σ H s)
    (hch:∀b∈ch,(b∈X.ex∨X.s₀.heap.objs.size≤b)∧b≠X.env.locals∧(∀x c,X.env.cells.lookup x=some c→c≠b)∧∀p∈X.pn++p_,p.1≠b)
    (keep:∀b o,b≠X.env.locals→b∉X.fs→b∉ch→s.heap.get? b=some o→H b=none→h'.get? b=some o)
    (slot:∀b o,b≠X.env.locals→b∈X.fs→b∉ch→s.heap.get? b=some o→H b=none→∃sl,h'.get? b=some {o with slots:=sl}) (free:∀b o,b∉ch→s.heap.get? b=some o→H b=none→H' b=none)
    (there:∀b o,b∉ch→s.heap.get? b=some o→∃o',h'.get? b=some o')
    (tups:∀b xs,H b=some (.tup xs)→H' b=some (.tup xs)) (qW:∀b o u,H b=some (.Ky o u)→H' b=some (.Ky o u)) (tE:∀b ps,H b=some (.tbl ps)→∃more,H' b=some (.tbl (ps++more)))
    (ns:∀m,s.heap.Ns X.env.locals m→h'.Ns X.env.locals m) (hok:tO X.prog X.w H' h') (hg:AllBare g') :
    Inv X p_ σ H' {s with heap:=h',gens:=g',drawn:=d',toks:=t'}:=by
  have neL:∀b o,X.s₀.heap.get? b=some o→b≠X.env.locals:=fun b o e=>Nat.ne_of_lt (Nat.lt_of_lt_of_le (Heap.lt_size e) I.ok.above);have neC:∀b o,X.s₀.heap.get? b=some o→b∉X.ex→b∉ch:=fun b o e hx hb=>by
    rcases(hch b hb).1 with z | z
    ·exact hx z
    ·exact absurd (Nat.lt_of_lt_of_le (Heap.lt_size e) z) (Nat.lt_irrefl _)
  have cellK:∀x c,X.env.cells.lookup x=some c→∀v,s.heap.IsCell c v→h'.IsCell c v:=fun x c e v ⟨o,ho,hd⟩=>by
    have nch:c∉ch:=fun z=>(hch c z).2.2.1 x c e rfl
    by_cases hc:c∈X.fs
    ·obtain⟨sl,q⟩:=slot c o (I.Zj x c e) hc nch ho (I.iH x c e);exact⟨_,q,hd⟩
    ·exact⟨o,keep c o (I.Zj x c e) hc nch ho (I.iH x c e),hd⟩
  refine⟨I.ok,I.os,hg,⟨fun b o e n hb hx=>?_,fun b o e n hb hx=>?_,fun b o e n hx=>?_,fun b o e hx=>?_,fun b xs e=>tups b xs (I.base.tups b xs e),fun b o xs e=>qW b o xs (I.base.qW b o xs e),fun b ps e=>?_⟩,?_,fun x c e=>?_,?_,fun x c e=>?_,fun p hp=>?_,hok,I.len⟩
  ·exact keep b o (neL b o e) hb (neC b o e hx) (I.base.keep b o e n hb hx) (I.base.free b o e n hx)
  ·obtain⟨sl,e1⟩:=I.base.slot b o e n hb hx;obtain⟨sl',e2⟩:=slot b _ (neL b o e) hb (neC b o e hx) e1 (I.base.free b o e n hx);exact⟨sl',e2⟩
  ·obtain⟨o',e1⟩:=I.base.there b o e hx;exact free b o' (neC b o e hx) e1 (I.base.free b o e n hx)
  ·obtain⟨o',e1⟩:=I.base.there b o e hx;exact there b o' (neC b o e hx) e1
  ·obtain⟨m1,e1⟩:=I.base.tE b ps e;obtain⟨m2,e2⟩:=tE b _ e1;exact⟨m1++m2,by rw[e2,Array.append_assoc]⟩
  · obtain⟨m,hn,hl⟩:=I.loc;refine⟨m,ns m hn,fun i x v e1 e2 e3=>?_⟩;obtain⟨u,r,l⟩:=hl i x v e1 e2 e3;refine⟨u,r,?_⟩
    rcases l with l | ⟨k,c,e,z⟩
    ·exact .inl l
    ·exact .inr ⟨k,c,e,cellK x c e _ z⟩
  ·obtain⟨v,z⟩:=I.cell x c e;exact⟨v,cellK x c e v z⟩
  ·obtain⟨m,⟨o,_,_,ho,_⟩,_⟩:=I.loc;exact free _ o (fun z=>(hch _ z).2.1 rfl) ho I.free
  ·obtain⟨v,o,ho,hd⟩:=I.cell x c e;exact free c o (fun z=>(hch c z).2.2.1 x c e rfl) ho (I.iH x c e)
  ·obtain⟨e,n,ne,nf,d⟩:=I.pin p hp;have nch:p.1∉ch:=fun z=>(hch p.1 z).2.2.2 p hp rfl;exact⟨keep p.1 p.2 ne nf nch e n,free p.1 p.2 nch e n,ne,nf,d⟩
theorem Inv.un {t':Nat} (I:Inv X p_ σ H s) (u:Un X.fs [] H H' s.heap h') (hok:tO X.prog X.w H' h'):Inv X p_ σ H' {s with heap:=h',toks:=t'}:=by
  obtain⟨m,⟨o,es,ep,ho,r⟩,_⟩:=id I.loc;obtain⟨sl,hL⟩:=u.any ho I.free (by simp);exact I.step (g':=s.gens) (d':=s.drawn) (ch:=[]) (fun _ z=>nomatch z) (fun b o _ hb _ e n=>u.keep b o e n hb (by simp)) (fun b o _ hb _ e n=>u.slot b o e n hb (by simp)) (fun b o _ e n=>u.free b o e n (by simp)) (fun b o _ e=>u.there b o e (by simp)) u.tups u.qW u.tE (fun m' hm=>by
    obtain⟨o',es',ep',ho',r'⟩:=hm;rw[ho] at ho';cases ho';exact⟨_,es',ep',hL,r'⟩) hok I.bare
theorem Inv.call {g':Array GenState} {t':Nat} {d':Drawn} {ch:List Addr} (I:Inv X p_ σ H s) (u:Un (frs X.stack) ch H H' s.heap h') (hok:tO X.prog X.w H' h') (hg:AllBare g')
    (hch:∀b∈ch,(b∈X.ex∨X.s₀.heap.objs.size≤b)∧b≠X.env.locals∧(∀x c,X.env.cells.lookup x=some c→c≠b)∧∀p∈X.pn++p_,p.1≠b) :
    Inv X p_ σ H' {s with heap:=h',gens:=g',drawn:=d',toks:=t'}:=by
  obtain⟨m,⟨o,es,ep,ho,r⟩,_⟩:=id I.loc;obtain⟨sl,hL⟩:=u.any ho I.free fun z=>(hch _ z).2.1 rfl;exact I.step (ch:=ch) hch (fun b o hL hb hc e n=>u.keep b o e n (fun z=>(List.mem_cons.mp (I.vR b z)).elim hL hb) hc) (fun b o _ _ hc e n=>u.any e n hc) (fun b o hc e n=>u.free b o e n hc) (fun b o hc e=>u.there b o e hc) u.tups u.qW u.tE (fun m' hm=>by
    obtain⟨o',es',ep',ho',r'⟩:=hm;rw[ho] at ho';cases ho';exact⟨_,es',ep',hL,r'⟩) hok hg
theorem Inv.turned {t':Nat} {it:Addr} (I:Inv X p_ σ H s) (k:∀b o,b≠it→s.heap.get? b=some o→h'.get? b=some o) (hn:H it=none) (hL:it≠X.env.locals)
    (h1:it∈X.ex∨X.s₀.heap.objs.size≤it) (h2:∀x c,X.env.cells.lookup x=some c→c≠it) (h3:∀p∈X.pn++p_,p.1≠it):Inv X p_ σ H {s with heap:=h',toks:=t'}:=by
  have nit:∀b u,H b=some u→b≠it:=fun b u e z=>by rw[z,hn] at e;cases e
  refine I.step (g':=s.gens) (d':=s.drawn) (ch:=[it]) (fun b hb=>?_) (fun b o _ _ hc e _=>k b o (fun z=>hc (by simp[z])) e) (fun b o _ _ hc e _=>⟨o.slots,k b o (fun z=>hc (by simp[z])) e⟩) (fun _ _ _ _ n=>n)
    (fun b o hc e=>⟨o,k b o (fun z=>hc (by simp[z])) e⟩) (fun _ _ e=>e) (fun _ _ _ e=>e) (fun b ps e=>⟨#[],by rw[e];simp⟩) (fun m hm=>?_) (fun b u e=>?_) I.bare
  · have e:b=it:=by simpa using hb
    subst e;exact⟨h1,hL,h2,h3⟩
  ·obtain⟨o,es,ep,ho,r⟩:=hm;exact⟨o,es,ep,k _ o (Ne.symm hL) ho,r⟩
  · refine(I.hok b u e).stay (fun c v hc q=>k c v ?_ q) (fun _ q=>q) fun _ _ q=>q
    rcases hc with z | z
    ·rw[z];exact nit b u e
    ·exact nit c _ z
theorem Inv.tok (I:Inv X p_ σ H s) (t:Nat):Inv X p_ σ H {s with toks:=t}:=I.un (h':=s.heap) (t':=t) Un.refl I.hok
theorem Inv.kept {t':Nat} (I:Inv X p_ σ H s) (k:∀b u,s.heap.get? b=some u→h'.get? b=some u):Inv X p_ σ H {s with heap:=h',toks:=t'}:=I.un (Un.kept k) (I.hok.kept k)
theorem Inv.laid {a:Addr} {o:HO} {t':Nat} (I:Inv X p_ σ H s) (k:∀b u,s.heap.get? b=some u→h'.get? b=some u) (hp:s.heap.objs.size≤a) (new:cM X.prog X.w (upd H a o) h' a o) :
    Inv X p_ σ (upd H a o) {s with heap:=h',toks:=t'}:=I.un (Un.laid k hp (I.hok.fresh hp)) (I.hok.laid k hp new)
theorem Inv.write {x e:Addr} {o:HO} {t':Nat} (I:Inv X p_ σ H s) (mu:Mut (H x)) (he:e=x∨H e=some (.own x)) (k:∀b u,b≠e→s.heap.get? b=some u→h'.get? b=some u) (heo:∃u,h'.get? e=some u)
    (new:cM X.prog X.w (upd H x o) h' x o):Inv X p_ σ (upd H x o) {s with heap:=h',toks:=t'}:=I.un (Un.write mu he k heo) (I.hok.write mu he k heo new)
theorem Inv.Qo {Ci:List (Addr×Obj)} (I:Inv X p_ σ H s) (h:∀p∈Ci,s.heap.get? p.1=some p.2∧H p.1=none∧p.1≠X.env.locals∧p.1∉X.fs∧∀v,p.2.data≠.cell v):Inv X Ci σ H s:=
  ⟨I.ok,I.os,I.bare,I.base,I.loc,I.cell,I.free,I.iH,fun p hp=>(List.mem_append.mp hp).elim (fun z=>I.pin p (List.mem_append_left _ z)) (h p),I.hok,I.len⟩
theorem Cj {N:List Str} (hN:N.Nodup) {i j:Nat} {x:Str} (a:N[i]? = some x) (b:N[j]? = some x):i=j:=by
  obtain⟨h1,e1⟩:=List.getElem?_eq_some_iff.mp a;obtain⟨h2,e2⟩:=List.getElem?_eq_some_iff.mp b;exact(List.getElem_inj hN).mp (e1.trans e2.symm)
theorem uJ {M:Model} {A:Around} {E:Value→Shared→Prop} {i:Nat} {x:Str} {v:V} {u:Value} {Q:Unit→Shared→Prop} (I:Inv X p_ σ H s) (hN:X.N.Nodup) (hi:X.N[i]? = some x) (hx:Loc X.env.scope x) (r:RelV v u)
    (h:∀s',Inv X p_ (σ.set i (some v)) H s'→(∃a,Heap.SameBut a s.heap s'.heap∧(a=X.env.locals∨X.env.cells.lookup x=some a))→Q () s') (hf:X.fn x=true∨X.env.scope.names.lookup x=some .local:=by first | exact .inl rfl | exact .inr rfl | assumption):wpAny M A (storeName X.env x u) Q E s:=by
  obtain⟨m,hn,hl⟩:=id I.loc;have hcls:(X.env.scope.kind == .class || (X.env.scope.kind == .module && X.env.locals != X.env.globals))=false:=by rw[I.ok.kind];rfl
  have hiσ:i<σ.length:=by rw[I.len];exact(List.getElem?_eq_some_iff.mp hi).1
  have Zj:=I.Zj;have tracked:∀{a:Addr} {h':Heap},(∃o,s.heap.get? a=some o∧H a=none)→Heap.SameBut a s.heap h'→tO X.prog X.w H h':=fun {a h'} ha hs b ob e=>by
    obtain⟨_,_,hfree⟩:=ha;refine(I.hok b ob e).stay (fun c w' hc q=>(hs.2 c ?_).trans q) (fun _ q=>q) fun _ _ q=>q;rintro rfl
    rcases hc with rfl | hc
    ·rw[hfree] at e;cases e
    ·rw[hfree] at hc;cases hc
  rcases hx with hk | hk
  · refine wpAny_storeName_local hk hn (fun h' hn' hs=>?_) hcls;obtain⟨oL,_,_,hoL,_⟩:=id hn;refine h _ ⟨I.ok,I.os,I.bare,⟨fun b o e n hb hx=>?_,fun b o e n hb hx=>?_,I.base.free,fun b o e hx=>?_,I.base.tups,I.base.qW,I.base.tE⟩,⟨_,hn',fun j y v' e1 e2 e3=>?_⟩,fun y c e=>?_,I.free,I.iH,fun p hp=>?_,tracked ⟨oL,hoL,I.free⟩ hs,by simpa using I.len⟩ ⟨_,hs,.inl rfl⟩
    ·exact(hs.2 b (Nat.ne_of_lt (Nat.lt_of_lt_of_le (Heap.lt_size e) I.ok.above))).trans (I.base.keep b o e n hb hx)
    ·obtain⟨sl,e1⟩:=I.base.slot b o e n hb hx;exact⟨sl,(hs.2 b (Nat.ne_of_lt (Nat.lt_of_lt_of_le (Heap.lt_size e) I.ok.above))).trans e1⟩
    ·obtain⟨o',e1⟩:=I.base.there b o e hx;exact⟨o',(hs.2 b (Nat.ne_of_lt (Nat.lt_of_lt_of_le (Heap.lt_size e) I.ok.above))).trans e1⟩
    · by_cases hj:j=i
      ·subst hj;rw[hi] at e1;cases e1;rw[List.getElem?_set_self hiσ] at e2;cases e2;exact⟨u,r,.inl ⟨hk,by simp⟩⟩
      · rw[List.getElem?_set_ne (Ne.symm hj)] at e2;obtain⟨u',r',q⟩:=hl j y v' e1 e2 e3;refine⟨u',r',?_⟩
        rcases q with⟨k,e⟩ | ⟨k,c,e,z⟩
        ·refine .inl ⟨k,?_⟩;have:y≠x:=fun e=>hj (Cj hN e1 (e▸hi));simp[this,e]
        ·exact .inr ⟨k,c,e,z.sameBut hs (Zj y c e)⟩
    ·obtain⟨w',z⟩:=I.cell y c e;exact⟨w',z.sameBut hs (Zj y c e)⟩
    ·obtain⟨e,n,ne,nf,d⟩:=I.pin p hp;exact⟨(hs.2 p.1 ne).trans e,n,ne,nf,d⟩
  · have hfn:X.fn x=true:=by
      rcases hf with z | z
      ·exact z
      ·rw[z] at hk;cases hk
    obtain⟨c,hc⟩:=I.ok.has x (.inl hk);obtain⟨w',z⟩:=I.cell x c hc;refine wpAny_storeName_cell I.ok.kind hk hc z (fun h' hc' hs=>?_);obtain⟨oc,hoc,qj1⟩:=id z;refine h {s with heap:=h'} ⟨I.ok,I.os,I.bare,⟨fun b o e n hb hx=>?_,fun b o e n hb hx=>?_,I.base.free,fun b o e hx=>?_,I.base.tups,I.base.qW,I.base.tE⟩,⟨m,hn.sameBut hs (Ne.symm (Zj x c hc)),fun j y v' e1 e2 e3=>?_⟩,fun y c' e=>?_,I.free,I.iH,fun p hp=>?_,tracked ⟨oc,hoc,I.iH x c hc⟩ hs,by simpa using I.len⟩ ⟨c,hs,.inr hc⟩
    ·exact(hs.2 b (Nat.ne_of_lt (Nat.lt_of_lt_of_le (Heap.lt_size e) (I.ok.cab x c hfn hc)))).trans (I.base.keep b o e n hb hx)
    ·obtain⟨sl,e1⟩:=I.base.slot b o e n hb hx;exact⟨sl,(hs.2 b (Nat.ne_of_lt (Nat.lt_of_lt_of_le (Heap.lt_size e) (I.ok.cab x c hfn hc)))).trans e1⟩
    ·obtain⟨o',e1⟩:=I.base.there b o e hx;exact⟨o',(hs.2 b (Nat.ne_of_lt (Nat.lt_of_lt_of_le (Heap.lt_size e) (I.ok.cab x c hfn hc)))).trans e1⟩
    · by_cases hj:j=i
      ·subst hj;rw[hi] at e1;cases e1;rw[List.getElem?_set_self hiσ] at e2;cases e2;exact⟨u,r,.inr ⟨.inl hk,c,hc,hc'⟩⟩
      · rw[List.getElem?_set_ne (Ne.symm hj)] at e2;obtain⟨u',r',q⟩:=hl j y v' e1 e2 e3;refine⟨u',r',?_⟩
        rcases q with q | ⟨k,c',e,z'⟩
        ·exact .inl q
        ·refine .inr ⟨k,c',e,z'.sameBut hs ?_⟩;rintro rfl;exact hj (Cj hN e1 (I.ok.inj _ _ _ e hc▸hi))
    · by_cases hcc:c'=c
      ·subst hcc;exact⟨_,hc'⟩
      ·obtain⟨w2,z2⟩:=I.cell y c' e;exact⟨w2,z2.sameBut hs hcc⟩
    ·obtain⟨e,n,ne,nf,d⟩:=I.pin p hp;refine⟨(hs.2 p.1 ?_).trans e,n,ne,nf,d⟩;intro q;rw[q,hoc] at e;have q':oc=p.2:=Option.some.inj e;exact d w' (by rw[← q'];exact qj1)
theorem Ck {M:Model} {A:Around} {E:Value→Shared→Prop} {i:Nat} {x:Str} {v:V} {u:Value} {Q:Unit→Shared→Prop} (I:Inv X p_ σ H s) (hN:X.N.Nodup) (hi:X.N[i]? = some x) (hx:Loc X.env.scope x) (r:RelV v u)
    (h:∀s',Inv X p_ (σ.set i (some v)) H s'→Q () s') (hf:X.fn x=true∨X.env.scope.names.lookup x=some .local:=by first | exact .inl rfl | exact .inr rfl | assumption):wpAny M A (storeName X.env x u) Q E s:=
  uJ I hN hi hx r (fun s' I' _=>h s' I') hf
theorem Inv.call' {s':Shared} {ch:List Addr} (I:Inv X p_ σ H s) (ho:s'.os=s.os) (u:Un (frs X.stack) ch H H' s.heap s'.heap) (hok:tO X.prog X.w H' s'.heap) (hg:AllBare s'.gens)
    (hch:∀b∈ch,(b∈X.ex∨X.s₀.heap.objs.size≤b)∧b≠X.env.locals∧(∀x c,X.env.cells.lookup x=some c→c≠b)∧∀p∈X.pn++p_,p.1≠b):Inv X p_ σ H' s':=by
  obtain⟨h',g',d',t',o'⟩:=s';have e:o'=s.os:=ho;subst e;exact I.call (g':=g') (t':=t') (d':=d') u hok hg hch
end
abbrev XK:=Value→Option Addr→Hp→Prop
abbrev St:=List (Option V)
abbrev VK:=V→Hp→Prop
abbrev TE:=St→Hp→VK→Prop
abbrev TT:=St→Hp→(Bool→Hp→Prop)→Prop
abbrev TA:=St→Hp→(List V→Hp→Prop)→Prop
structure Ends where
  nx:St→Hp→Prop
  rt:VK
  bk:St→Hp→Prop:=fun _ _=>False
  ct:St→Hp→Prop:=fun _ _=>False
abbrev TS:=Ends→St→Hp→Prop
def EP (X:Cx) (p_:List (Addr×Obj)) (σ:St) (Q:VK) (u:Value) (s':Shared):Prop:=∃v H',Inv X p_ σ H' s'∧RelV v u∧Q v H'
def TP (X:Cx) (p_:List (Addr×Obj)) (σ:St) (Q:Bool→Hp→Prop) (b:Bool) (s':Shared):Prop:=∃H',Inv X p_ σ H' s'∧Q b H'
def AP (X:Cx) (p_:List (Addr×Obj)) (σ:St) (Q:List V→Hp→Prop) (us:List Value) (s':Shared):Prop:=∃vs H',Inv X p_ σ H' s'∧Vals vs us∧Q vs H'
def SP (X:Cx) (p_:List (Addr×Obj)) (D:Ends) (f:Flow) (s':Shared):Prop:=
  match f with
  | .next=>∃σ' H',Inv X p_ σ' H' s'∧D.nx σ' H'
  | .brk=>∃σ' H',Inv X p_ σ' H' s'∧D.bk σ' H'
  | .cont=>∃σ' H',Inv X p_ σ' H' s'∧D.ct σ' H'
  | .ret u=>∃v σ' H',Inv X p_ σ' H' s'∧RelV v u∧D.rt v H'
def PE (X:Cx) (e:Expr) (t:TE):Prop:=
  ∀(p_:List (Addr×Obj)) (s:Shared) (σ:St) (H:Hp) (Q:VK),Inv X p_ σ H s→t σ H Q→wpAny (model X.prog X.w) X.A (eval e X.env) (EP X p_ σ Q) X.xe s
def PT (X:Cx) (e:Expr) (t:TT):Prop:=
  ∀(p_:List (Addr×Obj)) (s:Shared) (σ:St) (H:Hp) (Q:Bool→Hp→Prop),Inv X p_ σ H s→t σ H Q→wpAny (model X.prog X.w) X.A (isTrue e X.env (eval e X.env)) (TP X p_ σ Q) X.xe s
def PW (X:Cx) (e:Expr) (t:TT):Prop:=
  ∀(whole:Sem Value) (p_:List (Addr×Obj)) (s:Shared) (σ:St) (H:Hp) (Q:Bool→Hp→Prop),Inv X p_ σ H s→t σ H Q→wpAny (model X.prog X.w) X.A (isTrue e X.env whole) (TP X p_ σ Q) X.xe s
theorem PW.pt {X:Cx} {e:Expr} {t:TT} (h:PW X e t):PT X e t:=h _
def PA (X:Cx) (es:List Expr) (t:TA):Prop:=
  ∀(pos:Pos) (p_:List (Addr×Obj)) (s:Shared) (σ:St) (H:Hp) (Q:List V→Hp→Prop),Inv X p_ σ H s→t σ H Q→wpAny (model X.prog X.w) X.A (spliced (backTo pos (starEach es X.env))) (AP X p_ σ Q) X.xe s
def PS (X:Cx) (st:Stmt) (t:TS):Prop:=
  ∀(p_:List (Addr×Obj)) (s:Shared) (σ:St) (H:Hp) (D:Ends),Inv X p_ σ H s→t D σ H→wpAny (model X.prog X.w) X.A (exec st X.env) (SP X p_ D) X.xe s
def Gn (X:Cx) (st:List Stmt) (t:TS):Prop:=
  ∀(p_:List (Addr×Obj)) (s:Shared) (σ:St) (H:Hp) (D:Ends),Inv X p_ σ H s→t D σ H→wpAny (model X.prog X.w) X.A (execs st X.env) (SP X p_ D) X.xe s
theorem cN {α:Type} {t:Sem α} {Q Q':α→Shared→Prop} {M:Model} {A:Around} {E:Value→Shared→Prop} {s:Shared} (h:wpAny M A t Q E s) (hQ:∀a s,Q a s→Q' a s):wpAny M A t Q' E s:=wpAny_mono h hQ fun _ _ x=>x
section
variable {X:Cx}
def qbR (i:Nat):TE:=fun σ H Q=>∃v,σ[i]? = some (some v)∧Q v H
def tC (v:V):TE:=fun _ H Q=>Q v H
theorem qbS {i:Nat} {x:Str} {pos:Pos} (hN:X.N[i]? = some x) (hv:Vis X.env.scope x) (hd:(x == ("__debug__" : Str))=false:=by decide) (hcd:(x == ("__classdict__" : Str))=false:=by decide):PE X (.Name x pos) (qbR i):=by
  intro p_ s σ H Q I h;obtain⟨v,e,h⟩:=h;obtain⟨m,hn,hl⟩:=I.loc;obtain⟨u,r,l⟩:=hl i x v hN e hv;have fin:EP X p_ σ Q u s:=⟨v,H,I,r,h⟩
  rcases l with⟨hk,hm⟩ | ⟨hk,c,hc,hcell⟩
  ·exact wpAny_Name (wpAny_loadName_local I.ok.kind hk hn hm fin) hd
  · rcases hk with hk | hk
    ·exact wpAny_Name (wpAny_loadName_cell I.ok.kind hk hc hcell fin) hd
    ·exact wpAny_Name (wpAny_loadName_free I.ok.kind hk hc hcell fin hcd) hd
theorem aL {i j pos}:PE X (.Constant (.int i) j pos) (tC (.int i)):=fun _ _ _ H _ I h=>wpAny_Constant_int ⟨.int i,H,I.tok _,⟨_,rfl⟩,h⟩
theorem gF {b j pos}:PE X (.Constant (.bool b) j pos) (tC (.bl b)):=fun _ _ _ H _ I h=>Constant_bool ⟨.bl b,H,I,rfl,h⟩
theorem qbT {j pos}:PE X (.Constant .none j pos) (tC .non):=fun _ _ _ H _ I h=>Constant_none ⟨.non,H,I,rfl,h⟩
theorem gM {x j pos}:PE X (.Constant (.str x) j pos) (tC (.str x)):=fun _ _ _ H _ I h=>Calls.Constant_str ⟨.str x,H,I.tok _,⟨_,rfl⟩,h⟩
def Gl (X:Cx) (x:Str):Prop:=X.env.kindOf x=some .globalImplicit
theorem lE {E:Value→Shared→Prop} {p_:List (Addr×Obj)} {s:Shared} {σ:St} {H:Hp} {x:Str} {u:Value} {pos:Pos} {Q:Value→Shared→Prop} (I:Inv X p_ σ H s) (hg:Gl X x) (hm:X.mg x=some u) (h:Q u s)
    (hd:(x == ("__debug__" : Str))=false:=by decide):wpAny (model X.prog X.w) X.A (eval (.Name x pos) X.env) Q E s:=
  Calls.Name_function_global I.ok.kind hg (Calls.loadGlobal_global (by rw[I.ok.glob];exact I.mod.glob.keeps I.bk) hm h) hd
theorem pH {E:Value→Shared→Prop} {p_:List (Addr×Obj)} {s:Shared} {σ:St} {H:Hp} {x:Str} {u:Value} {pos:Pos} {Q:Value→Shared→Prop} (I:Inv X p_ σ H s) (hg:Gl X x) (hm:X.mg x=none) (hv:bootBuiltins x=some u) (h:Q u s)
    (hn:x≠ "__name__" :=by decide) (hd:(x == ("__debug__" : Str))=false:=by decide):wpAny (model X.prog X.w) X.A (eval (.Name x pos) X.env) Q E s:=by
  obtain⟨mb,h1,h2⟩:=I.mod.blt;exact Calls.Name_function_global I.ok.kind hg (Calls.loadGlobal_builtin (by rw[I.ok.glob];exact I.mod.glob.keeps I.bk) hm (by rw[I.ok.blt];exact h1.keeps I.bk) ((h2 x hn).trans hv) h) hd
theorem iU {x:Str} {v:V} {u:Value} {pos:Pos} (hg:Gl X x) (hm:X.mg x=some u) (r:RelV v u) (hd:(x == ("__debug__" : Str))=false:=by decide):PE X (.Name x pos) (tC v):=
  fun _ _ _ H _ I h=>lE I hg hm ⟨v,H,I,r,h⟩ hd
theorem iG {x:Str} {v:V} {u:Value} {pos:Pos} (hg:Gl X x) (hm:X.mg x=none) (hv:bootBuiltins x=some u) (r:RelV v u) (hn:x≠ "__name__" :=by decide) (hd:(x == ("__debug__" : Str))=false:=by decide):PE X (.Name x pos) (tC v):=
  fun _ _ _ H _ I h=>pH I hg hm hv ⟨v,H,I,r,h⟩ hn hd
variable {a b:Expr} {ta tb:TE} {pos:Pos}
def PC (X:Cx) (op:CmpOp) (a b:Expr) (t:TE):Prop:=
  ∀(p_:List (Addr×Obj)) (s:Shared) (σ:St) (H:Hp) (Q:VK),Inv X p_ σ H s→t σ H Q→
    wpAny (model X.prog X.w) X.A (eval a X.env) (fun v s₁=>wpAny (model X.prog X.w) X.A (eval b X.env) (fun u s₂=>wpAny (model X.prog X.w) X.A (compareOp op v u) (EP X p_ σ Q) X.xe s₂) X.xe s₁) X.xe s
theorem KC (b:Expr) {op:CmpOp} (h:op≠.In) (h2:op≠.NotIn):behindInMarks op b=false:=by
  have e1:(op == CmpOp.In)=false:=by cases op <;> first | rfl | exact absurd rfl h
  have e2:(op == CmpOp.NotIn)=false:=by cases op <;> first | rfl | exact absurd rfl h2
  cases b <;> simp[behindInMarks,e1,e2]
def tB (t:TE):TT:=fun σ H Q=>t σ H fun x H1=>∃c,x = .bl c∧Q c H1
theorem qbU {op:CmpOp} {t:TE} (h:PC X op a b t) (h1:behindInMarks op b=false:=by first | exact KC _ (by decide) (by decide) | rfl):PT X (.Compare a [op] [b] pos) (tB t):=by
  intro p_ s σ H Q I hw;refine wpAny_isTrue_Compare1 (cN (h p_ s σ H _ I hw) fun v s1 h1=>cN h1 fun u s2 h2=>cN h2 fun c s3 zz=>?_) h1;obtain⟨x,H1,I1,r1,q1⟩:=zz;obtain⟨d,rfl,q⟩:=q1;cases r1;exact wpAny_truthy_bool ⟨H1,I1,q⟩
theorem qbV {e:Expr} {t:TE} (h:PE X e t) (he:∀whole,isTrue e X.env whole=(do let v ← whole;standAt e.pos;holding [v] (truthy v)):=by intro _;rfl):PT X e (tB t):=by
  intro p_ s σ H Q I hw;refine isTrue_plain (cN (h p_ s σ H _ I hw) fun v s1 zz=>?_) (he _);obtain⟨x,H1,I1,r1,q1⟩:=zz;obtain⟨d,rfl,q⟩:=q1;cases r1;exact wpAny_truthy_bool ⟨H1,I1,q⟩
variable {tA tB':TT} {rest:List Expr}
def qeN (t u:TT):TT:=fun σ H Q=>t σ H fun c H1=>if c=true then u σ H1 Q else Q false H1
def tOr (t u:TT):TT:=fun σ H Q=>t σ H fun c H1=>if c=true then Q true H1 else u σ H1 Q
def qeO (t:TT):TT:=fun σ H Q=>t σ H fun c H1=>Q (!c) H1
theorem Br (ha:PT X a tA):PW X (.BoolOp .And [a] pos) tA:=by
  intro wh p_ s σ H Q I h;refine isTrue_and (cN (ha p_ s σ H Q I h) fun c s1 e=>?_);cases c with
  | true=>exact isTrue_and_nil e
  | false=>exact e
theorem iC (ha:PT X a tA):PW X (.BoolOp .Or [a] pos) tA:=by
  intro wh p_ s σ H Q I h;refine isTrue_or (cN (ha p_ s σ H Q I h) fun c s1 e=>?_);cases c with
  | false=>exact isTrue_or_nil e
  | true=>exact e
theorem Iu (ha:PT X a tA) (hb:PW X (.BoolOp .And (b::rest) pos) tB'):PW X (.BoolOp .And (a::b::rest) pos) (qeN tA tB'):=by
  intro wh p_ s σ H Q I h;refine isTrue_and (cN (ha p_ s σ H _ I h) fun c s1 zz=>?_);obtain⟨H1,I1,q1⟩:=zz;cases c with
  | true=>exact hb wh p_ s1 σ H1 Q I1 q1
  | false=>exact⟨H1,I1,q1⟩
theorem jj (ha:PT X a tA) (hb:PW X (.BoolOp .Or (b::rest) pos) tB'):PW X (.BoolOp .Or (a::b::rest) pos) (tOr tA tB'):=by
  intro wh p_ s σ H Q I h;refine isTrue_or (cN (ha p_ s σ H _ I h) fun c s1 zz=>?_);obtain⟨H1,I1,q1⟩:=zz;cases c with
  | true=>exact⟨H1,I1,q1⟩
  | false=>exact hb wh p_ s1 σ H1 Q I1 q1
theorem d7 (ha:PT X a tA):PT X (.UnaryOp .Not a pos) (qeO tA):=by
  intro p_ s σ H Q I h;exact isTrue_not (ha p_ s σ H (fun c H1=>Q (!c) H1) I h)
def Vm (ta tb:TE):TE:=fun σ H Q=>ta σ H fun x H1=>∃c,x = .bl c∧if c=true then tb σ H1 Q else Q (.bl false) H1
def Vn (ta:TE):TE:=fun σ H Q=>ta σ H fun x H1=>∃c,x = .bl c∧Q (.bl (!c)) H1
theorem nH {op} {t:TE} (h:PE X a t):PE X (.BoolOp op [a] pos) t:=fun p_ s σ H Q I hw=>BoolOp_one (h p_ s σ H Q I hw)
theorem qbW (ha:PE X a ta) (hb:PE X (.BoolOp .And (b::rest) pos) tb):PE X (.BoolOp .And (a::b::rest) pos) (Vm ta tb):=by
  intro p_ s σ H Q I h;refine BoolOp_and (cN (ha p_ s σ H _ I h) fun v s1 zz=>?_);obtain⟨x,H1,I1,r1,q1⟩:=zz;obtain⟨c,rfl,q1⟩:=q1;cases r1;refine wpAny_truthy_bool ?_;cases c with
  | true=>exact hb p_ s1 σ H1 Q I1 q1
  | false=>exact⟨.bl false,H1,I1,rfl,q1⟩
theorem qbX (ha:PE X a ta):PE X (.UnaryOp .Not a pos) (Vn ta):=by
  intro p_ s σ H Q I h;refine UnaryOp_ (cN (ha p_ s σ H _ I h) fun v s1 zz=>?_);obtain⟨x,H1,I1,r1,q1⟩:=zz;obtain⟨c,rfl,q1⟩:=q1;cases r1;exact not_of (wpAny_truthy_bool ⟨.bl (!c),H1,I1,rfl,q1⟩)
def tIf (t:TT) (ta tb:TE):TE:=fun σ H Q=>t σ H fun c H1=>if c=true then ta σ H1 Q else tb σ H1 Q
theorem Cm {c:Expr} (hc:PT X c tA) (ha:PE X a ta) (hb:PE X b tb):PE X (.IfExp c a b pos) (tIf tA ta tb):=by
  intro p_ s σ H Q I h;refine wpAny_IfExp (cN (hc p_ s σ H _ I h) fun d s1 zz=>?_);obtain⟨H1,I1,q1⟩:=zz;cases d with
  | true=>exact ha p_ s1 σ H1 Q I1 q1
  | false=>exact hb p_ s1 σ H1 Q I1 q1
end
def aX (K:W.Frag) (H:Hp) (a:Addr) (xs:List V):Prop:=
  Rd H a (.lst xs)∨
    ∃(o:Obj) (its:Array Value) (n:Nat),K.lookup a=some o∧o.cls = .type "list" ∧o.dict=none∧o.data = .seq its n∧its.size≤sizeLine∧Vals xs its.toList
def d9 (K:W.Frag) (H:Hp) (a:Addr) (xs:List V):Prop:=
  Rd H a (.tup xs)∨
    ∃(o:Obj) (its:Array Value) (n:Nat),K.lookup a=some o∧o.cls = .type "tuple" ∧o.data = .seq its n∧its.size≤sizeLine∧Vals xs its.toList
def qj2:Value→Option V
  | .none=>some .non
  | .bool b=>some (.bl b)
  | .int i _=>some (.int i)
  | .str x _=>some (.str x)
  | .bytes b _=>some (.U9 b)
  | .float b _=>some (.flt b)
  | .ref a=>some (.ref a)
  | .type n=>some (.ty n)
  | _=>none
theorem RelV.abs {x:V} {u:Value} (r:RelV x u):qj2 u=some x:=by
  cases x with
  | non=>cases r;rfl
  | bl _=>cases r;rfl
  | int _=>obtain⟨t,rfl⟩:=r;rfl
  | str _=>obtain⟨t,rfl⟩:=r;rfl
  | U9 _=>obtain⟨t,rfl⟩:=r;rfl
  | flt _=>obtain⟨t,rfl⟩:=r;rfl
  | ref _=>cases r;rfl
  | ty _=>cases r;rfl
theorem RelV.inj {x y:V} {u:Value} (r:RelV x u) (q:RelV y u):x=y:=Option.some.inj (r.abs.symm.trans q.abs)
theorem Vals.inj:∀{xs ys:List V} {us:List Value},Vals xs us→Vals ys us→xs=ys
  | _,_,_,.nil,.nil=>rfl
  | _,_,_,.cons r t,.cons r' t'=>by rw[r.inj r',Vals.inj t t']
section
variable {X:Cx} {p_:List (Addr×Obj)} {σ:St} {H:Hp} {s:Shared} {a:Addr} {xs ys:List V}
theorem aX.of {K:W.Frag} (h:H a=some (.lst xs)):aX K H a xs:=.inl (.inl h)
theorem d9.of {K:W.Frag} (h:H a=some (.tup xs)):d9 K H a xs:=.inl (.inl h)
theorem Inv.list (I:Inv X p_ σ H s) (h:aX X.K H a xs):∃its:List Value,Vals xs its∧PlainL s.heap a its.toArray∧xs.length≤sizeLine:=by
  rcases h with h | ⟨o,its,n,hk,hc,hd,hs,hz,r⟩
  ·obtain⟨z,its,n,r,e⟩:=h.ok I.hok;exact⟨its,r,⟨_,n,e,rfl,rfl,rfl⟩,z⟩
  ·refine⟨its.toList,r,⟨o,n,I.oE a o hk,hc,hd,by simpa using hs⟩,?_⟩;have e:=r.length;simp only[Array.length_toList] at e;omega
theorem Inv.tuple (I:Inv X p_ σ H s) (h:d9 X.K H a xs):∃its:List Value,Vals xs its∧IsTup s.heap a its.toArray∧xs.length≤sizeLine:=by
  rcases h with h | ⟨o,its,n,hk,hc,hs,hz,r⟩
  ·obtain⟨z,its,r,p⟩:=h.ok I.hok;exact⟨its,r,p,z⟩
  ·refine⟨its.toList,r,⟨o,I.oE a o hk,hc,n,by simpa using hs⟩,?_⟩;have e:=r.length;simp only[Array.length_toList] at e;omega
theorem Inv.qD (I:Inv X p_ σ H s) (h:aX X.K H a xs) (h':aX X.K H a ys):xs=ys:=by
  obtain⟨its,r,⟨o,n,e,_,_,d⟩,_⟩:=I.list h;obtain⟨its',r',⟨o',n',e',_,_,d'⟩,_⟩:=I.list h';rw[e] at e';cases e';rw[d] at d';injection d' with d1 _;have:its=its':=by simpa using congrArg Array.toList d1
  subst this;exact r.inj r'
theorem Inv.RL (I:Inv X p_ σ H s) (h:d9 X.K H a xs) (h':d9 X.K H a ys):xs=ys:=by
  obtain⟨its,r,⟨o,e,_,n,d⟩,_⟩:=I.tuple h;obtain⟨its',r',⟨o',e',_,n',d'⟩,_⟩:=I.tuple h';rw[e] at e';cases e';rw[d] at d';injection d' with d1 _;have:its=its':=by simpa using congrArg Array.toList d1
  subst this;exact r.inj r'
end
abbrev Cx.wish (X:Cx) (E:Value→Shared→Prop):Cx:={X with xe:=E}
abbrev Cx.U_ (X:Cx):Cx:=X.wish fun _ _=>False
theorem Cx.Ok.wish {X:Cx} (ok:X.Ok) (E:Value→Shared→Prop):(X.wish E).Ok:=
  ⟨ok.mod,ok.kind,ok.glob,ok.blt,ok.above,ok.inj,ok.has,ok.cab,ok.hd,ok.frames,ok.stk,ok.Zi,ok.bs,ok.RK,ok.Kz,ok.Ir,ok.tQ,ok.Vl⟩
theorem Cx.Ok.tU {X:Cx} {E:Value→Shared→Prop} (ok:(X.wish E).Ok):X.Ok:=
  ⟨ok.mod,ok.kind,ok.glob,ok.blt,ok.above,ok.inj,ok.has,ok.cab,ok.hd,ok.frames,ok.stk,ok.Zi,ok.bs,ok.RK,ok.Kz,ok.Ir,ok.tQ,ok.Vl⟩
section
variable {X:Cx} {p_:List (Addr×Obj)} {σ:St} {H:Hp} {s:Shared} {E:Value→Shared→Prop}
theorem Inv.wish (I:Inv X p_ σ H s) (E:Value→Shared→Prop):Inv (X.wish E) p_ σ H s:=⟨I.ok.wish E,I.os,I.bare,I.base,I.loc,I.cell,I.free,I.iH,I.pin,I.hok,I.len⟩
theorem Inv.tU (I:Inv (X.wish E) p_ σ H s):Inv X p_ σ H s:=⟨I.ok.tU,I.os,I.bare,I.base,I.loc,I.cell,I.free,I.iH,I.pin,I.hok,I.len⟩
theorem SP.tU {D:Ends} {f:Flow} {s':Shared} (h:SP (X.wish E) p_ D f s'):SP X p_ D f s':=by
  cases f with
  | next=>obtain⟨σ',H',I,q⟩:=h;exact⟨σ',H',I.tU,q⟩
  | brk=>obtain⟨σ',H',I,q⟩:=h;exact⟨σ',H',I.tU,q⟩
  | cont=>obtain⟨σ',H',I,q⟩:=h;exact⟨σ',H',I.tU,q⟩
  | ret u=>obtain⟨v,σ',H',I,r,q⟩:=h;exact⟨v,σ',H',I.tU,r,q⟩
theorem Gn.U_ {st:List Stmt} {t:TS} (h:Gn X.U_ st t):Gn X st t:=fun p_ s σ H D I hw=>
  wpAny_mono (h p_ s σ H D (I.wish _) hw) (fun _ _ q=>q.tU) fun _ _ z=>False.elim z
end
section
variable {X:Cx} {st:Stmt} {rest:List Stmt} {t u:TS} {e:Expr} {te:TE} {pos:Pos}
def qa5:TS:=fun D σ H=>D.nx σ H
def qeP (t u:TS):TS:=fun D σ H=>t {D with nx:=u D} σ H
theorem bH:Gn X [] qa5:=fun _ _ σ H _ I h=>wpAny_execs_nil ⟨σ,H,I,h⟩
theorem aA (h1:PS X st t) (h2:Gn X rest u):Gn X (st::rest) (qeP t u):=by
  intro p_ s σ H D I h;refine wpAny_execs_cons (cN (h1 p_ s σ H {D with nx:=u D} I h) fun f s1 q=>?_);cases f with
  | next=>
    obtain⟨σ',H',I',q⟩:=q;exact h2 p_ s1 σ' H' D I' q
  | ret v=>exact q
  | brk=>exact q
  | cont=>exact q
theorem aD (h1:PS X st t):Gn X [st] t:=by
  intro p_ s σ H D I h;refine wpAny_execs_cons (cN (h1 p_ s σ H D I h) fun f s1 q=>?_);cases f with
  | next=>exact wpAny_execs_nil q
  | ret v=>exact q
  | brk=>exact q
  | cont=>exact q
theorem Inv.quiet {p_:List (Addr×Obj)} {σ:St} {H:Hp} {s:Shared} (I:Inv X p_ σ H s):interactive X.env=false:=by simp[interactive,I.ok.kind]
def qa6 (te:TE):TS:=fun D σ H=>te σ H fun _ H1=>D.nx σ H1
theorem eF (he:PE X e te) (hs:swapsWith e none pos.line X.env=pure false:=by rfl):PS X (.Expr e pos) (qa6 te):=by
  intro p_ s σ H D I h;refine wpAny_Expr_any (cN (he p_ s σ H _ I h) fun v s1 zz=>?_) I.quiet hs;obtain⟨x,H1,I1,r1,q1⟩:=zz;exact⟨σ,H1,I1,q1⟩
def qeQ (te:TE):TS:=fun D σ H=>te σ H D.rt
theorem aZ (he:PE X e te):PS X (.Return (some e) pos) (qeQ te):=by
  intro p_ s σ H D I h;refine wpAny_Return_some (cN (he p_ s σ H _ I h) fun v s1 zz=>?_);obtain⟨x,H1,I1,r1,q1⟩:=zz;exact⟨x,σ,H1,I1,r1,q1⟩
def qeR (c:TT) (t u:TS):TS:=fun D σ H=>c σ H fun b H1=>if b=true then t D σ H1 else u D σ H1
theorem cO {c:Expr} {a b:List Stmt} {tc:TT} (hc:PT X c tc) (ha:Gn X a t) (hb:Gn X b u):PS X (.If c a b pos) (qeR tc t u):=by
  intro p_ s σ H D I h;refine wpAny_If (cN (hc p_ s σ H _ I h) fun d s1 zz=>?_);obtain⟨H1,I1,q1⟩:=zz;cases d with
  | true=>exact ha p_ s1 σ H1 D I1 q1
  | false=>exact hb p_ s1 σ H1 D I1 q1
def Vo:TS:=fun _ _ _=>False
theorem KD:PS X st Vo:=fun _ _ _ _ _ _ h=>h.elim
end
abbrev TG:=V→St→Hp→(St→Hp→Prop)→Prop
abbrev Cp:=List V→St→Hp→(St→Hp→Prop)→Prop
def PG (X:Cx) (target:Expr) (t:TG):Prop:=
  ∀(p_:List (Addr×Obj)) (s:Shared) (σ:St) (H:Hp) (v:V) (u:Value) (Q:St→Hp→Prop),Inv X p_ σ H s→RelV v u→t v σ H Q→
    wpAny (model X.prog X.w) X.A (assign target X.env u) (fun _ s'=>∃σ' H',Inv X p_ σ' H' s'∧Q σ' H') X.xe s
def fL (X:Cx) (ts:List Expr) (t:Cp):Prop:=
  ∀(p_:List (Addr×Obj)) (s:Shared) (σ:St) (H:Hp) (vs:List V) (us:List Value) (Q:St→Hp→Prop),Inv X p_ σ H s→Vals vs us→t vs σ H Q→
    wpAny (model X.prog X.w) X.A (assignInOrder ((assignEach ts X.env).map (·.2)) us) (fun _ s'=>∃σ' H',Inv X p_ σ' H' s'∧Q σ' H') X.xe s
abbrev RM:=V→V→V→Hp→(Hp→Prop)→Prop
def RN (X:Cx) (t:RM):Prop:=
  ∀(p_:List (Addr×Obj)) (s:Shared) (σ:St) (H:Hp) (o i v:V) (ov iv u:Value) (Q:Hp→Prop),Inv X p_ σ H s→RelV o ov→RelV i iv→RelV v u→t o i v H Q→
    wpAny (model X.prog X.w) X.A (setItem ov iv u) (fun _ s'=>∃H',Inv X p_ σ H' s'∧Q H') X.xe s
abbrev Zk:=V→V→Hp→VK→Prop
def PIp (X:Cx) (op:Operator) (t:Zk):Prop:=
  ∀(p_:List (Addr×Obj)) (s:Shared) (σ:St) (H:Hp) (x y:V) (v u:Value) (Q:VK),Inv X p_ σ H s→RelV x v→RelV y u→t x y H Q→
    wpAny (model X.prog X.w) X.A (inplaceOp op v u) (EP X p_ σ Q) X.xe s
section
variable {X:Cx} {pos:Pos}
def Qp (i:Nat):TG:=fun v σ H Q=>Q (σ.set i (some v)) H
theorem aM {i:Nat} {x:Str} (hN:X.N.Nodup) (hi:X.N[i]? = some x) (hx:Loc X.env.scope x) (hf:X.fn x=true∨X.env.scope.names.lookup x=some .local:=by first | exact .inl rfl | exact .inr rfl | assumption):PG X (.Name x pos) (Qp i):=by
  intro p_ s σ H v u Q I r h;exact wpAny_assign_Name (Ck I hN hi hx r (fun s' I'=>⟨_,H,I',h⟩) hf)
def qbY:Cp:=fun vs σ H Q=>vs=[]∧Q σ H
def Vp (t:TG) (u:Cp):Cp:=fun vs σ H Q=>∃v r,vs=v::r∧t v σ H fun σ' H'=>u r σ' H' Q
theorem cF:fL X [] qbY:=by
  intro p_ s σ H vs us Q I r h;obtain⟨e,h⟩:=h;subst e;cases r;exact assignInOrder_nil ⟨σ,H,I,h⟩
theorem aQ {e:Expr} {es:List Expr} {t:TG} {u:Cp} (h1:PG X e t) (h2:fL X es u)
    (hs:(assignEach (e::es) X.env).map (·.2)=assign e X.env::(assignEach es X.env).map (·.2):=by rfl):fL X (e::es) (Vp t u):=by
  intro p_ s σ H vs us Q I r h;obtain⟨v,vr,e1,h⟩:=h;subst e1;cases r with
  | cons r rr=>
    rw[hs];refine assignInOrder_cons (cN (h1 p_ s σ H _ _ _ I r h) fun _ s1 zz=>?_);obtain⟨σ1,H1,I1,q1⟩:=zz;exact h2 p_ s1 σ1 H1 _ _ Q I1 rr q1
def Zm (K:W.Frag) (n:Nat) (t:Cp):TG:=fun v σ H Q=>∃a xs,v = .ref a∧d9 K H a xs∧xs.length=n∧t xs σ H Q
theorem qbZ {es:List Expr} {k:Nat} {t:Cp} {n:Nat} (hc:X.calm=true) (h:fL X es t)
    (hn:(assignEach es X.env).length=n:=by rfl) (hst:(assignEach es X.env).findIdx? (·.1)=none:=by rfl):PG X (.Tuple es k pos) (Zm X.K n t):=by
  intro p_ s σ H v u Q I r hw;obtain⟨a,xs,e1,hq,hl,hw⟩:=hw;subst e1;cases r;obtain⟨its,rv,ht,hz⟩:=I.tuple hq;refine assign_Tuple_tuple (I.ok.hd hc) ht (by simp[hn,← hl,rv.length]) hst fun h' hx=>?_;have I1:Inv X p_ σ H {s with heap:=h'}:=I.kept (t':=s.toks) fun b o e=>hx b o (Nat.ne_of_lt (Heap.lt_size e)) e;exact h p_ _ σ H xs _ Q I1 (by simpa using rv) hw
def qeS (to ti:TE) (t:RM):TG:=fun v σ H Q=>to σ H fun o H1=>ti σ H1 fun i H2=>t o i v H2 fun H3=>Q σ H3
theorem Vq {o i:Expr} {to ti:TE} {t:RM} (ho:PE X o to) (hi:PE X i ti) (hs:RN X t)
    (ha:∀v,assign (.Subscript o i pos) X.env v=(do
      let ov ← holding [v] (eval o X.env)
      let iv ← holding [v,ov] (eval i X.env)
      standAt pos
      holding [v,ov,iv] (setItem ov iv v)
      release [v,ov,iv] []):=by intro _;rfl):PG X (.Subscript o i pos) (qeS to ti t):=by
  intro p_ s σ H v u Q I r h;rw[ha];refine wpAny_bind (wpAny_holding (cN (ho p_ s σ H _ I h) fun ov s1 zz=>?_));obtain⟨x,H1,I1,r1,q1⟩:=zz;refine wpAny_bind (wpAny_holding (cN (hi p_ s1 σ H1 _ I1 q1) fun iv s2 zz=>?_));obtain⟨y,H2,I2,r2,q2⟩:=zz;refine wpAny_bind (wpAny_standAt (wpAny_bind (wpAny_holding (cN (hs p_ s2 σ H2 x y v ov iv u _ I2 r1 r2 r q2) fun _ s3 zz=>?_))));obtain⟨H3,I3,q3⟩:=zz;exact wpAny_release ⟨σ,H3,I3,q3⟩
def Zn (te:TE) (g:TG):TS:=fun D σ H=>te σ H fun x H1=>g x σ H1 D.nx
theorem pJ {tg e:Expr} {te:TE} {g:TG} (he:PE X e te) (hg:PG X tg g) (hs:swapsWithSole [tg] e pos.line X.env=pure false:=by rfl) (hw:swappedStores [tg] e X.env=pure none:=by rfl)
    (h1:(assignEach [tg] X.env).map (·.2)=[assign tg X.env]:=by rfl):PS X (.Assign [tg] e pos) (Zn te g):=by
  intro p_ s σ H D I h;refine wpAny_Assign_stores (cN (he p_ s σ H _ I h) fun v s1 zz=>?_) hs hw;obtain⟨x,H1,I1,r1,q1⟩:=zz;rw[h1];exact cN (hg p_ s1 σ H1 x v _ I1 r1 q1) fun _ s2 q=>q
theorem bx {i:Nat} {x:Str} {e:Expr} {te:TE} {pos':Pos} (hN:X.N.Nodup) (hi:X.N[i]? = some x) (hx:Loc X.env.scope x) (he:PE X e te) (hs:swapsWith e (some (.Name x pos')) pos.line X.env=pure false:=by rfl) (hf:X.fn x=true∨X.env.scope.names.lookup x=some .local:=by first | exact .inl rfl | exact .inr rfl | assumption) :
    PS X (.Assign [.Name x pos'] e pos) (Zn te (Qp i)):=by
  intro p_ s σ H D I h;refine wpAny_Assign_Name (cN (he p_ s σ H _ I h) fun v s1 zz=>?_) hs;obtain⟨y,H1,I1,r1,q1⟩:=zz;exact Ck I1 hN hi hx r1 (fun s2 I2=>⟨_,H1,I2,q1⟩) hf
def qb0 (i:Nat) (te:TE) (ti:Zk):TS:=fun D σ H=>∃x,σ[i]? = some (some x)∧te σ H fun y H1=>ti x y H1 fun z H2=>D.nx (σ.set i (some z)) H2
theorem qb1 {i:Nat} {x:Str} {e:Expr} {te:TE} {op:Operator} {ti:Zk} {pos':Pos} (hN:X.N.Nodup) (hi:X.N[i]? = some x) (hx:Loc X.env.scope x) (he:PE X e te) (ho:PIp X op ti) (hf:X.fn x=true∨X.env.scope.names.lookup x=some .local:=by first | exact .inl rfl | exact .inr rfl | assumption) :
    PS X (.AugAssign (.Name x pos') op e pos) (qb0 i te ti):=by
  intro p_ s σ H D I h;obtain⟨v,e1,h⟩:=h;obtain⟨m,hn,hl⟩:=I.loc;have vis:Vis X.env.scope x:=by rcases hx with k | k;exact .inl k;exact .inr (.inl k)
  obtain⟨u,r,l⟩:=hl i x v hi e1 vis;refine wpAny_AugAssign_Name ?_;have go:wpAny (model X.prog X.w) X.A (eval e X.env) (fun w s₂=>wpAny (model X.prog X.w) X.A (inplaceOp op u w) (fun r s₃=>wpAny (model X.prog X.w) X.A (storeName X.env x r) (fun _=>SP X p_ D .next) X.xe s₃) X.xe s₂) X.xe s:=by
    refine cN (he p_ s σ H _ I h) fun w s1 zz=>?_;obtain⟨y,H1,I1,r1,q1⟩:=zz;refine cN (ho p_ s1 σ H1 v y u w _ I1 r r1 q1) fun z s2 zz=>?_;obtain⟨zv,H2,I2,r2,q2⟩:=zz;exact Ck I2 hN hi hx r2 (fun s3 I3=>⟨_,H2,I3,q2⟩) hf
  rcases l with⟨hk,hm⟩ | ⟨hk,c,hc,hcell⟩
  ·exact wpAny_loadName_local I.ok.kind hk hn hm go
  · rcases hk with hk | hk
    ·exact wpAny_loadName_cell I.ok.kind hk hc hcell go
    · rcases hx with k | k
      ·have:X.env.scope.names.lookup x=some .free:=hk;rw[k] at this;cases this
      ·have:X.env.scope.names.lookup x=some .free:=hk;rw[k] at this;cases this
def ipI (f:Int→Int→Int):Zk:=fun x y H Q=>∃i j,x = .int i∧y = .int j∧Q (.int (f i j)) H
theorem qb2:PIp X .Add (ipI fun i j=>i+j):=by
  intro p_ s σ H x y v u Q I r1 r2 h;obtain⟨i,j,e1,e2,q⟩:=h;subst e1;subst e2;obtain⟨t,rfl⟩:=r1;obtain⟨t',rfl⟩:=r2;exact iadd_int ⟨.int _,H,I.tok _,⟨_,rfl⟩,q⟩
end
section
variable {X:Cx} {pos:Pos}
def Iv (c:TT) (tb:TS):TS:=fun D σ H=>∃mV:Nat→St→Hp→Prop,(∃m,mV m σ H)∧∀m σ H,mV m σ H→
  c σ H fun b H1=>if b=true then ∃N:St→Hp→Prop,(∀σ' H',N σ' H'→∃m',m'<m∧mV m' σ' H')∧tb {D with nx:=N,ct:=N,bk:=D.nx} σ H1 else D.nx σ H1
theorem KH {c:Expr} {body:List Stmt} {tc:TT} {tb:TS} (hp:PassesOwn (model X.prog X.w) X.A X.env X.xe) (hc:PT X c tc) (hb:Gn X body tb):PS X (.While c body [] pos) (Iv tc tb):=by
  intro p_ s σ H D I h;obtain⟨mV,⟨m0,w0⟩,turn⟩:=h;refine wpAny_While (codeAny_whileLoop (fun n s'=>∃σ' H',Inv X p_ σ' H' s'∧mV n σ' H') ?_ m0 ⟨σ,H,I,w0⟩);rintro n s1 ⟨σ1,H1,I1,w1⟩;refine wpAny_passesOwn hp (cN (hc p_ s1 σ1 H1 _ I1 (turn n σ1 H1 w1)) fun b s2 zz=>?_);obtain⟨H2,I2,q2⟩:=zz;cases b with
  | true=>
    obtain⟨N,hN,q2⟩:=q2;rw[if_pos rfl];refine wpAny_passesOwn hp (cN (hb p_ s2 σ1 H2 _ I2 q2) fun f s3 q3=>?_);cases f with
    | next=>
      obtain⟨σ3,H3,I3,n3⟩:=q3;obtain⟨m',hm,w3⟩:=hN σ3 H3 n3;exact⟨m',hm,σ3,H3,I3,w3⟩
    | cont=>
      obtain⟨σ3,H3,I3,n3⟩:=q3;obtain⟨m',hm,w3⟩:=hN σ3 H3 n3;exact⟨m',hm,σ3,H3,I3,w3⟩
    | brk=>exact q3
    | ret v=>exact q3
  | false=>
    rw[if_neg Bool.false_ne_true];exact wpAny_execs_nil ⟨σ1,H2,I2,q2⟩
end
structure It where
  go:Nat→Hp→Prop
  RP:Nat→Hp→V→Hp→Prop
  stop:Nat→Hp→Prop
def mW (X:Cx) (p_:List (Addr×Obj)) (H:Hp) (b:Addr):Prop:=
  H b=none∧b≠X.env.locals∧b∉X.fs∧(b∈X.ex∨X.s₀.heap.objs.size≤b)∧(∀x c,X.env.cells.lookup x=some c→c≠b)∧∀p∈X.pn++p_,p.1≠b
theorem Inv.Bh {X:Cx} {p_:List (Addr×Obj)} {σ:St} {H H':Hp} {s:Shared} {b:Addr} (I:Inv X p_ σ H s) (hb:s.heap.objs.size≤b) (hn:H' b=none):mW X p_ H' b:=by
  refine⟨hn,Nat.ne_of_gt (Nat.lt_of_lt_of_le I.lt hb),I.qj0 hb,.inr (Nat.le_trans I.sz hb),fun x c e z=>?_,fun p hp z=>?_⟩
  ·obtain⟨v,q⟩:=I.cell x c e;exact absurd (Nat.lt_of_lt_of_le q.lt (by rw[z];exact hb)) (Nat.lt_irrefl _)
  ·exact absurd (Nat.lt_of_lt_of_le (Heap.lt_size (I.pin p hp).1) (by rw[z];exact hb)) (Nat.lt_irrefl _)
structure Turn (P:Program) (w:World) (K:W.Frag) (tg:Expr) (J:It) (fp:List Addr) (it:Addr) (tn:Nat→Heap→Prop):Prop where
  mem:it∈fp
  obj:∀i h,tn i h→∀b∈fp,∃o,h.get? b=some o∧∀v,o.data≠.cell v
  keep:∀i h h',tn i h→(∀b∈fp,∀o,h.get? b=some o→h'.get? b=some o)→tn i h'
  item:∀(X:Cx),X.prog=P→X.w=w→X.K=K→X.calm=true→∀(i:Nat) (p_:List (Addr×Obj)) (s:Shared) (σ:St) (H:Hp) (E:Value→Shared→Prop),Inv X p_ σ H s→(∀b∈fp,mW X p_ H b)→tn i s.heap→J.go i H→
    wpAny (model P w) X.A (pyNext (.ref it)) (fun r s1=>∃u,r=some u∧
      wpAny (model P w) X.A (letOwnedTupleGo tg (.ref it) u) (fun _ s2=>∃x H',Inv X p_ σ H' s2∧RelV x u∧J.RP i H x H'∧tn (i+1) s2.heap∧∀b∈fp,H' b=none) E s1) E s
  done:∀(X:Cx),X.prog=P→X.w=w→X.K=K→X.calm=true→∀(i:Nat) (p_:List (Addr×Obj)) (s:Shared) (σ:St) (H:Hp) (E:Value→Shared→Prop),Inv X p_ σ H s→(∀b∈fp,mW X p_ H b)→tn i s.heap→J.stop i H→
    wpAny (model P w) X.A (pyNext (.ref it)) (fun r s1=>r=none∧Inv X p_ σ H s1) E s
  self:∀(A:Around) (i:Nat) (s:Shared) (Q:Value→Shared→Prop) (E:Value→Shared→Prop),tn i s.heap→Q (.ref it) s→wpAny (model P w) A (pyIter (.ref it)) Q E s
abbrev TI:=St→Hp→(It→Hp→Prop)→Prop
def PIE (X:Cx) (p_:List (Addr×Obj)) (σ:St) (tg:Expr) (R:It→Hp→Prop) (itv:Value) (s2:Shared):Prop:=
  ∃(it:Addr) (fp:List Addr) (tn:Nat→Heap→Prop) (J:It) (H':Hp),itv = .ref it∧Inv X p_ σ H' s2∧Turn X.prog X.w X.K tg J fp it tn∧tn 0 s2.heap∧(∀b∈fp,mW X p_ H' b)∧R J H'
def PI (X:Cx) (tg iter:Expr) (wi:TI):Prop:=
  ∀(p_:List (Addr×Obj)) (s:Shared) (σ:St) (H:Hp) (R:It→Hp→Prop),Inv X p_ σ H s→wi σ H R→
    wpAny (model X.prog X.w) X.A (eval iter X.env) (fun v s1=>wpAny (model X.prog X.w) X.A (pyIter v) (PIE X p_ σ tg R) X.xe s1) X.xe s
theorem Vr {M:Model} {A:Around} {E:Value→Shared→Prop} {s:Shared} {tg:Expr} {it:Addr} {u:Value} {o:Obj} {n:String} {vs:Array Value} {Q:Unit→Shared→Prop} (ho:s.heap.get? it=some o) (hc:o.cls = .type n) (hd:o.data = .fields vs)
    (hn : ["enumerate", "zip", "dict_itemiterator", "dict_reverseitemiterator", "odict_iterator", "itertools.zip_longest", "itertools.pairwise"].contains n=false) (hQ:Q () s):wpAny M A (letOwnedTupleGo tg (.ref it) u) Q E s:=by
  unfold letOwnedTupleGo;cases tg <;> first
    | exact wpAny_pure hQ
    | (cases u <;> first
        | exact wpAny_pure hQ
        | (refine wpAny_bind (wpAny_load ho ?_)
           rw[hc,hd];show wpAny M A (if (["enumerate", "zip", "dict_itemiterator", "dict_reverseitemiterator", "odict_iterator", "itertools.zip_longest", "itertools.pairwise"].contains n && vs[0]? == some (rawInt _))=true then _ else _) Q E s
           rw[if_neg (by intro h;rw[hn,Bool.false_and] at h;cases h)];exact wpAny_pure hQ))
def Va (K:W.Frag) (a:Addr):It:=
  ⟨fun i H=>∃xs x,aX K H a xs∧xs[i]? = some x,fun i H x H'=>H'=H∧∀xs,aX K H a xs→xs[i]? = some x,fun i H=>∃xs,aX K H a xs∧xs.length≤i⟩
def Zo (K:W.Frag) (a:Addr):It:=
  ⟨fun i H=>∃xs x,d9 K H a xs∧xs[i]? = some x,fun i H x H'=>H'=H∧∀xs,d9 K H a xs→xs[i]? = some x,fun i H=>∃xs,d9 K H a xs∧xs.length≤i⟩
def Nr (lo:Int) (n:Nat):It:=⟨fun i _=>i<n,fun i H x H'=>H'=H∧x = .int (lo+i),fun i _=>n≤i⟩
theorem G4 {P:Program} {w:World} {K:W.Frag} {tg:Expr} (a it:Addr):Turn P w K tg (Va K a) [it] it (fun i h=>h.IsListIter it a i) where
  mem:=by simp
  obj:=fun i h st b hb=>by
    have e:b=it:=by simpa using hb
    subst e;obtain⟨o,e,c,d⟩:=st;exact⟨o,e,fun v z=>by rw[d] at z;cases z⟩
  keep:=fun i h h' st k=>st.at fun o e=>k it (by simp) o e
  item:=by
    intro X hP hw hK hc i p_ s σ H E I hf st hg;subst hP hw hK;obtain⟨xs,x,hq,hx⟩:=hg;obtain⟨its,rv,p,hz⟩:=I.list hq;obtain⟨u,hu,ru⟩:=rv.get hx;obtain⟨f0,f1,f2,f3,f4,f5⟩:=hf it (by simp);refine wpAny_pyNext_list_item st p.isList (x:=u) (by simpa using hu) fun h' st' sb=>?_;have I1:Inv X p_ σ H {s with heap:=h'}:=I.turned (t':=s.toks) (fun b o hb e=>(sb.2 b hb).trans e) f0 f1 f3 f4 f5;obtain⟨o,e,c,d⟩:=id st';exact⟨u,rfl,Vr (s:={s with heap:=h'}) e c d (by decide) ⟨x,H,I1,ru,⟨rfl,fun ys hy=>by rw[I.qD hy hq];exact hx⟩,st',fun b hb=>(hf b hb).1⟩⟩
  done:=by
    intro X hP hw hK hc i p_ s σ H E I hf st hg;subst hP hw hK;obtain⟨xs,hq,hx⟩:=hg;obtain⟨its,rv,p,hz⟩:=I.list hq;obtain⟨f0,f1,f2,f3,f4,f5⟩:=hf it (by simp);have hl:=rv.length;exact wpAny_pyNext_list_end (I.ok.hd hc) st p.isList (by simp;omega) fun h' eb=>⟨rfl,I.turned (t':=s.toks) (fun b o hb e=>eb b o hb e) f0 f1 f3 f4 f5⟩
  self:=fun _ _ _ _ _ st h=>wpAny_pyIter_listiter st h
theorem Cq {P:Program} {w:World} {K:W.Frag} {tg:Expr} (a it:Addr):Turn P w K tg (Zo K a) [it] it (fun i h=>h.IsTupleIter it a i) where
  mem:=by simp
  obj:=fun i h st b hb=>by
    have e:b=it:=by simpa using hb
    subst e;obtain⟨o,e,c,d⟩:=st;exact⟨o,e,fun v z=>by rw[d] at z;cases z⟩
  keep:=fun i h h' st k=>st.at fun o e=>k it (by simp) o e
  item:=by
    intro X hP hw hK hc i p_ s σ H E I hf st hg;subst hP hw hK;obtain⟨xs,x,hq,hx⟩:=hg;obtain⟨its,rv,p,hz⟩:=I.tuple hq;obtain⟨u,hu,ru⟩:=rv.get hx;obtain⟨f0,f1,f2,f3,f4,f5⟩:=hf it (by simp);refine wpAny_pyNext_tuple_item st (show s.heap.IsTuple a its.toArray from p) (x:=u) (by simpa using hu) fun h' st' sb=>?_;have I1:Inv X p_ σ H {s with heap:=h'}:=I.turned (t':=s.toks) (fun b o hb e=>(sb.2 b hb).trans e) f0 f1 f3 f4 f5;obtain⟨o,e,c,d⟩:=id st';exact⟨u,rfl,Vr (s:={s with heap:=h'}) e c d (by decide) ⟨x,H,I1,ru,⟨rfl,fun ys hy=>by rw[I.RL hy hq];exact hx⟩,st',fun b hb=>(hf b hb).1⟩⟩
  done:=by
    intro X hP hw hK hc i p_ s σ H E I hf st hg;subst hP hw hK;obtain⟨xs,hq,hx⟩:=hg;obtain⟨its,rv,p,hz⟩:=I.tuple hq;obtain⟨f0,f1,f2,f3,f4,f5⟩:=hf it (by simp);have hl:=rv.length;exact wpAny_pyNext_tuple_end (I.ok.hd hc) st (show s.heap.IsTuple a its.toArray from p) (by simp;omega) fun h' eb=>⟨rfl,I.turned (t':=s.toks) (fun b o hb e=>eb b o hb e) f0 f1 f3 f4 f5⟩
  self:=fun _ _ _ _ _ st h=>wpAny_pyIter_tupleiter st h
theorem Ny {P:Program} {w:World} {K:W.Frag} {tg:Expr} (it:Addr) (lo:Int) (n:Nat):Turn P w K tg (Nr lo n) [it] it (fun i h=>IsRangeIter h it (lo+(i:Nat) * 1) ((n:Int) - (i:Nat)) 1) where
  mem:=by simp
  obj:=fun i h st b hb=>by
    have e:b=it:=by simpa using hb
    subst e;exact⟨_,st,fun v z=>by
      have z':Data.fields _=Data.cell v:=z;cases z'⟩
  keep:=fun i h h' st k=>k it (by simp) _ st
  item:=by
    intro X hP hw hK hc i p_ s σ H E I hf st hg;subst hP hw hK;obtain⟨f0,f1,f2,f3,f4,f5⟩:=hf it (by simp);have mV:=Walks.range (prog:=X.prog) (w:=X.w) (I.ok.hd hc) it lo 1 n;refine mV.item i s _ _ hg st fun v h' tk hv st' kk=>?_;obtain⟨t,rfl⟩:=hv;have I1:Inv X p_ σ H {s with heap:=h',toks:=tk}:=I.turned (fun b o hb e=>kk b o (by simpa using hb) e) f0 f1 f3 f4 f5;refine⟨_,rfl,Vr (s:={s with heap:=h',toks:=tk}) (n:= "range_iterator") st' rfl rfl (by decide) ⟨.int (lo+i),H,I1,⟨t,?_⟩,⟨rfl,rfl⟩,st',fun b hb=>(hf b hb).1⟩⟩;rw[Int.mul_one]
  done:=by
    intro X hP hw hK hc i p_ s σ H E I hf st hg;subst hP hw hK;obtain⟨f0,f1,f2,f3,f4,f5⟩:=hf it (by simp);exact wpAny_pyNext_range_end (I.ok.hd hc) st (by have:n≤i:=hg;omega) fun h' eb=>⟨rfl,I.turned (t':=s.toks) (fun b o hb e=>eb b o hb e) f0 f1 f3 f4 f5⟩
  self:=fun _ _ _ _ _ st h=>wpAny_pyIter_rangeiter st h
section
variable {X:Cx} {tg:Expr}
def Qq (K:W.Frag) (tl:TE):TI:=fun σ H R=>tl σ H fun x H1=>∃a,x = .ref a∧(∃xs,aX K H1 a xs)∧R (Va K a) H1
def qb3 (K:W.Frag) (tl:TE):TI:=fun σ H R=>tl σ H fun x H1=>∃a,x = .ref a∧(∃xs,d9 K H1 a xs)∧R (Zo K a) H1
theorem Zq {l:Expr} {tl:TE} (hl:PE X l tl):PI X tg l (Qq X.K tl):=by
  intro p_ s σ H R I h;refine cN (hl p_ s σ H _ I h) fun v s1 zz=>?_;obtain⟨x,H1,I1,r1,q1⟩:=zz;obtain⟨a,e,⟨xs,hq⟩,q⟩:=q1;subst e;cases r1;obtain⟨its,rv,p,hz⟩:=I1.list hq;refine wpAny_pyIter_list p.isList ?_;refine⟨s1.heap.objs.size,[s1.heap.objs.size],_,_,H1,rfl,I1.kept (t':=s1.toks) fun b o e=>Heap.get?_push_of_some _ e,G4 a _,⟨_,Heap.get?_push_size _ rfl,rfl,rfl⟩,fun b hb=>?_,q⟩;have e:b=s1.heap.objs.size:=by simpa using hb
  subst e;exact I1.Bh (Nat.le_refl _) (I1.hok.fresh (Nat.le_refl _))
theorem qb4 {l:Expr} {tl:TE} (hl:PE X l tl):PI X tg l (qb3 X.K tl):=by
  intro p_ s σ H R I h;refine cN (hl p_ s σ H _ I h) fun v s1 zz=>?_;obtain⟨x,H1,I1,r1,q1⟩:=zz;obtain⟨a,e,⟨xs,hq⟩,q⟩:=q1;subst e;cases r1;obtain⟨its,rv,p,hz⟩:=I1.tuple hq;refine wpAny_pyIter_tuple (show s1.heap.IsTuple a its.toArray from p) ?_;refine⟨s1.heap.objs.size,[s1.heap.objs.size],_,_,H1,rfl,I1.kept (t':=s1.toks) fun b o e=>Heap.get?_push_of_some _ e,Cq a _,⟨_,Heap.get?_push_size _ rfl,rfl,rfl⟩,fun b hb=>?_,q⟩;have e:b=s1.heap.objs.size:=by simpa using hb
  subst e;exact I1.Bh (Nat.le_refl _) (I1.hok.fresh (Nat.le_refl _))
theorem KJ {p_:List (Addr×Obj)} {σ:St} {H:Hp} {s:Shared} {R:It→Hp→Prop} {E:Value→Shared→Prop} {lo hi:Int} {t u v:Tok} {tk:Nat} (I:Inv X p_ σ H s) (h1 : -(2 ^ 62)≤lo) (h2:lo<2 ^ 62) (h3 : -(2 ^ 62)≤hi) (h4:hi<2 ^ 62)
    (q:R (Nr lo (hi - lo).toNat) H):wpAny (model X.prog X.w) X.A (pyIter (.ref s.heap.objs.size)) (PIE X p_ σ tg R) E {s with heap:=s.heap.push {cls:=.type "range",data:=.fields #[.int lo t,.int hi u,.int 1 v]},toks:=tk}:=by
  refine wpAny_pyIter_range (IsRange.new ..) (small_one h1 h2 h3 h4) ?_;have I1:Inv X p_ σ H {s with heap:=s.heap.push {cls:=.type "range",data:=.fields #[.int lo t,.int hi u,.int 1 v]},toks:=tk}:=I.kept fun b o e=>Heap.get?_push_of_some _ e;refine⟨(s.heap.push {cls:=.type "range",data:=.fields #[.int lo t,.int hi u,.int 1 v]}).objs.size,[(s.heap.push {cls:=.type "range",data:=.fields #[.int lo t,.int hi u,.int 1 v]}).objs.size],_,_,H,rfl,
    I1.kept (t':=tk) fun b o e=>Heap.get?_push_of_some _ e,Ny _ lo (hi - lo).toNat,?_,fun b hb=>?_,q⟩
  · have e1:lo+((0:Nat):Int) * 1=lo:=by simp
    have e2:(((hi - lo).toNat:Nat):Int) - ((0:Nat):Int)=Builtin.Range.rangeSize lo hi 1:=by rw[rangeSize_one];split <;> omega
    show IsRangeIter _ _ (lo+((0:Nat):Int) * 1) ((((hi - lo).toNat:Nat):Int) - ((0:Nat):Int)) 1;rw[e1,e2];exact Heap.get?_push_size _ rfl
  · have e:b=(s.heap.push {cls:=.type "range",data:=.fields #[.int lo t,.int hi u,.int 1 v]}).objs.size:=by simpa using hb
    subst e;exact I1.Bh (Nat.le_refl _) (I1.hok.fresh (Nat.le_refl _))
def Vs (ta:TA):TI:=fun σ H R=>ta σ H fun vs H1=>∃j:Int,vs=[.int j]∧-(2 ^ 62)≤j∧j<2 ^ 62∧R (Nr 0 j.toNat) H1
def Vt (ta:TA):TI:=fun σ H R=>ta σ H fun vs H1=>∃i j:Int,vs=[.int i,.int j]∧(-(2 ^ 62)≤i∧i<2 ^ 62∧-(2 ^ 62)≤j∧j<2 ^ 62)∧R (Nr i (j - i).toNat) H1
theorem uK {a:Expr} {ta:TA} {p pos:Pos} (hg:Gl X "range") (hm:X.mg "range" = none) (ha:PA X [a] ta) (hs:starEach [a] X.env=[(false,eval a X.env)]:=by rfl):PI X tg (.Call (.Name "range" p) [a] [] pos) (Vs ta):=by
  intro p_ s σ H R I h;refine Call_ (pH I hg hm boot_range (PyProof.Rows.callWith_type1 (cN (ha pos p_ s σ H _ I h) fun us s1 zz=>?_) hs rfl));obtain⟨vs,H1,I1,r1,q1⟩:=zz;obtain⟨j,e,q1,q2,q⟩:=q1;subst e;cases r1 with
  | cons r rr=>
    cases rr;obtain⟨t,rfl⟩:=r;exact call_range_1 (KJ I1 (by omega) (by omega) q1 q2 (by simpa using q))
theorem RQ {a b:Expr} {ta:TA} {p pos:Pos} (hg:Gl X "range") (hm:X.mg "range" = none) (ha:PA X [a,b] ta) (hs:starEach [a,b] X.env=[(false,eval a X.env),(false,eval b X.env)]:=by rfl) (hs2:starEach [b] X.env=[(false,eval b X.env)]:=by rfl) :
    PI X tg (.Call (.Name "range" p) [a,b] [] pos) (Vt ta):=by
  intro p_ s σ H R I h;refine Call_ (pH I hg hm boot_range (PyProof.Rows.callWith_type1 (cN (ha pos p_ s σ H _ I h) fun us s1 zz=>?_) (by rw[hs,hs2]) (by rw[hs2];rfl)));obtain⟨vs,H1,I1,r1,q1⟩:=zz;obtain⟨i,j,e,⟨q1,q2,q3,q4⟩,q⟩:=q1;subst e;cases r1 with
  | cons r rr=>
    cases rr with
    | cons r' rr=>
      cases rr;obtain⟨t,rfl⟩:=r;obtain⟨t',rfl⟩:=r';exact call_range_2 (KJ I1 q1 q2 q3 q4 q)
def qeT (wi:TI) (g:TG) (tb:TS):TS:=fun D σ H=>wi σ H fun J H1=>∃mV:Nat→Nat→St→Hp→Prop,(∃m,mV 0 m σ H1)∧∀i m σ H,mV i m σ H→
  (J.stop i H∧D.nx σ H)∨(J.go i H∧∃N:St→Hp→Prop,(∀σ' H',N σ' H'→∃m',m'<m∧mV (i+1) m' σ' H')∧∀x H',J.RP i H x H'→g x σ H' fun σ2 H2=>tb {D with nx:=N,ct:=N,bk:=D.nx} σ2 H2)
def yW (fp:List Addr) (h:Heap):List (Addr×Obj):=fp.filterMap fun b=>(h.get? b).map fun o=>(b,o)
theorem kJ {fp:List Addr} {h:Heap} {b:Addr} {o:Obj} (hb:b∈fp) (e:h.get? b=some o):(b,o)∈yW fp h:=List.mem_filterMap.mpr ⟨b,hb,by rw[e];rfl⟩
theorem RV {fp:List Addr} {h:Heap} {p:Addr×Obj} (hp:p∈yW fp h):p.1∈fp∧h.get? p.1=some p.2:=by
  obtain⟨b,hb,e⟩:=List.mem_filterMap.mp hp;cases q:h.get? b with
  | none=>rw[q] at e;cases e
  | some o=>
    rw[q] at e;have e':(b,o)=p:=Option.some.inj e;subst e';exact⟨hb,q⟩
theorem Inv.pinned {p_:List (Addr×Obj)} {σ:St} {H:Hp} {s:Shared} {fp:List Addr} (I:Inv X p_ σ H s) (hf:∀b∈fp,mW X p_ H b) (ho:∀b∈fp,∃o,s.heap.get? b=some o∧∀v,o.data≠.cell v):Inv X (p_++yW fp s.heap) σ H s:=
  I.Qo fun p hp=>(List.mem_append.mp hp).elim (fun z=>I.pin p (List.mem_append_right _ z)) fun z=>by
    obtain⟨hb,e⟩:=RV z;obtain⟨f0,f1,f2,_⟩:=hf p.1 hb;obtain⟨o,e',d⟩:=ho p.1 hb;rw[e] at e';cases e';exact⟨e,f0,f1,f2,d⟩
theorem Inv.tV {p_ pl:List (Addr×Obj)} {σ:St} {H:Hp} {s:Shared} (I:Inv X (p_++pl) σ H s):Inv X p_ σ H s:=I.Qo fun p hp=>I.pin p (List.mem_append_right _ (List.mem_append_left _ hp))
theorem iI {iter:Expr} {body:List Stmt} {wi:TI} {g:TG} {tb:TS} {pos:Pos} (hp:PassesOwn (model X.prog X.w) X.A X.env X.xe) (hc:X.calm=true) (hi:PI X tg iter wi) (hg:PG X tg g) (hb:Gn X body tb)
    (hs:∀x,foldedSetIterable iter X.env x=pure x:=by intro _;rfl):PS X (.For tg iter body [] pos) (qeT wi g tb):=by
  intro p_ s σ H D I h;refine wpAny_For (cN (hi p_ s σ H _ I h) fun v s1 h1=>cN h1 fun itv s2 h2=>?_) hs;obtain⟨it,fp,tn,J,H2,e,I2,T,st2,f2,mV,⟨m0,w0⟩,turn⟩:=h2;subst e;have stat:∀{H':Hp},(∀b∈fp,H' b=none)→∀b∈fp,mW X p_ H' b:=fun hn b hb=>⟨hn b hb,(f2 b hb).2⟩;refine codeAny_forLoop_any (fun n s'=>∃i σ' H',Inv X p_ σ' H' s'∧tn i s'.heap∧(∀b∈fp,H' b=none)∧mV i n σ' H') ?_ m0 ⟨0,σ,H2,I2,st2,fun b hb=>(f2 b hb).1,w0⟩;rintro n s3 ⟨i,σ3,H3,I3,st3,fr3,w3⟩
  rcases turn i n σ3 H3 w3 with⟨stop,qn⟩ | ⟨go,N,hN,step⟩
  ·refine wpAny_passesOwn hp (cN (T.done X rfl rfl rfl hc i p_ s3 σ3 H3 X.xe I3 (stat fr3) st3 stop) fun r s4 zz=>?_);obtain⟨hr,I4⟩:=zz;subst hr;exact wpAny_execs_nil ⟨σ3,H3,I4,qn⟩
  · refine wpAny_passesOwn hp (cN (T.item X rfl rfl rfl hc i p_ s3 σ3 H3 X.xe I3 (stat fr3) st3 go) fun r s4 zz=>?_);obtain⟨u,hr,h4⟩:=zz;subst hr;refine wpAny_passesOwn hp (cN h4 fun _ s5 zz=>?_);obtain⟨x,H5,I5,r5,y5,Vu,fr5⟩:=zz;have I5':=I5.pinned (stat fr5) (T.obj _ _ Vu);refine wpAny_passesOwn hp (cN (hg _ s5 σ3 H5 x u _ I5' r5 (step x H5 y5)) fun _ s6 zz=>?_);obtain⟨σ6,H6,I6,q6⟩:=zz;refine wpAny_passesOwn hp (cN (hb _ s6 σ6 H6 _ I6 q6) fun f s7 q7=>?_);have again:∀{σ7:St} {H7:Hp},Inv X (p_++yW fp s5.heap) σ7 H7 s7→N σ7 H7→∃m,m<n∧∃i σ' H',Inv X p_ σ' H' s7∧tn i s7.heap∧(∀b∈fp,H' b=none)∧mV i m σ' H':=fun {σ7 H7} I7 n7=>by
      obtain⟨m',hm,w7⟩:=hN σ7 H7 n7;refine⟨m',hm,i+1,σ7,H7,I7.tV,T.keep _ _ _ Vu fun b hb o e=>(I7.pin (b,o) (List.mem_append_right _ (List.mem_append_right _ (kJ hb e)))).1,fun b hb=>?_,w7⟩;obtain⟨o,e,d⟩:=T.obj _ _ Vu b hb;exact(I7.pin (b,o) (List.mem_append_right _ (List.mem_append_right _ (kJ hb e)))).2.1
    cases f with
    | next=>obtain⟨σ7,H7,I7,n7⟩:=q7;exact again I7 n7
    | cont=>obtain⟨σ7,H7,I7,n7⟩:=q7;exact again I7 n7
    | brk=>obtain⟨σ7,H7,I7,q7⟩:=q7;exact⟨σ7,H7,I7.tV,q7⟩
    | ret v=>obtain⟨x7,σ7,H7,I7,r7,q7⟩:=q7;exact⟨x7,σ7,H7,I7.tV,r7,q7⟩
end
theorem KN {K:W.Frag} {a:Addr} {xs:List V} {g:TG} {tb:TS} {D:Ends} {σ:St} {H:Hp} (Pv:Nat→St→Hp→Prop) (h0:Pv 0 σ H) (hl:∀i σ H,i≤xs.length→Pv i σ H→aX K H a xs)
    (hs:∀i x σ H,xs[i]? = some x→Pv i σ H→g x σ H fun σ2 H2=>tb {D with nx:=Pv (i+1),ct:=Pv (i+1),bk:=D.nx} σ2 H2) (hd:∀σ H,Pv xs.length σ H→D.nx σ H) :
    ∃mV:Nat→Nat→St→Hp→Prop,(∃m,mV 0 m σ H)∧∀i m σ H,mV i m σ H→
      ((Va K a).stop i H∧D.nx σ H)∨((Va K a).go i H∧∃N:St→Hp→Prop,(∀σ' H',N σ' H'→∃m',m'<m∧mV (i+1) m' σ' H')∧∀x H',(Va K a).RP i H x H'→g x σ H' fun σ2 H2=>tb {D with nx:=N,ct:=N,bk:=D.nx} σ2 H2):=by
  refine⟨fun i m σ H=>m=xs.length - i∧i≤xs.length∧Pv i σ H,⟨xs.length,by simp,Nat.zero_le _,h0⟩,?_⟩;rintro i m σ H ⟨rfl,hi,p⟩;have q:=hl i σ H hi p
  by_cases hlt:i<xs.length
  ·refine .inr ⟨⟨xs,xs[i],q,by simp[hlt]⟩,Pv (i+1),fun σ' H' p'=>⟨xs.length - (i+1),by omega,rfl,hlt,p'⟩,fun x H' y=>?_⟩;obtain⟨e,y⟩:=y;subst e;exact hs i x σ _ (y xs q) p
  · have e:i=xs.length:=by omega
    subst e;exact .inl ⟨⟨xs,q,Nat.le_refl _⟩,hd σ H p⟩
theorem Zr {K:W.Frag} {a:Addr} {xs:List V} {g:TG} {tb:TS} {D:Ends} {σ:St} {H:Hp} (Pv:Nat→St→Hp→Prop) (h0:Pv 0 σ H) (hl:∀i σ H,i≤xs.length→Pv i σ H→d9 K H a xs)
    (hs:∀i x σ H,xs[i]? = some x→Pv i σ H→g x σ H fun σ2 H2=>tb {D with nx:=Pv (i+1),ct:=Pv (i+1),bk:=D.nx} σ2 H2) (hd:∀σ H,Pv xs.length σ H→D.nx σ H) :
    ∃mV:Nat→Nat→St→Hp→Prop,(∃m,mV 0 m σ H)∧∀i m σ H,mV i m σ H→
      ((Zo K a).stop i H∧D.nx σ H)∨((Zo K a).go i H∧∃N:St→Hp→Prop,(∀σ' H',N σ' H'→∃m',m'<m∧mV (i+1) m' σ' H')∧∀x H',(Zo K a).RP i H x H'→g x σ H' fun σ2 H2=>tb {D with nx:=N,ct:=N,bk:=D.nx} σ2 H2):=by
  refine⟨fun i m σ H=>m=xs.length - i∧i≤xs.length∧Pv i σ H,⟨xs.length,by simp,Nat.zero_le _,h0⟩,?_⟩;rintro i m σ H ⟨rfl,hi,p⟩;have q:=hl i σ H hi p
  by_cases hlt:i<xs.length
  ·refine .inr ⟨⟨xs,xs[i],q,by simp[hlt]⟩,Pv (i+1),fun σ' H' p'=>⟨xs.length - (i+1),by omega,rfl,hlt,p'⟩,fun x H' y=>?_⟩;obtain⟨e,y⟩:=y;subst e;exact hs i x σ _ (y xs q) p
  · have e:i=xs.length:=by omega
    subst e;exact .inl ⟨⟨xs,q,Nat.le_refl _⟩,hd σ H p⟩
theorem RW {lo:Int} {n:Nat} {g:TG} {tb:TS} {D:Ends} {σ:St} {H:Hp} (Pv:Nat→St→Hp→Prop) (h0:Pv 0 σ H)
    (hs:∀i σ H,i<n→Pv i σ H→g (.int (lo+i)) σ H fun σ2 H2=>tb {D with nx:=Pv (i+1),ct:=Pv (i+1),bk:=D.nx} σ2 H2) (hd:∀σ H,Pv n σ H→D.nx σ H) :
    ∃mV:Nat→Nat→St→Hp→Prop,(∃m,mV 0 m σ H)∧∀i m σ H,mV i m σ H→
      ((Nr lo n).stop i H∧D.nx σ H)∨((Nr lo n).go i H∧∃N:St→Hp→Prop,(∀σ' H',N σ' H'→∃m',m'<m∧mV (i+1) m' σ' H')∧∀x H',(Nr lo n).RP i H x H'→g x σ H' fun σ2 H2=>tb {D with nx:=N,ct:=N,bk:=D.nx} σ2 H2):=by
  refine⟨fun i m σ H=>m=n - i∧i≤n∧Pv i σ H,⟨n,by simp,Nat.zero_le _,h0⟩,?_⟩;rintro i m σ H ⟨rfl,hi,p⟩
  by_cases hlt:i<n
  ·refine .inr ⟨hlt,Pv (i+1),fun σ' H' p'=>⟨n - (i+1),by omega,rfl,hlt,p'⟩,fun x H' y=>?_⟩;obtain⟨e,y⟩:=y;subst e y;exact hs i σ _ hlt p
  · have e:i=n:=by omega
    subst e;exact .inl ⟨Nat.le_refl _,hd σ H p⟩
theorem Vv {c:TT} {tb:TS} {D:Ends} {σ:St} {H:Hp} (Pv:St→Hp→Prop) (μ:St→Hp→Nat) (h0:Pv σ H)
    (hs:∀σ H,Pv σ H→c σ H fun b H1=>if b=true then tb {D with nx:=fun σ' H'=>Pv σ' H'∧μ σ' H'<μ σ H,ct:=fun σ' H'=>Pv σ' H'∧μ σ' H'<μ σ H,bk:=D.nx} σ H1 else D.nx σ H1)
    (mono:∀σ H Q Q',(∀b H1,Q b H1→Q' b H1)→c σ H Q→c σ H Q'):Iv c tb D σ H:=by
  refine⟨fun m σ H=>m=μ σ H∧Pv σ H,⟨_,rfl,h0⟩,?_⟩;rintro m σ H ⟨rfl,p⟩;refine mono σ H _ _ (fun b H1 q=>?_) (hs σ H p);cases b with
  | true=>exact⟨_,fun σ' H' ⟨p',l⟩=>⟨_,l,rfl,p'⟩,q⟩
  | false=>exact q
abbrev R2:=V→V→Hp→VK→Prop
def jk (X:Cx) (f:Value→Value→Sem Value) (r:R2):Prop:=
  ∀(p_:List (Addr×Obj)) (s:Shared) (σ:St) (H:Hp) (x y:V) (v u:Value) (Q:VK),Inv X p_ σ H s→RelV x v→RelV y u→r x y H Q→
    wpAny (model X.prog X.w) X.A (f v u) (EP X p_ σ Q) X.xe s
def UnR (X:Cx) (f:Value→Sem Value) (r:V→Hp→VK→Prop):Prop:=
  ∀(p_:List (Addr×Obj)) (s:Shared) (σ:St) (H:Hp) (x:V) (v:Value) (Q:VK),Inv X p_ σ H s→RelV x v→r x H Q→
    wpAny (model X.prog X.w) X.A (f v) (EP X p_ σ Q) X.xe s
def cP (X:Cx) (f:Value) (r:List V→Hp→VK→Prop):Prop:=
  ∀(p_:List (Addr×Obj)) (s:Shared) (σ:St) (H:Hp) (xs:List V) (us:List Value) (Q:VK),Inv X p_ σ H s→Vals xs us→r xs H Q→
    wpAny (model X.prog X.w) X.A (call f us) (EP X p_ σ Q) X.xe s
def Y6 (r:R2) (ta tb:TE):TE:=fun σ H Q=>ta σ H fun x H1=>tb σ H1 fun y H2=>r x y H2 Q
def tUn (r:V→Hp→VK→Prop) (ta:TE):TE:=fun σ H Q=>ta σ H fun x H1=>r x H1 Q
def rI (C:Int→Int→Prop) (g:Int→Int→V):R2:=fun x y H Q=>∃i j,x = .int i∧y = .int j∧C i j∧Q (g i j) H
def rI0 (g:Int→Int→V):R2:=fun x y H Q=>∃i j,x = .int i∧y = .int j∧Q (g i j) H
def rU (g:Int→V):V→Hp→VK→Prop:=fun x H Q=>∃i,x = .int i∧Q (g i) H
section
variable {X:Cx} {a b c:Expr} {ta tb tc:TE} {pos:Pos}
theorem qb5 (ha:PE X a ta) (hb:PE X b tb) {p_:List (Addr×Obj)} {s:Shared} {σ:St} {H:Hp} {R:V→V→Hp→Prop} (I:Inv X p_ σ H s)
    (h:ta σ H fun x H1=>tb σ H1 fun y H2=>R x y H2) {Q:Value→Shared→Prop} {f:Value→Value→Sem Value}
    (hf:∀v u s2 x y H2,Inv X p_ σ H2 s2→RelV x v→RelV y u→R x y H2→wpAny (model X.prog X.w) X.A (f v u) Q X.xe s2) :
    wpAny (model X.prog X.w) X.A (eval a X.env) (fun v s₁=>wpAny (model X.prog X.w) X.A (eval b X.env) (fun u s₂=>wpAny (model X.prog X.w) X.A (f v u) Q X.xe s₂) X.xe s₁) X.xe s:=by
  refine cN (ha p_ s σ H _ I h) fun v s1 zz=>?_;obtain⟨x,H1,I1,r1,q1⟩:=zz;refine cN (hb p_ s1 σ H1 _ I1 q1) fun u s2 zz=>?_;obtain⟨y,H2,I2,r2,q2⟩:=zz;exact hf v u s2 x y H2 I2 r1 r2 q2
theorem dF {op:Operator} {r:R2} (ho:jk X (binaryOp op) r) (ha:PE X a ta) (hb:PE X b tb):PE X (.BinOp a op b pos) (Y6 r ta tb):=by
  intro p_ s σ H Q I h;exact wpAny_BinOp (qb5 ha hb I h fun v u s2 x y H2 I2 rx ry q=>ho p_ s2 σ H2 x y v u Q I2 rx ry q)
theorem tW {op:UnaryOp} {r:V→Hp→VK→Prop} (ho:UnR X (unaryOp op) r) (ha:PE X a ta):PE X (.UnaryOp op a pos) (tUn r ta):=by
  intro p_ s σ H Q I h;refine UnaryOp_ (cN (ha p_ s σ H _ I h) fun v s1 zz=>?_);obtain⟨x,H1,I1,r1,q1⟩:=zz;exact ho p_ s1 σ H1 x v Q I1 r1 q1
theorem opI {f:Value→Value→Sem Value} {C:Int→Int→Prop} {g:Int→Int→Int}
    (rule:∀(i j:Int) (t u:Tok) (s:Shared) (Q:Value→Shared→Prop) (E:Value→Shared→Prop),C i j→Q (.int (g i j) s.toks) {s with toks:=s.toks+1}→wpAny (model X.prog X.w) X.A (f (.int i t) (.int j u)) Q E s) :
    jk X f (rI C fun i j=>.int (g i j)):=by
  intro p_ s σ H x y v u Q I rx ry h;obtain⟨i,j,rfl,rfl,hc,q⟩:=h;obtain⟨t,rfl⟩:=rx;obtain⟨t',rfl⟩:=ry;exact rule i j t t' s _ _ hc ⟨.int (g i j),H,I.tok _,⟨_,rfl⟩,q⟩
theorem qeU {f:Value→Value→Sem Value} {g:Int→Int→Int}
    (rule:∀(i j:Int) (t u:Tok) (s:Shared) (Q:Value→Shared→Prop) (E:Value→Shared→Prop),Q (.int (g i j) s.toks) {s with toks:=s.toks+1}→wpAny (model X.prog X.w) X.A (f (.int i t) (.int j u)) Q E s) :
    jk X f (rI0 fun i j=>.int (g i j)):=by
  intro p_ s σ H x y v u Q I rx ry h;obtain⟨i,j,rfl,rfl,q⟩:=h;obtain⟨t,rfl⟩:=rx;obtain⟨t',rfl⟩:=ry;exact rule i j t t' s _ _ ⟨.int (g i j),H,I.tok _,⟨_,rfl⟩,q⟩
theorem qb6 {f:Value→Value→Sem Value} {g:Int→Int→Bool}
    (rule:∀(i j:Int) (t u:Tok) (s:Shared) (Q:Value→Shared→Prop) (E:Value→Shared→Prop),Q (.bool (g i j)) s→wpAny (model X.prog X.w) X.A (f (.int i t) (.int j u)) Q E s) :
    jk X f (rI0 fun i j=>.bl (g i j)):=by
  intro p_ s σ H x y v u Q I rx ry h;obtain⟨i,j,rfl,rfl,q⟩:=h;obtain⟨t,rfl⟩:=rx;obtain⟨t',rfl⟩:=ry;exact rule i j t t' s _ _ ⟨.bl (g i j),H,I,rfl,q⟩
@[simp] def RX (i j:Int):Prop:=0<j∧j<1073741824
@[simp] def qeV (i j:Int):Prop:=0≤j∧j≤1000000∧i.natAbs<2 ^ 64
@[simp] def Zt (i j:Int):Prop:=(-(2 ^ 64)<i∧i<2 ^ 64)∨(-(2 ^ 64)<j∧j<2 ^ 64)
theorem Zt.ok {i j:Int} (h:Zt i j):IntMulOk i j:=by
  rcases h with⟨h1,h2⟩ | ⟨h1,h2⟩
  ·exact .of_left (intBits_le_64 h1 h2)
  ·exact .of_right (intBits_le_64 h1 h2)
theorem qb7:jk X (binaryOp .Add) (rI0 fun i j=>.int (i+j)):=qeU fun _ _ _ _ _ _ _ q=>add_int q
theorem qb8:jk X (binaryOp .Sub) (rI0 fun i j=>.int (i - j)):=qeU fun _ _ _ _ _ _ _ q=>sub_int q
theorem qb9:jk X (binaryOp .Mult) (rI Zt fun i j=>.int (i * j)):=opI fun _ _ _ _ _ _ _ hc q=>mul_int q hc.ok
theorem Zu:jk X (binaryOp .FloorDiv) (rI RX fun i j=>.int (i / j)):=opI fun i j _ _ _ _ _ hc q=>by
  have h1:(0:Int)<j:=hc.1;have h2:j<1073741824:=hc.2;exact floordiv_int (by omega) (by rw[Int.fdiv_eq_ediv_of_nonneg i (by omega)];exact q) (.inl (PyProof.noPylong_small (by omega)))
theorem qb_:jk X (binaryOp .Mod) (rI (fun _ j=>0<j) fun i j=>.int (i % j)):=opI fun i j _ _ _ _ _ hc q=>by
  have h1:(0:Int)<j:=hc;exact mod_int' (by omega) (by rw[Int.fmod_eq_emod_of_nonneg i (by omega)];exact q)
theorem qca:jk X (binaryOp .Pow) (rI qeV fun i j=>.int (i ^ j.toNat)):=opI fun _ _ _ _ _ _ _ hc q=>pow_int_small hc.1 hc.2.1 hc.2.2 q
theorem unI {f:Value→Sem Value} {g:Int→Int}
    (rule:∀(i:Int) (t:Tok) (s:Shared) (Q:Value→Shared→Prop) (E:Value→Shared→Prop),Q (.int (g i) s.toks) {s with toks:=s.toks+1}→wpAny (model X.prog X.w) X.A (f (.int i t)) Q E s) :
    UnR X f (rU fun i=>.int (g i)):=by
  intro p_ s σ H x v Q I rx h;obtain⟨i,rfl,q⟩:=h;obtain⟨t,rfl⟩:=rx;exact rule i t s _ _ ⟨.int (g i),H,I.tok _,⟨_,rfl⟩,q⟩
theorem qcb:UnR X (unaryOp .USub) (rU fun i=>.int (-i)):=unI fun _ _ _ _ _ q=>neg_int q
end
def Bj:V→V→Bool
  | .non,.non=>true | .non,.int _=>true | .int _,.non=>true | .non,.bl _=>true | .bl _,.non=>true | .non,.str _=>true | .str _,.non=>true
  | .int _,.int _=>true | .bl _,.bl _=>true | .str _,.str _=>true | .U9 _,.U9 _=>true
  | .int _,.str _=>true | .str _,.int _=>true | .bl _,.str _=>true | .str _,.bl _=>true
  | _,_=>false
def rEq:R2:=fun x y H Q=>Bj x y=true∧Q (.bl (decide (x=y))) H
def rNe:R2:=fun x y H Q=>Bj x y=true∧Q (.bl (!decide (x=y))) H
theorem Qs {i j:Int}:decide (V.int i=V.int j)=(i == j):=by
  rw[Bool.eq_iff_iff];simp
theorem Vw {i j:Bool}:decide (V.bl i=V.bl j)=(i == j):=by
  rw[Bool.eq_iff_iff];simp
theorem Qt {i j:Str}:decide (V.str i=V.str j)=(i == j):=by
  rw[Bool.eq_iff_iff];simp
theorem Qu {i j:Array UInt8}:decide (V.U9 i=V.U9 j)=(i.toList == j.toList):=by
  rw[Bool.eq_iff_iff];cases i;cases j;simp
section
variable {X:Cx} {a b c:Expr} {ta tb tc:TE} {pos:Pos}
theorem cD {p_:List (Addr×Obj)} {σ:St} {H:Hp} {s:Shared} {Q:VK} {k k':Bool} (I:Inv X p_ σ H s) (q:Q (.bl k) H) (e:k=k'):EP X p_ σ Q (.bool k') s:=by
  subst e;exact⟨.bl k,H,I,rfl,q⟩
theorem qeW:jk X (compareOp .Eq) rEq:=by
  intro p_ s σ H x y v u Q I rx ry h;obtain⟨hs,q⟩:=h;cases x with
  | non=>
    cases rx;cases y with
    | non=>cases ry;exact PySem.EqNone.eq_none_none (cD I q (by simp))
    | bl j=>cases ry;exact PySem.EqNone.eq_none_bool (cD I q (by simp))
    | int j=>obtain⟨t',rfl⟩:=ry;exact PySem.EqNone.eq_none_int (cD I q (by simp))
    | str j=>obtain⟨t',rfl⟩:=ry;exact PySem.EqNone.eq_none_str (cD I q (by simp))
    | _=>exact absurd (show false=true from hs) Bool.false_ne_true
  | bl i=>
    cases rx;cases y with
    | non=>cases ry;exact PySem.EqNone.eq_bool_none (cD I q (by simp))
    | bl j=>cases ry;exact eq_bool (cD I q Vw)
    | str j=>obtain⟨t',rfl⟩:=ry;exact PySem.EqMixed.eq_bool_str (cD I q (by simp))
    | _=>exact absurd (show false=true from hs) Bool.false_ne_true
  | int i=>
    obtain⟨t,rfl⟩:=rx;cases y with
    | non=>cases ry;exact PySem.EqNone.eq_int_none (cD I q (by simp))
    | int j=>obtain⟨t',rfl⟩:=ry;exact eq_int (cD I q Qs)
    | str j=>obtain⟨t',rfl⟩:=ry;exact PySem.EqMixed.eq_int_str (cD I q (by simp))
    | _=>exact absurd (show false=true from hs) Bool.false_ne_true
  | str i=>
    obtain⟨t,rfl⟩:=rx;cases y with
    | non=>cases ry;exact PySem.EqNone.eq_str_none (cD I q (by simp))
    | bl j=>cases ry;exact PySem.EqMixed.eq_str_bool (cD I q (by simp))
    | int j=>obtain⟨t',rfl⟩:=ry;exact PySem.EqMixed.eq_str_int (cD I q (by simp))
    | str j=>obtain⟨t',rfl⟩:=ry;exact eq_str (cD I q Qt)
    | _=>exact absurd (show false=true from hs) Bool.false_ne_true
  | U9 i=>
    obtain⟨t,rfl⟩:=rx;cases y with
    | U9 j=>obtain⟨t',rfl⟩:=ry;exact W.eq_bytes (cD I q Qu)
    | _=>exact absurd (show false=true from hs) Bool.false_ne_true
  | _=>cases y <;> exact absurd (show false=true from hs) Bool.false_ne_true
theorem qeX:jk X (compareOp .NotEq) rNe:=by
  intro p_ s σ H x y v u Q I rx ry h;obtain⟨hs,q⟩:=h;cases x with
  | non=>
    cases rx;cases y with
    | non=>cases ry;exact PySem.EqNone.ne_none_none (cD I q (by simp))
    | bl j=>cases ry;exact PySem.EqNone.ne_none_bool (cD I q (by simp))
    | int j=>obtain⟨t',rfl⟩:=ry;exact PySem.EqNone.ne_none_int (cD I q (by simp))
    | str j=>obtain⟨t',rfl⟩:=ry;exact PySem.EqNone.ne_none_str (cD I q (by simp))
    | _=>exact absurd (show false=true from hs) Bool.false_ne_true
  | bl i=>
    cases rx;cases y with
    | non=>cases ry;exact PySem.EqNone.ne_bool_none (cD I q (by simp))
    | bl j=>cases ry;exact ne_bool (cD I q (congrArg not Vw))
    | str j=>obtain⟨t',rfl⟩:=ry;exact PySem.EqMixed.ne_bool_str (cD I q (by simp))
    | _=>exact absurd (show false=true from hs) Bool.false_ne_true
  | int i=>
    obtain⟨t,rfl⟩:=rx;cases y with
    | non=>cases ry;exact PySem.EqNone.ne_int_none (cD I q (by simp))
    | int j=>obtain⟨t',rfl⟩:=ry;exact ne_int (cD I q (congrArg not Qs))
    | str j=>obtain⟨t',rfl⟩:=ry;exact PySem.EqMixed.ne_int_str (cD I q (by simp))
    | _=>exact absurd (show false=true from hs) Bool.false_ne_true
  | str i=>
    obtain⟨t,rfl⟩:=rx;cases y with
    | non=>cases ry;exact PySem.EqNone.ne_str_none (cD I q (by simp))
    | bl j=>cases ry;exact PySem.EqMixed.ne_str_bool (cD I q (by simp))
    | int j=>obtain⟨t',rfl⟩:=ry;exact PySem.EqMixed.ne_str_int (cD I q (by simp))
    | str j=>obtain⟨t',rfl⟩:=ry;exact ne_str (cD I q (congrArg not Qt))
    | _=>exact absurd (show false=true from hs) Bool.false_ne_true
  | U9 i=>
    obtain⟨t,rfl⟩:=rx;cases y with
    | U9 j=>obtain⟨t',rfl⟩:=ry;exact W.ne_bytes (cD I q (congrArg not Qu))
    | _=>exact absurd (show false=true from hs) Bool.false_ne_true
  | _=>cases y <;> exact absurd (show false=true from hs) Bool.false_ne_true
theorem qeY:jk X (compareOp .Lt) (rI0 fun i j=>.bl (decide (i<j))):=qb6 fun _ _ _ _ _ _ _ q=>lt_int q
theorem qeZ:jk X (compareOp .LtE) (rI0 fun i j=>.bl (decide (i≤j))):=qb6 fun _ _ _ _ _ _ _ q=>le_int q
theorem qe0:jk X (compareOp .Gt) (rI0 fun i j=>.bl (decide (j<i))):=qb6 fun _ _ _ _ _ _ _ q=>gt_int q
theorem RZ:jk X (compareOp .In) (fun x y H Q=>∃i j,x = .str i∧y = .str j∧Q (.bl (!(Builtin.Str.occurrences j i 0 j.length 1).isEmpty)) H):=by
  intro p_ s σ H x y v u Q I rx ry h;obtain⟨i,j,rfl,rfl,q⟩:=h;obtain⟨t,rfl⟩:=rx;obtain⟨t',rfl⟩:=ry;exact in_str (cD I q rfl)
theorem jk.or {f:Value→Value→Sem Value} {r r':R2} (h:jk X f r) (h':jk X f r'):jk X f (fun x y H Q=>r x y H Q∨r' x y H Q):=by
  intro p_ s σ H x y v u Q I rx ry q
  rcases q with q | q
  ·exact h p_ s σ H x y v u Q I rx ry q
  ·exact h' p_ s σ H x y v u Q I rx ry q
theorem bO (b:Expr) {op:CmpOp} (h:op≠.In:=by decide) (h2:op≠.NotIn:=by decide):behindInMarks op b=false:=by
  have e1:(op == CmpOp.In)=false:=by cases op <;> first | rfl | exact absurd rfl h
  have e2:(op == CmpOp.NotIn)=false:=by cases op <;> first | rfl | exact absurd rfl h2
  cases b <;> simp[behindInMarks,e1,e2]
theorem eG {op:CmpOp} {r:R2} (ho:jk X (compareOp op) r) (ha:PE X a ta) (hb:PE X b tb) (hm:behindInMarks op b=false):PE X (.Compare a [op] [b] pos) (Y6 r ta tb):=by
  intro p_ s σ H Q I h;exact wpAny_Compare1 (qb5 ha hb I h fun v u s2 x y H2 I2 rx ry q=>ho p_ s2 σ H2 x y v u Q I2 rx ry q) hm
def Qv (t:TE):TT:=fun σ H Q=>t σ H fun x H'=>∃k,x = .bl k∧Q k H'
theorem Zv {op:CmpOp} {r:R2} (ho:jk X (compareOp op) r) (ha:PE X a ta) (hb:PE X b tb) (hm:behindInMarks op b=false):PT X (.Compare a [op] [b] pos) (Qv (Y6 r ta tb)):=by
  intro p_ s σ H Q I h;refine wpAny_isTrue_Compare1 (cN (ha p_ s σ H _ I h) fun v s1 ⟨x,H1,I1,r1,q1⟩=>cN (hb p_ s1 σ H1 _ I1 q1) fun u s2 ⟨y,H2,I2,r2,q2⟩=>
    cN (ho p_ s2 σ H2 x y v u _ I2 r1 r2 q2) fun c s3 ⟨z,H3,I3,r3,k,e,q3⟩=>?_) hm
  subst e;cases r3;exact wpAny_truthy_bool ⟨H3,I3,q3⟩
def Iw (r r':R2) (ta tb tc:TE):TE:=fun σ H Q=>ta σ H fun x H1=>tb σ H1 fun y H2=>r x y H2 fun z H3=>∃k,z = .bl k∧
  (if k=true then tc σ H3 fun w' H4=>r' y w' H4 Q else Q (.bl false) H3)
theorem Vx {op op':CmpOp} {r r':R2} (ho:jk X (compareOp op) r) (ho':jk X (compareOp op') r') (ha:PE X a ta) (hb:PE X b tb) (hc:PE X c tc)
    (hm:lastMarks [op,op'] [b,c]=false:=by with_unfolding_all rfl):PE X (.Compare a [op,op'] [b,c] pos) (Iw r r' ta tb tc):=by
  intro p_ s σ H Q I h;refine Compare_chain (cN (ha p_ s σ H _ I h) fun v s1 ⟨x,H1,I1,r1,q1⟩=>chain_link (cN (hb p_ s1 σ H1 _ I1 q1) fun u s2 ⟨y,H2,I2,r2,q2⟩=>
    cN (ho p_ s2 σ H2 x y v u _ I2 r1 r2 q2) fun d s3 ⟨z,H3,I3,r3,k,e,q3⟩=>?_)) hm
  subst e;cases r3;refine wpAny_truthy_bool ?_;cases k with
  | false=>exact ite_ff ⟨.bl false,H3,I3,rfl,q3⟩
  | true=>exact ite_tt (chain_last (cN (hc p_ s3 σ H3 _ I3 q3) fun w' s4 ⟨z',H4,I4,r4,q4⟩=>ho' p_ s4 σ H4 y z' u w' Q I4 r2 r4 q4))
theorem Vy {op op':CmpOp} {r r':R2} (ho:jk X (compareOp op) r) (ho':jk X (compareOp op') r') (ha:PE X a ta) (hb:PE X b tb) (hc:PE X c tc)
    (hm:lastMarks [op,op'] [b,c]=false:=by with_unfolding_all rfl):PT X (.Compare a [op,op'] [b,c] pos) (Qv (Iw r r' ta tb tc)):=by
  intro p_ s σ H Q I h;refine isTrue_chain (cN (ha p_ s σ H _ I h) fun v s1 ⟨x,H1,I1,r1,q1⟩=>test_link (cN (hb p_ s1 σ H1 _ I1 q1) fun u s2 ⟨y,H2,I2,r2,q2⟩=>
    cN (ho p_ s2 σ H2 x y v u _ I2 r1 r2 q2) fun d s3 ⟨z,H3,I3,r3,k,e,q3⟩=>?_)) hm
  subst e;cases r3;refine wpAny_truthy_bool ?_;cases k with
  | false=>
    obtain⟨k',e',q'⟩:=q3;cases e';exact ite_ff ⟨H3,I3,q'⟩
  | true=>
    refine ite_tt (test_last (cN (hc p_ s3 σ H3 _ I3 q3) fun w' s4 ⟨z',H4,I4,r4,q4⟩=>cN (ho' p_ s4 σ H4 y z' u w' _ I4 r2 r4 q4) fun d' s5 ⟨z2,H5,I5,r5,k2,e2,q5⟩=>?_));subst e2;cases r5;exact wpAny_truthy_bool ⟨H5,I5,q5⟩
theorem vU:(sizeLine:Nat)<2 ^ 63:=by rw[sizeLine_eq];decide
theorem Nz:jk X (binaryOp .Add) (fun x y H Q=>∃i j,x = .str i∧y = .str j∧i.length+j.length≤sizeLine∧Q (.str (i++j)) H):=by
  intro p_ s σ H x y v u Q I rx ry h;obtain⟨i,j,rfl,rfl,hz,q⟩:=h;obtain⟨t,rfl⟩:=rx;obtain⟨t',rfl⟩:=ry;exact add_str (fun t' tk=>⟨.str (i++j),H,I.tok _,⟨_,rfl⟩,q⟩) hz
theorem vals1 {x:V} {us:List Value} (r:Vals [x] us):∃u,us=[u]∧RelV x u:=by
  cases r with
  | cons r1 r2=>cases r2;exact⟨_,rfl,r1⟩
theorem vals2 {x y:V} {us:List Value} (r:Vals [x,y] us):∃u w',us=[u,w']∧RelV x u∧RelV y w':=by
  cases r with
  | cons r1 r2=>
    cases r2 with
    | cons r3 r4=>cases r4;exact⟨_,_,rfl,r1,r3⟩
theorem Vz:cP X (.builtin "abs") (fun xs H Q=>∃i,xs=[.int i]∧Q (.int (if i<0 then -i else i)) H):=by
  intro p_ s σ H xs us Q I r h;obtain⟨i,rfl,q⟩:=h;obtain⟨u,rfl,t,rfl⟩:=vals1 r;exact call_abs_int fun u tk=>⟨.int (if i<0 then -i else i),H,I.tok _,⟨_,rfl⟩,q⟩
theorem R0 (hc:X.calm=true):cP X (.builtin "max") (fun xs H Q=>∃i j,xs=[.int i,.int j]∧Q (.int (if j > i then j else i)) H):=by
  intro p_ s σ H xs us Q I r h;obtain⟨i,j,rfl,q⟩:=h;obtain⟨u,w',rfl,⟨t,rfl⟩,⟨t',rfl⟩⟩:=vals2 r;refine max_two_ints (I.ok.hd hc) fun h' tk k=>⟨_,H,I.kept k,?_,q⟩
  by_cases hj:j > i
  ·rw[if_pos hj,if_pos hj];exact⟨_,rfl⟩
  ·rw[if_neg hj,if_neg hj];exact⟨_,rfl⟩
theorem R3 (hc:X.calm=true):cP X (.builtin "min") (fun xs H Q=>∃i j,xs=[.int i,.int j]∧Q (.int (if j<i then j else i)) H):=by
  intro p_ s σ H xs us Q I r h;obtain⟨i,j,rfl,q⟩:=h;obtain⟨u,w',rfl,⟨t,rfl⟩,⟨t',rfl⟩⟩:=vals2 r;refine min_two_ints (I.ok.hd hc) fun h' tk k=>⟨_,H,I.kept k,?_,q⟩
  by_cases hj:j<i
  ·rw[if_pos hj,if_pos hj];exact⟨_,rfl⟩
  ·rw[if_neg hj,if_neg hj];exact⟨_,rfl⟩
theorem R4:cP X (.type "int") (fun xs H Q=>(∃i,xs=[.int i]∧Q (.int i) H)∨∃k,xs=[.bl k]∧Q (.int (if k then 1 else 0)) H):=by
  intro p_ s σ H xs us Q I r h
  rcases h with⟨i,rfl,q⟩ | ⟨k,rfl,q⟩
  ·obtain⟨u,rfl,t,rfl⟩:=vals1 r;exact call_int_int ⟨.int i,H,I,⟨_,rfl⟩,q⟩
  ·obtain⟨u,rfl,r1⟩:=vals1 r;cases r1;exact call_int_bool ⟨.int (if k then 1 else 0),H,I.tok _,⟨_,rfl⟩,q⟩
theorem KQ:cP X (.builtin "divmod") (fun xs H Q=>∃i j,xs=[.int i,.int j]∧RX i j∧∀p,H p=none→Q (.ref p) (upd H p (.tup [.int (i / j),.int (i % j)]))):=by
  intro p_ s σ H xs us Q I r h;obtain⟨i,j,rfl,⟨h1,h2⟩,q⟩:=h;obtain⟨u,w',rfl,⟨t,rfl⟩,⟨t',rfl⟩⟩:=vals2 r;refine divmod_int (by omega) ?_ (.inl (PyProof.noPylong_small (by omega)));rw[Int.fdiv_eq_ediv_of_nonneg i (by omega),Int.fmod_eq_emod_of_nonneg i (by omega)];have hn:H s.heap.objs.size=none:=I.hok.fresh (Nat.le_refl _);refine⟨.ref s.heap.objs.size,_,?_,rfl,q _ hn⟩;refine I.laid (fun b o e=>Heap.get?_push_of_some _ e) (Nat.le_refl _) ⟨by simp only[List.length_cons,List.length_nil];rw[sizeLine_eq];decide,[.int (i / j) s.toks,.int (i % j) (s.toks+1)],.cons ⟨_,rfl⟩ (.cons ⟨_,rfl⟩ .nil),?_⟩;exact⟨_,Heap.get?_push_size s.heap rfl,rfl,0,rfl⟩
end
structure NK (h:Heap) (x dx C:Addr) (mA:Str→Option Value):Prop where
  obj:h.get? x=some (W.instObj C dx)
  ns:h.Ns1 dx mA
  ne:dx≠x
theorem G5 {h:Heap} {dx:Addr} {mA:Str→Option Value} (n:h.Ns1 dx mA):∃od,h.get? dx=some od∧∀name,W.lookIn name od=some (mA name):=by
  obtain⟨o,es,ep,ho,hd,hk,_,hm⟩:=n;refine⟨o,ho,fun name=>?_⟩;have e:=hm name;unfold nsFind findBy at e;rw[← Array.find?_toList] at e;unfold W.lookIn;rw[hd];dsimp only;split
  ·rename_i y q;rw[q] at e;exact congrArg some e
  · rename_i q;rw[q] at e;have a:es.toList.any (·.refKey)=false:=by
      rw[List.any_eq_false];intro y hy;obtain⟨z,t,hkey⟩:=hk y (Array.mem_toList_iff.mp hy);simp[DictEntry.refKey,hkey]
    have a':¬es.toList.any (·.refKey)=true:=by rw[a];exact Bool.false_ne_true
    rw[if_neg a'];exact congrArg some e
theorem NK.look {h:Heap} {x dx C:Addr} {mA:Str→Option Value} (I:NK h x dx C mA):∃od,W.InstAt h x (W.instObj C dx) C (some od)∧∀name,W.lookIn name od=some (mA name):=
  let ⟨od,ho,hl⟩:=G5 I.ns
  ⟨od,⟨I.obj,rfl,rfl,ho⟩,hl⟩
section
variable {prog:Program} {w:World} {A:Around} {E:Value→Shared→Prop} {s:Shared} {K:W.Frag} {x dx C f:Addr} {mA:Str→Option Value} {name:Str} {v:Value}
theorem get_map {expr:Bool} {Q:Value→Shared→Prop} (X:K.In s.heap) (I:NK s.heap x dx C mA) (hg:W.plainGet K C name=true) (hh:W.hasDictIn K C=true)
    (ha:W.findIn K (.ref C) name=some none) (hv:mA name=some v) (hv':W.handedIn v=true) (h:Q v {s with toks:=s.toks+1}) :
    wpAny (model prog w) A (getAttr (.ref x) name expr) Q E s:=by
  obtain⟨od,J,hl⟩:=I.look;exact W.get_value X J (W.plainGet_of hg).1 (W.findObj_own hh ha rfl (by rw[hl,hv])) hv' h
theorem VB {pl:Sem Bool} {Q:Value×List Value→Shared→Prop} (X:K.In s.heap) (I:NK s.heap x dx C mA) (hg:W.plainGet K C name=true)
    (hf:W.findIn K (.ref C) name=some (some (.ref f))) (ht:W.isFn K (.ref f)=true) (hv:mA name=none) (h:Q (.ref f,[.ref x]) s) :
    wpAny (model prog w) A (getMethod (.ref x) name pl) Q E s:=by
  obtain⟨od,J,hl⟩:=I.look;exact W.method_fn X J (W.plainGet_of hg).1 (W.plainGet_of hg).2 hf (beq_iff_eq.mp ht) (by show(W.lookIn name od).map (·.isSome)=some false;rw[hl,hv];rfl) h
theorem Zw {ns:List Str} {Q:Unit→Shared→Prop} (X:K.In s.heap) (I:NK s.heap x dx C mA)
    (hs:W.findIn K (.ref C) "__setattr__" = some (some (.builtin "object.__setattr__"))) (hp:W.plainOver K C=true) (ht:W.takerIn K C name=some none) (hh:W.hasDictIn K C=true)
    (hw:PySem.Within mA ns) (hsz:ns.length≤sizeLine)
    (h:∀h',NK h' x dx C (fun y=>if y=name then some v else mA y)→Heap.SameBut dx s.heap h'→Q () {s with heap:=h',toks:=s.toks+2}) :
    wpAny (model prog w) A (setAttr (.ref x) name v) Q E s:=by
  obtain⟨od,J,hl⟩:=I.look;refine W.set_plain X J hs (W.osa_open (s:={s with toks:=s.toks+1}) (r:=none) X J hp ht fun b=>?_);obtain⟨cd,hc,hd'⟩:=W.any_some hh;have hx:s.heap.get? x=some ⟨.ref C,some dx,.plain,#[]⟩:=I.obj;refine wpAny_bind (wpAny_pure (wpAny_bind (wpAny_bind (wpAny_loadPart hx (wpAny_bind (W.Looks.here (s:={s with toks:=s.toks+1}) (W.looks_clsIn X hc) ?_))))));rw[hd'];refine wpAny_pure (a:=some dx) (wpAny_bind (wpAny_pure (wpAny_bind ?_)));refine wpAny_nsSet1 (s:={s with toks:=s.toks+1}) I.ns fun h' hn2 hs2=>?_;obtain⟨oD,esD,epD,hoD,hdD,hcD⟩:=hn2.count (PySem.Within.cons name v hw);refine wpAny_bind (wpAny_lookBehind hoD (by rw[hdD];exact pastItsLine_dict (Nat.le_trans hcD (by rw[List.length_cons];omega))) ?_);exact wpAny_pure (h _ ⟨(hs2.2 _ (Ne.symm I.ne)).trans I.obj,hn2,I.ne⟩ hs2)
theorem VD {R:Result→Shared→Prop} {vs:List Value} {kw:List (Str×Value)} (X:K.In s.heap) (hm:W.makesIn K C=true)
    (hi:W.findIn K (.ref C) "__init__" = some (some (.ref f))) (hf:W.typeIn K (.ref f)=some (.type "function"))
    (h:codeAny (model prog w) (A.under (.builtin "type.__call__" ⟨.ref C::vs,kw⟩)) (.call (.ref f) ⟨.ref (s.heap.objs.size+1)::vs,kw⟩) (W.InitBack (s.heap.objs.size+1) R)
      {s with heap:=(s.heap.push W.emptyDict).push (W.instObj C s.heap.objs.size)}) :
    codeAny (model prog w) A (.call (.ref C) ⟨vs,kw⟩) R s:=by
  obtain⟨hh,g,d,t,os⟩:=s;exact W.make_core (W.makes_of X hm) (W.looks_findIn X hi) (fun self=>W.bind_fn X self hf) (.inl rfl) h
end
def kO (f:Str) (v:V):List (Str×V)→List (Str×V)
  | []=>[(f,v)]
  | (g,x)::r=>if g=f then (g,v)::r else (g,x)::kO f v r
theorem oJ (f g:Str) (v:V):∀fs:List (Str×V),(kO f v fs).lookup g=if g=f then some v else fs.lookup g
  | []=>by
    show List.lookup g [(f,v)]=_
    by_cases h:g=f
    ·have hb:(g == f)=true:=beq_iff_eq.mpr h;simp only[List.lookup,hb,if_pos h]
    ·have hb:(g == f)=false:=beq_eq_false_iff_ne.mpr h;simp only[List.lookup,hb,if_neg h]
  | (k,x)::r=>by
    have ih:=oJ f g v r;rw[show kO f v ((k,x)::r)=(if k=f then (k,v)::r else (k,x)::kO f v r) from rfl]
    by_cases hk:k=f
    · rw[if_pos hk]
      by_cases h:g=k
      ·have hb:(g == k)=true:=beq_iff_eq.mpr h;simp only[List.lookup,hb,if_pos (h.trans hk)]
      ·have hb:(g == k)=false:=beq_eq_false_iff_ne.mpr h;simp only[List.lookup,hb,if_neg (fun e:g=f=>h (e.trans hk.symm))]
    · rw[if_neg hk]
      by_cases h:g=k
      ·have hb:(g == k)=true:=beq_iff_eq.mpr h;simp only[List.lookup,hb,if_neg (fun e:g=f=>hk (h.symm.trans e))]
      ·have hb:(g == k)=false:=beq_eq_false_iff_ne.mpr h;simp only[List.lookup,hb];exact ih
theorem qF (f:Str) (v:V):∀fs:List (Str×V),f∈(kO f v fs).map (·.1)∧∀g,g∈fs.map (·.1)→g∈(kO f v fs).map (·.1)
  | []=>⟨by simp[kO],fun g h=>by simp at h⟩
  | (k,x)::r=>by
    obtain⟨i1,i2⟩:=qF f v r;rw[show kO f v ((k,x)::r)=(if k=f then (k,v)::r else (k,x)::kO f v r) from rfl]
    by_cases hk:k=f
    ·rw[if_pos hk];subst hk;exact⟨by simp,fun g h=>by simpa using h⟩
    · rw[if_neg hk];refine⟨?_,fun g h=>?_⟩
      ·rw[List.map_cons];exact List.mem_cons_of_mem _ i1
      · rw[List.map_cons] at h ⊢
        rcases List.mem_cons.mp h with e | e
        ·exact List.mem_cons.mpr (.inl e)
        ·exact List.mem_cons_of_mem _ (i2 g e)
theorem tX (f:Str) (v:V):∀fs:List (Str×V),(kO f v fs).length≤fs.length+1
  | []=>by simp[kO]
  | (k,x)::r=>by
    have ih:=tX f v r;rw[show kO f v ((k,x)::r)=(if k=f then (k,v)::r else (k,x)::kO f v r) from rfl]
    by_cases hk:k=f
    ·rw[if_pos hk,List.length_cons,List.length_cons];omega
    ·rw[if_neg hk,List.length_cons,List.length_cons];omega
theorem mU.some_of {v:V} {o:Option Value} (r:mU (some v) o):∃u,o=some u∧RelV v u:=by
  cases o with
  | none=>exact(show False from r).elim
  | some u=>exact⟨u,rfl,r⟩
theorem mU.none_of {o:Option Value} (r:mU none o):o=none:=by
  cases o with
  | none=>rfl
  | some u=>exact(show False from r).elim
theorem G6 {v:V} {u:Value} (r:RelV v u):W.handedIn u=true:=by
  cases v with
  | non=>cases (show u=Value.none from r);rfl
  | bl b=>cases (show u=Value.bool b from r);rfl
  | int i=>obtain⟨t,e⟩:=(show ∃t,u=Value.int i t from r);cases e;rfl
  | str x=>obtain⟨t,e⟩:=(show ∃t,u=Value.str x t from r);cases e;rfl
  | U9 b=>obtain⟨t,e⟩:=(show ∃t,u=Value.bytes b t from r);cases e;rfl
  | flt b=>obtain⟨t,e⟩:=(show ∃t,u=Value.float b t from r);cases e;rfl
  | ref a=>cases (show u=Value.ref a from r);rfl
  | ty n=>cases (show u=Value.type n from r);rfl
section
variable {P:Program} {w:World} {H H':Hp} {h h':Heap} {a C dx:Addr} {fs fs':List (Str×V)}
theorem xM (hok:tO P w H h) (e:H a=some (.ins C dx fs)):∃mA,NK h a dx C mA∧(∀f,mU (fs.lookup f) (mA f))∧PySem.Within mA (fs.map (·.1))∧fs.length≤1000∧H dx=some (.own a):=by
  obtain⟨d,z,ne,ob,mA,n,r,q⟩:=(show cM P w H h a (.ins C dx fs) from hok a _ e);exact⟨mA,⟨ob,n,ne⟩,r,q,z,d⟩
end
structure Cls (K:W.Frag) (C:Addr):Prop where
  pg:W.plainGet K C Str.empty=true
  hd:W.hasDictIn K C=true
  po:W.plainOver K C=true
  sa:W.findIn K (.ref C) "__setattr__" = some (some (.builtin "object.__setattr__"))
theorem Cls.get {K:W.Frag} {C:Addr} (c:Cls K C) (f:Str):W.plainGet K C f=true:=c.pg
def mD (K:W.Frag) (C:Addr) (f:Str):Prop:=W.findIn K (.ref C) f=some none
theorem mD.taker {K:W.Frag} {C:Addr} {f:Str} (n:mD K C f):W.takerIn K C f=some none:=by
  unfold W.takerIn;rw[show W.findIn K (.ref C) f=some none from n];rfl
structure Meth (K:W.Frag) (C:Addr) (m:Str) (f:Addr):Prop where
  at_:W.findIn K (.ref C) m=some (some (.ref f))
  fn:W.isFn K (.ref f)=true
  kp:W.keepIn K (.ref f)=true
section
variable {X:Cx} {p_:List (Addr×Obj)} {σ:St} {H:Hp} {s:Shared} {a C dx:Addr} {fs:List (Str×V)} {f:Str} {v:V} {A:Around} {E:Value→Shared→Prop}
theorem NP {b:Bool} {Q:Value→Shared→Prop} (I:Inv X p_ σ H s) (e:H a=some (.ins C dx fs)) (c:Cls X.K C) (n:mD X.K C f) (l:fs.lookup f=some v)
    (h:∀u s',Inv X p_ σ H s'→RelV v u→Q u s'):wpAny (model X.prog X.w) A (getAttr (.ref a) f b) Q E s:=by
  obtain⟨mA,O,r,_,_,_⟩:=xM I.hok e;obtain⟨u,hu,ru⟩:=mU.some_of (v:=v) (o:=mA f) (by rw[← l];exact r f);exact get_map I.oE O (c.get f) c.hd n hu (G6 ru) (h u _ (I.tok _) ru)
theorem NQ {m:Str} {g:Addr} {pl:Sem Bool} {Q:Value×List Value→Shared→Prop} (I:Inv X p_ σ H s) (e:H a=some (.ins C dx fs)) (c:Cls X.K C) (k:Meth X.K C m g) (l:fs.lookup m=none)
    (h:Q (.ref g,[.ref a]) s):wpAny (model X.prog X.w) A (getMethod (.ref a) m pl) Q E s:=by
  obtain⟨mA,O,r,_,_,_⟩:=xM I.hok e;have hn:mA m=none:=mU.none_of (by rw[← l];exact r m);exact VB I.oE O (c.get m) k.at_ k.fn hn h
theorem NT {y:V} {u:Value} {Q:Unit→Shared→Prop} (I:Inv X p_ σ H s) (e:H a=some (.ins C dx fs)) (c:Cls X.K C) (n:mD X.K C f) (hl:fs.length<1000) (ry:RelV y u)
    (h:∀s',Inv X p_ σ (upd H a (.ins C dx (kO f y fs))) s'→Q () s'):wpAny (model X.prog X.w) A (setAttr (.ref a) f u) Q E s:=by
  obtain⟨mA,O,r,wi,_,ho⟩:=xM I.hok e;have hz:(fs.map (·.1)).length≤sizeLine:=by rw[List.length_map,sizeLine_eq];omega
  refine Zw I.oE O c.sa c.po n.taker c.hd wi hz fun h' O' sb=>h _ ?_;have hd:∃o,h'.get? dx=some o:=let ⟨o,_,_,e',_⟩:=O'.ns;⟨o,e'⟩;refine I.write (x:=a) (e:=dx) (by rw[e];exact True.intro) (.inr ho) (fun b q hb z=>(sb.2 b hb).trans z) hd ?_;refine⟨by rw[aC O.ne];exact ho,?_,O.ne,O'.obj,_,O'.ns,fun g=>?_,fun g hg=>?_⟩
  ·have:=tX f y fs;omega
  · show mU ((kO f y fs).lookup g) (if g=f then some u else mA g)
    rw[oJ]
    by_cases q:g=f
    ·rw[if_pos q,if_pos q];exact ry
    ·rw[if_neg q,if_neg q];exact r g
  · by_cases q:g=f
    ·rw[q];exact(qF f y fs).1
    · refine(qF f y fs).2 g (wi g fun z=>hg ?_);show(if g=f then some u else mA g)=none
      rw[if_neg q];exact z
theorem Inv.made (I:Inv X p_ σ H s):Inv X p_ σ (upd (upd H s.heap.objs.size (.own (s.heap.objs.size+1))) (s.heap.objs.size+1) (.ins C s.heap.objs.size []))
    {s with heap:=(s.heap.push W.emptyDict).push (W.instObj C s.heap.objs.size)}:=by
  have e1:(s.heap.push W.emptyDict).get? s.heap.objs.size=some W.emptyDict:=Heap.get?_push_size s.heap rfl;have e2:((s.heap.push W.emptyDict).push (W.instObj C s.heap.objs.size)).get? (s.heap.objs.size+1)=some (W.instObj C s.heap.objs.size):=by
    have:=Heap.get?_push_size (s.heap.push W.emptyDict) (o:=W.instObj C s.heap.objs.size) rfl
    rwa [Heap.size_push] at this
  have e3:(s.heap.push W.emptyDict).Ns s.heap.objs.size (fun _=>none):=⟨W.emptyDict,#[],_,e1,rfl,(fun e he=>absurd he (by simp)),fun _=>rfl⟩;have I1:=I.laid (a:=s.heap.objs.size) (o:=.own (s.heap.objs.size+1)) (h':=s.heap.push W.emptyDict) (t':=s.toks) (fun b u q=>Heap.get?_push_of_some _ q) (Nat.le_refl _) ⟨_,e1⟩;refine I1.laid (a:=s.heap.objs.size+1) (o:=.ins C s.heap.objs.size []) (t':=s.toks) (fun b u q=>Heap.get?_push_of_some _ q) (Nat.le_of_eq (Heap.size_push _ _)) ?_;have ne:s.heap.objs.size≠s.heap.objs.size+1:=Nat.ne_of_lt (Nat.lt_succ_self _);refine⟨by rw[aC ne,ak],Nat.zero_le _,ne,e2,fun _=>none,(Heap.Ns1.of_empty e3).at fun o q=>Heap.get?_push_of_some _ q,fun _=>True.intro,fun y hy=>absurd rfl hy⟩
theorem Qw {prog:Program} {w:World} {env:Env} {e:Expr} {f:Str} {pos:Pos} {s:Shared} {Q:Value→Shared→Prop} (hb:attributeBase e f env (eval e env)=eval e env)
    (h:wpAny (model prog w) A (eval e env) (fun o s₁=>wpAny (model prog w) A (getAttr o f true) Q E s₁) E s):wpAny (model prog w) A (eval (.Attribute e f pos) env) Q E s:=
  Attribute_any_ h (by rw[arm_eval_Attribute,hb])
end
def Zx (K:W.Frag) (ta:TE) (f:Str):TE:=fun σ H Q=>ta σ H fun x H1=>∃a C dx fs v,x = .ref a∧H1 a=some (.ins C dx fs)∧Cls K C∧mD K C f∧fs.lookup f=some v∧Q v H1
def qcc (K:W.Frag) (ta tv:TE) (f:Str):TS:=fun D σ H=>tv σ H fun y H1=>ta σ H1 fun x H2=>∃a C dx fs,x = .ref a∧H2 a=some (.ins C dx fs)∧Cls K C∧mD K C f∧fs.length<1000∧
  D.nx σ (upd H2 a (.ins C dx (kO f y fs)))
section
variable {X:Cx} {o e value:Expr} {f:Str} {pos pos' tpos:Pos} {ta tv:TE}
theorem qcd (he:PE X e ta) (hb:attributeBase e f X.env (eval e X.env)=eval e X.env):PE X (.Attribute e f pos) (Zx X.K ta f):=by
  intro p_ s σ H Q I h;refine Qw hb (cN (he p_ s σ H _ I h) fun u s1 zz=>?_);obtain⟨x,H1,I1,rx,a,C,dx,fs,v,ex,ea,c,n,l,q⟩:=zz;subst ex;obtain rfl:u=Value.ref a:=rx;exact NP I1 ea c n l fun u' s2 I2 ru=>⟨v,H1,I2,ru,q⟩
theorem qce (ha:PE X o ta) (hv:PE X value tv) (hs:swapsWith value (some (.Attribute o f pos')) pos.line X.env=pure false):PS X (.Assign [.Attribute o f pos'] value pos) (qcc X.K ta tv f):=by
  intro p_ s σ H D I h;refine plainObj_wpAny_Assign_Attribute (cN (hv p_ s σ H _ I h) fun u s1 ⟨y,H1,I1,ry,q⟩=>cN (ha p_ s1 σ H1 _ I1 q) fun ov s2 ⟨x,H2,I2,rx,a,C,dx,fs,ex,ea,c,n,l,q2⟩=>?_) hs;subst ex;obtain rfl:ov=Value.ref a:=rx;exact NT I2 ea c n l ry fun s3 I3=>⟨σ,_,I3,q2⟩
end
section
variable {X:Cx} {p_:List (Addr×Obj)} {σ:St} {H:Hp} {s:Shared} {A:Around} {E:Value→Shared→Prop} {Q:Value→Shared→Prop} {c:Value} {b:Bool}
inductive mX (K:W.Frag) (H:Hp):V→Value→Prop where
  | non:mX K H .non (.type "NoneType")
  | bl (x:Bool):mX K H (.bl x) (.type "bool")
  | int (i:Int):mX K H (.int i) (.type "int")
  | str (x:Str):mX K H (.str x) (.type "str")
  | flt (x:UInt64):mX K H (.flt x) (.type "float")
  | lst {a:Addr} {xs:List V} (e:H a=some (.lst xs)):mX K H (.ref a) (.type "list")
  | Ky {a:Addr} {o:Obj} {xs:List V} (e:H a=some (.Ky o (.lst xs))):mX K H (.ref a) (.type "list")
  | tup {a:Addr} {xs:List V} (e:H a=some (.tup xs)):mX K H (.ref a) (.type "tuple")
  | dK {a:Addr} {kvs:List (Key×V)} (e:H a=some (.dK kvs)):mX K H (.ref a) (.type "dict")
  | dT {a:Addr} {kvs:List (List Key×V)} (e:H a=some (.dT kvs)):mX K H (.ref a) (.type "dict")
  | ins {a C dx:Addr} {fs:List (Str×V)} (e:H a=some (.ins C dx fs)) (cl:Cls K C) (ha:W.findIn K (.ref C) "__class__" = some (some (.builtin "object.__class__")))
      (hn:W.specialIn K (.builtin "object.__class__") "__get__" = some (some (.builtin "getset_descriptor.__get__"))) (htk:W.takesIn K (.builtin "object.__class__")=some true)
      (hm:W.mroIn K C (.type "object")=some true):mX K H (.ref a) (.ref C)
theorem R5 {x:V} {u t:Value} (I:Inv X p_ σ H s) (rx:RelV x u) (ty:mX X.K H x t) (e:W.kitOne X.K t c=some b) (h:∀tk,Q (.bool b) {s with toks:=tk}) :
    wpAny (model X.prog X.w) A (call (.builtin "isinstance") [u,c]) Q E s:=by
  cases ty with
  | non=>cases (show u=Value.none from rx);exact W.kia_one W.kitx_none I.oE True.intro e (fun z=>nomatch z) h
  | bl y=>cases (show u=Value.bool y from rx);exact W.kia_one W.kitx_bool I.oE True.intro e (fun z=>nomatch z) h
  | int i=>obtain⟨t,q⟩:=(show ∃t,u=Value.int i t from rx);cases q;exact W.kia_one W.kitx_int I.oE True.intro e (fun z=>nomatch z) h
  | str y=>obtain⟨t,q⟩:=(show ∃t,u=Value.str y t from rx);cases q;exact W.kia_one W.kitx_str I.oE True.intro e (fun z=>nomatch z) h
  | flt y=>obtain⟨t,q⟩:=(show ∃t,u=Value.float y t from rx);cases q;exact W.kia_one W.kitx_float I.oE True.intro e (fun z=>nomatch z) h
  | @lst a xs ea=>
    cases (show u=Value.ref a from rx);obtain⟨_,_,n,_,h1⟩:=(show cM X.prog X.w H s.heap a (.lst xs) from I.hok a _ ea);exact W.kia_one W.kitx_list I.oE ⟨_,h1,rfl⟩ e (fun z=>nomatch z) h
  | @Ky a ob xs ea=>
    cases (show u=Value.ref a from rx);obtain⟨_,_,_,n,_,h1⟩:=(show cM X.prog X.w H s.heap a (.Ky ob (.lst xs)) from I.hok a _ ea);exact W.kia_one W.kitx_list I.oE ⟨_,h1,rfl⟩ e (fun z=>nomatch z) h
  | @tup a xs ea=>
    cases (show u=Value.ref a from rx);obtain⟨_,_,_,p⟩:=(show cM X.prog X.w H s.heap a (.tup xs) from I.hok a _ ea);obtain⟨o,h1,h2,_⟩:=p;exact W.kia_one W.kitx_tuple I.oE ⟨o,h1,h2⟩ e (fun z=>nomatch z) h
  | @dK a kvs ea=>
    cases (show u=Value.ref a from rx);obtain⟨_,_,vs,_,p⟩:=(show cM X.prog X.w H s.heap a (.dK kvs) from I.hok a _ ea);obtain⟨o,es,ep,h1,h2,_⟩:=p;exact W.kia_one W.kitx_dict I.oE ⟨o,h1,h2.1⟩ e (fun z=>nomatch z) h
  | @dT a kvs ea=>
    cases (show u=Value.ref a from rx);obtain⟨_,_,xs,_,o,es,ep,h1,h2,_⟩:=(show cM X.prog X.w H s.heap a (.dT kvs) from I.hok a _ ea);exact W.kia_one W.kitx_dict I.oE ⟨o,h1,h2.1⟩ e (fun z=>nomatch z) h
  | @ins a C dx fs ea cl ha hn htk hm=>
    cases (show u=Value.ref a from rx);obtain⟨mA,O,_⟩:=xM I.hok ea;obtain⟨od,J,_⟩:=O.look;exact W.kia_one (W.kitx_own (cl.get _) cl.hd ha hn htk hm) I.oE J e (fun z=>nomatch z) h
end
structure jl (k:Nat) (A:Around):Prop where
  hd:A.handled=none
  dp:A.depth+3 * k+5<recursionLimit
  un:A.units+16 * k+200<cLine
  gd:A.guards=some []
theorem jl.mono {j k:Nat} {A:Around} (r:jl k A) (h:j≤k):jl j A:=⟨r.hd,by have:=r.dp;omega,by have:=r.un;omega,r.gd⟩
theorem jl.deeper {k:Nat} {A:Around} (r:jl (k+1) A) (env:Env):jl k (A.deeper env):=
  ⟨r.hd,by have:=r.dp;show A.depth+1+3 * k+5<_;omega,by have:=r.un;show A.units+3+16 * k+200<_;omega,r.gd⟩
theorem NZ {A:Around} {C:Addr} {us:List Value} {kw:List (Str×Value)}:(A.under (.builtin "type.__call__" ⟨.ref C::us,kw⟩)).depth=A.depth+1:=by
  first | rfl | simp[Around.under,Code.weight,Code.isCreation,Code.isGuard,Code.isCaller,Code.frames,Code.isFrame,guardIds]
theorem N5 {A:Around} {C:Addr} {us:List Value} {kw:List (Str×Value)}:(A.under (.builtin "type.__call__" ⟨.ref C::us,kw⟩)).units=A.units+1:=by
  first | rfl | simp[Around.under,Code.cUnits,Code.frames,Code.isFrame]
theorem KR {A:Around} {C:Addr} {us:List Value} {kw:List (Str×Value)}:(A.under (.builtin "type.__call__" ⟨.ref C::us,kw⟩)).guards=A.guards:=by
  first | rfl | simp[Around.under,Code.isGuard,guardIds]
theorem jl.make {k:Nat} {A:Around} (r:jl (k+1) A) (C:Addr) (us:List Value) (kw:List (Str×Value)):jl k (A.under (.builtin "type.__call__" ⟨.ref C::us,kw⟩)):=
  ⟨r.hd,by have:=r.dp;rw[NZ];omega,by have:=r.un;rw[N5];omega,by rw[KR];exact r.gd⟩
theorem jl.depth {k:Nat} {A:Around} (r:jl k A):A.depth<recursionLimit:=by have:=r.dp;omega
theorem jl.units {k:Nat} {A:Around} (r:jl k A):A.units+64<cLine:=by have:=r.un;omega
def N6:TA:=fun _ H Q=>Q [] H
def G7 (ta:TE) (tr:TA):TA:=fun σ H Q=>ta σ H fun x H1=>tr σ H1 fun xs H2=>Q (x::xs) H2
section
variable {X:Cx} {e:Expr} {es:List Expr} {te:TE} {t:TA} {pos:Pos}
theorem aq:PA X [] N6:=fun _ _ _ _ H Q I h=>Calls.spliced_nil ⟨[],H,I,.nil,h⟩
theorem aj (ha:PE X e te) (hr:PA X es t) (hs:starEach (e::es) X.env=(false,eval e X.env)::starEach es X.env:=by rfl):PA X (e::es) (G7 te t):=by
  intro pos p_ s σ H Q I h;rw[hs];show wpAny _ _ (spliced ((false,eval e X.env)::backTo pos (starEach es X.env))) _ _ s;refine Calls.spliced_cons (cN (ha p_ s σ H _ I h) fun u s1 zz=>?_);obtain⟨x,H1,I1,r1,q1⟩:=zz;refine cN (hr pos p_ s1 σ H1 _ I1 q1) fun us s2 zz=>?_;obtain⟨xs,H2,I2,r2,q2⟩:=zz;exact⟨x::xs,H2,I2,.cons r1 r2,q2⟩
def qe1 (t:TA):TE:=fun σ H Q=>t σ H fun xs H1=>xs.length≤sizeLine∧∀p,H1 p=none→Q (.ref p) (upd H1 p (.tup xs))
def qe2 (t:TA):TE:=fun σ H Q=>t σ H fun xs H1=>xs.length≤sizeLine∧∀p,H1 p=none→Q (.ref p) (upd H1 p (.lst xs))
theorem fM {x1} (h:PA X es t):PE X (.Tuple es x1 pos) (qe1 t):=by
  intro p_ s σ H Q I hq;refine wpAny_Tuple_spliced (cN (h pos p_ s σ H _ I hq) fun us s1 zz=>?_);obtain⟨xs,H1,I1,r,z,q⟩:=zz;refine⟨by rw[← r.length];exact z,?_⟩;have hf:H1 s1.heap.objs.size=none:=I1.hok.fresh (Nat.le_refl _);refine⟨.ref s1.heap.objs.size,upd H1 s1.heap.objs.size (.tup xs),I1.laid (t':=s1.toks) (fun b u e=>Heap.get?_push_of_some _ e) (Nat.le_refl _) ?_,rfl,q _ hf⟩;exact⟨z,us,r,⟨_,Heap.get?_push_size _ rfl,rfl,_,rfl⟩⟩
theorem cg (h:PA X es t):PE X (.List es pos) (qe2 t):=by
  intro p_ s σ H Q I hq;refine wpAny_List_spliced (cN (h pos p_ s σ H _ I hq) fun us s1 zz=>?_);obtain⟨xs,H1,I1,r,z,q⟩:=zz;refine⟨by rw[← r.length];exact z,?_⟩;have hf:H1 s1.heap.objs.size=none:=I1.hok.fresh (Nat.le_refl _);refine⟨.ref s1.heap.objs.size,upd H1 s1.heap.objs.size (.lst xs),I1.laid (t':=s1.toks) (fun b u e=>Heap.get?_push_of_some _ e) (Nat.le_refl _) ?_,rfl,q _ hf⟩;exact⟨z,us,0,r,Heap.get?_push_size _ rfl⟩
end
abbrev Sp:=List V→Hp→VK→XK→Prop
abbrev VF:=List Env→Hp→Shared→XK→Value→Shared→Prop
structure KY (P:Program) (w:World) (K:W.Frag) (mg:Str→Option Value) (base:Heap) (A:Around) (outer:List Env) (s:Shared) (H:Hp):Prop where
  frames:A.frames=some outer
  mod:Mod K mg base
  bs:∀b o,base.get? b=some o→s.heap.get? b=some o∧H b=none
  RK:base.objs.size≤s.heap.objs.size
  tQ:s.heap.FunFrames base outer
  Vl:∀b∈frs outer,H b=none
  hok:tO P w H s.heap
  bare:AllBare s.gens
def CE (outer:List Env) (P:Program) (w:World) (H:Hp) (s:Shared) (Q:VK) (u:Value) (s':Shared):Prop:=
  ∃v H',s'.os=s.os∧AllBare s'.gens∧Un (frs outer) [] H H' s.heap s'.heap∧tO P w H' s'.heap∧RelV v u∧Q v H'
def CR (CX:VF) (outer:List Env) (P:Program) (w:World) (H:Hp) (s:Shared) (Q:VK) (E:XK) (r:Result) (s':Shared):Prop:=
  match r with
  | .ok (.ret u)=>CE outer P w H s Q u s'
  | .ok _=>False
  | .error e=>CX outer H s E e s'
structure dG (P:Program) (w:World) (K:W.Frag) (mg:Str→Option Value) (base:Heap) (CX:VF) (k:Nat) (f:Addr) (fd:FuncData) (ps:List Str) (sp:Sp):Prop where
  len:∀vs H Q E,sp vs H Q E→vs.length=ps.length
  run:∀(A:Around) (outer:List Env) (s:Shared) (H:Hp) (args:Args) (us:List Value) (vs:List V) (Q:VK) (E:XK),jl k A→KY P w K mg base A outer s H→BindsTo s fd args (ps.zip us)→Vals vs us→sp vs H Q E→
    codeAny (model P w) A (.call (.ref f) args) (CR CX outer P w H s Q E) s
theorem KY.make {P:Program} {w:World} {K:W.Frag} {mg:Str→Option Value} {base:Heap} {A:Around} {outer:List Env} {s:Shared} {H:Hp} (e:KY P w K mg base A outer s H) (C:Addr) (us:List Value) (kw:List (Str×Value)) :
    KY P w K mg base (A.under (.builtin "type.__call__" ⟨.ref C::us,kw⟩)) outer s H:=⟨by first | exact e.frames | (simpa [Around.under,Code.envs,Code.isFrame,pushEnvs] using e.frames),e.mod,e.bs,e.RK,e.tQ,e.Vl,e.hok,e.bare⟩
section
variable {X:Cx} {p_:List (Addr×Obj)} {σ:St} {H:Hp} {s s':Shared}
theorem Inv.env0 (I:Inv X p_ σ H s):KY X.prog X.w X.K X.mg X.base X.A X.stack s H:=
  ⟨I.ok.frames,I.ok.mod,I.bs,Nat.le_trans I.ok.RK I.sz,I.stack,I.Bq,I.hok,I.bare⟩
theorem Inv.after {Q:VK} {u:Value} (I:Inv X p_ σ H s) (h:CE X.stack X.prog X.w H s Q u s'):EP X p_ σ Q u s':=by
  obtain⟨v,H',os,bare,un,hok,r,q⟩:=h;obtain⟨hh,g,d,t,os'⟩:=s';obtain rfl:os'=s.os:=os;exact⟨v,H',I.call (h':=hh) (g':=g) (d':=d) (t':=t) (ch:=[]) un hok bare (fun b z=>absurd z (by simp)),r,q⟩
end
def VG (sp:Sp) (yV:List V) (E:XK) (t:TA):TE:=fun σ H Q=>t σ H fun vs H1=>sp (vs++yV) H1 Q E
def VH (C:Addr) (m:Str) (sp:Sp) (yV:List V) (E:XK) (ta:TE) (t:TA):TE:=fun σ H Q=>ta σ H fun x H1=>∃a dx fs,x = .ref a∧H1 a=some (.ins C dx fs)∧fs.lookup m=none∧
  t σ H1 fun vs H2=>sp (x::(vs++yV)) H2 Q E
def VJ (C:Addr) (sp:Sp) (yV:List V) (E:XK) (t:TA):TE:=fun σ H Q=>t σ H fun vs H1=>∀x dx,H1 x=none→H1 dx=none→dx≠x→
  sp (.ref x::(vs++yV)) (upd (upd H1 dx (.own x)) x (.ins C dx [])) (fun v H2=>v = .non∧Q (.ref x) H2) E
def Binds (K:W.Frag) (fd:FuncData) (ps:List Str) (ds:List Value):Prop:=
  ∀(s:Shared) (us:List Value),K.In s.heap→(us++ds).length=ps.length→BindsTo s fd ⟨us,[]⟩ (ps.zip (us++ds))
theorem Binds.all {K:W.Frag} {fd:FuncData} {ps:List Str} (h:∀us:List Value,us.length=ps.length→bindArgs fd ⟨us,[]⟩=pure (ps.zip us)):Binds K fd ps []:=fun s us _ hl=>by
  rw[List.append_nil] at hl ⊢;exact .of_eq (h us hl)
def Passes (CX:VF) (X:Cx) (E:XK):Prop:=∀(p_:List (Addr×Obj)) (σ:St) (H:Hp) (s:Shared) (e:Value) (s':Shared),Inv X p_ σ H s→CX X.stack H s E e s'→X.xe e s'
section
variable {X:Cx} {CX:VF} {k:Nat} {f C:Addr} {fd:FuncData} {ps:List Str} {sp:Sp} {yV:List V} {ds:List Value} {E:XK} {x m:Str} {p pos apos:Pos} {e o:Expr} {es:List Expr} {ta:TE} {t:TA}
theorem VL {p_:List (Addr×Obj)} {σ:St} {H:Hp} {s:Shared} {Q:VK} {us:List Value} {vs:List V} (F:dG X.prog X.w X.K X.mg X.base CX k f fd ps sp) (hr:jl k X.A) (hb:Binds X.K fd ps ds) (hd:Vals yV ds) (hx:Passes CX X E)
    (I:Inv X p_ σ H s) (r:Vals vs us) (h:sp (vs++yV) H Q E):wpAny (model X.prog X.w) X.A (call (.ref f) us) (EP X p_ σ Q) X.xe s:=by
  have r2:Vals (vs++yV) (us++ds):=r.append hd;have hl:(us++ds).length=ps.length:=by rw[← r2.length];exact F.len _ _ _ _ h
  refine wpAny_call (codeAny_mono (F.run X.A X.stack s H ⟨us,[]⟩ (us++ds) (vs++yV) Q E hr I.env0 (hb s us I.oE hl) r2 h) fun r s' hq=>?_);cases r with
  | error e=>exact hx p_ σ H s e s' I hq
  | ok fl=>
    cases fl with
    | ret u=>exact I.after hq
    | next=>exact False.elim hq
    | brk=>exact False.elim hq
    | cont=>exact False.elim hq
theorem aV (F:dG X.prog X.w X.K X.mg X.base CX k f fd ps sp) (hr:jl k X.A) (hg:Gl X x) (hm:X.mg x=some (.ref f)) (hk:W.keepIn X.K (.ref f)=true) (hb:Binds X.K fd ps ds) (hd:Vals yV ds) (hx:Passes CX X E)
    (ha:PA X (e::es) t) (hdb:(x == ("__debug__" : Str))=false:=by decide) (he:starEach (e::es) X.env=(false,eval e X.env)::starEach es X.env:=by rfl) (hpl:(backTo pos (starEach es X.env)).any (·.1)=false:=by rfl) :
    PE X (.Call (.Name x p) (e::es) [] pos) (VG sp yV E t):=by
  intro p_ s σ H Q I h;refine wpAny_Call_Name_kw (lE I hg hm ?_ hdb);refine W.callWith_K (h₀:=X.base) I.ok.mod.Ip hk (cN (ha pos p_ s σ H _ I h) fun us s1 zz=>?_) he hpl;obtain⟨vs,H1,I1,r,q⟩:=zz;refine⟨I1.oE,?_⟩;exact VL F hr hb hd hx I1 r q
theorem g8 {pl:Sem Bool} (he:PE X o ta) (c:Cls X.K C) (hm:Meth X.K C m f) (F:dG X.prog X.w X.K X.mg X.base CX k f fd ps sp) (hr:jl k X.A) (hb:Binds X.K fd ps ds) (hd:Vals yV ds) (hx:Passes CX X E)
    (ht:eval (.Call (.Attribute o m apos) [] [] pos) X.env=(do
      let ov ← eval o X.env
      standAt apos.atName
      let (f,first) ← holding [ov] (getMethod ov m pl)
      callWith pos f first (backTo pos (starEach [] X.env)) (backToKw pos (keywordEach [] X.env))):=by rfl) :
    PE X (.Call (.Attribute o m apos) [] [] pos) (VH C m sp yV E ta N6):=by
  intro p_ s σ H Q I h;refine W.methodCall_KW (pl:=pl) (cN (he p_ s σ H _ I h) fun u s1 zz=>?_) ht;obtain⟨x,H1,I1,rx,a,dx,fs,ex,ea,l,q⟩:=zz;subst ex;obtain rfl:u=Value.ref a:=rx;refine NQ I1 ea c hm l ?_;exact W.callWith_K0 (first:=[.ref a]) I1.oE hm.kp (VL (us:=[.ref a]) (vs:=[.ref a]) F hr hb hd hx I1 (.cons rfl .nil) q)
structure Mk (K:W.Frag) (C f:Addr):Prop where
  makes:W.makesIn K C=true
  init:W.findIn K (.ref C) "__init__" = some (some (.ref f))
  fn:W.isFn K (.ref f)=true
  kp:W.keepIn K (.ref C)=true
theorem VN {p_:List (Addr×Obj)} {σ:St} {H:Hp} {s:Shared} {Q:VK} {us:List Value} {vs:List V} (M:Mk X.K C f) (F:dG X.prog X.w X.K X.mg X.base CX k f fd ps sp) (hr:jl (k+1) X.A) (hb:Binds X.K fd ps ds) (hd:Vals yV ds)
    (hx:Passes CX X E) (I:Inv X p_ σ H s) (r:Vals vs us)
    (h:∀x dx,H x=none→H dx=none→dx≠x→sp (.ref x::(vs++yV)) (upd (upd H dx (.own x)) x (.ins C dx [])) (fun v H2=>v = .non∧Q (.ref x) H2) E) :
    wpAny (model X.prog X.w) X.A (call (.ref C) us) (EP X p_ σ Q) X.xe s:=by
  have hq:=h (s.heap.objs.size+1) s.heap.objs.size (I.hok.fresh (Nat.le_succ _)) (I.hok.fresh (Nat.le_refl _)) (Nat.ne_of_lt (Nat.lt_succ_self _));have I2:=Inv.made (C:=C) I;have r2:Vals (V.ref (s.heap.objs.size+1)::(vs++yV)) (Value.ref (s.heap.objs.size+1)::(us++ds)):=.cons rfl (r.append hd);have hl:(Value.ref (s.heap.objs.size+1)::us++ds).length=ps.length:=by
    have e:=r2.length;rw[F.len _ _ _ _ hq] at e;exact e.symm
  refine wpAny_call (VD (f:=f) I.oE M.makes M.init (beq_iff_eq.mp M.fn) (codeAny_mono (F.run _ X.stack _ _ ⟨Value.ref (s.heap.objs.size+1)::us,[]⟩ (Value.ref (s.heap.objs.size+1)::(us++ds)) _ _ E (hr.make C us [])
    (I2.env0.make C us []) (hb _ (Value.ref (s.heap.objs.size+1)::us) I2.oE hl) r2 hq) fun r s' hq'=>?_))
  cases r with
  | error e=>exact hx p_ σ _ _ e s' I2 hq'
  | ok fl=>
    cases fl with
    | ret u=>
      obtain⟨v,H',I3,rv,ev,q3⟩:=I2.after hq';subst ev;exact⟨rv,⟨V.ref (s.heap.objs.size+1),H',I3,rfl,q3⟩⟩
    | next=>exact False.elim hq'
    | brk=>exact False.elim hq'
    | cont=>exact False.elim hq'
theorem Iz (M:Mk X.K C f) (F:dG X.prog X.w X.K X.mg X.base CX k f fd ps sp) (hr:jl (k+1) X.A) (hg:Gl X x) (hm:X.mg x=some (.ref C)) (hb:Binds X.K fd ps ds) (hd:Vals yV ds) (hx:Passes CX X E)
    (ha:PA X (e::es) t) (hdb:(x == ("__debug__" : Str))=false:=by decide) (he:starEach (e::es) X.env=(false,eval e X.env)::starEach es X.env:=by rfl) (hpl:(backTo pos (starEach es X.env)).any (·.1)=false:=by rfl) :
    PE X (.Call (.Name x p) (e::es) [] pos) (VJ C sp yV E t):=by
  intro p_ s σ H Q I h;refine wpAny_Call_Name_kw (lE I hg hm ?_ hdb);refine W.callWith_K (h₀:=X.base) I.ok.mod.Ip M.kp (cN (ha pos p_ s σ H _ I h) fun us s1 zz=>?_) he hpl;obtain⟨vs,H1,I1,r,q⟩:=zz;refine⟨I1.oE,?_⟩;exact VN M F hr hb hd hx I1 r q
end
structure bC (N P:List Str) (sc:Scope):Prop where
  kind:sc.kind = .function
  co:sc.isCoroutine=false
  gen:sc.isGenerator=false
  nd:N.Nodup
  pre:N.take P.length=P
  par:∀x∈P,sc.names.lookup x=some .local∨sc.names.lookup x=some .cell
  qcf:∀y∈sc.names,y.2≠.free
theorem G8 {kindOf:Str→Option NameKind} {x:Str}:∀{binds:List (Str×Value)} {m:Str→Option Value},(∀v,(x,v)∉binds)→bindL kindOf binds m x=m x
  | [],_,_=>rfl
  | (n,v)::r,m,h=>by
    unfold bindL;rw[G8 fun w hw=>h w (List.mem_cons_of_mem _ hw)];split
    · have:x≠n:=by rintro rfl;exact h v List.mem_cons_self
      simp[this]
    ·rfl
theorem G9 {kindOf:Str→Option NameKind} {x:Str}:∀{binds:List (Str×Value)} {m:Str→Option Value},(∀v,(x,v)∉binds)→bindC kindOf binds m x=m x
  | [],_,_=>rfl
  | (n,v)::r,m,h=>by
    unfold bindC;rw[G9 fun w hw=>h w (List.mem_cons_of_mem _ hw)];split
    ·rfl
    · have:x≠n:=by rintro rfl;exact h v List.mem_cons_self
      simp[this]
theorem G_ {kindOf:Str→Option NameKind} {x:Str} {v:Value}:∀{P:List Str} {vs:List Value} {i:Nat} {m:Str→Option Value},P.Nodup→P[i]? = some x→vs[i]? = some v→kindOf x=some .local→
    bindL kindOf (P.zip vs) m x=some v
  | [],_,_,_,_,h,_,_=>by simp at h
  | _::_,[],_,_,_,_,h,_=>by simp at h
  | p::P,w::vs,0,m,nd,h1,h2,hk=>by
    simp at h1 h2;subst h1;subst h2;show bindL kindOf ((p,w)::P.zip vs) m p=_;unfold bindL;rw[G8 fun v hv=>(List.nodup_cons.mp nd).1 (List.of_mem_zip hv).1,if_pos hk];simp
  | p::P,w::vs,i+1,m,nd,h1,h2,hk=>by
    show bindL kindOf ((p,w)::P.zip vs) m x=_;unfold bindL;exact G_ (i:=i) (List.nodup_cons.mp nd).2 (by simpa using h1) (by simpa using h2) hk
theorem Hf {kindOf:Str→Option NameKind} {x:Str} {v:Value}:∀{P:List Str} {vs:List Value} {i:Nat} {m:Str→Option Value},P.Nodup→P[i]? = some x→vs[i]? = some v→kindOf x≠some .local→
    bindC kindOf (P.zip vs) m x=some v
  | [],_,_,_,_,h,_,_=>by simp at h
  | _::_,[],_,_,_,_,h,_=>by simp at h
  | p::P,w::vs,0,m,nd,h1,h2,hk=>by
    simp at h1 h2;subst h1;subst h2;show bindC kindOf ((p,w)::P.zip vs) m p=_;unfold bindC;rw[G9 fun v hv=>(List.nodup_cons.mp nd).1 (List.of_mem_zip hv).1,if_neg hk];simp
  | p::P,w::vs,i+1,m,nd,h1,h2,hk=>by
    show bindC kindOf ((p,w)::P.zip vs) m x=_;unfold bindC;exact Hf (i:=i) (List.nodup_cons.mp nd).2 (by simpa using h1) (by simpa using h2) hk
def start (N:List Str) (vs:List V):St:=vs.map some++List.replicate (N.length - vs.length) none
def aB (CX:VF) (P:Program) (w:World) (K:W.Frag) (mg:Str→Option Value) (base:Heap) (N:List Str) (qual:Str) (scope:Scope) (f:Addr) (cd:Value) (A:Around) (outer:List Env) (s:Shared) (H:Hp) (E:XK):Cx where
  prog:=P
  w:=w
  K:=K
  mg:=mg
  base:=base
  A:=A.deeper (envOfC qual scope s.heap.objs.size f cd)
  N:=N
  s₀:=s
  H₀:=H
  env:=envOfC qual scope s.heap.objs.size f cd
  outer:=outer
  stack:=envOfC qual scope s.heap.objs.size f cd::outer
  ex:=[]
  calm:=true
  fn:=fun _=>true
  pn:=[]
  xe:=fun e s'=>wpAny (model P w) (A.deeper (envOfC qual scope s.heap.objs.size f cd)) (leaving (envOfC qual scope s.heap.objs.size f cd) e) (fun _ s''=>CX outer H s E e s'') (fun e' s''=>CX outer H s E e' s'') s'
theorem KZ {sc:Scope} {n:Nat} {x:Str} (h:sc.names.lookup x=some .cell):∃c,(cellsFrom n sc.names []).lookup x=some c:=by
  have q:=W.cellsFrom_some sc.names n [] (.inl h);exact Option.isSome_iff_exists.mp q
theorem Hg {CX:VF} {P:Program} {w:World} {K:W.Frag} {mg:Str→Option Value} {base:Heap} {N ps:List Str} {qual:Str} {scope:Scope} {f:Addr} {cd:Value} {A:Around} {outer:List Env} {s s1:Shared} {H:Hp} {E:XK} {us:List Value} {vs:List V}
    (S:bC N ps scope) (hd:A.handled=none) (e0:KY P w K mg base A outer s H) (hl:vs.length=ps.length) (r:Vals vs us)
    (x:InCallC s s.heap.objs.size (bindL (envOfC qual scope s.heap.objs.size f cd).kindOf (ps.zip us) fun _=>none) (cellsFrom (s.heap.objs.size+1) scope.names []) (bindC (envOfC qual scope s.heap.objs.size f cd).kindOf (ps.zip us) fun _=>none) s1) :
    Inv (aB CX P w K mg base N qual scope f cd A outer s H E) [] (start N vs) H s1:=by
  have hpl:ps.length≤N.length:=by have:=congrArg List.length S.pre;rw[List.length_take] at this;omega
  obtain⟨h1,tk,rfl,hk⟩:=x.done;have noA:∀b:Addr,b∉(aB CX P w K mg base N qual scope f cd A outer s H E).ex:=fun b z=>absurd (show b∈([]:List Addr) from z) (by simp);refine⟨⟨e0.mod,S.kind,rfl,rfl,Nat.le_refl _,fun y z c h1 h2=>?_,fun y hy=>?_,fun y c _ h=>?_,fun _=>hd,Around.frames_deeper e0.frames,.inr ⟨rfl,rfl⟩,fun b z=>absurd z (noA b),e0.bs,e0.RK,fun b _ _=>noA b,fun b z=>absurd z (noA b),e0.tQ,e0.Vl⟩,
    rfl,e0.bare,Un.kept hk,⟨_,x.toInCall.ns,fun i y v h1 h2 h3=>?_⟩,fun y c h=>⟨_,x.cell y c h⟩,e0.hok.fresh (Nat.le_refl _),fun y c h=>?_,fun p hp=>absurd (show p∈([]:List (Addr×Obj)) from hp) (by simp),e0.hok.kept hk,?_⟩
  ·exact name_of_addr x.apart (PySem.mem_of_lookup h1) (PySem.mem_of_lookup h2)
  · have hy:scope.names.lookup y=some .cell∨scope.names.lookup y=some .free:=hy
    rcases hy with hy | hy
    ·exact KZ hy
    ·exact absurd rfl (S.qcf _ (PySem.mem_of_lookup hy))
  ·exact Nat.le_of_lt (x.above y c (PySem.mem_of_lookup h))
  · have hi:i<vs.length:=by
      unfold start at h2
      by_cases hi:i<vs.length
      ·exact hi
      ·rw[List.getElem?_append_right (by simpa using hi)] at h2;rw[List.getElem?_replicate] at h2;split at h2 <;> cases h2
    have ha:vs[i]? = some v:=by
      unfold start at h2;rw[List.getElem?_append_left (by simpa using hi),List.getElem?_map] at h2;cases e:vs[i]? with
      | none=>rw[e] at h2;cases h2
      | some a=>rw[e] at h2;cases h2;rfl
    obtain⟨u,hu,rv⟩:=r.get ha;have hp:ps[i]? = some y:=by
      rw[← S.pre,List.getElem?_take_of_lt (by omega)];exact h1
    have ndP:ps.Nodup:=by rw[← S.pre];exact S.nd.sublist (List.take_sublist _ _)
    refine⟨u,rv,?_⟩
    rcases S.par y (List.mem_of_getElem? hp) with k | k
    ·exact .inl ⟨k,G_ ndP hp hu k⟩
    ·obtain⟨c,e⟩:=KZ (n:=s.heap.objs.size+1) k;refine .inr ⟨.inl k,c,e,?_⟩;have q:=x.cell y c e;rw[Hf ndP hp hu (by show scope.names.lookup y≠_;rw[k];decide)] at q;exact q
  ·exact e0.hok.fresh (Nat.le_of_lt (x.above y c (PySem.mem_of_lookup h)))
  ·unfold start;show _=N.length;rw[List.length_append,List.length_map,List.length_replicate];omega
theorem qa7 {CX:VF} {P:Program} {w:World} {K:W.Frag} {mg:Str→Option Value} {base:Heap} {k:Nat} {f:Addr} {name qual:Str} {params:Arguments} {body:List Stmt} {scope:Scope} {dV kV doc pm cdv ct oc:Value} {an od:Option Addr}
    {osl:Array (Option Value)} {N ps:List Str} {sp:Sp} (lk:K.lookup f=some ⟨oc,od,.func (W.fnOf name qual params body scope dV kV doc pm an cdv ct),osl⟩) (hcd:W.codeIn K cdv qual=true) (S:bC N ps scope)
    (len:∀vs H Q E,sp vs H Q E→vs.length=ps.length)
    (hbody:∀(A:Around) (outer:List Env) (s:Shared) (H:Hp) (vs:List V) (Q:VK) (E:XK),jl k (A.deeper (envOfC qual scope s.heap.objs.size f cdv))→sp vs H Q E→
      ∃t,Gn (aB CX P w K mg base N qual scope f cdv A outer s H E) body t∧t {nx:=fun _ H'=>Q .non H',rt:=Q} (start N vs) H) :
    dG P w K mg base CX (k+1) f (W.fnOf name qual params body scope dV kV doc pm an cdv ct) ps sp:=by
  refine⟨len,fun A outer s H args us vs Q E hr e0 hb r hsp=>?_⟩;have hl:=len _ _ _ _ hsp;have KX:K.In s.heap:=e0.mod.Ip.keeps fun b o e=>(e0.bs b o e).1;have lim:s.heap.NoLimit:=e0.mod.nolimit.keeps fun b o e=>(e0.bs b o e).1;have hkind:∀y∈ps.zip us,scope.names.lookup y.1=some .local∨(scope.names.lookup y.1=some .cell∧((cellsFrom (s.heap.objs.size+1) scope.names []).lookup y.1).isSome=true):=fun⟨n,v⟩ hy=>by
    rcases S.par n (List.of_mem_zip hy).1 with q | q
    ·exact .inl q
    ·exact .inr ⟨q,W.cellsFrom_some _ _ _ (.inl q)⟩
  refine codeAny_call_function hr.depth (KX _ _ lk) rfl S.co S.gen rfl (W.codeRec_of KX hcd) (hb _ _ _ _ ?_);refine wpAny_newFunctionEnv_cells S.kind hkind fun env he s1 x=>?_;subst he;refine⟨lim.keeps x.toInCall.keep,codeAny_func ?_⟩;obtain⟨t,ht,hq⟩:=hbody A outer s H vs Q E (hr.deeper _) hsp;have I:Inv (aB CX P w K mg base N qual scope f cdv A outer s H E) [] (start N vs) H s1:=Hg S hr.hd e0 hl r x;refine wpAny_mono (ht [] s1 (start N vs) H _ I hq) (fun fl s' hs=>?_) fun e s' hs=>hs;have fin:∀{σ':St} {H':Hp} {v:V} {u:Value},Inv (aB CX P w K mg base N qual scope f cdv A outer s H E) [] σ' H' s'→RelV v u→Q v H'→CE outer P w H s Q u s':=
    fun {σ' H' v u} J rv q=>⟨v,H',J.os,J.bare,J.base,J.hok,rv,q⟩
  cases fl with
  | ret u=>
    obtain⟨v,σ',H',J,rv,q⟩:=hs;exact fin J rv q
  | next=>
    obtain⟨σ',H',J,q⟩:=hs;exact fin (v:=V.non) (u:=Value.none) J rfl q
  | brk=>
    obtain⟨_,_,_,q⟩:=hs;exact False.elim q
  | cont=>
    obtain⟨_,_,_,q⟩:=hs;exact False.elim q
section
variable {X:Cx} {x:Str} {p pos:Pos} {e:Expr} {es:List Expr} {t:TA} {id T:String} {r:List V→Hp→VK→Prop}
def tCB (r:List V→Hp→VK→Prop) (t:TA):TE:=fun σ H Q=>t σ H fun vs H1=>r vs H1 Q
theorem aF (hc:cP X (.builtin id) r) (hg:Gl X x) (hm:X.mg x=none) (hv:bootBuiltins x=some (.builtin id)) (ha:PA X (e::es) t) (hn:x≠ "__name__" :=by decide) (hdb:(x == ("__debug__" : Str))=false:=by decide)
    (he:starEach (e::es) X.env=(false,eval e X.env)::starEach es X.env:=by rfl) (hpl:(backTo pos (starEach es X.env)).any (·.1)=false:=by rfl):PE X (.Call (.Name x p) (e::es) [] pos) (tCB r t):=by
  intro p_ s σ H Q I h;refine wpAny_Call_Name_kw (pH I hg hm hv ?_ hn hdb);refine PyProof.Rows.callWith_builtin1 (cN (ha pos p_ s σ H _ I h) fun us s1 zz=>?_) he hpl;obtain⟨vs,H1,I1,r1,q1⟩:=zz;exact hc p_ s1 σ H1 vs us Q I1 r1 q1
theorem eE (hc:cP X (.type T) r) (hg:Gl X x) (hm:X.mg x=none) (hv:bootBuiltins x=some (.type T)) (ha:PA X (e::es) t) (hn:x≠ "__name__" :=by decide) (hdb:(x == ("__debug__" : Str))=false:=by decide)
    (he:starEach (e::es) X.env=(false,eval e X.env)::starEach es X.env:=by rfl) (hpl:(backTo pos (starEach es X.env)).any (·.1)=false:=by rfl):PE X (.Call (.Name x p) (e::es) [] pos) (tCB r t):=by
  intro p_ s σ H Q I h;refine wpAny_Call_Name_kw (pH I hg hm hv ?_ hn hdb);refine PyProof.Rows.callWith_type1 (cN (ha pos p_ s σ H _ I h) fun us s1 zz=>?_) he hpl;obtain⟨vs,H1,I1,r1,q1⟩:=zz;exact hc p_ s1 σ H1 vs us Q I1 r1 q1
end
end L2
namespace HT
open PySem PyProof.Rows
section
variable {prog:Program} {w:World} {A:Around} {E:Value→Shared→Prop} {s:Shared}
def jJ (n d:Nat):Option Int→Nat
  | none=>d
  | some v=>if v<0 then (v+(n:Int)).toNat else min v.toNat n
theorem qcg (n d:Nat) (hd:d≤n) (o:Option Int):jJ n d o≤n:=by
  cases o with
  | none=>exact hd
  | some v=>
    show(if v<0 then (v+(n:Int)).toNat else min v.toNat n)≤n
    by_cases hv:v<0
    ·rw[if_pos hv];omega
    ·rw[if_neg hv];exact Nat.min_le_right _ _
theorem Qx (v:Int) (n d:Nat):(if v<0 then max (v+(n:Int)) 0 else min v (n:Int))=((jJ n d (some v):Nat):Int):=by
  show(if v<0 then max (v+(n:Int)) 0 else min v (n:Int))=(((if v<0 then (v+(n:Int)).toNat else min v.toNat n):Nat):Int)
  by_cases hv:v<0
  ·simp only[if_pos hv];omega
  ·simp only[if_neg hv];omega
theorem N7 (lo hi:Option Int) (n:Nat):Builtin.Slice.sliceAdjust lo hi 1 (n:Int)=(((jJ n 0 lo:Nat):Int),((jJ n n hi:Nat):Int)):=by
  have h1:¬((1:Int)<0):=by omega
  unfold Builtin.Slice.sliceAdjust;simp only[h1,if_false];refine Prod.ext ?_ ?_
  · cases lo with
    | none=>rfl
    | some v=>exact Qx v n 0
  · cases hi with
    | none=>rfl
    | some v=>exact Qx v n n
theorem N8 (i j:Nat):Builtin.Slice.slicePlaces (i:Int) (j:Int) 1=j - i:=by
  unfold Builtin.Slice.slicePlaces;have h1:(1:Int) > 0:=by omega
  simp only[h1,if_true,Int.ediv_one];split <;> omega
theorem Cr {v:Value} {o:Option Int} {Q:Option Int→Shared→Prop} (p:IsPart v o) (h:Q o s):wpAny (model prog w) A (Builtin.Slice.slicePartIndex v) Q E s:=by
  cases p with
  | none=>exact slicePart_none h
  | int i t=>exact slicePart_int h
theorem yX {sl:Addr} {vl vu:Value} {lo hi:Option Int} {n:Nat} {Q:Int×Int×Nat→Shared→Prop} (hs:s.heap.IsSliceOf sl vl vu .none) (pl:IsPart vl lo) (pu:IsPart vu hi)
    (h:Q (((jJ n 0 lo:Nat):Int),1,jJ n n hi - jJ n 0 lo) s):wpAny (model prog w) A (Builtin.Slice.sliceApplied (.ref sl) (pure (n:Int))) Q E s:=by
  obtain⟨os,hos,hcs,hds⟩:=id hs;unfold Builtin.Slice.sliceApplied Builtin.Slice.sliceFields;refine wpAny_bind (wpAny_bind (wpAny_field hos hds (x:=vl) rfl (wpAny_bind (wpAny_field hos hds (x:=vu) rfl (wpAny_bind (wpAny_field hos hds (x:=.none) rfl (wpAny_pure ?_)))))));refine wpAny_bind (slicePart_none ?_);show wpAny _ _ (if ((1:Int) == 0)=true then _ else _) _ _ s
  rw[if_neg (by decide)];refine wpAny_bind (Cr pl (wpAny_bind (Cr pu (wpAny_bind (wpAny_pure ?_)))));show wpAny _ _ (match Builtin.Slice.sliceAdjust lo hi 1 (n:Int) with | (lo,hi)=>pure (lo,(1:Int),Builtin.Slice.slicePlaces lo hi 1)) _ _ s
  rw[N7 lo hi n];show wpAny _ _ (pure (((jJ n 0 lo:Nat):Int),(1:Int),Builtin.Slice.slicePlaces ((jJ n 0 lo:Nat):Int) ((jJ n n hi:Nat):Int) 1)) _ _ s;rw[N8];exact wpAny_pure h
theorem VP (xs:Array Value) (i k:Nat):((List.range k).filterMap fun(m:Nat)=>xs[((i:Int)+(m:Int) * 1).toNat]?).toArray=((xs.toList.drop i).take k).toArray:=by
  have e:(fun(m:Nat)=>xs[((i:Int)+(m:Int) * 1).toNat]?)=fun m=>xs[i+m]?:=by
    funext m
    have:((i:Int)+(m:Int) * 1).toNat=i+m:=by omega
    rw[this]
  rw[e];have:=pick_run xs i k;rw[List.filterMap_map] at this;have e2:((fun x=>xs[x]?) ∘ fun x=>i+x)=fun m=>xs[i+m]?:=rfl;rw[e2] at this;rw[this]
theorem xO {t sl:Addr} {items:Array Value} {vl vu:Value} {lo hi:Option Int} {Q:Value→Shared→Prop} (ht:IsTup s.heap t items) (hs:s.heap.IsSliceOf sl vl vu .none) (pl:IsPart vl lo) (pu:IsPart vu hi)
    (hw:¬(jJ items.size 0 lo=0∧jJ items.size items.size hi=items.size))
    (h:Q (.ref s.heap.objs.size) {s with heap:=s.heap.push {cls:=.type "tuple",data:=.seq ((items.toList.drop (jJ items.size 0 lo)).take (jJ items.size items.size hi - jJ items.size 0 lo)).toArray}})
    (hsz:items.size≤sizeLine):wpAny (model prog w) A (getItem (.ref t) (.ref sl)) Q E s:=by
  have Qy:sizeOk (.seq ((items.toList.drop (jJ items.size 0 lo)).take (jJ items.size items.size hi - jJ items.size 0 lo)).toArray):=by
    show((items.toList.drop (jJ items.size 0 lo)).take (jJ items.size items.size hi - jJ items.size 0 lo)).toArray.size≤sizeLine;rw[List.size_toArray,List.length_take,List.length_drop,Array.length_toList];omega
  have hj:jJ items.size items.size hi≤items.size:=qcg _ _ (Nat.le_refl _) hi;obtain⟨os,hos,hcs,hds⟩:=id hs;have hTs:s.TypeIs (.ref sl) "slice" :=⟨os,hos,hcs⟩;unfold getItem
  try with_reducible refine wpAny_holding ?_
  first | refine wpAny_bind (wpAny_pure ?_) | skip
  refine wpAny_bind (wpAny_sequenceKey ht.typeIs (by decide) ?_);refine wpAny_bind (wpAny_callSpecial?_slot (name:=Str.ofString "__getitem__") ht.typeIs PyProof.Rows.slot_tuple_getitem
    (wpAny_call_entry PyProof.Rows.slot_tuple_getitem ht.typeIs entry_tuple_getitem ?_ (args_tuple_getitem _ _)))
  show wpAny _ _ (Builtin.Tuple.tupleItemsOf (.ref t) >>= _) _ _ s;refine wpAny_bind (tupleItemsOf_ ht ?_);refine wpAny_bind (wpAny_typeOf hTs ?_);rw[if_pos (by decide)];refine wpAny_bind (yX hs pl pu ?_);have hno:¬((((jJ items.size 0 lo:Nat):Int) == 0 && (1:Int) == 1 && (jJ items.size items.size hi - jJ items.size 0 lo) == items.size)=true):=by
    intro q;rw[Bool.and_eq_true,Bool.and_eq_true] at q;have q1:((jJ items.size 0 lo:Nat):Int)=0:=eq_of_beq q.1.1;have q2:jJ items.size items.size hi - jJ items.size 0 lo=items.size:=eq_of_beq q.2;exact hw ⟨by omega,by omega⟩
  show wpAny _ _ (if (((jJ items.size 0 lo:Nat):Int) == 0 && (1:Int) == 1 && (jJ items.size items.size hi - jJ items.size 0 lo) == items.size)=true then _ else _) _ _ s
  rw[if_neg hno,VP]
  first
    | exact wpAny_bind (m:=Builtin.Tuple.tupleExact _) (wpAny_newObj_type (wpAny_pure ⟨_,rfl,wpAny_pure h⟩) Qy)
    | exact wpAny_bind (m:=Builtin.Tuple.tupleExact _) (wpAny_newObj_type (wpAny_bind (wpAny_pure (wpAny_pure ⟨_,rfl,wpAny_pure h⟩))) Qy)
    | exact wpAny_bind (wpAny_bind (m:=Builtin.Tuple.tupleExact _) (wpAny_newObj_type (wpAny_pure (wpAny_pure ⟨_,rfl,wpAny_pure h⟩)) Qy))
    | exact wpAny_bind (wpAny_bind (m:=Builtin.Tuple.tupleExact _) (wpAny_newObj_type (wpAny_pure ⟨_,rfl,wpAny_pure h⟩) Qy))
end
end HT
namespace L2
open PySem PySem.Spec PyProof.Rows
abbrev TO:=St→Hp→(Option Int→Hp→Prop)→Prop
def PO (X:Cx) (e:Option Expr) (t:TO):Prop:=
  ∀(p_:List (Addr×Obj)) (s:Shared) (σ:St) (H:Hp) (Q:Option Int→Hp→Prop),Inv X p_ σ H s→t σ H Q→
    wpAny (model X.prog X.w) X.A (evalPart e X.env) (fun u s'=>∃o H',Inv X p_ σ H' s'∧IsPart u o∧Q o H') X.xe s
def Qz:TO:=fun _ H Q=>Q none H
def VR (t:TE):TO:=fun σ H Q=>t σ H fun x H1=>∃i,x = .int i∧Q (some i) H1
section
variable {X:Cx} {e:Expr} {te:TE} {lo hi:Option Expr} {tl th:TO} {pos p2:Pos}
theorem lF:PO X none Qz:=by
  intro p_ s σ H Q I h;rw[evalPart_none];exact wpAny_pure ⟨none,H,I,.none,h⟩
theorem lG (h:PE X e te):PO X (some e) (VR te):=by
  intro p_ s σ H Q I hw;rw[evalPart_some];refine cN (h p_ s σ H _ I hw) fun u s1 zz=>?_;obtain⟨x,H1,I1,r1,q1⟩:=zz;obtain⟨i,rfl,q⟩:=q1;obtain⟨t,rfl⟩:=r1;exact⟨some i,H1,I1,.int i t,q⟩
def Zy (X:Cx) (r:V→Option Int→Option Int→Hp→VK→Prop):Prop:=
  ∀(p_:List (Addr×Obj)) (s:Shared) (σ:St) (H:Hp) (x:V) (v vl vu:Value) (lo hi:Option Int) (sl:Addr) (Q:VK),Inv X p_ σ H s→RelV x v→s.heap.IsSliceOf sl vl vu .none→IsPart vl lo→IsPart vu hi→r x lo hi H Q→
    ∃T id,typeLookup (.type T) "__getitem__" = pure (some (.builtin id))∧s.TypeIs v T∧wpAny (model X.prog X.w) X.A (getItem v (.ref sl)) (EP X p_ σ Q) X.xe s
def tSl (r:V→Option Int→Option Int→Hp→VK→Prop) (te:TE) (tl th:TO):TE:=fun σ H Q=>te σ H fun x H1=>tl σ H1 fun l H2=>th σ H2 fun u H3=>r x l u H3 Q
theorem jo {r:V→Option Int→Option Int→Hp→VK→Prop} (hr:Zy X r) (he:PE X e te) (hl:PO X lo tl) (hu:PO X hi th):PE X (.Subscript e (.Slice lo hi none p2) pos) (tSl r te tl th):=by
  intro p_ s σ H Q I h;refine Subscript_ (cN (he p_ s σ H _ I h) fun v s1 zz=>?_);obtain⟨x,H1,I1,r1,q1⟩:=zz;refine wpAny_Slice (cN (hl p_ s1 σ H1 _ I1 q1) fun vl s2 ⟨l,H2,I2,pl,q2⟩=>cN (hu p_ s2 σ H2 _ I2 q2) fun vu s3 ⟨u,H3,I3,pu,q3⟩=>?_);rw[evalPart_none];refine wpAny_pure ?_;have I4:Inv X p_ σ H3 {s3 with heap:=s3.heap.push {cls:=.type "slice",data:=.fields #[vl,vu,.none]}}:=I3.kept (t':=s3.toks) fun b ob q=>Heap.get?_push_of_some _ q;obtain⟨T,id,hT,ht,hg⟩:=hr p_ {s3 with heap:=s3.heap.push {cls:=.type "slice",data:=.fields #[vl,vu,.none]}} σ H3 x v vl vu l u s3.heap.objs.size Q I4 r1 (Heap.IsSliceOf.new ..) pl pu q3;show wpAny (model X.prog X.w) X.A (subscriptTail e (.Slice lo hi none p2) v (.ref s3.heap.objs.size)) (EP X p_ σ Q) X.xe {s3 with heap:=s3.heap.push {cls:=.type "slice",data:=.fields #[vl,vu,.none]}};exact tail_any (ops:=[.ref s3.heap.objs.size,v]) ht hT hg (by with_unfolding_all rfl)
def tY (xs:List V) (lo hi:Option Int):List V:=(xs.drop (HT.jJ xs.length 0 lo)).take (HT.jJ xs.length xs.length hi - HT.jJ xs.length 0 lo)
theorem Ai (xs:List V) (lo hi:Option Int):(tY xs lo hi).length≤xs.length:=by
  unfold tY;rw[List.length_take,List.length_drop];omega
def qch (K:W.Frag):V→Option Int→Option Int→Hp→VK→Prop:=fun x lo hi H Q=>∃a xs,x = .ref a∧d9 K H a xs∧
  ¬(HT.jJ xs.length 0 lo=0∧HT.jJ xs.length xs.length hi=xs.length)∧∀p,H p=none→Q (.ref p) (upd H p (.tup (tY xs lo hi)))
theorem qci:Zy X (qch X.K):=by
  intro p_ s σ H x v vl vu lo hi sl Q I rx hs pl pu h;obtain⟨a,xs,rfl,hx,hw,q⟩:=h;cases rx;obtain⟨its,r,ht,hz⟩:=I.tuple hx;have hlen:its.toArray.size=xs.length:=by rw[List.size_toArray];exact r.length.symm
  refine⟨"tuple",_,PyProof.Rows.slot_tuple_getitem.lookup,ht.typeIs,?_⟩;refine HT.xO ht hs pl pu (by rw[hlen];exact hw) ?_ (by rw[hlen];exact hz);rw[hlen];refine⟨.ref s.heap.objs.size,_,I.laid (t':=s.toks) (o:=.tup (tY xs lo hi)) (fun b ob q=>Heap.get?_push_of_some _ q) (Nat.le_refl _) ?_,rfl,q _ (I.hok.fresh (Nat.le_refl _))⟩;exact⟨Nat.le_trans (Ai xs lo hi) hz,_,(r.drop (HT.jJ xs.length 0 lo)).take (HT.jJ xs.length xs.length hi - HT.jJ xs.length 0 lo),IsTup.new _ _⟩
theorem Vals.Zz {xs:List V} {us:List Value} (r:Vals xs us):us=[]↔xs=[]:=by
  cases r with
  | nil=>simp
  | cons _ _=>simp
end
def QB (n:Nat) (i:Int):Option Nat:=if 0≤i then (if i<n then some i.toNat else none) else if -(n:Int)≤i then some (i+n).toNat else none
def xK {α:Type} (xs:List α) (i:Int):Option α:=(QB xs.length i).bind fun j=>xs[j]?
theorem QC {n:Nat} {i:Int} {j:Nat} (h:QB n i=some j):seqIndex? i n=some j∧j<n∧-(n:Int)≤i∧i<n:=by
  unfold QB at h
  by_cases h0:0≤i
  · rw[if_pos h0] at h
    by_cases h1:i<n
    ·rw[if_pos h1] at h;have e:i.toNat=j:=Option.some.inj h;exact⟨by rw[seqIndex_of h0 h1,e],by omega,by omega,h1⟩
    ·rw[if_neg h1] at h;cases h
  · rw[if_neg h0] at h
    by_cases h1 : -(n:Int)≤i
    ·rw[if_pos h1] at h;have e:(i+n).toNat=j:=Option.some.inj h;exact⟨by rw[seqIndex_neg (by omega) h1,e],by omega,h1,by omega⟩
    ·rw[if_neg h1] at h;cases h
theorem IK {α:Type} {xs:List α} {i:Int} {v:α} (h:xK xs i=some v):∃j,seqIndex? i xs.length=some j∧xs[j]? = some v∧j<xs.length∧-(xs.length:Int)≤i∧i<xs.length:=by
  unfold xK at h;cases e:QB xs.length i with
  | none=>rw[e] at h;cases h
  | some j=>
    rw[e] at h;obtain⟨h1,h2,h3,h4⟩:=QC e;exact⟨j,h1,h,h2,h3,h4⟩
theorem bD {α:Type} {xs:List α} {j:Nat} {v:α} (h:xs[j]? = some v):xK xs (j:Int)=some v:=by
  have hj:j<xs.length:=(List.getElem?_eq_some_iff.mp h).1;have e:QB xs.length (j:Int)=some j:=by
    unfold QB;rw[if_pos (by omega),if_pos (by omega)];simp
  unfold xK;rw[e];exact h
theorem Cu {α:Type} (xs:List α) (v:α):xK (xs++[v]) (-1)=some v:=by
  have hl:(xs++[v]).length=xs.length+1:=by simp
  have e:QB (xs++[v]).length (-1)=some xs.length:=by
    unfold QB;rw[hl,if_neg (by decide),if_pos (by omega)];congr 1;omega
  unfold xK;rw[e];show(xs++[v])[xs.length]? = some v;simp
def ZC (b:Expr):Prop:=∀o i,subscripted b false o i=operate [o,i] (getItem o i)
def V0 (X:Cx) (r:R2):Prop:=
  ∀(value slice:Expr) (p_:List (Addr×Obj)) (s:Shared) (σ:St) (H:Hp) (x y:V) (v u:Value) (Q:VK),Inv X p_ σ H s→RelV x v→RelV y u→r x y H Q→
    subscripted slice false v u=operate [v,u] (getItem v u)→wpAny (model X.prog X.w) X.A (subscriptTail value slice v u) (EP X p_ σ Q) X.xe s
def R6 (X:Cx) (id:String) (r:V→List V→Hp→VK→Prop):Prop:=
  ∀(p_:List (Addr×Obj)) (s:Shared) (σ:St) (H:Hp) (x:V) (xs:List V) (v:Value) (us:List Value) (Q:VK),Inv X p_ σ H s→RelV x v→Vals xs us→r x xs H Q→
    wpAny (model X.prog X.w) X.A (call (.builtin id) (v::us)) (EP X p_ σ Q) X.xe s
section
variable {X:Cx} {a b:Expr} {ta tb:TE} {pos:Pos}
theorem bW {r:R2} (hr:V0 X r) (ha:PE X a ta) (hb:PE X b tb) (hs:ZC b):PE X (.Subscript a b pos) (Y6 r ta tb):=by
  intro p_ s σ H Q I h;exact Subscript_ (qb5 ha hb I h fun v u s2 x y H2 I2 rx ry q=>hr a b p_ s2 σ H2 x y v u Q I2 rx ry q (hs _ _))
def qj3 (K:W.Frag):R2:=fun x y H Q=>∃p xs i v,x = .ref p∧y = .int i∧aX K H p xs∧xK xs i=some v∧Q v H
def qj4 (K:W.Frag):R2:=fun x y H Q=>∃p xs i v,x = .ref p∧y = .int i∧d9 K H p xs∧xK xs i=some v∧Q v H
def qe3:R2:=fun x y H Q=>∃z i c,x = .str z∧y = .int i∧z.length≤sizeLine∧xK z.cps.toList i=some c∧Q (.str ⟨#[c]⟩) H
theorem ZD:V0 X (qj3 X.K):=by
  intro value slice p_ s σ H x y v u Q I rx ry h hs;obtain⟨p,xs,i,z,rfl,rfl,hq,he,q⟩:=h;cases rx;obtain⟨t,rfl⟩:=ry;obtain⟨its,r,pl,hz⟩:=I.list hq;obtain⟨j,h1,h2,h3,h4,h5⟩:=IK he;obtain⟨w,ew,V1⟩:=r.get h2;have hl:=r.length;have hn:=vU;have fin:EP X p_ σ Q w s:=⟨z,H,I,V1,q⟩
  by_cases h0:0≤i
  · have hj:i.toNat=j:=by
      rw[seqIndex_of h0 h5] at h1;exact Option.some.inj h1
    exact item_listR pl.isList h0 (by omega) (by rw[hj];simpa using ew) fin hs
  · have hj:(i+(its.toArray.size:Int)).toNat=j:=by
      rw[seqIndex_neg (by omega) h4] at h1;rw[List.size_toArray,← hl];exact Option.some.inj h1
    exact subscriptTail_builtinR (x:=w) pl.isList.typeIs slot_list_getitem.lookup
      (wpAny_getItem_list_neg (Q:=fun r s'=>r=w∧EP X p_ σ Q r s') pl.isList (by omega) (by rw[List.size_toArray] <;> omega) (by omega) (by rw[hj];simpa using ew) ⟨rfl,fin⟩) hs
theorem qcj:V0 X (qj4 X.K):=by
  intro value slice p_ s σ H x y v u Q I rx ry h hs;obtain⟨p,xs,i,z,rfl,rfl,hq,he,q⟩:=h;cases rx;obtain⟨t,rfl⟩:=ry;obtain⟨its,r,pl,hz⟩:=I.tuple hq;obtain⟨j,h1,h2,h3,h4,h5⟩:=IK he;obtain⟨w,ew,V1⟩:=r.get h2;have hl:=r.length;have hn:=vU;have fin:EP X p_ σ Q w s:=⟨z,H,I,V1,q⟩;exact subscriptTail_builtinR (x:=w) pl.typeIs slot_tuple_getitem.lookup
    (getItem_tuple (j:=j) (Q:=fun r s'=>r=w∧EP X p_ σ Q r s') pl (by omega) (by omega) (by rw[List.size_toArray,← hl];exact h1) (by simpa using ew) ⟨rfl,fin⟩) hs
theorem qck:V0 X qe3:=by
  intro value slice p_ s σ H x y v u Q I rx ry h hs;obtain⟨z,i,c,rfl,rfl,hz,he,q⟩:=h;obtain⟨t,rfl⟩:=rx;obtain⟨t',rfl⟩:=ry;obtain⟨j,h1,h2,h3,h4,h5⟩:=IK he;have hl:z.cps.toList.length=z.length:=by simp[Str.length]
  rw[hl] at h1 h4 h5;have hn:=vU;exact tail_any (typeIs_str s z t) slot_str_getitem.lookup (getItem_str (c:=c) (by
    have e1:decide (i < -(2 ^ 63:Int))=false:=decide_eq_false (by omega);have e2:decide (i≥2 ^ 63)=false:=decide_eq_false (by omega);rw[e1,e2,Bool.or_false]) (by rw[h1];simpa using h2) ⟨.str ⟨#[c]⟩,H,I.tok _,⟨_,rfl⟩,q⟩) hs
theorem N_ (its:List Value) (n j:Nat) (u:Value):Obj.mapSeq (·.setIfInBounds j u) {cls:=.type "list",data:=.seq its.toArray n}={cls:=.type "list",data:=.seq (its.set j u).toArray n}:=by
  simp[Obj.mapSeq]
theorem Inv.lst {p_:List (Addr×Obj)} {σ:St} {H:Hp} {s:Shared} {p:Addr} {xs:List V} (I:Inv X p_ σ H s) (h:H p=some (.lst xs)) :
    ∃(its:List Value) (n:Nat),Vals xs its∧s.heap.get? p=some {cls:=.type "list",data:=.seq its.toArray n}∧xs.length≤sizeLine:=by
  obtain⟨z,its,n,r,e⟩:=I.hok p _ h;exact⟨its,n,r,e,z⟩
theorem Inv.qcl {p_:List (Addr×Obj)} {σ:St} {H:Hp} {s:Shared} {p:Addr} {xs ys:List V} {its its':List Value} {n n':Nat} {f:Obj→Obj} (I:Inv X p_ σ H s) (h:H p=some (.lst xs))
    (ho:s.heap.get? p=some {cls:=.type "list",data:=.seq its.toArray n}) (hf:f {cls:=.type "list",data:=.seq its.toArray n}={cls:=.type "list",data:=.seq its'.toArray n'}) (r:Vals ys its') (hz:ys.length≤sizeLine) (t:Nat) :
    Inv X p_ σ (upd H p (.lst ys)) {s with heap:=s.heap.update p f,toks:=t}:=by
  have e:(s.heap.update p f).get? p=some {cls:=.type "list",data:=.seq its'.toArray n'}:=by
    rw[Heap.get?_update_self f ho (by rw[hf] <;> rfl),hf]
  refine I.write (x:=p) (e:=p) (by rw[h];trivial) (.inl rfl) (fun b u hb q=>(Heap.get?_update_other _ _ (Ne.symm hb)).trans q) ⟨_,e⟩ ?_;exact⟨hz,its',n',r,e⟩
def qa8:V→V→V→Hp→(Hp→Prop)→Prop:=fun o i v H Q=>∃p xs k j,o = .ref p∧i = .int k∧H p=some (.lst xs)∧QB xs.length k=some j∧Q (upd H p (.lst (xs.set j v)))
theorem set_list:RN X qa8:=by
  intro p_ s σ H o i v ov iv u Q I ro ri rv h;obtain⟨p,xs,k,j,rfl,rfl,hp,hj,q⟩:=h;cases ro;obtain⟨t,rfl⟩:=ri;obtain⟨its,n,r,ho,hz⟩:=I.lst hp;obtain⟨h1,h2,h3,h4⟩:=QC hj;have hl:=r.length;have hn:=vU;have I':Inv X p_ σ (upd H p (.lst (xs.set j v))) {s with heap:=s.heap.update p (Obj.mapSeq (·.setIfInBounds j u))}:=
    I.qcl hp ho (N_ its n j u) (r.set rv j) (by rw[List.length_set];exact hz) s.toks
  by_cases h0:0≤k
  · have hk:k.toNat=j:=by
      rw[seqIndex_of h0 h4] at h1;exact Option.some.inj h1
    exact W.ki_setAt ho h0 (by omega) (by rw[List.size_toArray,← hl];exact h4) (by rw[hk];exact⟨_,I',q⟩)
  · have hk:(k+(its.toArray.size:Int)).toNat=j:=by
      rw[seqIndex_neg (by omega) h3] at h1;rw[List.size_toArray,← hl];exact Option.some.inj h1
    exact W.ki_setBack ho (by omega) (by rw[List.size_toArray,← hl];exact h3) (by omega) (by rw[hk];exact⟨_,I',q⟩)
theorem IV (lo hi:Option Int) (n:Nat):(sliceBounds lo hi none n).1=((HT.jJ n 0 lo:Nat):Int)∧(sliceBounds lo hi none n).2.1=((HT.jJ n n hi:Nat):Int)∧(sliceBounds lo hi none n).2.2=1:=by
  refine⟨?_,?_,rfl⟩
  · cases lo with
    | none=>simp[sliceBounds,HT.jJ]
    | some i=>
      simp only[sliceBounds,HT.jJ,Option.getD_none,show(1:Int) > 0 by decide,if_true]
      by_cases h:i<0
      ·simp only[h,if_true] <;> omega
      ·simp only[h,if_false] <;> omega
  · cases hi with
    | none=>simp[sliceBounds,HT.jJ]
    | some i=>
      simp only[sliceBounds,HT.jJ,Option.getD_none,show(1:Int) > 0 by decide,if_true]
      by_cases h:i<0
      ·simp only[h,if_true] <;> omega
      ·simp only[h,if_false] <;> omega
theorem Gs (its:List Value) (lo hi:Option Int):slicePick its.toArray lo hi none=((its.drop (HT.jJ its.length 0 lo)).take (HT.jJ its.length its.length hi - HT.jJ its.length 0 lo)).toArray:=by
  obtain⟨h1,h2,h3⟩:=IV lo hi its.toArray.size;unfold slicePick;rw[h1,h2,h3];simp only[sliceRange_one,pick_run,List.size_toArray] <;> rfl
def ZF (K:W.Frag):V→Option Int→Option Int→Hp→VK→Prop:=fun x lo hi H Q=>∃a xs,x = .ref a∧aX K H a xs∧∀p,H p=none→Q (.ref p) (upd H p (.lst (tY xs lo hi)))
theorem ZG:Zy X (ZF X.K):=by
  intro p_ s σ H x v vl vu lo hi sl Q I rx hs pl pu h;obtain⟨a,xs,rfl,hx,q⟩:=h;cases rx;obtain⟨its,r,ht,hz⟩:=I.list hx;have hlen:=r.length;refine⟨"list",_,slot_list_getitem.lookup,ht.isList.typeIs,?_⟩;refine wpAny_getItem_list_slice ht.isList hs pl pu .none (by simp) ?_ (by rw[List.size_toArray] <;> omega);rw[Gs,← hlen];refine⟨.ref s.heap.objs.size,_,I.laid (t':=s.toks) (o:=.lst (tY xs lo hi)) (fun b ob q=>Heap.get?_push_of_some _ q) (Nat.le_refl _) ?_,rfl,q _ (I.hok.fresh (Nat.le_refl _))⟩;exact⟨Nat.le_trans (Ai xs lo hi) hz,_,0,(r.drop (HT.jJ xs.length 0 lo)).take (HT.jJ xs.length xs.length hi - HT.jJ xs.length 0 lo),Heap.get?_push_size _ rfl⟩
def jK:V→Bool
  | .non=>true
  | .bl _=>true
  | .int _=>true
  | .str _=>true
  | _=>false
def R7:V→V→Bool
  | .non,.non=>true
  | .bl a,.bl b=>a == b
  | .bl a,.int b=>(if a then 1 else 0) == b
  | .int a,.bl b=>a == (if b then 1 else 0)
  | .int a,.int b=>a == b
  | .str a,.str b=>a == b
  | _,_=>false
theorem qcm {A:Around} {s:Shared} {y x:V} {u v:Value} (ry:RelV y u) (rx:RelV x v) (fy:jK y=true) (fx:jK x=true):SeqAt.EqAt A s u v (R7 y x):=by
  cases y with
  | non=>
    cases ry;cases x with
    | non=>cases rx;exact SeqAt.EqAt.same _
    | bl b=>cases rx;exact SeqAt.EqAt.none_bool b
    | int b=>obtain⟨t,rfl⟩:=rx;exact SeqAt.EqAt.none_int b t
    | str b=>obtain⟨t,rfl⟩:=rx;exact SeqAt.EqAt.none_str b t
    | _=>exact absurd (show false=true from fx) Bool.false_ne_true
  | bl a=>
    cases ry;cases x with
    | non=>cases rx;exact SeqAt.EqAt.bool_none a
    | bl b=>cases rx;exact SeqAt.EqAt.bool_bool a b
    | int b=>obtain⟨t,rfl⟩:=rx;exact SeqAt.EqAt.bool_int a b t
    | str b=>obtain⟨t,rfl⟩:=rx;exact SeqAt.EqAt.bool_str a b t
    | _=>exact absurd (show false=true from fx) Bool.false_ne_true
  | int a=>
    obtain⟨t',rfl⟩:=ry;cases x with
    | non=>cases rx;exact SeqAt.EqAt.int_none a t'
    | bl b=>cases rx;exact SeqAt.EqAt.int_bool a t' b
    | int b=>obtain⟨t,rfl⟩:=rx;exact SeqAt.EqAt.int_int a t' b t
    | str b=>obtain⟨t,rfl⟩:=rx;exact SeqAt.EqAt.int_str a t' b t
    | _=>exact absurd (show false=true from fx) Bool.false_ne_true
  | str a=>
    obtain⟨t',rfl⟩:=ry;cases x with
    | non=>cases rx;exact SeqAt.EqAt.str_none a t'
    | bl b=>cases rx;exact SeqAt.EqAt.str_bool a t' b
    | int b=>obtain⟨t,rfl⟩:=rx;exact SeqAt.EqAt.str_int a t' b t
    | str b=>obtain⟨t,rfl⟩:=rx;exact SeqAt.EqAt.str_str a t' b t
    | _=>exact absurd (show false=true from fx) Bool.false_ne_true
  | _=>exact absurd (show false=true from fy) Bool.false_ne_true
def Oa (x:V) (u:Value):Bool:=match u with
  | .none=>R7 .non x
  | .bool b=>R7 (.bl b) x
  | .int i _=>R7 (.int i) x
  | .str z _=>R7 (.str z) x
  | _=>false
theorem V2 {x y:V} {u:Value} (r:RelV y u) (f:jK y=true):Oa x u=R7 y x:=by
  cases y with
  | non=>cases r;rfl
  | bl b=>cases r;rfl
  | int i=>obtain⟨t,rfl⟩:=r;rfl
  | str z=>obtain⟨t,rfl⟩:=r;rfl
  | _=>exact absurd (show false=true from f) Bool.false_ne_true
theorem xP {x:V}:∀{xs:List V} {us:List Value},Vals xs us→xs.all jK=true→us.any (Oa x)=xs.any fun y=>R7 y x
  | _,_,.nil,_=>rfl
  | y::xs,u::us,.cons r t,f=>by
    rw[List.all_cons,Bool.and_eq_true] at f;rw[List.any_cons,List.any_cons,V2 r f.1,xP t f.2]
theorem tZ {A:Around} {s:Shared} {x:V} {v:Value} (rx:RelV x v) (fx:jK x=true):∀{xs:List V} {us:List Value},Vals xs us→xs.all jK=true→∀u∈us,SeqAt.EqAt A s u v (Oa x u)
  | _,_,.nil,_=>fun u hu=>by cases hu
  | y::xs,u::us,.cons r t,f=>fun u' hu=>by
    rw[List.all_cons,Bool.and_eq_true] at f
    rcases List.mem_cons.mp hu with rfl | hu
    ·rw[V2 r f.1];exact qcm r rx f.1 fx
    ·exact tZ rx fx t f.2 u' hu
def inV (x:V) (xs:List V):Bool:=xs.any fun y=>R7 y x
def rIn (K:W.Frag) (neg:Bool):R2:=fun x y H Q=>∃p xs,y = .ref p∧(aX K H p xs∨d9 K H p xs)∧jK x=true∧xs.all jK=true∧Q (.bl (if neg then !inV x xs else inV x xs)) H
theorem R8:jk X (compareOp .In) (rIn X.K false):=by
  intro p_ s σ H x y v u Q I rx ry h;obtain⟨p,xs,rfl,hq,fx,fs,q⟩:=h;cases ry
  rcases hq with hq | hq
  ·obtain⟨its,r,pl,hz⟩:=I.list hq;refine SeqAt.in_listAt (Oa x) pl.isList (fun w hw=>tZ rx fx r fs w (by simpa using hw)) ⟨.bl _,H,I,rfl,?_⟩;rw[show its.toArray.any (Oa x)=its.any (Oa x) by simp,xP r fs];exact q
  ·obtain⟨its,r,pl,hz⟩:=I.tuple hq;refine SeqAt.in_tupleAt (Oa x) pl (fun w hw=>tZ rx fx r fs w (by simpa using hw)) ⟨.bl _,H,I,rfl,?_⟩;rw[show its.toArray.any (Oa x)=its.any (Oa x) by simp,xP r fs];exact q
theorem IW:jk X (compareOp .NotIn) (rIn X.K true):=by
  intro p_ s σ H x y v u Q I rx ry h;obtain⟨p,xs,rfl,hq,fx,fs,q⟩:=h;cases ry
  rcases hq with hq | hq
  ·obtain⟨its,r,pl,hz⟩:=I.list hq;refine SeqAt.notIn_listAt (Oa x) pl.isList (fun w hw=>tZ rx fx r fs w (by simpa using hw)) ⟨.bl _,H,I,rfl,?_⟩;rw[show its.toArray.any (Oa x)=its.any (Oa x) by simp,xP r fs];exact q
  ·obtain⟨its,r,pl,hz⟩:=I.tuple hq;refine SeqAt.notIn_tupleAt (Oa x) pl (fun w hw=>tZ rx fx r fs w (by simpa using hw)) ⟨.bl _,H,I,rfl,?_⟩;rw[show its.toArray.any (Oa x)=its.any (Oa x) by simp,xP r fs];exact q
theorem I_:jk X (compareOp .NotIn) (fun x y H Q=>∃i j,x = .str i∧y = .str j∧Q (.bl (!(!(Builtin.Str.occurrences j i 0 j.length 1).isEmpty))) H):=by
  intro p_ s σ H x y v u Q I rx ry h;obtain⟨i,j,rfl,rfl,q⟩:=h;obtain⟨t,rfl⟩:=rx;obtain⟨t',rfl⟩:=ry;exact notIn_str ⟨.bl _,H,I,rfl,q⟩
theorem Ja:cP X (.builtin "len") (fun xs H Q=>∃p ys,xs=[.ref p]∧(aX X.K H p ys∨d9 X.K H p ys)∧Q (.int ys.length) H):=by
  intro p_ s σ H xs us Q I r h;obtain⟨p,ys,rfl,hq,q⟩:=h;obtain⟨u,rfl,rx⟩:=vals1 r;cases rx;have hn:=vU
  rcases hq with hq | hq
  ·obtain⟨its,r',pl,hz⟩:=I.list hq;have hlen:=r'.length;exact Calls.call_len_list pl.isList (by simp only[List.size_toArray] <;> omega) ⟨.int ys.length,H,I.tok _,⟨s.toks+1,by rw[List.size_toArray,hlen]⟩,q⟩
  ·obtain⟨its,r',pl,hz⟩:=I.tuple hq;have hlen:=r'.length;exact len_tuple pl (by simp only[List.size_toArray] <;> omega) ⟨.int ys.length,H,I.tok _,⟨s.toks+1,by rw[List.size_toArray,hlen]⟩,q⟩
theorem Jb:cP X (.builtin "len") (fun xs H Q=>∃z,xs=[.str z]∧z.length≤sizeLine∧Q (.int z.length) H):=by
  intro p_ s σ H xs us Q I r h;obtain⟨z,rfl,hz,q⟩:=h;obtain⟨u,rfl,t,rfl⟩:=vals1 r;have hn:=vU;exact len_str (by omega) ⟨.int z.length,H,I.tok _,⟨_,rfl⟩,q⟩
theorem Jc:cP X (.type "list") (fun xs H Q=>∃p ys,xs=[.ref p]∧(aX X.K H p ys∨d9 X.K H p ys)∧∀l,H l=none→Q (.ref l) (upd H l (.lst ys))):=by
  intro p_ s σ H xs us Q I r h;obtain⟨p,ys,rfl,hq,q⟩:=h;obtain⟨u,rfl,rx⟩:=vals1 r;cases rx;have fin:∀(its:List Value),Vals ys its→ys.length≤sizeLine→∀(h':Heap) (c':Nat),(∀b o',s.heap.get? b=some o'→h'.get? b=some o')→
      h'.get? s.heap.objs.size=some {cls:=.type "list",dict:=none,data:=.seq its.toArray c',slots:=#[]}→EP X p_ σ Q (.ref s.heap.objs.size) {s with heap:=h'}:=fun its r' hz h' c' kp e=>
    ⟨.ref s.heap.objs.size,_,I.laid (t':=s.toks) kp (Nat.le_refl _) (show cM X.prog X.w _ h' _ (.lst ys) from⟨hz,its,c',r',e⟩),rfl,q _ (I.hok.fresh (Nat.le_refl _))⟩
  rcases hq with hq | hq
  ·obtain⟨its,r',pl,hz⟩:=I.list hq;have hlen:=r'.length;obtain⟨o,ho,hc,n,hd⟩:=pl.isList;exact call_list_seq p (.inl rfl) ho hc hd (fun h' c' kp e=>fin its r' hz h' c' kp e) (by simp only[List.size_toArray] <;> omega)
  ·obtain⟨its,r',pl,hz⟩:=I.tuple hq;have hlen:=r'.length;obtain⟨o,ho,hc,n,hd⟩:=pl;exact call_list_seq p (.inr rfl) ho hc hd (fun h' c' kp e=>fin its r' hz h' c' kp e) (by simp only[List.size_toArray] <;> omega)
theorem Gu:cP X (.type "tuple") (fun xs H Q=>∃p ys,xs=[.ref p]∧((aX X.K H p ys∧∀l,H l=none→Q (.ref l) (upd H l (.tup ys)))∨(d9 X.K H p ys∧Q (.ref p) H))):=by
  intro p_ s σ H xs us Q I r h;obtain⟨p,ys,rfl,h⟩:=h;obtain⟨u,rfl,rx⟩:=vals1 r;cases rx
  rcases h with⟨hq,q⟩ | ⟨hq,q⟩
  · obtain⟨its,r',pl,hz⟩:=I.list hq;have hlen:=r'.length;refine call_tuple_list pl.isList (fun h' kp=>?_) (by simp only[List.size_toArray] <;> omega);have I1:Inv X p_ σ H {s with heap:=h'}:=I.kept (t':=s.toks) kp;have I2:Inv X p_ σ (upd H h'.objs.size (.tup ys)) {s with heap:=h'.push {cls:=.type "tuple",data:=.seq its.toArray}}:=
      I1.laid (t':=s.toks) (fun b o e=>Heap.get?_push_of_some _ e) (Nat.le_refl _) (show cM X.prog X.w _ _ _ (.tup ys) from⟨hz,its,r',IsTup.new _ _⟩)
    exact⟨.ref h'.objs.size,_,I2,rfl,q _ (I1.hok.fresh (Nat.le_refl _))⟩
  ·obtain⟨its,r',pl,hz⟩:=I.tuple hq;exact call_tuple_same pl ⟨.ref p,H,I,rfl,q⟩
def ZJ (K:W.Frag) (T:String) (x:V) (H:Hp):Prop:=match x with
  | .str _=>T = "str"
  | .int _=>T = "int"
  | .ref p=>(T = "list" ∧∃xs,aX K H p xs)∨(T = "tuple" ∧∃o,K.lookup p=some o∧o.cls = .type "tuple" ∧o.dict=none)∨
      (T = "dict" ∧((∃kvs,H p=some (.dK kvs))∨∃kvs,H p=some (.dT kvs)))∨(T = "set" ∧∃S n,H p=some (.set S n))
  | _=>False
theorem V3 {p_:List (Addr×Obj)} {σ:St} {H:Hp} {s:Shared} {T:String} {x:V} {v:Value} (I:Inv X p_ σ H s) (r:RelV x v) (ty:ZJ X.K T x H) :
    s.TypeIs v T∧∀a,v = .ref a→∃ob,s.heap.get? a=some ob∧ob.dict=none:=by
  cases x with
  | str z=>
    obtain⟨t,rfl⟩:=r;cases (show T = "str" from ty);exact⟨typeIs_str s z t,fun _ e=>nomatch e⟩
  | int i=>
    obtain⟨t,rfl⟩:=r;cases (show T = "int" from ty);exact⟨typeIs_int s i t,fun _ e=>nomatch e⟩
  | ref p=>
    cases r
    rcases ty with⟨rfl,xs,hq⟩ | ⟨rfl,o,hk,hc,hd⟩ | ⟨rfl,hk⟩ | ⟨rfl,S,n,hk⟩
    ·obtain⟨its,_,pl,_⟩:=I.list hq;refine⟨pl.isList.typeIs,fun a e=>?_⟩;cases e;obtain⟨o,n,e,c,hd,_⟩:=pl;exact⟨o,e,hd⟩
    ·refine⟨⟨o,I.oE p o hk,hc⟩,fun a e=>?_⟩;cases e;exact⟨o,I.oE _ o hk,hd⟩
    · have z:∃o,s.heap.get? p=some o∧o.ExactDict:=by
        rcases hk with⟨kvs,hk⟩ | ⟨kvs,hk⟩
        ·obtain⟨_,_,_,_,o,_,_,e,ex,_⟩:=I.hok p _ hk;exact⟨o,e,ex⟩
        ·obtain⟨_,_,_,_,o,_,_,e,ex,_⟩:=I.hok p _ hk;exact⟨o,e,ex⟩
      obtain⟨o,e,ex⟩:=z;refine⟨⟨o,e,ex.1⟩,fun a e2=>?_⟩;cases e2;exact⟨o,e,ex.2.1⟩
    ·obtain⟨o,_,_,_,e,ex,_⟩:=I.hok p _ hk;refine⟨⟨o,e,ex.1⟩,fun a e2=>?_⟩;cases e2;exact⟨o,e,ex.2.1⟩
  | _=>exact False.elim ty
def qcn (K:W.Frag) (T:String) (r:V→List V→Hp→VK→Prop) (to:TE):TE:=fun σ H Q=>to σ H fun x H1=>ZJ K T x H1∧r x [] H1 Q
def tBM (K:W.Frag) (T:String) (r:V→List V→Hp→VK→Prop) (to:TE) (t:TA):TE:=fun σ H Q=>to σ H fun x H1=>ZJ K T x H1∧t σ H1 fun xs H2=>r x xs H2 Q
variable {o e:Expr} {es:List Expr} {to:TE} {t:TA} {name:Str} {apos cpos:Pos} {T id:String} {r:V→List V→Hp→VK→Prop}
theorem qco (pa:PlainAttrs T) (slot:Slot T name id) (hty:typeOf (.builtin id)=pure (.type "method_descriptor")) (hm:R6 X id r) (ho:PE X o to)
    (hbase:attributeBase o name X.env (eval o X.env)=eval o X.env:=by rfl) (hline:(apos.endLine == cpos.line)=true:=by rfl):PE X (.Call (.Attribute o name apos) [] [] cpos) (qcn X.K T r to):=by
  intro p_ s σ H Q I h;refine wpAny_Call_method0_late hbase hline (cN (ho p_ s σ H _ I h) fun v s1 zz=>?_);obtain⟨x,H1,I1,r1,ty,q1⟩:=zz;obtain⟨h1,h2⟩:=V3 I1 r1 ty;exact⟨T,id,pa,slot,hty,h1,h2,Calls.callWith_builtin rfl (PySem.evalArgs_none (hm p_ s1 σ H1 x [] v [] Q I1 r1 .nil q1))⟩
theorem qe4 (pa:PlainAttrs T) (slot:Slot T name id) (hty:typeOf (.builtin id)=pure (.type "method_descriptor")) (hm:R6 X id r) (ho:PE X o to) (ha:PA X (e::es) t)
    (hbase:attributeBase o name X.env (eval o X.env)=eval o X.env:=by rfl)
    (hfew:((backTo cpos (starEach (e::es) X.env)).all (fun x=>!x.1) && (backToKw cpos (keywordEach [] X.env)).all (fun x=>x.1.isSome)
      && decide ((e::es).length+([]:List Keyword).length+(if ([]:List Keyword).isEmpty then 0 else 1)<30))=true:=by rfl)
    (hline:(apos.endLine == cpos.line)=true:=by rfl) (hs:starEach (e::es) X.env=(false,eval e X.env)::starEach es X.env:=by rfl) (hplain:(backTo cpos (starEach es X.env)).any (·.1)=false:=by rfl) :
    PE X (.Call (.Attribute o name apos) (e::es) [] cpos) (tBM X.K T r to t):=by
  intro p_ s σ H Q I h;refine wpAny_Call_method_late hbase hfew hline rfl (cN (ho p_ s σ H _ I h) fun v s1 zz=>?_);obtain⟨x,H1,I1,r1,ty,q1⟩:=zz;obtain⟨h1,h2⟩:=V3 I1 r1 ty;refine⟨T,id,pa,slot,hty,h1,h2,?_⟩;have hA:=ha cpos p_ s1 σ H1 _ I1 q1;rw[hs] at hA ⊢;refine Calls.callWith_builtin (by show(false || (backTo cpos (starEach es X.env)).any (·.1))=false;rw[hplain] <;> rfl) (Calls.evalArgs_plain ?_)
  refine cN hA fun us s2 zz=>?_;obtain⟨vs,H2,I2,r2,q2⟩:=zz;exact hm p_ s2 σ H2 x vs v us Q I2 r1 r2 q2
end
def MtM (X:Cx) (id:String) (r:V→List V→Hp→VK→Prop):Prop:=
  ∀(p_:List (Addr×Obj)) (s:Shared) (σ:St) (H:Hp) (x:V) (xs:List V) (v:Value) (us:List Value) (Q:VK),Inv X p_ σ H s→RelV x v→Vals xs us→r x xs H Q→
    wpAny (model X.prog X.w) X.A (call (.builtin id) (v::us)) (EP X p_ σ Q) X.xe s
theorem Vals.one {x:V} {us:List Value} (h:Vals [x] us):∃u,us=[u]∧RelV x u:=vals1 h
theorem Vals.two {x y:V} {us:List Value} (h:Vals [x,y] us):∃u v,us=[u,v]∧RelV x u∧RelV y v:=vals2 h
theorem Vals.zero:∀{us:List Value},Vals [] us→us=[]
  | _,.nil=>rfl
section
variable {X:Cx} {p_:List (Addr×Obj)} {σ:St} {H:Hp} {s:Shared} {l b:Addr} {xs ys zs:List V}
theorem Inv.qcp {its its':List Value} {n:Nat} {f:Array Value→Array Value} {t':Nat} (I:Inv X p_ σ H s) (hH:H l=some (.lst xs))
    (e:s.heap.get? l=some {cls:=.type "list",data:=.seq its.toArray n}) (hf:f its.toArray=its'.toArray) (hv:Vals ys its') (hz:ys.length≤sizeLine) :
    Inv X p_ σ (upd H l (.lst ys)) {s with heap:=s.heap.update l (Obj.mapSeq f),toks:=t'}:=by
  have q:=PySem.IsL.update e f;rw[hf] at q;refine I.write (x:=l) (e:=l) (by rw[hH];exact trivial) (.inl rfl) (fun b' u hb hu=>(Heap.get?_update_other s.heap (Obj.mapSeq f) (Ne.symm hb)).trans hu) ⟨_,q⟩ ?_;exact⟨hz,its',_,hv,q⟩
theorem Inv.ZK {its:List Value} {t':Nat} (I:Inv X p_ σ H s) (hv:Vals ys its) (hz:ys.length≤sizeLine) :
    Inv X p_ σ (upd H s.heap.objs.size (.lst ys)) {s with heap:=s.heap.push {cls:=.type "list",data:=.seq its.toArray},toks:=t'}:=
  I.laid (fun _ _ q=>Heap.get?_push_of_some _ q) (Nat.le_refl _) ⟨hz,its,0,hv,Heap.get?_push_size _ rfl⟩
theorem Inv.fresh (I:Inv X p_ σ H s):H s.heap.objs.size=none:=I.hok.fresh (Nat.le_refl _)
theorem Inv.Jd (I:Inv X p_ σ H s) (hH:H l=some (.lst xs)):xs.length≤sizeLine∧∃(its:List Value) (n:Nat),Vals xs its∧xs.length=its.length∧s.heap.get? l=some {cls:=.type "list",data:=.seq its.toArray n}:=by
  obtain⟨z,its,n,r,e⟩:=I.hok l _ hH;exact⟨z,its,n,r,r.length,e⟩
end
section
variable {X:Cx}
def Je:V→List V→Hp→VK→Prop:=fun x vs H Q=>∃l xs y,x = .ref l∧vs=[y]∧H l=some (.lst xs)∧xs.length<sizeLine∧Q .non (upd H l (.lst (xs++[y])))
theorem yZ:MtM X "list.append" Je:=by
  intro p_ s σ H x vs v us Q I rx rv h;obtain⟨l,xs,y,rfl,rfl,hH,hz,q⟩:=h;cases rx;obtain⟨u,rfl,ru⟩:=rv.one;obtain⟨z,its,n,r,hl,e⟩:=I.Jd hH;refine call_meets F.slot_list_append ⟨_,e,rfl⟩ F.entry_list_append (F.args_list_append_2 _ _) (PySem.list_append l its.toArray n u (by rw[List.size_toArray];omega)) ⟨e,?_⟩;refine⟨.non,_,I.qcp (its':=its++[u]) hH e (by simp) (r.append (.cons ru .nil)) ?_,rfl,q⟩;rw[List.length_append,List.length_singleton];omega
def Ob:V→List V→Hp→VK→Prop:=fun x vs H Q=>∃l xs,x = .ref l∧vs=[]∧H l=some (.lst xs)∧Q .non (upd H l (.lst []))
theorem V4:MtM X "list.clear" Ob:=by
  intro p_ s σ H x vs v us Q I rx rv h;obtain⟨l,xs,rfl,rfl,hH,q⟩:=h;cases rx;have hus:=rv.zero;subst hus;obtain⟨z,its,n,r,hl,e⟩:=I.Jd hH;refine call_meets F.slot_list_clear ⟨_,e,rfl⟩ F.entry_list_clear (F.args_list_clear_1 _) (AutoSeq1.list_clear_list_0 l its.toArray n (by rw[List.size_toArray];omega)) ⟨e,?_⟩;exact⟨.non,_,I.qcp (its':=[]) (ys:=[]) hH e rfl .nil (Nat.zero_le _),rfl,q⟩
def qe5:R2:=fun x y H Q=>∃l b xs zs,x = .ref l∧y = .ref b∧H l=some (.lst xs)∧H b=some (.lst zs)∧xs.length+zs.length≤sizeLine∧∀p,H p=none→Q (.ref p) (upd H p (.lst (xs++zs)))
theorem qcq:jk X (binaryOp .Add) qe5:=by
  intro p_ s σ H x y v u Q I rx ry h;obtain⟨l,b,xs,zs,rfl,rfl,hH,hB,hz,q⟩:=h;cases rx;cases ry;obtain⟨z,its,n,r,hl,e⟩:=I.Jd hH;obtain⟨z2,its2,n2,r2,hl2,e2⟩:=I.Jd hB;refine PySem.P.add_list e e2 ?_ (by rw[List.size_toArray,List.size_toArray];omega);have ea:its.toArray++its2.toArray=(its++its2).toArray:=by simp
  rw[ea];exact⟨.ref _,_,I.ZK (t':=s.toks) (r.append r2) (by rw[List.length_append];omega),rfl,q _ I.fresh⟩
end
end L2
namespace Att
open PySem PySem.W PySem.Calls PyProof.Rows
theorem Bk {P:Params} {h:Heap}:∀(ns:List Int) (vs:List Value),WellAll P h vs (ns.map WData.int)→IntsAre vs ns:=by
  intro ns
  induction ns with
  | nil=>
    intro vs w;rw[List.map_nil] at w;cases w;exact .nil
  | cons n ns ih=>
    intro vs w;rw[List.map_cons] at w;cases w with
    | cons a b=>
      cases a;exact .cons _ _ (ih _ b)
theorem R9 {l:OpenLaw} {n:Nat} (hn:l.most=some n) {P:Params} {h:Heap} {args:List WData} {vals:List Value}
    (hpre:l.row.toRowW.claim.pre args=true) (hwl:WellAll P h vals args) :
    ∃a vs ns,vals=[Value.ref a]∧args=[WData.list (ns.map WData.int)]∧h.get? a=some {cls:=.type "list",data:=.seq vs.toArray}∧IntsAre vs ns∧ns.length≤n:=by
  have hsh:WShape.hasAll [] args [.list .int]=true:=(pre_splitW hpre).1;have hc:l.pre.holds [] {args:=args}=true:=(pre_splitW hpre).2;obtain⟨d,r,rfl,h1,h2⟩:=hasAllW_cons hsh;obtain rfl:=hasAllW_nil h2;obtain⟨xs,rfl,h3⟩:=hasW_list h1;obtain⟨ns,rfl⟩:=items_int h3;have hlen:ns.length≤n:=by
    unfold OpenLaw.pre at hc;have h4:(WTm.not (.lt (.lit (.int (n:Int))) (.len (.arg 0)))).holds [] {args:=[.list (ns.map .int)]}=true:=by
      have h4:=(holds_andW hc).1;rw[hn] at h4;exact h4
    have h5:=condW_of h4 (w_not (w_lt w_lit (w_len_list (w_arg rfl))));rw[List.length_map] at h5;refine Nat.le_of_not_lt fun q=>?_;have q':(n:Int)<((ns.length:Nat):Int):=by omega
    first
      | (rw[decide_eq_true q'] at h5;exact absurd h5 (by decide))
      | (simp at h5;omega)
  cases hwl with
  | cons w1 w2=>
    cases w2;cases w1 with
    | list ho hall=>exact⟨_,_,ns,rfl,rfl,ho,Bk ns _ hall,hlen⟩
theorem R_ (l:OpenLaw) (args:List WData):l.row.toRowW.claim.post args (.bool true) args=true:=
  postW_of (r:=l.row.toRowW) (X:=(true == true))
    (show WShape.has [] (.bool true) .bool=true by first | rfl | decide | simp[WShape.has,WShape.arms,WShape.armsAll])
    (show(WTm.eq .res (.lit (.bool true))).value [] {args:=args,res:=some (.bool true),after:=args}=some (.bool (true == true)) from w_eq_bool (w_res rfl) w_lit) rfl
theorem K1 {l:OpenLaw} {n:Nat} {q:Program} {loose:List Str} {XP:(Str→Option Value)→Heap→Prop} {YP:World→Heap→Prop} {d:DefRec}
    (hn:l.most=some n) (hdf:d.params.defaults=[])
    (call:∀(w:World) (s₀ s₁:Shared) (mg mb:Str→Option Value) (fa:Addr) (o:Obj) (pm cd doc:Value) (a:Addr) (vs:List Value) (ns:List Int),
      Ground q loose [] XP w s₀ mg mb s₁.heap→YP w s₁.heap→
      s₁.heap.get? fa=some o→o.data = .func (docDef d.name d.params d.body d.scope pm cd doc)→s₁.heap.CodeRec cd d.name→mg d.name=some (.ref fa)→
      s₁.heap.get? a=some {cls:=.type "list",data:=.seq vs.toArray}→IntsAre vs ns→ns.length≤n→s₁.gens = #[]→
      codeAny (model l.prog w) callerA (.call (.ref fa) ⟨[.ref a],[]⟩) (fun r s'=>r = .ok (.ret (.bool true))∧OldK s₁.heap s'.heap∧s'.os=s₁.os∧AllBare s'.gens) s₁) :
    WalkO q loose XP YP l.row.toRowW d [] (fun f vs=>PySem.call f vs):=by
  intro w s₀ s₁ mg mb G Y fa o pm cd doc dV kV ho hd hcd hD hmg hg args vals as hpre hlay hrd hwl hlo;obtain rfl:dV = .none:=Dflts.none hD hdf;obtain rfl:kV = .none:=Dflts.noKw hD;obtain⟨a,vs,ns,rfl,rfl,hobj,hints,hlen⟩:=R9 hn hpre hwl;refine enter_call (codeAny_mono (call w s₀ s₁ mg mb fa o pm cd doc a vs ns G Y ho (fd_plain hd) hcd hmg hobj hints hlen hg) fun r s' hq=>?_);obtain⟨rfl,h2,h3,h4⟩:=hq;exact⟨.inl ⟨.bool true,.bool true,[],rfl,fun _=>rfl,.bool true,R_ l _,fun _=>⟨List.Pairwise.nil,fun _ hm=>(nomatch hm)⟩⟩,h2,h3,h4⟩
end Att
namespace L2
open PySem PySem.Spec PyProof.Rows
theorem Hh:∀{vs:List Value} {ns:List Int},IntsAre vs ns→Vals (ns.map V.int) vs
  | _,_,.nil=>.nil
  | _,_,.cons n t h=>.cons ⟨t,rfl⟩ (Hh h)
def Only (H:Hp):Prop:=∀b,H b=none∨∃o xs,H b=some (.Ky o (.lst xs))
theorem V5 {P:Program} {w:World} {K:W.Frag} {mg mb:Str→Option Value} {CX:VF} {k:Nat} {fa a:Addr} {fd:FuncData} {x:Str} {sp:Sp} {s₁:Shared} {vs:List Value} {ns:List Int}
    (KX:K.In s₁.heap) (hns:s₁.heap.Ns mainGlobals mg) (hb:s₁.heap.Ns builtinsNs mb) (hbb:∀x:Str,x≠ "__name__" →mb x=bootBuiltins x) (hlim:s₁.heap.NoLimit) (hg:s₁.gens = #[])
    (ha:s₁.heap.get? a=some {cls:=.type "list",data:=.seq vs.toArray}) (hi:IntsAre vs ns) (hl:ns.length≤sizeLine) (hr:jl k callerA)
    (F:∀base:Heap,K.In base→base.Ns mainGlobals mg→dG P w K mg base CX k fa fd [x] sp) (hbind:∀(s:Shared) (u:Value),BindsTo s fd ⟨[u],[]⟩ [(x,u)])
    (hsp:∀H:Hp,Only H→aX K H a (ns.map V.int)→sp [.ref a] H (fun v _=>v = .bl true) fun _ _ _=>False)
    (hCX:∀H e s',CX [] H s₁ (fun _ _ _=>False) e s'→False) :
    codeAny (model P w) callerA (.call (.ref fa) ⟨[.ref a],[]⟩) (fun r s'=>r = .ok (.ret (.bool true))∧OldK s₁.heap s'.heap∧s'.os=s₁.os∧AllBare s'.gens) s₁:=by
  have rv:=Hh hi;have lenV:=hi.length;have core:∀H:Hp,Only H→aX K H a (ns.map V.int)→tO P w H s₁.heap→(∀b,H b≠none→b=a)→(H a≠none→K.lookup a=none)→
      codeAny (model P w) callerA (.call (.ref fa) ⟨[.ref a],[]⟩) (fun r s'=>r = .ok (.ret (.bool true))∧OldK s₁.heap s'.heap∧s'.os=s₁.os∧AllBare s'.gens) s₁:=by
    intro H hO hS hok hA hK;have QD:∀{b:Addr} {o:Obj},s₁.heap.get? b=some o→H b=none→(Io s₁.heap H).get? b=some o:=fun e n=>Vk e n;have noA:∀{b:Addr} {o:Obj} {es:Array DictEntry} {ep:Nat},s₁.heap.get? b=some o→o.data = .dict es ep→H b=none:=fun {b o es ep} e d=>by
      cases q:H b with
      | none=>rfl
      | some u=>
        have e':b=a:=hA b (by rw[q];simp);subst e';rw[ha] at e;cases e;have d':Data.seq vs.toArray _=Data.dict es ep:=d;cases d'
    have nsK:∀{b:Addr} {m:Str→Option Value},s₁.heap.Ns b m→(Io s₁.heap H).Ns b m:=fun {b m} ⟨o,es,ep,e,d,r⟩=>⟨o,es,ep,QD e (noA e d),d,r⟩;have hKb:K.In (Io s₁.heap H):=fun b o e=>QD (KX b o e) (by
      cases q:H b with
      | none=>rfl
      | some u=>
        have e':b=a:=hA b (by rw[q];simp);subst e';rw[hK (by rw[q];simp)] at e;cases e)
    have hM:Mod K mg (Io s₁.heap H):=⟨hKb,nsK hns,⟨mb,nsK hb,hbb⟩,let ⟨mc,h1,h2⟩:=hlim;⟨mc,nsK h1,h2⟩⟩;have e0:KY P w K mg (Io s₁.heap H) callerA [] s₁ H:=⟨rfl,hM,fun b o e=>Zg e,Nat.le_of_eq (RJ _ _),trivial,fun b hb=>absurd (show b∈([]:List Addr) from hb) (by simp),hok,.of_eq hg⟩;refine codeAny_mono ((F _ hKb (nsK hns)).run callerA [] s₁ H ⟨[.ref a],[]⟩ [.ref a] [.ref a] _ _ hr e0 (hbind s₁ (.ref a)) (.cons rfl .nil) (hsp H hO hS)) fun r s' h=>?_;cases r with
    | error e=>exact(hCX H e s' h).elim
    | ok fl=>
      cases fl with
      | next=>exact False.elim h
      | brk=>exact False.elim h
      | cont=>exact False.elim h
      | ret u=>
        obtain⟨v,H',os,bare,un,hok',r',q⟩:=h;have q':v = .bl true:=q;subst q';obtain rfl:u=Value.bool true:=r';refine⟨rfl,OldK.of_keep fun b o e=>?_,os,bare⟩;cases q:H b with
        | none=>exact un.keep b o e q (by intro z;exact absurd (show b∈([]:List Addr) from z) (by simp)) (by simp)
        | some u=>
          rcases hO b with z | ⟨ob,xs,z⟩
          ·rw[q] at z;cases z
          ·have z2:=un.qW b ob _ z;obtain⟨e1,_⟩:=hok b _ z;obtain⟨e2,_⟩:=hok' b _ z2;rw[e] at e1;cases e1;exact e2
  cases hk:K.lookup a with
  | some o=>
    have e:=KX a o hk;rw[ha] at e;cases e;refine core (fun _=>none) (fun _=>.inl rfl) (.inr ⟨_,vs.toArray,_,hk,rfl,rfl,rfl,by rw[List.size_toArray,lenV];exact hl,by simpa using rv⟩) (fun b u z=>by have z':(none:Option HO)=some u:=z;cases z') (fun b z=>absurd rfl z) fun z=>absurd rfl z
  | none=>
    refine core (fun b=>if b=a then some (.Ky {cls:=.type "list",data:=.seq vs.toArray} (.lst (ns.map V.int))) else none) (fun b=>?_) (.inl (.inr ⟨{cls:=.type "list",data:=.seq vs.toArray},if_pos rfl⟩)) (fun b u z=>?_) (fun b z=>?_) fun _=>hk
    · by_cases hb:b=a
      ·exact .inr ⟨_,_,if_pos hb⟩
      ·exact .inl (if_neg hb)
    · by_cases hb:b=a
      ·have z':=(if_pos hb).symm.trans z;cases z';subst hb;exact⟨ha,by rw[List.length_map];exact hl,vs,_,rv,ha⟩
      ·have z':=(if_neg hb).symm.trans z;cases z'
    · by_cases hb:b=a
      ·exact hb
      ·exact absurd (if_neg hb) z
theorem ZL {l:W.OpenLaw} {n k:Nat} {q:Program} {loose:List Str} {XP:(Str→Option Value)→Heap→Prop} {YP:World→Heap→Prop} {d:DefRec} {K:Params→W.Frag} {CX:World→VF} {sp:World→Sp} {x:Str}
    (hn:l.most=some n) (hn2:n≤sizeLine) (hdf:d.params.defaults=[]) (hr:jl k callerA)
    (hY:∀(w:World) (h:Heap),YP w h→(K w.params).In h)
    (F:∀(w:World) (mg:Str→Option Value) (fa:Addr) (h:Heap),(K w.params).In h→h.Ns mainGlobals mg→mg d.name=some (.ref fa)→
      ∃fd:FuncData,(∀(s:Shared) (u:Value),BindsTo s fd ⟨[u],[]⟩ [(x,u)])∧
        ∀base:Heap,(K w.params).In base→base.Ns mainGlobals mg→dG l.prog w (K w.params) mg base (CX w) k fa fd [x] (sp w))
    (hsp:∀(w:World) (H:Hp) (a:Addr) (ns:List Int),ns.length≤n→Only H→aX (K w.params) H a (ns.map V.int)→sp w [.ref a] H (fun v _=>v = .bl true) fun _ _ _=>False)
    (hCX:∀(w:World) (H:Hp) (s:Shared) (e:Value) (s':Shared),CX w [] H s (fun _ _ _=>False) e s'→False) :
    W.WalkO q loose XP YP l.row.toRowW d [] (fun f vs=>PySem.call f vs):=by
  refine Att.K1 hn hdf fun w s₀ s₁ mg mb fa o pm cd doc a vs ns G Y ho hd hcd hmg hobj hints hlen hg=>?_;have KX:=hY w _ Y;obtain⟨fd,hb,hF⟩:=F w mg fa _ KX G.T.g hmg;exact V5 KX G.T.g G.T.b G.T.builtins G.T.nolimit hg hobj hints (Nat.le_trans hlen hn2) hr hF hb (fun H hO hS=>hsp w H a ns hlen hO hS) fun H e s'=>hCX w H s₁ e s'
def inClass (s:Stmt) (j:Nat):Stmt:=match s with
  | .ClassDef _ _ _ body _ _ _ _ _ _ _=>body.getD j (.Pass ⟨0,0,0,0⟩)
  | _=>.Pass ⟨0,0,0,0⟩
def aK (s:Stmt):Arguments:=match s with
  | .FunctionDef _ a _ _ _ _ _ _ _ _=>a
  | _=>{posonlyargs:=[],args:=[],vararg:=none,kwonlyargs:=[],kw_defaults:=[],kwarg:=none,defaults:=[]}
def aJ (s:Stmt):List Stmt:=match s with
  | .FunctionDef _ _ b _ _ _ _ _ _ _=>b
  | _=>[]
def ao (s:Stmt):Scope:=match s with
  | .FunctionDef _ _ _ _ _ _ sc _ _ _=>sc
  | _=>{kind:=.function,names:=[],isGenerator:=false,isCoroutine:=false}
abbrev mF:VF:=fun _ _ _ _ _ _=>False
abbrev E0:XK:=fun _ _ _=>False
theorem bF {X:Cx}:Passes mF X E0:=fun _ _ _ _ _ _ _ h=>h.elim
structure kW (K:W.Frag) (x qual:Str) (st:Stmt) (f:Addr) (fd:FuncData):Prop where
  ex:∃(oc:Value) (od:Option Addr) (kV doc pm:Value) (an:Option Addr) (cdv ct:Value) (osl:Array (Option Value)),
    fd=W.fnOf x qual (aK st) (aJ st) (ao st) .none kV doc pm an cdv ct∧K.lookup f=some ⟨oc,od,.func fd,osl⟩∧W.codeIn K cdv qual=true
  kp:W.keepIn K (.ref f)=true
section
variable {P:Program} {w:World} {K:W.Frag} {mg:Str→Option Value} {base:Heap}
theorem kW.ok {x qual:Str} {st:Stmt} {f:Addr} {fd:FuncData} {N ps:List Str} {k:Nat} {sp:Sp} (F:kW K x qual st f fd) (S:bC N ps (ao st)) (len:∀vs H Q E,sp vs H Q E→vs.length=ps.length)
    (hbody:∀(cdv:Value) (A:Around) (outer:List Env) (s:Shared) (H:Hp) (vs:List V) (Q:VK) (E:XK),jl k (A.deeper (envOfC qual (ao st) s.heap.objs.size f cdv))→sp vs H Q E→
      ∃t,Gn (aB mF P w K mg base N qual (ao st) f cdv A outer s H E).U_ (aJ st) t∧t {nx:=fun _ H'=>Q .non H',rt:=Q} (start N vs) H):dG P w K mg base mF (k+1) f fd ps sp:=by
  obtain⟨oc,od,kV,doc,pm,an,cdv,ct,osl,rfl,lk,hcd⟩:=F.ex;refine qa7 lk hcd S len fun A outer s H vs Q E hr hsp=>?_;obtain⟨t,h,q⟩:=hbody cdv A outer s H vs Q E hr hsp;exact⟨t,h.U_,q⟩
theorem kW.binds {x qual:Str} {st:Stmt} {f:Addr} {fd:FuncData} {ps:List Str} (F:kW K x qual st f fd)
    (h:∀(kV doc pm:Value) (an:Option Addr) (cdv ct:Value) (us:List Value),us.length=ps.length→bindArgs (W.fnOf x qual (aK st) (aJ st) (ao st) .none kV doc pm an cdv ct) ⟨us,[]⟩=pure (ps.zip us)):Binds K fd ps []:=by
  obtain⟨oc,od,kV,doc,pm,an,cdv,ct,osl,rfl,lk,hcd⟩:=F.ex;exact .all (h kV doc pm an cdv ct)
theorem bV {x qual:Str} {st:Stmt} {f:Addr} {oc:Value} {od an:Option Addr} {osl:Array (Option Value)} {kV doc pm cdv ct:Value} (l:K.lookup f=some ⟨oc,od,.func (W.fnOf x qual (aK st) (aJ st) (ao st) .none kV doc pm an cdv ct),osl⟩)
    (c:W.codeIn K cdv qual=true) (k:W.keepIn K (.ref f)=true):kW K x qual st f (W.fnOf x qual (aK st) (aJ st) (ao st) .none kV doc pm an cdv ct):=⟨⟨oc,od,kV,doc,pm,an,cdv,ct,osl,rfl,l,c⟩,k⟩
end
theorem Aj {A:Around} {k:Nat} (hr:jl k A):A.units+1<cLine:=Nat.lt_of_le_of_lt (Nat.add_le_add_left (by decide:1≤64) _) hr.units
def Same (H H':Hp):Prop:=∀b o,H b=some o→H' b=some o
theorem Same.refl (H:Hp):Same H H:=fun _ _ h=>h
theorem Same.trans {H H1 H2:Hp} (a:Same H H1) (b:Same H1 H2):Same H H2:=fun c o h=>b c o (a c o h)
theorem Same.seq {K:W.Frag} {H H':Hp} {a:Addr} {xs:List V} (e:Same H H') (h:aX K H a xs):aX K H' a xs:=by
  rcases h with(h | ⟨o,h⟩) | h
  ·exact .inl (.inl (e _ _ h))
  ·exact .inl (.inr ⟨o,e _ _ h⟩)
  ·exact .inr h
def pK (env:Env) (cs:List (Str×Addr)) (p:Str×NameKind):List (Str×Addr):=if p.2 == .free then (p.1,(env.cells.lookup p.1).getD 0)::cs else cs
def Jf (env:Env) (names:List (Str×NameKind)):List (Str×Addr):=names.foldl (pK env) []
theorem Ak {α β:Type} (f:α→β→Sem (ForInStep β)) (g:β→α→β):∀(l:List α) (b:β),(∀x∈l,∀b,f x b=pure (.yield (g b x)))→forIn l b f=pure (l.foldl g b)
  | [],_,_=>rfl
  | x::l,b,h=>by
    rw[List.forIn_cons,h x List.mem_cons_self,pure_bind];exact Ak f g l (g b x) fun y hy=>h y (List.mem_cons_of_mem _ hy)
theorem mG {sc:Scope} {env:Env} (h:∀x,(x,NameKind.free)∈sc.names→∃c,env.cells.lookup x=some c):closureFor sc env=pure (Jf env sc.names):=by
  simp only[closureFor];rw[Ak _ (pK env) sc.names [] (fun p hp cs=>by
    obtain⟨n,k⟩:=p;cases k with
    | free=>
      obtain⟨c,hc⟩:=h n hp;simp only[pK,cellOf,hc,beq_self_eq_true,if_true,Option.getD_some,pure_bind]
    | _=>simp only[pK];rfl)]
  rfl
theorem xQ {env:Env}:∀(names:List (Str×NameKind)) (acc:List (Str×Addr)) (x:Str) (c:Addr),(∀x,(x,NameKind.free)∈names→∃c,env.cells.lookup x=some c)→(∀x c,(x,c)∈acc→env.cells.lookup x=some c)→
    (x,c)∈names.foldl (pK env) acc→env.cells.lookup x=some c
  | [],_,x,c,_,h,m=>h x c m
  | (n,k)::r,acc,x,c,hf,h,m=>by
    refine xQ r (pK env acc (n,k)) x c (fun y hy=>hf y (List.mem_cons_of_mem _ hy)) (fun y d hy=>?_) m;unfold pK at hy;split at hy
    · rename_i hk;have hk':k = .free:=by simpa using hk
      subst hk';obtain⟨e,he⟩:=hf n List.mem_cons_self
      rcases List.mem_cons.mp hy with z | z
      ·cases z;show env.cells.lookup n=some _;rw[he];rfl
      ·exact h y d z
    ·exact h y d hy
theorem za {env:Env} {x:Str}:∀(names:List (Str×NameKind)) (acc:List (Str×Addr)),((x,NameKind.free)∈names∨(acc.lookup x).isSome=true)→((names.foldl (pK env) acc).lookup x).isSome=true
  | [],_,h=>h.elim (fun z=>nomatch z) id
  | (n,k)::r,acc,h=>by
    refine za r (pK env acc (n,k)) ?_
    by_cases hm:(x,NameKind.free)∈r
    ·exact .inl hm
    · refine .inr ?_;unfold pK
      rcases h with h | h
      · rcases List.mem_cons.mp h with z | z
        ·cases z;simp[List.lookup_cons]
        ·exact absurd z hm
      · split
        ·simp only[List.lookup_cons];cases x == n <;> simp[h]
        ·exact h
def Cv (env:Env) (sc:Scope) (C:Addr):List (Str×Addr):=cellsFrom (C+1) sc.names (Jf env sc.names)
theorem jq {x:Str}:∀(names:List (Str×NameKind)) (n:Nat) (acc:List (Str×Addr)),(x,NameKind.cell)∈names∨(acc.lookup x).isSome=true→((cellsFrom n names acc).lookup x).isSome=true
  | [],_,_,h=>h.elim (fun z=>nomatch z) id
  | (y,k)::r,n,acc,h=>by
    unfold cellsFrom;split
    · refine jq r (n+1) ((y,n)::acc) ?_
      by_cases hm:(x,NameKind.cell)∈r
      ·exact .inl hm
      · refine .inr ?_
        rcases h with h | h
        · rcases List.mem_cons.mp h with z | z
          ·cases z;simp[List.lookup_cons]
          ·exact absurd z hm
        ·simp only[List.lookup_cons];cases x == y <;> simp[h]
    · rename_i hk;refine jq r n acc ?_
      rcases h with h | h
      · rcases List.mem_cons.mp h with z | z
        ·cases z;exact absurd rfl hk
        ·exact .inl z
      ·exact .inr h
theorem Oc:∀(names:List (Str×NameKind)) (h:Heap) (acc:List (Str×Addr)) (x:Str) (c:Addr),(x,c)∈cellsFrom h.objs.size names acc→(x,c)∈acc∨(h.objs.size≤c∧(pushCells h names).IsCell c none)
  | [],_,_,_,_,m=>.inl m
  | (n,k)::r,h,acc,x,c,m=>by
    unfold cellsFrom at m;unfold pushCells;split at m
    · rename_i hk;rw[if_pos hk];have m':(x,c)∈cellsFrom (h.push {cls:=.type "cell",data:=.cell none}).objs.size r ((n,h.objs.size)::acc):=by rw[Heap.size_push];exact m
      rcases Oc r (h.push {cls:=.type "cell",data:=.cell none}) _ x c m' with z | ⟨z1,z2⟩
      · rcases List.mem_cons.mp z with e | e
        ·cases e;exact .inr ⟨Nat.le_refl _,⟨_,pushCells_keeps _ _ _ _ (Heap.get?_push_size _ rfl),rfl⟩⟩
        ·exact .inl e
      ·rw[Heap.size_push] at z1;exact .inr ⟨by omega,z2⟩
    ·rename_i hk;rw[if_neg hk];exact Oc r h acc x c m
theorem Od {n0:Nat} {x:Str}:∀(names:List (Str×NameKind)) (n:Nat) (acc:List (Str×Addr)) (c:Addr),((x,NameKind.cell)∈names∨∀d,acc.lookup x=some d→n0≤d)→n0≤n→(cellsFrom n names acc).lookup x=some c→n0≤c
  | [],_,_,c,h,_,e=>h.elim (fun z=>nomatch z) fun z=>z c e
  | (y,k)::r,n,acc,c,h,hn,e=>by
    unfold cellsFrom at e;split at e
    · refine Od r (n+1) ((y,n)::acc) c ?_ (by omega) e
      by_cases hm:(x,NameKind.cell)∈r
      ·exact .inl hm
      · refine .inr fun d hd=>?_
        by_cases hxy:x=y
        · subst hxy;have hnd:n=d:=by simpa [List.lookup_cons] using hd
          rw[← hnd];exact hn
        · have hb:(x == y)=false:=by simpa using hxy
          simp only[List.lookup_cons,hb] at hd
          rcases h with h | h
          · rcases List.mem_cons.mp h with z | z
            ·cases z;exact absurd rfl hxy
            ·exact absurd z hm
          ·exact h d hd
    · rename_i hk;refine Od r n acc c ?_ hn e
      rcases h with h | h
      · rcases List.mem_cons.mp h with z | z
        ·cases z;exact absurd rfl hk
        ·exact .inl z
      ·exact .inr h
theorem Oe:∀(names:List (Str×NameKind)) (n:Nat) (acc:List (Str×Addr)),(∀y d,(y,d)∈acc→d<n)→(∀y z d,(y,d)∈acc→(z,d)∈acc→y=z)→
    ∀y z d,(y,d)∈cellsFrom n names acc→(z,d)∈cellsFrom n names acc→y=z
  | [],_,_,_,h=>h
  | (x,k)::r,n,acc,hl,h=>by
    unfold cellsFrom;split
    · refine Oe r (n+1) ((x,n)::acc) (fun y d hm=>?_) fun y z d h1 h2=>?_
      · rcases List.mem_cons.mp hm with e | e
        ·cases e;exact Nat.lt_succ_self _
        ·exact Nat.lt_succ_of_lt (hl y d e)
      · rcases List.mem_cons.mp h1 with e1 | e1 <;> rcases List.mem_cons.mp h2 with e2 | e2
        ·cases e1;cases e2;rfl
        ·cases e1;exact absurd (hl z n e2) (Nat.lt_irrefl _)
        ·cases e2;exact absurd (hl y n e1) (Nat.lt_irrefl _)
        ·exact h y z d e1 e2
    ·exact Oe r n acc hl h
abbrev V6:Value→Shared→Prop:=fun _ _=>False
theorem Al {prog:Program} {w:World} {A:Around} {R:Result→Shared→Prop} {s:Shared} {elt target iter:Expr} {ifs:List Expr} {scope:Scope} {pos:Pos} {it acc:Value} {env:Env} (I:Nat→Shared→Prop)
    (turn:∀n s,I n s→wpAny (model prog w) A (pyNext it) (fun r s₁=>match r with
      | none=>R (.ok .next) s₁
      | some v=>wpAny (model prog w) A (letOwnedTupleGo target it v) (fun _ s₂=>wpAny (model prog w) A (assign target env v) (fun _ s₃=>
          wpAny (model prog w) A (forIn ifs true fun c r=>if r=true then do let ok ← isTrue c env (eval c env);pure (ForInStep.yield ok) else pure (ForInStep.yield r)) (fun ok s₄=>
            if ok=true then wpAny (model prog w) A (eval elt env) (fun x s₅=>
              wpAny (model prog w) A (call (.builtin "list.append") [acc,x]) (fun _ s₆=>∃m,m<n∧I m s₆) V6 s₅) V6 s₄
            else ∃m,m<n∧I m s₄) V6 s₃) V6 s₂) V6 s₁) V6 s)
    (n:Nat) (h:I n s):codeAny (model prog w) A (.compLoop (.ListComp elt [⟨target,iter,ifs,0⟩] scope pos) 0 it acc env) R s:=by
  refine codeAny_loop rfl I (fun n s hI=>?_) n h;show wpAny _ A ((compTurn (.ListComp elt [⟨target,iter,ifs,0⟩] scope pos) 0 it acc env).onRaise (fun x=>do noteFrame x env;theTreesLotGoes x)) _ _ s
  refine wpAny_noted ?_;rw[compTurn_list];refine wpAny_bind (wpAny_standAt (wpAny_bind (wpAny_mono (turn n s hI) (fun r s₁ h₁=>?_) fun _ _ h'=>h'.elim)));cases r with
  | none=>exact wpAny_pure h₁
  | some v=>
    refine wpAny_bind (wpAny_mono h₁ (fun _ s₂ h₂=>?_) fun _ _ h'=>h'.elim);refine wpAny_bind (wpAny_mono h₂ (fun _ s₃ h₃=>wpAny_bind (wpAny_mono h₃ (fun ok s₄ h₄=>?_) fun _ _ h'=>h'.elim)) fun _ _ h'=>h'.elim);cases ok with
    | false=>exact wpAny_pure ⟨rfl,h₄⟩
    | true=>
      exact wpAny_bind (wpAny_bind (wpAny_mono h₄ (fun x s₅ h₅=>wpAny_bind (wpAny_mono h₅ (fun _ s₆ h₆=>wpAny_pure (wpAny_pure ⟨rfl,h₆⟩)) fun _ _ h'=>h'.elim)) fun _ _ h'=>h'.elim))
def cA (X:Cx) (sc:Scope) (N:List Str) (C:Addr) (s:Shared) (H:Hp) (fp:List Addr) (pn:List (Addr×Obj)):Cx:=
  {X with env:=compEnvC sc (Cv X.env sc C) C X.env,N:=N,s₀:=s,H₀:=H,outer:=X.stack,ex:=fp,fn:=fun x=>sc.names.any fun p=>p.1 == x && p.2 == .cell,pn:=pn,xe:=V6}
theorem t_ {sc:Scope} {env:Env} (x:Str):(relabel sc env).names.lookup x=(sc.names.lookup x).map fun k=>if (k == NameKind.free && env.scope.kind == .function && env.kindOf x == some .cell)=true then NameKind.cell else k:=by
  unfold relabel;show List.lookup x (sc.names.map _)=_
  induction sc.names with
  | nil=>rfl
  | cons p r ih=>
    obtain⟨n,k⟩:=p;rw[List.map_cons];have e1:(if (k == NameKind.free && env.scope.kind == .function && env.kindOf n == some .cell)=true then (n,NameKind.cell) else (n,k))=(n,if (k == NameKind.free && env.scope.kind == .function && env.kindOf n == some .cell)=true then NameKind.cell else k):=by split <;> rfl
    show List.lookup x ((if (k == NameKind.free && env.scope.kind == .function && env.kindOf n == some .cell)=true then (n,NameKind.cell) else (n,k))::_)=_
    rw[e1]
    by_cases hx:x=n
    ·subst hx;simp only[List.lookup_cons,beq_self_eq_true,Option.map_some]
    · have hb:(x == n)=false:=by simpa using hx
      simp only[List.lookup_cons,hb];exact ih
structure aY (ps sc:Scope) (pN own:List Str) (caps:List Nat) (N:List Str):Prop where
  kind:sc.kind = .function
  uniq:∀p∈sc.names,sc.names.lookup p.1=some p.2
  nd:N.Nodup
  names:N=own++caps.map fun j=>pN.getD j ""
  free:∀p∈sc.names,p.2 = .free→ps.names.lookup p.1=some .cell∨ps.names.lookup p.1=some .free
  qj5:∀j∈caps,j<pN.length∧sc.names.lookup (pN.getD j "")=some .free
def stC (own:List Str) (caps:List Nat) (σ:St):St:=own.map (fun _=>none)++caps.map fun j=>(σ[j]?).getD none
section
variable {X:Cx} {p_:List (Addr×Obj)} {σ:St} {H:Hp} {s:Shared} {ps sc:Scope} {own pN:List Str} {caps:List Nat} {N:List Str} {fp:List Addr}
theorem aY.cells (S:aY ps sc pN own caps N) (hps:X.env.scope=ps) (ok:X.Ok):∀x,(x,NameKind.free)∈sc.names→∃c,X.env.cells.lookup x=some c:=fun x hx=>by
  refine ok.has x ?_;show X.env.scope.names.lookup x=_∨X.env.scope.names.lookup x=_;rw[hps];exact S.free (x,.free) hx rfl
theorem Cw (hfr:∀x,(x,NameKind.free)∈sc.names→∃c,X.env.cells.lookup x=some c) {C:Addr} {x:Str} {c:Addr} {h:Heap} (hC:C+1=h.objs.size) (m:(x,c)∈Cv X.env sc C):X.env.cells.lookup x=some c∨(h.objs.size≤c∧(pushCells h sc.names).IsCell c none):=by
  unfold Cv at m;rw[hC] at m
  rcases Oc sc.names h _ x c m with z | z
  ·exact .inl (xQ sc.names [] x c hfr (fun _ _ z=>nomatch z) z)
  ·exact .inr z
theorem Jg (I:Inv X p_ σ H s) (hps:X.env.scope=ps) (S:aY ps sc pN own caps N) (hf:∀b∈fp,mW X p_ H b) (ho:∀b∈fp,∃o,s.heap.get? b=some o∧∀v,o.data≠.cell v) :
    (cA X sc N s.heap.objs.size s H fp (X.pn++p_)).Ok where
  mod:=I.ok.mod
  kind:=S.kind
  glob:=I.ok.glob
  blt:=I.ok.blt
  above:=Nat.le_refl _
  inj:=fun x y c h1 h2=>by
    have cl:∀y d,(y,d)∈Jf X.env sc.names→X.env.cells.lookup y=some d:=fun y d m=>xQ sc.names [] y d (S.cells hps I.ok) (fun _ _ z=>nomatch z) m;refine Oe sc.names (s.heap.objs.size+1) (Jf X.env sc.names) (fun y d m=>?_) (fun y z d m1 m2=>I.ok.inj y z d (cl y d m1) (cl z d m2)) x y c (PySem.mem_of_lookup h1) (PySem.mem_of_lookup h2);obtain⟨v,q⟩:=I.cell y d (cl y d m);exact Nat.lt_succ_of_lt q.lt
  has:=fun x hx=>by
    have hx1:(relabel sc X.env).names.lookup x=some .cell∨(relabel sc X.env).names.lookup x=some .free:=hx;have hx':(x,NameKind.cell)∈sc.names∨(x,NameKind.free)∈sc.names:=by
      rw[t_] at hx1;cases e:sc.names.lookup x with
      | none=>rw[e] at hx1;simp at hx1
      | some k=>
        rw[e] at hx1;have hm:=PySem.mem_of_lookup e;cases k with
        | free=>exact .inr hm
        | cell=>exact .inl hm
        | _=>simp at hx1
    have q:((cellsFrom (s.heap.objs.size+1) sc.names (Jf X.env sc.names)).lookup x).isSome=true:=by
      rcases hx' with z | z
      ·exact jq sc.names _ _ (.inl z)
      ·exact jq sc.names _ _ (.inr (za sc.names [] (.inl z)))
    exact Option.isSome_iff_exists.mp q
  cab:=fun x c hx h=>by
    have hx':(x,NameKind.cell)∈sc.names:=by
      have hx:(sc.names.any fun p=>p.1 == x && p.2 == .cell)=true:=hx;obtain⟨⟨a,b⟩,hm,he⟩:=List.any_eq_true.mp hx;simp at he;obtain⟨rfl,rfl⟩:=he;exact hm
    exact Od (n0:=s.heap.objs.size) sc.names (s.heap.objs.size+1) (Jf X.env sc.names) c (.inl hx') (Nat.le_succ _) h
  hd:=I.ok.hd
  frames:=I.ok.frames
  stk:=.inl rfl
  Zi:=fun b hb=>by
    obtain⟨o,e,_⟩:=ho b hb;refine⟨Nat.ne_of_lt (Heap.lt_size e),fun x c h z=>?_⟩;subst z
    rcases Cw (S.cells hps I.ok) (h:=s.heap.push {cls:=.type "dict",data:=.dict #[]}) (by rw[Heap.size_push]) (PySem.mem_of_lookup h) with q | ⟨q,_⟩
    ·exact(hf c hb).2.2.2.2.1 x c q rfl
    ·rw[Heap.size_push] at q;exact absurd (Nat.lt_of_lt_of_le (Nat.lt_of_lt_of_le (Heap.lt_size e) (Nat.le_succ _)) q) (Nat.lt_irrefl _)
  bs:=I.bs
  RK:=Nat.le_trans I.ok.RK I.sz
  Kz:=fun b o e hb=>by
    rcases(hf b hb).2.2.2.1 with z | z
    ·exact I.ok.Kz b o e z
    ·exact absurd (Nat.lt_of_lt_of_le (Heap.lt_size e) (Nat.le_trans I.ok.RK z)) (Nat.lt_irrefl _)
  Ir:=fun b hb z=>by
    rcases List.mem_cons.mp (I.vR b z) with q | q
    ·exact(hf b hb).2.1 q
    ·exact(hf b hb).2.2.1 q
  tQ:=I.stack
  Vl:=I.Bq
def blockAt (sc:Scope) (s:Shared):Shared:={s with heap:=pushCells (s.heap.push {cls:=.type "dict",data:=.dict #[]}) sc.names}
theorem K3 (I:Inv X p_ σ H s) (hps:X.env.scope=ps) (hpN:X.N=pN) (S:aY ps sc pN own caps N) (hf:∀b∈fp,mW X p_ H b) (ho:∀b∈fp,∃o,s.heap.get? b=some o∧∀v,o.data≠.cell v) :
    Inv (cA X sc N s.heap.objs.size s H fp (X.pn++p_)) [] (stC own caps σ) H (blockAt sc s):=by
  have hk:∀b o,s.heap.get? b=some o→(blockAt sc s).heap.get? b=some o:=fun b o e=>pushCells_keeps _ _ b o (Heap.get?_push_of_some _ e);have hns:(blockAt sc s).heap.Ns s.heap.objs.size fun _=>none:=(Heap.Ns.new s.heap (.type "dict")).keeps (pushCells_keeps _ _);have hcl:∀x c,(Cv X.env sc s.heap.objs.size).lookup x=some c→X.env.cells.lookup x=some c∨(s.heap.objs.size+1≤c∧(blockAt sc s).heap.IsCell c none):=fun x c e=>by
    rcases Cw (S.cells hps I.ok) (h:=s.heap.push {cls:=.type "dict",data:=.dict #[]}) (by rw[Heap.size_push]) (PySem.mem_of_lookup e) with q | ⟨q,r⟩
    ·exact .inl q
    ·rw[Heap.size_push] at q;exact .inr ⟨q,r⟩
  refine⟨Jg I hps S hf ho,rfl,I.bare,Un.kept hk,⟨_,hns,fun i x v e1 e2 e3=>?_⟩,fun x c e=>?_,I.hok.fresh (Nat.le_refl _),fun x c e=>?_,fun p hp=>?_,I.hok.kept hk,?_⟩
  · have e1':N[i]? = some x:=e1;rw[S.names] at e1';unfold stC at e2
    by_cases hi:i<own.length
    · rw[List.getElem?_append_left (by simpa using hi),List.getElem?_map] at e2;cases q:own[i]? with
      | none=>rw[q] at e2;cases e2
      | some y=>rw[q] at e2;cases e2
    · rw[List.getElem?_append_right (by omega),List.getElem?_map] at e1';rw[List.getElem?_append_right (by simp;omega),List.getElem?_map] at e2;simp only[List.length_map] at e2;cases q:caps[i - own.length]? with
      | none=>rw[q] at e2;cases e2
      | some j=>
        rw[q] at e1' e2;have qe6:pN.getD j "" = x:=Option.some.inj e1';have e2':(σ[j]?).getD none=some v:=Option.some.inj e2;have hj:σ[j]? = some (some v):=by
          cases z:σ[j]? with
          | none=>rw[z] at e2';cases e2'
          | some o=>rw[z] at e2';exact congrArg some e2'
        obtain⟨hlt,hfree⟩:=S.qj5 j (List.mem_of_getElem? q);rw[qe6] at hfree;have hNj:X.N[j]? = some x:=by
          rw[hpN,← qe6];simp[List.getD,List.getElem?_eq_getElem hlt]
        have qe7:=S.free (x,.free) (PySem.mem_of_lookup hfree) rfl;have vis:Vis X.env.scope x:=by rw[hps];exact .inr qe7
        obtain⟨m,hn,hl⟩:=I.loc;obtain⟨u,r,l⟩:=hl j x v hNj hj vis;refine⟨u,r,.inr ?_⟩;have hkind:(relabel sc X.env).names.lookup x=some .cell∨(relabel sc X.env).names.lookup x=some .free:=by
          rw[t_,hfree];show some (if _ then _ else _)=_∨some (if _ then _ else _)=_
          split
          ·exact .inl rfl
          ·exact .inr rfl
        refine⟨hkind,?_⟩;have hcell:X.env.kindOf x=some .cell∨X.env.kindOf x=some .free:=by
          show X.env.scope.names.lookup x=_∨X.env.scope.names.lookup x=_;rw[hps];exact qe7
        rcases l with⟨hloc,_⟩ | ⟨_,c,hc,hcv⟩
        ·rcases hcell with z | z <;> (rw[hloc] at z;cases z)
        · have q2:((Cv X.env sc s.heap.objs.size).lookup x).isSome=true:=jq sc.names _ _ (.inr (za sc.names [] (.inl (PySem.mem_of_lookup hfree))));obtain⟨d,hd⟩:=Option.isSome_iff_exists.mp q2;refine⟨d,hd,?_⟩
          rcases hcl x d hd with z | ⟨z,_⟩
          ·rw[hc] at z;cases z;exact hcv.keeps hk
          ·
            exfalso;have hnc:(x,NameKind.cell)∉sc.names:=fun hm=>by
              have:=S.uniq _ hm;rw[hfree] at this;cases this
            have hmem:=PySem.mem_of_lookup hd;have qcr:∀(names:List (Str×NameKind)) (n:Nat) (acc:List (Str×Addr)),(x,NameKind.cell)∉names→(cellsFrom n names acc).lookup x=acc.lookup x:=by
              intro names
              induction names with
              | nil=>intro _ _ _;rfl
              | cons p r ih=>
                intro n acc hm;obtain⟨y,k⟩:=p;unfold cellsFrom;split
                · rename_i hkk;have hkk':k = .cell:=by simpa using hkk
                  subst hkk';rw[ih _ _ fun z=>hm (List.mem_cons_of_mem _ z)];have hxy:(x == y)=false:=by
                    cases hb:x == y with
                    | false=>rfl
                    | true=>exact absurd (by rw[beq_iff_eq.mp hb];exact List.mem_cons_self) hm
                  simp only[List.lookup_cons,hxy]
                ·exact ih _ _ fun z=>hm (List.mem_cons_of_mem _ z)
            have e5:(Jf X.env sc.names).lookup x=some d:=(qcr sc.names _ _ hnc).symm.trans hd;have e6:=xQ sc.names [] x d (S.cells hps I.ok) (fun _ _ z=>nomatch z) (PySem.mem_of_lookup e5);rw[hc] at e6;cases e6;exact absurd (Nat.lt_of_lt_of_le (Nat.lt_of_lt_of_le hcv.lt (Nat.le_succ _)) z) (Nat.lt_irrefl _)
  · rcases hcl x c e with z | ⟨_,z⟩
    ·obtain⟨v,q⟩:=I.cell x c z;exact⟨v,q.keeps hk⟩
    ·exact⟨_,z⟩
  · rcases hcl x c e with z | ⟨z,_⟩
    ·exact I.iH x c z
    ·exact I.hok.fresh (by omega)
  · rw[List.append_nil] at hp;obtain⟨e,n,ne,nf,d⟩:=I.pin p hp;refine⟨hk _ _ e,n,Nat.ne_of_lt (Heap.lt_size e),fun z=>?_,d⟩
    rcases List.mem_cons.mp (I.vR p.1 z) with q | q
    ·exact ne q
    ·exact nf q
  ·show(stC own caps σ).length=N.length;rw[S.names];simp[stC]
theorem Hi (I:Inv X p_ σ H s) (hf:∀b∈fp,mW X p_ H b) {C:Addr} {pn:List (Addr×Obj)} {Ci:List (Addr×Obj)} {σ':St} {H':Hp} {s':Shared} (I':Inv (cA X sc N C s H fp pn) Ci σ' H' s'):Inv X p_ σ H' s':=
  I.call' (ch:=fp) I'.os I'.base I'.hok I'.bare fun b hb=>⟨(hf b hb).2.2.2.1,(hf b hb).2.1,(hf b hb).2.2.2.2.1,(hf b hb).2.2.2.2.2⟩
end
def PTs (X:Cx) (ifs:List Expr) (t:TT):Prop:=
  ∀(p_:List (Addr×Obj)) (s:Shared) (σ:St) (H:Hp) (Q:Bool→Hp→Prop),Inv X p_ σ H s→t σ H Q→
    wpAny (model X.prog X.w) X.A (forIn ifs true fun c r=>if r=true then do let ok ← isTrue c X.env (eval c X.env);pure (ForInStep.yield ok) else pure (ForInStep.yield r)) (TP X p_ σ Q) X.xe s
def qe8:TT:=fun _ H Q=>Q true H
theorem fP {X:Cx}:PTs X [] qe8:=fun _ _ _ H _ I h=>wpAny_tests_nil ⟨H,I,h⟩
theorem lH {X:Cx} {c:Expr} {t:TT} (h:PT X c t):PTs X [c] t:=fun p_ s σ H Q I hw=>wpAny_tests_one (h p_ s σ H Q I hw)
def lJ (own:List Str) (caps:List Nat) (J:It) (g:TG) (tt:TT) (te:TE) (D:Addr) (σ:St) (H:Hp) (Q:Hp→Prop):Prop:=
  ∃mV:Nat→Nat→St→Hp→Prop,(∃m,mV 0 m (stC own caps σ) H)∧∀i m σ' H',mV i m σ' H'→
    (J.stop i H'∧Q H')∨(J.go i H'∧∃N:St→Hp→Prop,(∀σ2 H2,N σ2 H2→∃m',m'<m∧mV (i+1) m' σ2 H2)∧∀x H2,J.RP i H' x H2→g x σ' H2 fun σ2 H3=>tt σ2 H3 fun b H4=>
      if b=true then te σ2 H4 fun y H5=>∃ys,H5 D=some (.lst ys)∧ys.length<sizeLine∧N σ2 (upd H5 D (.lst (ys++[y]))) else N σ2 H4)
def QF (own:List Str) (caps:List Nat) (wi:TI) (g:TG) (tt:TT) (te:TE):TE:=fun σ H Q=>wi σ H fun J H1=>∀D,H1 D=none→lJ own caps J g tt te D σ (upd H1 D (.lst [])) (Q (.ref D))
theorem xR {M:Model} {A:Around} {E:Value→Shared→Prop} {s:Shared} {sc:Scope} {g:Addr} {cl:List (Str×Addr)} {qual:Str} {env:Env} {Q:Env→Shared→Prop}
    (h:Q (newEnv sc s.heap.objs.size g (cellsFrom (s.heap.objs.size+1) sc.names cl) qual none .none (some env) builtinsNs) (blockAt sc s)):wpAny M A (newFunctionEnv sc g cl [] qual none .none (some env)) Q E s:=by
  simp only[newFunctionEnv,Option.isSome_some,if_true];refine wpAny_bind (wpAny_alloc ?_);refine wpAny_bind (wpAny_layCells _ (fun name kind cells=>by cases hkc:kind == NameKind.cell <;> simp[hkc]) _ _ _ _ ?_);rw[show({s with heap:=s.heap.push {cls:=.type "dict",data:=.dict #[]}}:Shared).heap.objs.size=s.heap.objs.size+1 from Heap.size_push ..];rw[List.forIn_nil];exact wpAny_bind (wpAny_pure (wpAny_pure h))
def xT (X:Cx) (p_:List (Addr×Obj)) (σ:St) (Q:Hp→Prop) (C:Addr) (r:Result) (s':Shared):Prop:=
  ∃H',r = .ok .next∧Inv X p_ σ H' s'∧(∃m,s'.heap.Ns C m)∧mW X p_ H' C∧Q H'
section
variable {X:Cx} {ps sc:Scope} {own pN:List Str} {caps:List Nat} {N:List Str}
theorem Cy {p_:List (Addr×Obj)} {σ:St} {H:Hp} {s:Shared} {E:Value→Shared→Prop} {elt tg iter:Expr} {ifs:List Expr} {pos:Pos} {J:It} {fp:List Addr} {it D:Addr} {tn:Nat→Heap→Prop} {g:TG} {tt:TT} {te:TE} {Q:Hp→Prop}
    (I:Inv X p_ σ H s) (hps:X.env.scope=ps) (hpN:X.N=pN) (S:aY ps sc pN own caps N) (T:Turn X.prog X.w X.K tg J fp it tn) (st:tn 0 s.heap) (hf:∀b∈fp,mW X p_ H b) (hc:X.calm=true)
    (hg:∀C s H fp pn,PG (cA X sc N C s H fp pn) tg g) (ht:∀C s H fp pn,PTs (cA X sc N C s H fp pn) ifs tt) (he:∀C s H fp pn,PE (cA X sc N C s H fp pn) elt te)
    (h:lJ own caps J g tt te D σ H Q) :
    wpAny (model X.prog X.w) X.A (newFunctionEnv sc X.env.globals (Jf X.env sc.names) [] X.env.qual none .none (some X.env)) (fun cenv s4=>
      codeAny (model X.prog X.w) X.A (.compStart (.ListComp elt [⟨tg,iter,ifs,0⟩] sc pos) 0 (.ref it) (.ref D) {cenv with scope:=relabel sc X.env}) (xT X p_ σ Q cenv.locals) s4) E s:=by
  obtain⟨mV,⟨m0,w0⟩,turn⟩:=h;refine xR ?_;have ho:=T.obj 0 _ st;have I0:=K3 I hps hpN S hf ho;have ok':=Jg I hps S hf ho;have hk:∀b o,s.heap.get? b=some o→(blockAt sc s).heap.get? b=some o:=fun b o e=>pushCells_keeps _ _ b o (Heap.get?_push_of_some _ e);have st0:tn 0 (blockAt sc s).heap:=T.keep 0 _ _ st fun b _ o e=>hk b o e;have stat:∀{H':Hp},(∀b∈fp,H' b=none)→∀b∈fp,mW (cA X sc N s.heap.objs.size s H fp (X.pn++p_)) [] H' b:=fun hn b hb=>
    ⟨hn b hb,(ok'.Zi b hb).1,ok'.Ir b hb,.inl hb,(ok'.Zi b hb).2,fun p hp=>(hf b hb).2.2.2.2.2 p (by rw[List.append_nil] at hp;exact hp)⟩
  have loop:codeAny (model X.prog X.w) X.A (.compLoop (.ListComp elt [⟨tg,iter,ifs,0⟩] sc pos) 0 (.ref it) (.ref D) (cA X sc N s.heap.objs.size s H fp (X.pn++p_)).env) (xT X p_ σ Q s.heap.objs.size) (blockAt sc s):=by
    refine Al (fun n s'=>∃i σ' H',Inv (cA X sc N s.heap.objs.size s H fp (X.pn++p_)) [] σ' H' s'∧tn i s'.heap∧(∀b∈fp,H' b=none)∧mV i n σ' H') ?_ m0 ⟨0,_,H,I0,st0,fun b hb=>(hf b hb).1,w0⟩;rintro n s3 ⟨i,σ3,H3,I3,st3,fr3,w3⟩
    rcases turn i n σ3 H3 w3 with⟨stop,qn⟩ | ⟨go,N',hN,step⟩
    ·refine cN (T.done (cA X sc N s.heap.objs.size s H fp (X.pn++p_)) rfl rfl rfl hc i [] s3 σ3 H3 V6 I3 (stat fr3) st3 stop) fun r s4 zz=>?_;obtain⟨hr,I4⟩:=zz;subst hr;obtain⟨m,hn,_⟩:=I4.loc;exact⟨H3,rfl,Hi I hf I4,⟨m,hn⟩,I.Bh (Nat.le_refl _) I4.free,qn⟩
    · refine cN (T.item (cA X sc N s.heap.objs.size s H fp (X.pn++p_)) rfl rfl rfl hc i [] s3 σ3 H3 V6 I3 (stat fr3) st3 go) fun r s4 zz=>?_;obtain⟨u,hr,h4⟩:=zz;subst hr;refine cN h4 fun _ s5 zz=>?_;obtain⟨x,H5,I5,r5,y5,Vu,fr5⟩:=zz;have I5':=I5.pinned (stat fr5) (T.obj _ _ Vu);refine cN (hg _ _ _ _ _ _ s5 σ3 H5 x u _ I5' r5 (step x H5 y5)) fun _ s6 zz=>?_;obtain⟨σ6,H6,I6,q6⟩:=zz;refine cN (ht _ _ _ _ _ _ s6 σ6 H6 _ I6 q6) fun b s7 zz=>?_;obtain⟨H7,I7,q7⟩:=zz;have again:∀{σ8:St} {H8:Hp} {s8:Shared},Inv (cA X sc N s.heap.objs.size s H fp (X.pn++p_)) ([]++yW fp s5.heap) σ8 H8 s8→N' σ8 H8→
          ∃m,m<n∧∃i σ' H',Inv (cA X sc N s.heap.objs.size s H fp (X.pn++p_)) [] σ' H' s8∧tn i s8.heap∧(∀b∈fp,H' b=none)∧mV i m σ' H':=fun {σ8 H8 s8} I8 n8=>by
        obtain⟨m',hm,w8⟩:=hN σ8 H8 n8;refine⟨m',hm,i+1,σ8,H8,I8.tV,T.keep _ _ _ Vu fun b hb o e=>(I8.pin (b,o) (List.mem_append_right _ (List.mem_append_right _ (kJ hb e)))).1,fun b hb=>?_,w8⟩;obtain⟨o,e,d⟩:=T.obj _ _ Vu b hb;exact(I8.pin (b,o) (List.mem_append_right _ (List.mem_append_right _ (kJ hb e)))).2.1
      cases b with
      | false=>
        rw[if_neg Bool.false_ne_true] at q7 ⊢;exact again I7 q7
      | true=>
        rw[if_pos rfl] at q7 ⊢;refine cN (he _ _ _ _ _ _ s7 σ6 H7 _ I7 q7) fun v s8 zz=>?_;obtain⟨y,H8,I8,r8,ys,hD,hz,n8⟩:=zz;refine cN (yZ (X:=cA X sc N s.heap.objs.size s H fp (X.pn++p_)) _ s8 σ6 H8 (.ref D) [y] (.ref D) [v] (fun _ H9=>N' σ6 H9) I8 rfl (.cons r8 .nil) ⟨D,ys,y,rfl,rfl,hD,hz,n8⟩) fun _ s9 zz=>?_;obtain⟨_,H9,I9,_,n9⟩:=zz;exact again I9 n9
  exact codeAny_compStart_list loop (T.self X.A 0 _ _ _ st0 loop)
variable {elt tg iter:Expr} {ifs:List Expr} {pos:Pos} {wi:TI} {g:TG} {tt:TT} {te:TE}
theorem aY.locs (S:aY ps sc pN own caps N):∀x∈sc.names,x.2 = .local→sc.names.lookup x.1=some .local:=fun x hx e=>by rw[← e];exact S.uniq x hx
theorem eO (hps:X.env.scope=ps) (hpN:X.N=pN) (S:aY ps sc pN own caps N) (hc:X.calm=true) (hi:PI X tg iter wi)
    (hg:∀C s H fp pn,PG (cA X sc N C s H fp pn) tg g) (ht:∀C s H fp pn,PTs (cA X sc N C s H fp pn) ifs tt) (he:∀C s H fp pn,PE (cA X sc N C s H fp pn) elt te)
    (hs:∀x,foldedSetIterable iter X.env x=pure x:=by intro _;rfl):PE X (.ListComp elt [⟨tg,iter,ifs,0⟩] sc pos) (QF own caps wi g tt te):=by
  intro p_ s σ H Q I h;rw[eval_ListComp];refine wpAny_comprehension_free (use:=none) rfl hs (mG (S.cells hps I.ok)) S.kind S.locs (cN (hi p_ s σ H _ I h) fun v s1 h1=>cN h1 fun itv s2 h2=>?_);obtain⟨it,fp,tn,J,H2,e,I2,T,st2,f2,q⟩:=h2;subst e;have fr:H2 s2.heap.objs.size=none:=I2.fresh;refine wpAny_newObj_type ?_;have I3:Inv X p_ σ (upd H2 s2.heap.objs.size (.lst [])) {s2 with heap:=s2.heap.push {cls:=.type "list",data:=.seq ([]:List Value).toArray},toks:=s2.toks}:=I2.ZK (its:=[]) (ys:=[]) .nil (Nat.zero_le _);have f3:∀b∈fp,mW X p_ (upd H2 s2.heap.objs.size (.lst [])) b:=fun b hb=>by
    obtain⟨o,e,_⟩:=T.obj 0 _ st2 b hb;exact⟨by rw[aC (Nat.ne_of_lt (Heap.lt_size e))];exact(f2 b hb).1,(f2 b hb).2⟩
  refine cN (Cy (iter:=iter) (pos:=pos) I3 hps hpN S T (T.keep 0 _ _ st2 fun b _ o e=>Heap.get?_push_of_some _ e) f3 hc hg ht he (q _ fr)) fun cenv s4 h4=>?_;refine codeAny_mono h4 fun r s5 ⟨H5,hr,I5,⟨m,hn⟩,f5,q5⟩=>?_;subst hr;refine⟨m,hn,fun h' hs'=>?_⟩;have I6:Inv X p_ σ H5 {s5 with heap:=h',toks:=s5.toks}:=I5.turned (it:=cenv.locals) (fun b o hb e=>(hs'.2 b hb).trans e) f5.1 f5.2.1 f5.2.2.2.1 f5.2.2.2.2.1 f5.2.2.2.2.2;exact⟨.ref s2.heap.objs.size,H5,I6,rfl,q5⟩
theorem jC {i:Nat} {y:Str} {py spos:Pos} (hN:X.N.Nodup) (hy:X.N[i]? = some y) (hl:X.env.scope.names.lookup y=some .local) (hps:X.env.scope=ps) (hpN:X.N=pN) (S:aY ps sc pN own caps N) (hc:X.calm=true) (hi:PI X tg iter wi)
    (hg:∀C s H fp pn,PG (cA X sc N C s H fp pn) tg g) (ht:∀C s H fp pn,PTs (cA X sc N C s H fp pn) ifs tt) (he:∀C s H fp pn,PE (cA X sc N C s H fp pn) elt te)
    (hsw:swapsWith (.ListComp elt [⟨tg,iter,ifs,0⟩] sc pos) (some (.Name y py)) spos.line X.env=pure true:=by rfl)
    (hs:∀x,foldedSetIterable iter X.env x=pure x:=by intro _;rfl):PS X (.Assign [.Name y py] (.ListComp elt [⟨tg,iter,ifs,0⟩] sc pos) spos) (Zn (QF own caps wi g tt te) (Qp i)):=by
  intro p_ s σ H D0 I h;rw[exec_Assign_Name_used _ _ _ _ hsw];refine wpAny_bind (wpAny_standAt (wpAny_bind ?_));show wpAny _ X.A (do let _ ← comprehension (.ListComp elt [⟨tg,iter,ifs,0⟩] sc pos) sc X.env _ (newList []) false (eval iter X.env) (some (assign (.Name y py) X.env))) _ _ s
  refine wpAny_bind (wpAny_mono (wpAny_comprehension_free (use:=some (assign (.Name y py) X.env)) (Q:=fun _ s'=>SP X p_ D0 .next s') rfl hs (mG (S.cells hps I.ok)) S.kind S.locs
    (cN (hi p_ s σ H _ I h) fun v s1 h1=>cN h1 fun itv s2 h2=>?_)) (fun _ s' hq=>wpAny_pure (wpAny_pure hq)) fun _ _ e=>e)
  obtain⟨it,fp,tn,J,H2,e,I2,T,st2,f2,q⟩:=h2;subst e;have fr:H2 s2.heap.objs.size=none:=I2.fresh;refine wpAny_newObj_type ?_;have I3:Inv X p_ σ (upd H2 s2.heap.objs.size (.lst [])) {s2 with heap:=s2.heap.push {cls:=.type "list",data:=.seq ([]:List Value).toArray},toks:=s2.toks}:=I2.ZK (its:=[]) (ys:=[]) .nil (Nat.zero_le _);have f3:∀b∈fp,mW X p_ (upd H2 s2.heap.objs.size (.lst [])) b:=fun b hb=>by
    obtain⟨o,e,_⟩:=T.obj 0 _ st2 b hb;exact⟨by rw[aC (Nat.ne_of_lt (Heap.lt_size e))];exact(f2 b hb).1,(f2 b hb).2⟩
  refine cN (Cy (iter:=iter) (pos:=pos) I3 hps hpN S T (T.keep 0 _ _ st2 fun b _ o e=>Heap.get?_push_of_some _ e) f3 hc hg ht he (q _ fr)) fun cenv s4 h4=>?_;refine codeAny_mono h4 fun r s5 ⟨H5,hr,I5,⟨m,hn⟩,f5,q5⟩=>?_;subst hr;show wpAny _ X.A (assign (.Name y py) X.env (.ref s2.heap.objs.size)) _ _ _;refine wpAny_assign_Name (uJ I5 hN hy (.inl hl) (v:=.ref s2.heap.objs.size) rfl (fun s6 I6 hsb=>?_) (.inr hl));obtain⟨a,sb,ha⟩:=hsb;have hne:cenv.locals≠a:=by
    rcases ha with z | z
    ·rw[z];exact f5.2.1
    ·exact fun e=>f5.2.2.2.2.1 y a z e.symm
  refine⟨m,hn.sameBut sb hne,fun h' hs'=>?_⟩;have I7:Inv X p_ (σ.set i (some (.ref s2.heap.objs.size))) H5 {s6 with heap:=h',toks:=s6.toks}:=I6.turned (it:=cenv.locals) (fun b o hb e=>(hs'.2 b hb).trans e) f5.1 f5.2.1 f5.2.2.2.1 f5.2.2.2.2.1 f5.2.2.2.2.2;exact⟨_,H5,I7,q5⟩
end
section
variable {X:Cx} {p_:List (Addr×Obj)} {σ:St} {H:Hp} {s:Shared} {h':Heap}
theorem Inv.uL {t':Nat} {ch:List Addr} (I:Inv X p_ σ H s) (k:∀b o,b∉ch→s.heap.get? b=some o→h'.get? b=some o) (hf:∀b∈ch,mW X p_ H b):Inv X p_ σ H {s with heap:=h',toks:=t'}:=by
  refine I.step (g':=s.gens) (d':=s.drawn) (ch:=ch) (fun b hb=>⟨(hf b hb).2.2.2.1,(hf b hb).2.1,(hf b hb).2.2.2.2.1,(hf b hb).2.2.2.2.2⟩) (fun b o _ _ hc e _=>k b o hc e) (fun b o _ _ hc e _=>⟨o.slots,k b o hc e⟩) (fun _ _ _ _ n=>n)
    (fun b o hc e=>⟨o,k b o hc e⟩) (fun _ _ e=>e) (fun _ _ _ e=>e) (fun b ps e=>⟨#[],by rw[e];simp⟩) (fun m hm=>?_) (fun b u e=>?_) I.bare
  ·obtain⟨o,es,ep,ho,r⟩:=hm;exact⟨o,es,ep,k _ o (fun z=>(hf _ z).2.1 rfl) ho,r⟩
  · refine(I.hok b u e).stay (fun c v hc q=>k c v (fun z=>?_) q) (fun _ q=>q) fun _ _ q=>q;have hn:=(hf c z).1
    rcases hc with y | y
    ·rw[y,e] at hn;cases hn
    ·rw[y] at hn;cases hn
end
def Its (x:Str):It:=⟨fun i _=>i<x.cps.size,fun i H v H'=>H'=H∧∃c,x.cps[i]? = some c∧v = .str ⟨#[c]⟩,fun i _=>x.cps.size≤i⟩
theorem V7 {P:Program} {w:World} {K:W.Frag} {tg:Expr} (x:Str) (t:Tok) (it:Addr):Turn P w K tg (Its x) [it] it (fun i h=>h.IsStrIter it (strIterType x) x t i) where
  mem:=by simp
  obj:=fun i h st b hb=>by
    have e:b=it:=by simpa using hb
    subst e;obtain⟨o,e,c,d⟩:=st;exact⟨o,e,fun v z=>by rw[d] at z;cases z⟩
  keep:=fun i h h' st k=>by
    obtain⟨o,e,c,d⟩:=st;exact⟨o,k it (by simp) o e,c,d⟩
  item:=by
    intro X hP hw hK hc i p_ s σ H E I hf st hg;subst hP hw hK;obtain⟨f0,f1,f2,f3,f4,f5⟩:=hf it (by simp);have hx:x.cps[i]? = some (x.cps[i]'hg):=Array.getElem?_eq_getElem hg;have fin:∀h',h'.IsStrIter it (strIterType x) x t (i+1)→Heap.SameBut it s.heap h'→∃u,(some (Value.str ⟨#[x.cps[i]'hg]⟩ s.toks))=some u∧
        wpAny (model X.prog X.w) X.A (letOwnedTupleGo tg (.ref it) u) (fun _ s2=>∃y H',Inv X p_ σ H' s2∧RelV y u∧(Its x).RP i H y H'∧s2.heap.IsStrIter it (strIterType x) x t (i+1)∧∀b∈[it],H' b=none) E {s with heap:=h',toks:=s.toks+1}:=fun h' st' sb=>by
      have I1:Inv X p_ σ H {s with heap:=h',toks:=s.toks+1}:=I.turned (fun b o hb e=>(sb.2 b hb).trans e) f0 f1 f3 f4 f5;refine⟨_,rfl,?_⟩;have res:∃y H',Inv X p_ σ H' {s with heap:=h',toks:=s.toks+1}∧RelV y (Value.str ⟨#[x.cps[i]'hg]⟩ s.toks)∧(Its x).RP i H y H'∧h'.IsStrIter it (strIterType x) x t (i+1)∧∀b∈[it],H' b=none:=
        ⟨.str ⟨#[x.cps[i]'hg]⟩,H,I1,⟨_,rfl⟩,⟨rfl,_,hx,rfl⟩,st',fun b hb=>(hf b hb).1⟩
      unfold letOwnedTupleGo;cases tg <;> exact wpAny_pure res
    by_cases ha:x.cps.all (· < 128)=true
    · have ey:strIterType x = "str_ascii_iterator" :=by unfold strIterType;rw[if_pos ha]
      rw[ey] at st;exact wpAny_pyNext_ascii_item st hx fun h' st' sb=>fin h' (by rw[ey];exact st') sb
    · have ey:strIterType x = "str_iterator" :=by unfold strIterType;rw[if_neg ha]
      rw[ey] at st;exact wpAny_pyNext_wide_item st hx fun h' st' sb=>fin h' (by rw[ey];exact st') sb
  done:=by
    intro X hP hw hK hc i p_ s σ H E I hf st hg;subst hP hw hK;obtain⟨f0,f1,f2,f3,f4,f5⟩:=hf it (by simp);have hx:x.cps[i]? = none:=Array.getElem?_eq_none hg
    by_cases ha:x.cps.all (· < 128)=true
    · have ey:strIterType x = "str_ascii_iterator" :=by unfold strIterType;rw[if_pos ha]
      rw[ey] at st;exact wpAny_pyNext_ascii_end (I.ok.hd hc) st hx fun h' eb=>⟨rfl,I.turned (t':=s.toks) (fun b o hb e=>eb b o hb e) f0 f1 f3 f4 f5⟩
    · have ey:strIterType x = "str_iterator" :=by unfold strIterType;rw[if_neg ha]
      rw[ey] at st;exact wpAny_pyNext_wide_end (I.ok.hd hc) st hx fun h' eb=>⟨rfl,I.turned (t':=s.toks) (fun b o hb e=>eb b o hb e) f0 f1 f3 f4 f5⟩
  self:=fun A i s Q E st h=>by
    by_cases ha:x.cps.all (· < 128)=true
    · have ey:strIterType x = "str_ascii_iterator" :=by unfold strIterType;rw[if_pos ha]
      rw[ey] at st;exact wpAny_pyIter_striter_ascii st h
    · have ey:strIterType x = "str_iterator" :=by unfold strIterType;rw[if_neg ha]
      rw[ey] at st;exact wpAny_pyIter_striter_wide st h
section
variable {X:Cx} {tg:Expr}
def qcs (tl:TE):TI:=fun σ H R=>tl σ H fun x H1=>∃z,x = .str z∧R (Its z) H1
theorem qct {l:Expr} {tl:TE} (hl:PE X l tl):PI X tg l (qcs tl):=by
  intro p_ s σ H R I h;refine cN (hl p_ s σ H _ I h) fun v s1 zz=>?_;obtain⟨x,H1,I1,r1,q1⟩:=zz;obtain⟨z,e,q⟩:=q1;subst e;obtain⟨t,rfl⟩:=r1;refine wpAny_pyIter_strU ?_;refine⟨s1.heap.objs.size,[s1.heap.objs.size],_,_,H1,rfl,I1.kept (t':=s1.toks) fun b o e=>Heap.get?_push_of_some _ e,V7 z t _,⟨_,Heap.get?_push_size _ rfl,rfl,rfl⟩,fun b hb=>?_,q⟩;have e:b=s1.heap.objs.size:=by simpa using hb
  subst e;exact I1.Bh (Nat.le_refl _) (I1.hok.fresh (Nat.le_refl _))
end
def Vb (K:W.Frag) (a b:Addr):It:=
  ⟨fun i H=>∃xs ys x y,aX K H a xs∧aX K H b ys∧xs[i]? = some x∧ys[i]? = some y,
   fun i H v H'=>∃t x y,v = .ref t∧H t=none∧H'=upd H t (.tup [x,y])∧(∀xs,aX K H a xs→xs[i]? = some x)∧∀ys,aX K H b ys→ys[i]? = some y,
   fun i H=>∃xs ys,aX K H a xs∧aX K H b ys∧(xs.length≤i∨ys.length≤i)⟩
structure QG (z TI TO i1 i2 a b:Addr) (i:Nat) (h:Heap):Prop where
  hz:IsZip h z TI TO .none
  hI:IsPair h TI (.ref i1) (.ref i2)
  hO:∃p q,IsPair h TO p q
  h1:h.IsListIter i1 a i
  h2:h.IsListIter i2 b i
theorem bM {h:Heap} {a b:Addr} {o u:Obj} {T U:String} (ha:h.get? a=some o) (hb:h.get? b=some u) (ca:o.cls = .type T) (cb:u.cls = .type U) (hne:T≠U):a≠b:=fun e=>by
  subst e;rw[ha] at hb;cases hb;rw[ca] at cb;injection cb with e2;exact hne e2
theorem V8 {P:Program} {w:World} {K:W.Frag} {es:List Expr} {k:Nat} {pos:Pos} {z TI TO i1 i2 a b:Addr} (n12:i1≠i2) (nT:TI≠TO) :
    Turn P w K (.Tuple es k pos) (Vb K a b) [z,TI,TO,i1,i2] z (QG z TI TO i1 i2 a b) where
  mem:=by simp
  obj:=fun i h st c hc=>by
    simp only[List.mem_cons,List.not_mem_nil,or_false] at hc
    rcases hc with rfl | rfl | rfl | rfl | rfl
    ·exact⟨_,st.hz,fun v e=>nomatch e⟩
    ·exact⟨_,st.hI,fun v e=>nomatch e⟩
    ·obtain⟨p,q,e⟩:=st.hO;exact⟨_,e,fun v e=>nomatch e⟩
    ·obtain⟨o,e,_,d⟩:=st.h1;exact⟨o,e,fun v y=>by rw[d] at y;cases y⟩
    ·obtain⟨o,e,_,d⟩:=st.h2;exact⟨o,e,fun v y=>by rw[d] at y;cases y⟩
  keep:=fun i h h' st kk=>by
    obtain⟨p,q,e⟩:=st.hO;exact⟨kk z (by simp) _ st.hz,kk TI (by simp) _ st.hI,⟨p,q,kk TO (by simp) _ e⟩,st.h1.at fun o e=>kk i1 (by simp) o e,st.h2.at fun o e=>kk i2 (by simp) o e⟩
  item:=by
    intro X hP hw hK hc i p_ s σ H E I hf st hg;subst hP hw hK;obtain⟨xs,ys,x,y,qa,qb,hx,hy⟩:=hg;obtain⟨its,rv,pl,hz1⟩:=I.list qa;obtain⟨its',rv',Og,hz2⟩:=I.list qb;obtain⟨u,hu,ru⟩:=rv.get hx;obtain⟨u',hu',ru'⟩:=rv'.get hy;obtain⟨p,q,hTO⟩:=st.hO;obtain⟨oa,ea,ca,_⟩:=id pl.isList;obtain⟨ob,eb,cb,_⟩:=id Og.isList;obtain⟨o1,e1,c1,_⟩:=id st.h1;obtain⟨o2,e2,c2,_⟩:=id st.h2;have D:ZipApart z TI TO i1 i2 a b:=
      ⟨bM st.hI st.hz rfl rfl (by decide),bM hTO st.hz rfl rfl (by decide),bM e1 st.hz c1 rfl (by decide),bM e2 st.hz c2 rfl (by decide),nT,bM st.hI e1 rfl c1 (by decide),bM st.hI e2 rfl c2 (by decide),
        bM hTO e1 rfl c1 (by decide),bM hTO e2 rfl c2 (by decide),n12,bM ea st.hz ca rfl (by decide),bM ea hTO ca rfl (by decide),bM ea e1 ca c1 (by decide),bM ea e2 ca c2 (by decide),
        bM eb st.hz cb rfl (by decide),bM eb hTO cb rfl (by decide),bM eb e1 cb c1 (by decide),bM eb e2 cb c2 (by decide)⟩
    refine wpAny_pyNext_zip_item D st.hz st.hI hTO st.h1 st.h2 pl.isList Og.isList (x:=u) (y:=u') (by simpa using hu) (by simpa using hu') fun h' a1 a2 a3 a4 a5 a6 kk=>?_;refine⟨_,rfl,wpAny_letOwnedTupleGo_zip a1 fun h2 b1 sb=>?_⟩;have lt:∀{c o},s.heap.get? c=some o→s.heap.objs.size≠c:=fun e=>Nat.ne_of_gt (Heap.lt_size e);have hn:H s.heap.objs.size=none:=I.hok.fresh (Nat.le_refl _);have kk2:∀c o,c∉[z,TI,TO,i1,i2]→s.heap.get? c=some o→h2.get? c=some o:=fun c o hc e=>by
      simp only[List.mem_cons,List.not_mem_nil,or_false,not_or] at hc;exact(sb.2 c hc.1).trans (kk c o hc.1 hc.2.2.1 hc.2.2.2.1 hc.2.2.2.2 e)
    have I1:Inv X p_ σ H {s with heap:=h2,toks:=s.toks}:=I.uL kk2 hf;have Cz:IsPair h2 s.heap.objs.size u u':=sb.extBut _ _ (lt st.hz) a5;have I2:Inv X p_ σ (upd H s.heap.objs.size (.tup [x,y])) {s with heap:=h2,toks:=s.toks}:=by
      have hfr:H s.heap.objs.size=none:=hn;refine⟨I1.ok,I1.os,I1.bare,⟨I1.base.keep,I1.base.slot,fun c o e n hx=>?_,I1.base.there,fun c zs e=>?_,fun c o v e=>?_,fun c qs e=>?_⟩,I1.loc,I1.cell,?_,fun v c e=>?_,fun v hv=>?_,?_,I1.len⟩
      · rw[aC (fun e'=>?_)]
        ·exact I1.base.free c o e n hx
        ·exact absurd (Nat.lt_of_lt_of_le (Heap.lt_size e) I.sz) (by rw[e'];exact Nat.lt_irrefl _)
      ·have e':=I1.base.tups c zs e;rw[aC (aP e' hfr)];exact e'
      ·have e':=I1.base.qW c o v e;rw[aC (aP e' hfr)];exact e'
      ·obtain⟨m,e'⟩:=I1.base.tE c qs e;exact⟨m,by rw[aC (aP e' hfr)];exact e'⟩
      ·rw[aC (Nat.ne_of_lt I.lt)];exact I1.free
      ·obtain⟨w',qc⟩:=I.cell v c e;rw[aC (Nat.ne_of_lt qc.lt)];exact I1.iH v c e
      ·obtain⟨f1,f2,f3⟩:=I1.pin v hv;refine⟨f1,?_,f3⟩;rw[aC (Nat.ne_of_lt (Heap.lt_size (I.pin v hv).1))];exact f2
      · intro c v e
        by_cases hcs:c=s.heap.objs.size
        ·subst hcs;rw[ak] at e;cases e;exact⟨by show 2≤sizeLine;rw[sizeLine_eq];decide,[u,u'],.cons ru (.cons ru' .nil),⟨_,Cz,rfl,0,rfl⟩⟩
        · rw[aC hcs] at e;refine(I1.hok c v e).stay (fun _ _ _ qq=>qq) (fun d qd=>?_) fun d zs qd=>?_
          ·rw[aC (aP qd hfr)];exact qd
          ·rw[aC (aP qd hfr)];exact qd
    refine⟨.ref s.heap.objs.size,_,I2,rfl,⟨s.heap.objs.size,x,y,rfl,hn,rfl,fun xs' q'=>by rw[I.qD q' qa];exact hx,fun ys' q'=>by rw[I.qD q' qb];exact hy⟩,?_,fun c hcm=>?_⟩
    ·exact⟨b1,sb.extBut _ _ D.TIz (kk _ _ D.TIz D.TITO D.TIi1 D.TIi2 st.hI),⟨_,_,sb.extBut _ _ D.TOz a2⟩,a3.extBut sb.extBut D.i1z,a4.extBut sb.extBut D.i2z⟩
    · have hne:c≠s.heap.objs.size:=by
        simp only[List.mem_cons,List.not_mem_nil,or_false] at hcm
        rcases hcm with rfl | rfl | rfl | rfl | rfl
        ·exact(lt st.hz).symm
        ·exact(lt st.hI).symm
        ·exact(lt hTO).symm
        ·exact(lt e1).symm
        ·exact(lt e2).symm
      rw[aC hne];exact(hf c hcm).1
  done:=by
    intro X hP hw hK hc i p_ s σ H E I hf st hg;subst hP hw hK;obtain⟨xs,ys,qa,qb,hl⟩:=hg;obtain⟨its,rv,pl,hz1⟩:=I.list qa;obtain⟨its',rv',Og,hz2⟩:=I.list qb;obtain⟨p,q,hTO⟩:=st.hO;obtain⟨oa,ea,ca,_⟩:=id pl.isList;obtain⟨ob,eb,cb,_⟩:=id Og.isList;obtain⟨o1,e1,c1,_⟩:=id st.h1;obtain⟨o2,e2,c2,_⟩:=id st.h2;have D:ZipApart z TI TO i1 i2 a b:=
      ⟨bM st.hI st.hz rfl rfl (by decide),bM hTO st.hz rfl rfl (by decide),bM e1 st.hz c1 rfl (by decide),bM e2 st.hz c2 rfl (by decide),nT,bM st.hI e1 rfl c1 (by decide),bM st.hI e2 rfl c2 (by decide),
        bM hTO e1 rfl c1 (by decide),bM hTO e2 rfl c2 (by decide),n12,bM ea st.hz ca rfl (by decide),bM ea hTO ca rfl (by decide),bM ea e1 ca c1 (by decide),bM ea e2 ca c2 (by decide),
        bM eb st.hz cb rfl (by decide),bM eb hTO cb rfl (by decide),bM eb e1 cb c1 (by decide),bM eb e2 cb c2 (by decide)⟩
    have l1:=rv.length;have l2:=rv'.length;refine wpAny_pyNext_zip_end (I.ok.hd hc) D st.hz st.hI hTO st.h1 st.h2 pl.isList Og.isList ?_ fun h' kk=>⟨rfl,I.uL (t':=s.toks) (fun c o hcm e=>?_) hf⟩
    · rcases hl with hl | hl
      ·exact .inl (by simp;omega)
      ·exact .inr (by simp;omega)
    ·simp only[List.mem_cons,List.not_mem_nil,or_false,not_or] at hcm;exact kk c o hcm.1 hcm.2.2.1 hcm.2.2.2.1 hcm.2.2.2.2 e
  self:=fun _ _ _ _ _ st h=>wpAny_pyIter_zip st.hz h
section
variable {X:Cx}
def ZM (K:W.Frag) (t:TA):TI:=fun σ H R=>t σ H fun vs H1=>∃a b xs ys,vs=[.ref a,.ref b]∧aX K H1 a xs∧aX K H1 b ys∧R (Vb K a b) H1
theorem boot_zip:bootBuiltins "zip" = some (.type "zip"):=by decide+kernel
theorem qcu {es:List Expr} {k:Nat} {pos':Pos} {a b:Expr} {ta:TA} {p pos:Pos} (hg:Gl X "zip") (hm:X.mg "zip" = none) (ha:PA X [a,b] ta)
    (hs:starEach [a,b] X.env=[(false,eval a X.env),(false,eval b X.env)]:=by rfl) (hs2:starEach [b] X.env=[(false,eval b X.env)]:=by rfl) :
    PI X (.Tuple es k pos') (.Call (.Name "zip" p) [a,b] [] pos) (ZM X.K ta):=by
  intro p_ s σ H R I h;refine Call_ (pH I hg hm boot_zip (PyProof.Rows.callWith_type1 (cN (ha pos p_ s σ H _ I h) fun us s1 zz=>?_) (by rw[hs,hs2]) (by rw[hs2];rfl)));obtain⟨vs,H1,I1,r1,q1⟩:=zz;obtain⟨l1,l2,xs,ys,e,qa,qb,q⟩:=q1;subst e;obtain⟨u,v,rfl,r,r'⟩:=r1.two;obtain rfl:u=Value.ref l1:=r;obtain rfl:v=Value.ref l2:=r';obtain⟨its,rv,pl,hz1⟩:=I1.list qa;obtain⟨its',rv',Og,hz2⟩:=I1.list qb;refine call_zip_2 pl.isList Og.isList fun h' b1 b2 b3 b4 b5 b6 kk=>?_;refine wpAny_pyIter_zip (s:={s1 with heap:=h'}) b1 ?_;have I2:Inv X p_ σ H1 {s1 with heap:=h'}:=I1.kept (t':=s1.toks) kk;refine⟨s1.heap.objs.size+4,[s1.heap.objs.size+4,s1.heap.objs.size+2,s1.heap.objs.size+3,s1.heap.objs.size,s1.heap.objs.size+1],_,_,H1,rfl,I2,V8 (Nat.ne_of_lt (Nat.lt_succ_self _)) (Nat.ne_of_lt (Nat.lt_succ_self (s1.heap.objs.size+2))),⟨b1,b2,⟨_,_,b3⟩,b4,b5⟩,fun c hc=>?_,q⟩;have hle:s1.heap.objs.size≤c:=by
    simp only[List.mem_cons,List.not_mem_nil,or_false] at hc
    rcases hc with rfl | rfl | rfl | rfl | rfl <;> first | exact Nat.le_add_right _ _ | exact Nat.le_refl _
  exact I1.Bh hle (I1.hok.fresh hle)
end
section
variable {X:Cx} {p_:List (Addr×Obj)} {σ:St} {H:Hp} {s:Shared}
theorem mX.kit {x:V} {u t:Value} (I:Inv X p_ σ H s) (rx:RelV x u) (ty:mX X.K H x t):∃Φ,W.KitX X.K u t Φ∧Φ s.heap∧u≠.builtin "__main__.__loader__#opaque" :=by
  cases ty with
  | non=>cases (show u=Value.none from rx);exact⟨_,W.kitx_none,True.intro,fun z=>nomatch z⟩
  | bl y=>cases (show u=Value.bool y from rx);exact⟨_,W.kitx_bool,True.intro,fun z=>nomatch z⟩
  | int i=>obtain⟨t,q⟩:=(show ∃t,u=Value.int i t from rx);cases q;exact⟨_,W.kitx_int,True.intro,fun z=>nomatch z⟩
  | str y=>obtain⟨t,q⟩:=(show ∃t,u=Value.str y t from rx);cases q;exact⟨_,W.kitx_str,True.intro,fun z=>nomatch z⟩
  | flt y=>obtain⟨t,q⟩:=(show ∃t,u=Value.float y t from rx);cases q;exact⟨_,W.kitx_float,True.intro,fun z=>nomatch z⟩
  | @lst a xs ea=>
    cases (show u=Value.ref a from rx);obtain⟨_,_,n,_,h1⟩:=(show cM X.prog X.w H s.heap a (.lst xs) from I.hok a _ ea);exact⟨_,W.kitx_list,⟨_,h1,rfl⟩,fun z=>nomatch z⟩
  | @Ky a ob xs ea=>
    cases (show u=Value.ref a from rx);obtain⟨_,_,_,n,_,h1⟩:=(show cM X.prog X.w H s.heap a (.Ky ob (.lst xs)) from I.hok a _ ea);exact⟨_,W.kitx_list,⟨_,h1,rfl⟩,fun z=>nomatch z⟩
  | @tup a xs ea=>
    cases (show u=Value.ref a from rx);obtain⟨_,_,_,p⟩:=(show cM X.prog X.w H s.heap a (.tup xs) from I.hok a _ ea);obtain⟨o,h1,h2,_⟩:=p;exact⟨_,W.kitx_tuple,⟨o,h1,h2⟩,fun z=>nomatch z⟩
  | @dK a kvs ea=>
    cases (show u=Value.ref a from rx);obtain⟨_,_,vs,_,p⟩:=(show cM X.prog X.w H s.heap a (.dK kvs) from I.hok a _ ea);obtain⟨o,es,ep,h1,h2,_⟩:=p;exact⟨_,W.kitx_dict,⟨o,h1,h2.1⟩,fun z=>nomatch z⟩
  | @dT a kvs ea=>
    cases (show u=Value.ref a from rx);obtain⟨_,_,xs,_,o,es,ep,h1,h2,_⟩:=(show cM X.prog X.w H s.heap a (.dT kvs) from I.hok a _ ea);exact⟨_,W.kitx_dict,⟨o,h1,h2.1⟩,fun z=>nomatch z⟩
  | @ins a C dx fs ea cl ha hn htk hm=>
    cases (show u=Value.ref a from rx);obtain⟨mA,O,_⟩:=xM I.hok ea;obtain⟨od,J,_⟩:=O.look;exact⟨_,W.kitx_own (cl.get _) cl.hd ha hn htk hm,J,fun z=>nomatch z⟩
theorem Sd:cP X (.builtin "isinstance") (fun xs H Q=>∃x n t b,xs=[x,.ty n]∧mX X.K H x t∧W.kitOne X.K t (.type n)=some b∧Q (.bl b) H):=by
  intro p_ s σ H xs us Q I r h;obtain⟨x,n,t,b,rfl,ty,e,q⟩:=h;obtain⟨u,v,rfl,rx,rc⟩:=r.two;obtain rfl:v=Value.type n:=rc;exact R5 I rx ty e fun tk=>⟨.bl b,H,I.tok tk,rfl,q⟩
theorem Sg:cP X (.builtin "isinstance") (fun xs H Q=>∃x p m n t b,xs=[x,.ref p]∧H p=some (.tup [.ty m,.ty n])∧mX X.K H x t∧W.kitAny X.K t [.type m,.type n]=some b∧Q (.bl b) H):=by
  intro p_ s σ H xs us Q I r h;obtain⟨x,p,m,n,t,b,rfl,hp,ty,e,q⟩:=h;obtain⟨u,v,rfl,rx,rc⟩:=r.two;obtain rfl:v=Value.ref p:=rc;obtain⟨Φ,Z,hΦ,hne⟩:=ty.kit I rx;obtain⟨_,its,rv,o,e1,e2,k,e3⟩:=(show cM X.prog X.w H s.heap p (.tup [.ty m,.ty n]) from I.hok p _ hp);obtain⟨u1,u2,rfl,r1,r2⟩:=rv.two;obtain rfl:u1=Value.type m:=r1;obtain rfl:u2=Value.type n:=r2;obtain⟨c,dd,dt,sl⟩:=o;replace e2:c = .type "tuple" :=e2;replace e3:dt = .seq [Value.type m,Value.type n].toArray k:=e3;subst e2 e3;exact W.kia_tup Z I.oE hΦ e1 e hne fun tk=>⟨.bl b,H,I.tok tk,rfl,q⟩
theorem boot_isinstance:bootBuiltins "isinstance" = some (.builtin "isinstance"):=by decide+kernel
theorem boot_str:bootBuiltins "str" = some (.type "str"):=by decide+kernel
theorem boot_list:bootBuiltins "list" = some (.type "list"):=by decide+kernel
theorem boot_tuple:bootBuiltins "tuple" = some (.type "tuple"):=by decide+kernel
theorem zc:bootBuiltins "int" = some (.type "int"):=by decide+kernel
theorem CG:bootBuiltins "bool" = some (.type "bool"):=by decide+kernel
theorem uM:bootBuiltins "set" = some (.type "set"):=by decide+kernel
end
mutual
def Is (K:W.Frag) (H:Hp):PyData→V→Prop
  | .none,v=>v = .non
  | .bool b,v=>v = .bl b
  | .int i,v=>v = .int i
  | .str x,v=>v = .str x
  | .list ds,v=>∃a xs,v = .ref a∧aX K H a xs∧mR K H ds xs
  | .tuple ds,v=>∃a xs,v = .ref a∧d9 K H a xs∧mR K H ds xs
  | .dict _,_=>False
def mR (K:W.Frag) (H:Hp):List PyData→List V→Prop
  | [],vs=>vs=[]
  | d::ds,vs=>∃v r,vs=v::r∧Is K H d v∧mR K H ds r
end
section
variable {X:Cx} {p_:List (Addr×Obj)} {σ:St} {H:Hp} {s:Shared}
mutual
theorem Is.reads (I:Inv X p_ σ H s):∀(d:PyData) (v:V) (u:Value),Is X.K H d v→RelV v u→∃as,Reads s.heap u d as
  | .none,v,u,h,r=>by
    simp only[Is] at h;subst h;cases r;exact⟨_,.none⟩
  | .bool b,v,u,h,r=>by
    simp only[Is] at h;subst h;cases r;exact⟨_,.bool b⟩
  | .int i,v,u,h,r=>by
    simp only[Is] at h;subst h;obtain⟨t,rfl⟩:=r;exact⟨_,.int i t⟩
  | .str x,v,u,h,r=>by
    simp only[Is] at h;subst h;obtain⟨t,rfl⟩:=r;exact⟨_,.str x t⟩
  | .list ds,v,u,h,r=>by
    simp only[Is] at h;obtain⟨a,xs,rfl,hq,hs⟩:=h;cases r;obtain⟨its,rv,pl,hz⟩:=I.list hq;obtain⟨o,e,c,n,dt⟩:=pl.isList;obtain⟨as,ra⟩:=mR.reads I ds xs its hs rv;exact⟨_,.list e c dt (by simpa using ra)⟩
  | .tuple ds,v,u,h,r=>by
    simp only[Is] at h;obtain⟨a,xs,rfl,hq,hs⟩:=h;cases r;obtain⟨its,rv,pl,hz⟩:=I.tuple hq;obtain⟨o,e,c,n,dt⟩:=pl;obtain⟨as,ra⟩:=mR.reads I ds xs its hs rv;exact⟨_,.tuple e c dt (by simpa using ra)⟩
  | .dict _,v,u,h,r=>by
    simp only[Is] at h
theorem mR.reads (I:Inv X p_ σ H s):∀(ds:List PyData) (vs:List V) (us:List Value),mR X.K H ds vs→Vals vs us→∃as,ReadsAll s.heap us ds as
  | [],vs,us,h,r=>by
    simp only[mR] at h;subst h;cases r;exact⟨_,.nil⟩
  | d::ds,vs,us,h,r=>by
    simp only[mR] at h;obtain⟨v,vr,rfl,h1,h2⟩:=h;cases r with
    | cons r1 r2=>
      obtain⟨as,ra⟩:=Is.reads I d v _ h1 r1;obtain⟨bs,rb⟩:=mR.reads I ds vr _ h2 r2;exact⟨_,.cons ra rb⟩
end
theorem qcv:jk X (compareOp .Eq) (fun x y H Q=>∃d e,Is X.K H d x∧Is X.K H e y∧d.canLay0=true∧e.canLay0=true∧X.A.units+min d.depth e.depth<cLine∧Q (.bl (PyData.eqv d e)) H):=by
  intro p_ s σ H x y v u Q I rx ry h;obtain⟨d,e,hx,hy,h1,h2,hu,q⟩:=h;obtain⟨as,ra⟩:=hx.reads I d x v rx;obtain⟨bs,rb⟩:=hy.reads I e y u ry;exact SeqAt.compareEq_reads ra rb h1 h2 hu ⟨.bl _,H,I,rfl,q⟩
theorem qcw:jk X (compareOp .NotEq) (fun x y H Q=>∃d e,Is X.K H d x∧Is X.K H e y∧d.canLay0=true∧e.canLay0=true∧X.A.units+min d.depth e.depth<cLine∧Q (.bl (!PyData.eqv d e)) H):=by
  intro p_ s σ H x y v u Q I rx ry h;obtain⟨d,e,hx,hy,h1,h2,hu,q⟩:=h;obtain⟨as,ra⟩:=hx.reads I d x v rx;obtain⟨bs,rb⟩:=hy.reads I e y u ry;exact SeqAt.compareNe_reads ra rb h1 h2 hu ⟨.bl _,H,I,rfl,q⟩
end
section
variable {X:Cx}
def Jh:V→List V→Hp→VK→Prop:=fun x vs H Q=>∃l xs i y,x = .ref l∧vs=[.int i,y]∧H l=some (.lst xs)∧0≤i∧i≤xs.length∧xs.length<sizeLine∧Q .non (upd H l (.lst (xs.take i.toNat++y::xs.drop i.toNat)))
theorem Vals.ins {y:V} {u:Value} (ru:RelV y u):∀{xs:List V} {us:List Value} (i:Nat),Vals xs us→Vals (xs.take i++y::xs.drop i) (us.take i++u::us.drop i):=fun i r=>(r.take i).append (.cons ru (r.drop i))
theorem Sh:MtM X "list.insert" Jh:=by
  intro p_ s σ H x vs v us Q I rx rv h;obtain⟨l,xs,i,y,rfl,rfl,hH,h0,hi,hz,q⟩:=h;cases rx;obtain⟨u1,u,rfl,⟨t,rfl⟩,ru⟩:=rv.two;obtain⟨z,its,n,r,hl,e⟩:=I.Jd hH;have hn:=vU;have hfit:¬(!Builtin.List.listFitsIndex i)=true:=by
    unfold Builtin.List.listFitsIndex;simp;omega
  refine call_meets F.slot_list_insert ⟨_,e,rfl⟩ F.entry_list_insert (F.args_list_insert_3 _ _ _) (PySem.AutoListH.list_insert_list_int_val_1 l its.toArray n i t u hfit (by rw[List.size_toArray];omega)) ⟨e,?_⟩;refine⟨.non,_,I.qcp (its':=its.take i.toNat++u::its.drop i.toNat) hH e ?_ (r.ins ru i.toNat) ?_,rfl,q⟩
  · have hm:min i.toNat its.length=i.toNat:=by omega
    simp only[List.size_toArray];rw[if_neg (by omega),hm];apply Array.toList_inj.mp;simp;exact List.take_of_length_le (by simp)
  ·simp;omega
end
section
variable {X:Cx}
def oK:List V→List Bool→Prop
  | [],bs=>bs=[]
  | x::xs,bs=>∃b r,bs=b::r∧x = .bl b∧oK xs r
theorem oK.get:∀{xs:List V} {bs:List Bool} {its:List Value},oK xs bs→Vals xs its→xs.length=bs.length∧∀(i:Nat) (v:Value),its[i]? = some v→v = .bool (bs.getD i false)
  | [],bs,its,h,r=>by
    cases h;cases r;exact⟨rfl,fun i v e=>by simp at e⟩
  | x::xs,bs,its,h,r=>by
    obtain⟨b,br,rfl,rfl,h⟩:=h;cases r with
    | cons r1 r2=>
      obtain⟨h1,h2⟩:=oK.get h r2;refine⟨by simp[h1],fun i v e=>?_⟩;cases i with
      | zero=>
        simp at e;subst e;exact r1
      | succ i=>
        simp at e;simpa using h2 i v e
theorem range_all (bs:List Bool):(List.range bs.length).all (fun i=>bs.getD i false)=bs.all id:=by
  rw[Bool.eq_iff_iff,List.all_eq_true,List.all_eq_true];constructor
  ·intro h b hb;obtain⟨i,hi,rfl⟩:=List.mem_iff_getElem.mp hb;have:=h i (List.mem_range.mpr hi);simpa [List.getD,hi] using this
  ·intro h i hi;have hi':=List.mem_range.mp hi;have:=h bs[i] (List.getElem_mem hi');simpa [List.getD,hi'] using this
theorem Ss (hc:X.calm=true):cP X (.builtin "all") (fun xs H Q=>∃a ys bs,xs=[.ref a]∧H a=some (.lst ys)∧oK ys bs∧Q (.bl (bs.all id)) H):=by
  intro p_ s σ H xs us Q I r h;obtain⟨a,ys,bs,rfl,ha,hb,q⟩:=h;obtain⟨u,rfl,ru⟩:=r.one;obtain rfl:u=Value.ref a:=ru;obtain⟨z,its,n,rv,hl,e⟩:=I.Jd ha;obtain⟨h1,h2⟩:=hb.get rv;have hL:s.heap.IsList a its.toArray:=⟨_,e,rfl,n,rfl⟩;refine call_all_walk ?_;refine wpAny_pyIter_list hL ?_;have hne:a≠s.heap.objs.size:=Nat.ne_of_lt (Heap.lt_size e);have hL2:(s.heap.push {cls:=.type "list_iterator",data:=.fields #[.ref a,.int 0 0]}).IsList a its.toArray:=⟨_,Heap.get?_push_of_some _ e,rfl,n,rfl⟩;refine⟨s.heap.objs.size,_,_,_,_,_,fun i=>bs.getD i false,rfl,Walks.list (by exact I.ok.hd hc) s.heap.objs.size a hne its.toArray,⟨⟨_,Heap.get?_push_size _ rfl,rfl,rfl⟩,hL2⟩,fun i v s' Q' E' hP hQ=>?_,fun h' tk kk=>?_⟩
  ·obtain rfl:=h2 i v (by simpa using hP);exact wpAny_truthy_bool hQ
  · have e2:(List.range its.toArray.size).all (fun i=>bs.getD i false)=bs.all id:=by
      rw[List.size_toArray,← hl,h1];exact range_all bs
    rw[e2];refine⟨.bl _,H,?_,rfl,q⟩;exact I.kept (h':=h') (t':=tk) fun b o eb=>kk b o (by simp;exact Nat.ne_of_lt (Heap.lt_size eb)) (Heap.get?_push_of_some _ eb)
end
def Ji (l:List Key) (k:Key):Bool:=l.any fun x=>decide (x=k)
theorem V9 {l:List Key} {k:Key}:Ji l k=true↔k∈l:=by
  unfold Ji;rw[List.any_eq_true];constructor
  ·rintro⟨x,hx,e⟩;have e':=of_decide_eq_true e;subst e';exact hx
  ·intro h;exact⟨k,h,decide_eq_true rfl⟩
theorem V_ (l:List Key) (x k:Key):Ji (l++[x]) k=(Ji l k || decide (k=x)):=by
  unfold Ji;rw[List.any_append];simp only[List.any_cons,List.any_nil,Bool.or_false];congr 1;exact decide_eq_decide.mpr ⟨fun e=>e.symm,fun e=>e.symm⟩
def zf (acc:List Key) (k:Key):List Key:=if Ji acc k=true then acc else acc++[k]
def Gp (val:Nat→Key) (i:Nat):List Key:=((List.range i).map val).foldl zf []
theorem xU (val:Nat→Key) (i:Nat):Gp val (i+1)=zf (Gp val i) (val i):=by
  unfold Gp;rw[List.range_succ,List.map_append,List.foldl_append];rfl
theorem Wa (val:Nat→Key):∀i,(Gp val i).length≤i
  | 0=>Nat.le_refl _
  | i+1=>by
    rw[xU];have ih:=Wa val i;unfold zf;split
    ·omega
    ·rw[List.length_append,List.length_singleton];omega
theorem Oh (val:Nat→Key):∀n,(∀i j,i<n→j<n→val i=val j→i=j)→(Gp val n).length=n∧∀k,k∈Gp val n→∃i,i<n∧val i=k
  | 0,_=>⟨rfl,fun k h=>by simp[Gp] at h⟩
  | n+1,h=>by
    obtain⟨h1,h2⟩:=Oh val n fun i j hi hj=>h i j (by omega) (by omega);have hnot:¬Ji (Gp val n) (val n)=true:=fun hm=>by
      obtain⟨i,hi,e⟩:=h2 _ (V9.mp hm);have:=h i n (by omega) (by omega) e;omega
    rw[xU];unfold zf;rw[if_neg hnot];refine⟨by simp[h1],fun k hk=>?_⟩
    rcases List.mem_append.mp hk with z | z
    ·obtain⟨i,hi,e⟩:=h2 k z;exact⟨i,by omega,e⟩
    ·exact⟨n,by omega,(List.mem_singleton.mp z).symm⟩
theorem ZP {k:Key} {v:Value} (h:tM k v=true):v.scannable=true:=by
  rcases fD h with⟨i,t,rfl,rfl⟩ | ⟨x,t,rfl,rfl⟩ <;> rfl
theorem K4 {P:Program} {w:World} {h:Heap} {a:Addr} {S S':Key→Bool} {n n':Nat} (x:h.SetOf (cV P w) a S n) (e:∀k,S k=S' k) (en:n=n'):h.SetOf (cV P w) a S' n':=by
  have:S=S':=funext e;subst this;subst en;exact x
abbrev oM (P:Program) (w:World) (h:Heap) (a:Addr) (l:List Key):Prop:=h.SetOf (cV P w) a (Ji l) l.length
theorem oM.at {P:Program} {w:World} {h h':Heap} {a:Addr} {l:List Key} (x:oM P w h a l) (k:∀o,h.get? a=some o→h'.get? a=some o):oM P w h' a l:=by
  obtain⟨o,es,ep,t,e,r⟩:=x;exact⟨o,es,ep,t,k o e,r⟩
theorem Hj {P:Program} {w:World} {h:Heap} {a:Addr} {led:Bool} (e:h.get? a=some {cls:=.type "set",dict:=none,data:=.set #[] 0 (.fresh 0 0 led)}):oM P w h a []:=
  ⟨_,#[],0,.fresh 0 0 led,e,⟨rfl,rfl,rfl⟩,rfl,(fun x hx=>by simp at hx),(fun k=>by simp[Ji]),(by unfold scanBound;decide),(by cases led <;> rfl),rfl⟩
section
variable {P:Program} {w:World} {A:Around} {R:Result→Shared→Prop} {I:Addr} {fp wr:List Addr} {n:Nat} {PP:Nat→Value→Prop} {St:Nat→Heap→Prop}
theorem K5 (mV:Walks P w A.in1 I fp wr n PP St) (S:Addr) (hSf:S∉fp) (val:Nat→Key) (hval:∀i v,PP i v→tM (val i) v=true) (hb:n+1<scanBound) :
    ∀(k i:Nat) (s:Shared),n - i=k→i≤n→St i s.heap→oM P w s.heap S (Gp val i)→
      (∀h' tk,(∀b o,b≠S→b∉wr→s.heap.get? b=some o→h'.get? b=some o)→oM P w h' S (Gp val n)→R (.ok (.ret .none)) {s with heap:=h',toks:=tk})→
      codeAny (model P w) A (.builtin "set.update.loop" ⟨[.ref S,.ref I],[]⟩) R s:=by
  have hSw:S∉wr:=fun h=>hSf (mV.sub _ h);intro k
  induction k with
  | zero=>
    intro i s hk hi hst hS hR;obtain rfl:i=n:=by omega
    refine codeAny_builtin PyProof.Rows.F.entry_set_update_loop ?_;rw[Around.under_plainId PyProof.Rows.F.plain_set_update_loop _];show wpAny _ A.in1 (pyNext (.ref I) >>= _) _ _ s;refine wpAny_bind (mV.done s _ _ hst fun h' tk hm=>?_);exact wpAny_pure (hR h' tk (fun b o _ hb e=>hm b o hb e) (hS.at fun o e=>hm S o hSw e))
  | succ k ih=>
    intro i s hk hi hst hS hR;have hlt:i<n:=by omega
    refine codeAny_builtin PyProof.Rows.F.entry_set_update_loop ?_;rw[Around.under_plainId PyProof.Rows.F.plain_set_update_loop _];show wpAny _ A.in1 (pyNext (.ref I) >>= _) _ _ s;refine wpAny_bind (mV.item i s _ _ hlt hst fun v h' tk hP hst' hm=>?_);have hkey:(cV P w).is (val i) v=true:=hval i v hP;have hS':oM P w h' S (Gp val i):=hS.at fun o e=>hm S o hSw e;show wpAny _ A.in1 (holding [v] (setAdd S v) >>= _) _ _ _;refine wpAny_bind (wpAny_holding ?_);unfold setAdd;refine wpAny_holding (wpAny_bind ((cV P w).pyHash (k:=val i) hkey ?_));have hroom:(Gp val i).length+1<scanBound:=by have:=Wa val i;omega
    refine wpAny_setAddHashed_of (knd:=cV P w) (s:={s with heap:=h',toks:=tk+1}) hkey (ZP (hval i v hP)) hS' hroom fun h2 hsb hS2=>?_;have hSi:oM P w h2 S (Gp val (i+1)):=by
      refine K4 hS2 (fun k'=>?_) ?_
      · rw[xU];unfold zf;split
        · rename_i hm1
          by_cases e:k'=val i
          ·rw[e,hm1];rfl
          ·rw[decide_eq_false e,Bool.or_false]
        ·exact(V_ _ _ _).symm
      · rw[xU];unfold zf;split
        ·rfl
        ·rw[List.length_append,List.length_singleton]
    refine wpAny_pure ⟨plainId_quiet PyProof.Rows.F.plain_set_update_loop _,ih (i+1) _ (by omega) hlt (mV.frame _ h' _ hst' fun b hb o e=>?_) hSi fun h3 tk3 hm3 hS3=>?_⟩
    ·exact(hsb.2 b (fun z:b=S=>hSf (by rw[← z];exact hb))).trans e
    ·refine hR h3 tk3 (fun b o hbS hbw e=>hm3 b o hbS hbw ?_) hS3;exact(hsb.2 b hbS).trans (hm b o hbw e)
end
theorem Gv:isSubtype (.type "list") (.type "set")=pure false:=by rw[isSubtype_type];kernel_rfl
theorem zj:isSubtype (.type "list") (.type "frozenset")=pure false:=by rw[isSubtype_type];kernel_rfl
set_option maxHeartbeats 4000000 in
theorem K6 {P:Program} {w:World} {A:Around} {E:Value→Shared→Prop} {s:Shared} {l:Addr} {its:Array Value} {val:Nat→Key} {Q:Value→Shared→Prop}
    (hh:A.handled=none) (hl:s.heap.IsList l its) (hval:∀i v,its[i]? = some v→tM (val i) v=true) (hb:its.size+1<scanBound)
    (h:∀(g:Heap) (tk:Nat),oM P w g s.heap.objs.size (Gp val its.size)→(∀b o,s.heap.get? b=some o→g.get? b=some o)→Q (.ref s.heap.objs.size) {s with heap:=g,toks:=tk}) :
    wpAny (model P w) A (call (.type "set") [.ref l]) Q E s:=by
  obtain⟨c,tl,hmro⟩:=PySem.F.called_set.mro;have q1:=PySem.F.called_set.made;have q2:=PySem.F.called_set.sub;refine wpAny_call (codeAny_of_tree ?_);show wpAny _ _ (callAny (.type "set") _) _ _ s;refine wpAny_pure ⟨Code.quiet_builtin _ (by decide+kernel),codeAny_builtin PySem.F.entry_type_call ?_⟩;rw[Around.under_plain (weight_type_call_type "set" [.ref l] []) rfl];have q3:=PySem.F.called_set.notType;have q4:=PySem.F.called_set.canCreate;have q5:=PySem.F.typeCall_set_1 (.ref l)
  repeat (any_goals (first | assumption | wp_step))
  refine codeAny_mono (code_set_new_1 (.ref l) (E:=E) (Q₁:=fun ob s1=>∃led:Bool,ob = .ref s.heap.objs.size∧s1={s with heap:=s.heap.push {cls:=.type "set",dict:=none,data:=.set #[] 0 (.fresh 0 0 led)}}) fun led=>⟨led,rfl,rfl⟩) fun r s1 hr=>?_;cases r with
  | error e=>exact hr
  | ok fl=>
    cases fl with
    | ret ob=>
      obtain⟨led,rfl,rfl⟩:=hr;have new:(s.heap.push {cls:=.type "set",dict:=none,data:=.set #[] 0 (.fresh 0 0 led)}).get? s.heap.objs.size=some {cls:=.type "set",dict:=none,data:=.set #[] 0 (.fresh 0 0 led)}:=Heap.get?_push_size _ rfl;have ty:Shared.TypeIs {s with heap:=s.heap.push {cls:=.type "set",dict:=none,data:=.set #[] 0 (.fresh 0 0 led)}} (.ref s.heap.objs.size) "set" :=⟨_,new,rfl⟩;have q6:=PySem.F.called_set.init.lookup;have q7:=PySem.F.called_set.init.bind (.ref s.heap.objs.size)
      repeat (any_goals (first | assumption | wp_step))
      refine codeAny_mono (codeAny_call_builtin (R:=wants (fun r s2=>r = .none∧∃g tk,s2={s with heap:=g,toks:=tk}∧oM P w g s.heap.objs.size (Gp val its.size)∧(∀b o,s.heap.get? b=some o→g.get? b=some o)) E)
        PySem.F.called_set.init.plain PySem.F.entry_set_init (check_set_init_1 ty ?_)) fun r2 s2 hr2=>?_
      · obtain⟨ol,ho,hcl,nl,hdl⟩:=hl;obtain⟨oc,od,odt,osl⟩:=ol;simp only at hcl hdl;subst hcl;subst hdl;have ho2:(s.heap.push {cls:=.type "set",dict:=none,data:=.set #[] 0 (.fresh 0 0 led)}).get? l=some {cls:=.type "list",dict:=od,data:=.seq its nl,slots:=osl}:=Heap.get?_push_of_some _ ho;have q8:=Gv;have q9:=zj;have q10:(Value.type "list" == Value.type "dict")=false:=by decide
        have hl1:(s.heap.push {cls:=.type "set",dict:=none,data:=.set #[] 0 (.fresh 0 0 led)}).IsList l its:=⟨_,ho2,rfl,nl,rfl⟩;unfold Builtin.«set.__init__» noKeywords Builtin.Frozenset.updateFrom;generalize hPI:pyIter=PI
        wp_walk
        subst hPI;refine wpAny_pyIter_list hl1 ?_;refine wpAny_bind (wpAny_runValue ?_);have lt1:l<s.heap.objs.size:=Heap.lt_size ho;have hh3:A.in1.in1.in1.handled=none:=by simp[hh]
        have ne1:l≠(s.heap.push {cls:=.type "set",dict:=none,data:=.set #[] 0 (.fresh 0 0 led)}).objs.size:=by
          rw[Heap.size_push];exact Nat.ne_of_lt (Nat.lt_succ_of_lt lt1)
        have nf:s.heap.objs.size∉[(s.heap.push {cls:=.type "set",dict:=none,data:=.set #[] 0 (.fresh 0 0 led)}).objs.size,l]:=by
          rw[Heap.size_push];simp only[List.mem_cons,List.mem_singleton,List.not_mem_nil,or_false,not_or];exact⟨Nat.ne_of_lt (Nat.lt_succ_self _),Nat.ne_of_gt lt1⟩
        refine K5 (Walks.list hh3 _ l ne1 its) s.heap.objs.size nf val hval hb (its.size - 0) 0 _ (by omega) (Nat.zero_le _) ⟨⟨_,Heap.get?_push_size _ rfl,rfl,rfl⟩,hl1.push _⟩ ?hS0 ?hR
        case hS0=>
          have hget:((s.heap.push {cls:=.type "set",dict:=none,data:=.set #[] 0 (.fresh 0 0 led)}).push {cls:=.type "list_iterator",data:=.fields #[.ref l,.int 0 0]}).get? s.heap.objs.size
              = some {cls:=.type "set",dict:=none,data:=.set #[] 0 (.fresh 0 0 led)}:=Heap.get?_push_of_some _ new
          exact Hj hget
        case hR=>
          intro g tk hm hS;show wpAny _ _ _ _ _ _;refine wpAny_pure ?_;show wpAny _ _ (ret Value.none) _ _ _;refine wpAny_pure ⟨rfl,g,tk,rfl,hS,fun b o e=>?_⟩;have lb:b<s.heap.objs.size:=Heap.lt_size e;refine hm b o (Nat.ne_of_lt lb) ?_ (Heap.get?_push_of_some _ (Heap.get?_push_of_some _ e));simp only[List.mem_cons,List.not_mem_nil,or_false];rw[Heap.size_push];exact Nat.ne_of_lt (Nat.lt_succ_of_lt lb)
      · cases r2 with
        | error e=>exact hr2
        | ok fl2=>
          cases fl2 with
          | ret r=>
            obtain⟨rfl,g,tk,rfl,hS,hk⟩:=hr2
            repeat (any_goals (first | assumption | wp_step))
            exact h _ _ hS hk
          | _=>exact hr2.elim
    | _=>exact hr.elim
theorem CJ:isSubtype (.type "tuple") (.type "set")=pure false:=by rw[isSubtype_type];kernel_rfl
theorem xV:isSubtype (.type "tuple") (.type "frozenset")=pure false:=by rw[isSubtype_type];kernel_rfl
set_option maxHeartbeats 4000000 in
theorem Jj {P:Program} {w:World} {A:Around} {E:Value→Shared→Prop} {s:Shared} {l:Addr} {its:Array Value} {val:Nat→Key} {Q:Value→Shared→Prop}
    (hh:A.handled=none) (hl:s.heap.IsTuple l its) (hval:∀i v,its[i]? = some v→tM (val i) v=true) (hb:its.size+1<scanBound)
    (h:∀(g:Heap) (tk:Nat),oM P w g s.heap.objs.size (Gp val its.size)→(∀b o,s.heap.get? b=some o→g.get? b=some o)→Q (.ref s.heap.objs.size) {s with heap:=g,toks:=tk}) :
    wpAny (model P w) A (call (.type "set") [.ref l]) Q E s:=by
  obtain⟨c,tl,hmro⟩:=PySem.F.called_set.mro;have q1:=PySem.F.called_set.made;have q2:=PySem.F.called_set.sub;refine wpAny_call (codeAny_of_tree ?_);show wpAny _ _ (callAny (.type "set") _) _ _ s;refine wpAny_pure ⟨Code.quiet_builtin _ (by decide+kernel),codeAny_builtin PySem.F.entry_type_call ?_⟩;rw[Around.under_plain (weight_type_call_type "set" [.ref l] []) rfl];have q3:=PySem.F.called_set.notType;have q4:=PySem.F.called_set.canCreate;have q5:=PySem.F.typeCall_set_1 (.ref l)
  repeat (any_goals (first | assumption | wp_step))
  refine codeAny_mono (code_set_new_1 (.ref l) (E:=E) (Q₁:=fun ob s1=>∃led:Bool,ob = .ref s.heap.objs.size∧s1={s with heap:=s.heap.push {cls:=.type "set",dict:=none,data:=.set #[] 0 (.fresh 0 0 led)}}) fun led=>⟨led,rfl,rfl⟩) fun r s1 hr=>?_;cases r with
  | error e=>exact hr
  | ok fl=>
    cases fl with
    | ret ob=>
      obtain⟨led,rfl,rfl⟩:=hr;have new:(s.heap.push {cls:=.type "set",dict:=none,data:=.set #[] 0 (.fresh 0 0 led)}).get? s.heap.objs.size=some {cls:=.type "set",dict:=none,data:=.set #[] 0 (.fresh 0 0 led)}:=Heap.get?_push_size _ rfl;have ty:Shared.TypeIs {s with heap:=s.heap.push {cls:=.type "set",dict:=none,data:=.set #[] 0 (.fresh 0 0 led)}} (.ref s.heap.objs.size) "set" :=⟨_,new,rfl⟩;have q6:=PySem.F.called_set.init.lookup;have q7:=PySem.F.called_set.init.bind (.ref s.heap.objs.size)
      repeat (any_goals (first | assumption | wp_step))
      refine codeAny_mono (codeAny_call_builtin (R:=wants (fun r s2=>r = .none∧∃g tk,s2={s with heap:=g,toks:=tk}∧oM P w g s.heap.objs.size (Gp val its.size)∧(∀b o,s.heap.get? b=some o→g.get? b=some o)) E)
        PySem.F.called_set.init.plain PySem.F.entry_set_init (check_set_init_1 ty ?_)) fun r2 s2 hr2=>?_
      · obtain⟨ol,ho,hcl,nl,hdl⟩:=hl;obtain⟨oc,od,odt,osl⟩:=ol;simp only at hcl hdl;subst hcl;subst hdl;have ho2:(s.heap.push {cls:=.type "set",dict:=none,data:=.set #[] 0 (.fresh 0 0 led)}).get? l=some {cls:=.type "tuple",dict:=od,data:=.seq its nl,slots:=osl}:=Heap.get?_push_of_some _ ho;have q8:=CJ;have q9:=xV;have q10:(Value.type "tuple" == Value.type "dict")=false:=by decide
        have hl1:(s.heap.push {cls:=.type "set",dict:=none,data:=.set #[] 0 (.fresh 0 0 led)}).IsTuple l its:=⟨_,ho2,rfl,nl,rfl⟩;unfold Builtin.«set.__init__» noKeywords Builtin.Frozenset.updateFrom;generalize hPI:pyIter=PI
        wp_walk
        subst hPI;refine wpAny_pyIter_tuple hl1 ?_;refine wpAny_bind (wpAny_runValue ?_);have lt1:l<s.heap.objs.size:=Heap.lt_size ho;have hh3:A.in1.in1.in1.handled=none:=by simp[hh]
        have ne1:l≠(s.heap.push {cls:=.type "set",dict:=none,data:=.set #[] 0 (.fresh 0 0 led)}).objs.size:=by
          rw[Heap.size_push];exact Nat.ne_of_lt (Nat.lt_succ_of_lt lt1)
        have nf:s.heap.objs.size∉[(s.heap.push {cls:=.type "set",dict:=none,data:=.set #[] 0 (.fresh 0 0 led)}).objs.size,l]:=by
          rw[Heap.size_push];simp only[List.mem_cons,List.mem_singleton,List.not_mem_nil,or_false,not_or];exact⟨Nat.ne_of_lt (Nat.lt_succ_self _),Nat.ne_of_gt lt1⟩
        refine K5 (Walks.tuple hh3 _ l ne1 its) s.heap.objs.size nf val hval hb (its.size - 0) 0 _ (by omega) (Nat.zero_le _) ⟨⟨_,Heap.get?_push_size _ rfl,rfl,rfl⟩,⟨_,Heap.get?_push_of_some _ ho2,rfl,nl,rfl⟩⟩ ?hS0 ?hR
        case hS0=>
          have hget:((s.heap.push {cls:=.type "set",dict:=none,data:=.set #[] 0 (.fresh 0 0 led)}).push {cls:=.type "tuple_iterator",data:=.fields #[.ref l,.int 0 0]}).get? s.heap.objs.size
              = some {cls:=.type "set",dict:=none,data:=.set #[] 0 (.fresh 0 0 led)}:=Heap.get?_push_of_some _ new
          exact Hj hget
        case hR=>
          intro g tk hm hS;show wpAny _ _ _ _ _ _;refine wpAny_pure ?_;show wpAny _ _ (ret Value.none) _ _ _;refine wpAny_pure ⟨rfl,g,tk,rfl,hS,fun b o e=>?_⟩;have lb:b<s.heap.objs.size:=Heap.lt_size e;refine hm b o (Nat.ne_of_lt lb) ?_ (Heap.get?_push_of_some _ (Heap.get?_push_of_some _ e));simp only[List.mem_cons,List.not_mem_nil,or_false];rw[Heap.size_push];exact Nat.ne_of_lt (Nat.lt_succ_of_lt lb)
      · cases r2 with
        | error e=>exact hr2
        | ok fl2=>
          cases fl2 with
          | ret r=>
            obtain⟨rfl,g,tk,rfl,hS,hk⟩:=hr2
            repeat (any_goals (first | assumption | wp_step))
            exact h _ _ hS hk
          | _=>exact hr2.elim
    | _=>exact hr.elim
def ZQ (P:Program) (w:World) (a:Addr) (l:List Key):HO:=.ext fun h=>oM P w h a l
section
variable {X:Cx}
def keysOf:List V→List Key
  | []=>[]
  | .int i::r=>.inl i::keysOf r
  | .str x::r=>.inr x::keysOf r
  | _::r=>keysOf r
def isKey:V→Bool
  | .int _=>true
  | .str _=>true
  | _=>false
theorem Jk:∀{xs:List V} {its:List Value},xs.all isKey=true→Vals xs its→(keysOf xs).length=its.length∧∀(i:Nat) (v:Value),its[i]? = some v→tM ((keysOf xs).getD i (.inl 0)) v=true
  | [],_,_,.nil=>⟨rfl,fun i v e=>by simp at e⟩
  | x::xs,u::us,h,.cons r1 r2=>by
    rw[List.all_cons,Bool.and_eq_true] at h;obtain⟨h1,h2⟩:=Jk h.2 r2;cases x with
    | int i=>
      obtain⟨t,rfl⟩:=r1;refine⟨by simp[keysOf,h1],fun j v e=>?_⟩;cases j with
      | zero=>simp at e;subst e;exact GZ i t
      | succ j=>simp at e;simpa [keysOf] using h2 j v e
    | str z=>
      obtain⟨t,rfl⟩:=r1;refine⟨by simp[keysOf,h1],fun j v e=>?_⟩;cases j with
      | zero=>simp at e;subst e;exact G3 z t
      | succ j=>simp at e;simpa [keysOf] using h2 j v e
    | _=>exact absurd (show false=true from h.1) Bool.false_ne_true
theorem uN (hc:X.calm=true):cP X (.type "set") (fun xs H Q=>∃a ys,xs=[.ref a]∧(aX X.K H a ys∨d9 X.K H a ys)∧ys.all isKey=true∧ys.length+1<scanBound∧
    ∀p,H p=none→Q (.ref p) (upd H p (ZQ X.prog X.w p (Gp (fun i=>(keysOf ys).getD i (.inl 0)) ys.length)))):=by
  intro p_ s σ H xs us Q I r h;obtain⟨a,ys,rfl,hq,hk,hb,q⟩:=h;obtain⟨u,rfl,ru⟩:=r.one;obtain rfl:u=Value.ref a:=ru;have fin:∀(g:Heap) (tk:Nat),oM X.prog X.w g s.heap.objs.size (Gp (fun i=>(keysOf ys).getD i (.inl 0)) ys.length)→(∀b o,s.heap.get? b=some o→g.get? b=some o)→EP X p_ σ Q (.ref s.heap.objs.size) {s with heap:=g,toks:=tk}:=fun g tk hS kk=>by
    have hn:H s.heap.objs.size=none:=I.hok.fresh (Nat.le_refl _);refine⟨.ref s.heap.objs.size,_,I.laid (o:=ZQ X.prog X.w s.heap.objs.size (Gp (fun i=>(keysOf ys).getD i (.inl 0)) ys.length)) (fun b o e=>kk b o e) (Nat.le_refl _) ⟨hS,?_,fun h1 h2 p k=>p.at k⟩,rfl,q _ hn⟩;obtain⟨o,_,_,_,e,_⟩:=hS;exact⟨o,e⟩
  rcases hq with hq | hq
  · obtain⟨its,rv,pl,hz⟩:=I.list hq;obtain⟨h1,h2⟩:=Jk hk rv;have hl:=rv.length;refine K6 (val:=fun i=>(keysOf ys).getD i (.inl 0)) (I.ok.hd hc) pl.isList (fun i v e=>h2 i v (by simpa using e)) (by rw[List.size_toArray];omega) fun g tk hS kk=>fin g tk ?_ kk;have ez:its.toArray.size=ys.length:=by rw[List.size_toArray,hl]
    rw[ez] at hS;exact hS
  · obtain⟨its,rv,pl,hz⟩:=I.tuple hq;obtain⟨h1,h2⟩:=Jk hk rv;have hl:=rv.length;refine Jj (val:=fun i=>(keysOf ys).getD i (.inl 0)) (I.ok.hd hc) (show s.heap.IsTuple a its.toArray from pl) (fun i v e=>h2 i v (by simpa using e)) (by rw[List.size_toArray];omega) fun g tk hS kk=>fin g tk ?_ kk;have ez:its.toArray.size=ys.length:=by rw[List.size_toArray,hl]
    rw[ez] at hS;exact hS
theorem uO:cP X (.builtin "len") (fun xs H Q=>∃a l,xs=[.ref a]∧H a=some (ZQ X.prog X.w a l)∧Q (.int l.length) H):=by
  intro p_ s σ H xs us Q I r h;obtain⟨a,l,rfl,ha,q⟩:=h;obtain⟨u,rfl,ru⟩:=r.one;obtain rfl:u=Value.ref a:=ru;obtain⟨⟨o,es,ep,t,e,ex,hd,_,_,hsz,hf,hn⟩,_⟩:=(show cM X.prog X.w H s.heap a (ZQ X.prog X.w a l) from I.hok a _ ha);refine call_len_set e ex hd hf (by unfold scanBound at hsz;omega) ⟨.int l.length,H,I.tok _,⟨_,by rw[hn]⟩,q⟩
end
section
variable {X:Cx}
def qe9:R2:=fun x y H Q=>∃i j,x = .str i∧y = .str j∧i.length+j.length≤sizeLine∧Q (.str (i++j)) H
def qj6:R2:=fun x y H Q=>∃i j,x = .str i∧y = .str j∧Q (.bl (!(Builtin.Str.occurrences j i 0 j.length 1).isEmpty)) H
def ZR:R2:=fun x y H Q=>∃i j,x = .str i∧y = .str j∧Q (.bl (!(!(Builtin.Str.occurrences j i 0 j.length 1).isEmpty))) H
def ZS (K:W.Frag):R2:=fun x y H Q=>rIn K false x y H Q∨qj6 x y H Q
def Jl (K:W.Frag):R2:=fun x y H Q=>rIn K true x y H Q∨ZR x y H Q
theorem qcx:jk X (compareOp .In) (ZS X.K):=R8.or RZ
theorem Sv:jk X (compareOp .NotIn) (Jl X.K):=IW.or I_
def qcy (K:W.Frag):R2:=fun x y H Q=>∃p xs i v,x = .ref p∧y = .int i∧(aX K H p xs∨d9 K H p xs)∧xK xs i=some v∧Q v H
theorem ixQ:V0 X (qcy X.K):=by
  intro value slice p_ s σ H x y v u Q I rx ry h hs;obtain⟨p,xs,i,z,e1,e2,hq | hq,e3,q⟩:=h
  ·exact ZD value slice p_ s σ H x y v u Q I rx ry ⟨p,xs,i,z,e1,e2,hq,e3,q⟩ hs
  ·exact qcj value slice p_ s σ H x y v u Q I rx ry ⟨p,xs,i,z,e1,e2,hq,e3,q⟩ hs
def qa9 (K:W.Frag):List V→Hp→VK→Prop:=fun xs H Q=>∃p ys,xs=[.ref p]∧(aX K H p ys∨d9 K H p ys)∧Q (.int ys.length) H
def qa_:List V→Hp→VK→Prop:=fun xs H Q=>∃z,xs=[.str z]∧z.length≤sizeLine∧Q (.int z.length) H
variable {K:W.Frag}
theorem qj7 (hK:X.K=K):V0 X (qcy K):=by subst hK;exact ixQ
theorem inK (hK:X.K=K):jk X (compareOp .In) (ZS K):=by subst hK;exact qcx
theorem qcz (hK:X.K=K):jk X (compareOp .NotIn) (Jl K):=by subst hK;exact Sv
theorem qe_ (hK:X.K=K):cP X (.builtin "len") (qa9 K):=by subst hK;exact Ja
theorem qfa:cP X (.builtin "len") qa_:=Jb
def QH (K:W.Frag):List V→Hp→VK→Prop:=fun xs H Q=>∃p ys,xs=[.ref p]∧(aX K H p ys∨d9 K H p ys)∧∀l,H l=none→Q (.ref l) (upd H l (.lst ys))
theorem ZV (hK:X.K=K):cP X (.type "list") (QH K):=by subst hK;exact Jc
def qba (K:W.Frag):List V→Hp→VK→Prop:=fun xs H Q=>∃x n t b,xs=[x,.ty n]∧mX K H x t∧W.kitOne K t (.type n)=some b∧Q (.bl b) H
theorem qfb (hK:X.K=K):cP X (.builtin "isinstance") (qba K):=by subst hK;exact Sd
def qbb (K:W.Frag):List V→Hp→VK→Prop:=fun xs H Q=>∃x p m n t b,xs=[x,.ref p]∧H p=some (.tup [.ty m,.ty n])∧mX K H x t∧W.kitAny K t [.type m,.type n]=some b∧Q (.bl b) H
theorem qfc (hK:X.K=K):cP X (.builtin "isinstance") (qbb K):=by subst hK;exact Sg
theorem cW (hK:X.K=K) {es:List Expr} {k:Nat} {pos:Pos} {t:Cp} {n:Nat} (hc:X.calm=true) (h:fL X es t)
    (hn:(assignEach es X.env).length=n:=by rfl) (hst:(assignEach es X.env).findIdx? (·.1)=none:=by rfl):PG X (.Tuple es k pos) (Zm K n t):=by subst hK;exact qbZ hc h hn hst
theorem cu (hK:X.K=K) {tg l:Expr} {tl:TE} (hl:PE X l tl):PI X tg l (Qq K tl):=by subst hK;exact Zq hl
theorem ZW (hK:X.K=K) {tg l:Expr} {tl:TE} (hl:PE X l tl):PI X tg l (qb3 K tl):=by subst hK;exact qb4 hl
theorem Jm (hK:X.K=K) {e:Expr} {ta:TE} {f:Str} {pos:Pos} (he:PE X e ta) (hb:attributeBase e f X.env (eval e X.env)=eval e X.env):PE X (.Attribute e f pos) (Zx K ta f):=by subst hK;exact qcd he hb
theorem jQ (hK:X.K=K) {o e:Expr} {es:List Expr} {to:TE} {t:TA} {name:Str} {apos cpos:Pos} {T id:String} {r:V→List V→Hp→VK→Prop} (pa:PlainAttrs T) (slot:Slot T name id) (hty:typeOf (.builtin id)=pure (.type "method_descriptor")) (hm:R6 X id r) (ho:PE X o to) (ha:PA X (e::es) t)
    (hbase:attributeBase o name X.env (eval o X.env)=eval o X.env:=by rfl)
    (hfew:((backTo cpos (starEach (e::es) X.env)).all (fun x=>!x.1) && (backToKw cpos (keywordEach [] X.env)).all (fun x=>x.1.isSome)
      && decide ((e::es).length+([]:List Keyword).length+(if ([]:List Keyword).isEmpty then 0 else 1)<30))=true:=by rfl)
    (hline:(apos.endLine == cpos.line)=true:=by rfl) (hs:starEach (e::es) X.env=(false,eval e X.env)::starEach es X.env:=by rfl) (hplain:(backTo cpos (starEach es X.env)).any (·.1)=false:=by rfl) :
    PE X (.Call (.Attribute o name apos) (e::es) [] cpos) (tBM K T r to t):=by subst hK;exact qe4 pa slot hty hm ho ha hbase hfew hline hs hplain
theorem jL:bootBuiltins "all" = some (.builtin "all"):=by decide+kernel
theorem zm:bootBuiltins "any" = some (.builtin "any"):=by decide+kernel
theorem boot_max:bootBuiltins "max" = some (.builtin "max"):=by decide+kernel
theorem boot_min:bootBuiltins "min" = some (.builtin "min"):=by decide+kernel
theorem boot_abs:bootBuiltins "abs" = some (.builtin "abs"):=by decide+kernel
theorem boot_divmod:bootBuiltins "divmod" = some (.builtin "divmod"):=by decide+kernel
end
structure Nm (mg:Str→Option Value):Prop where
  len:mg "len" = none
  max:mg "max" = none
  min:mg "min" = none
  abs:mg "abs" = none
  divmod:mg "divmod" = none
  range:mg "range" = none
  zip:mg "zip" = none
  list:mg "list" = none
  tuple:mg "tuple" = none
  int:mg "int" = none
  str:mg "str" = none
  set:mg "set" = none
  all:mg "all" = none
  isinstance:mg "isinstance" = none
section
variable {K:W.Frag} {own:List Str} {caps:List Nat} {g:TG} {tt:TT} {te:TE} {D:Addr} {σ:St} {H:Hp} {Q:Hp→Prop}
abbrev Hl (g:TG) (tt:TT) (te:TE) (D:Addr) (N:St→Hp→Prop) (x:V) (σ:St) (H:Hp):Prop:=
  g x σ H fun σ2 H3=>tt σ2 H3 fun b H4=>if b=true then te σ2 H4 fun y H5=>∃ys,H5 D=some (.lst ys)∧ys.length<sizeLine∧N σ2 (upd H5 D (.lst (ys++[y]))) else N σ2 H4
theorem Ho {l:Addr} {xs:List V} (Pv:Nat→St→Hp→Prop) (h0:Pv 0 (stC own caps σ) H) (hl:∀i σ H,i≤xs.length→Pv i σ H→aX K H l xs)
    (hs:∀i x σ H,xs[i]? = some x→Pv i σ H→Hl g tt te D (Pv (i+1)) x σ H) (hd:∀σ H,Pv xs.length σ H→Q H):lJ own caps (Va K l) g tt te D σ H Q:=by
  refine⟨fun i m σ H=>m=xs.length - i∧i≤xs.length∧Pv i σ H,⟨xs.length,by simp,Nat.zero_le _,h0⟩,?_⟩;rintro i m σ H ⟨rfl,hi,p⟩;have q:=hl i σ H hi p
  by_cases hlt:i<xs.length
  ·refine .inr ⟨⟨xs,xs[i],q,by simp[hlt]⟩,Pv (i+1),fun σ' H' p'=>⟨xs.length - (i+1),by omega,rfl,hlt,p'⟩,fun x H' y=>?_⟩;obtain⟨e,y⟩:=y;subst e;exact hs i x σ _ (y xs q) p
  · have e:i=xs.length:=by omega
    subst e;exact .inl ⟨⟨xs,q,Nat.le_refl _⟩,hd σ H p⟩
theorem K7 {l:Addr} {xs:List V} (Pv:Nat→St→Hp→Prop) (h0:Pv 0 (stC own caps σ) H) (hl:∀i σ H,i≤xs.length→Pv i σ H→d9 K H l xs)
    (hs:∀i x σ H,xs[i]? = some x→Pv i σ H→Hl g tt te D (Pv (i+1)) x σ H) (hd:∀σ H,Pv xs.length σ H→Q H):lJ own caps (Zo K l) g tt te D σ H Q:=by
  refine⟨fun i m σ H=>m=xs.length - i∧i≤xs.length∧Pv i σ H,⟨xs.length,by simp,Nat.zero_le _,h0⟩,?_⟩;rintro i m σ H ⟨rfl,hi,p⟩;have q:=hl i σ H hi p
  by_cases hlt:i<xs.length
  ·refine .inr ⟨⟨xs,xs[i],q,by simp[hlt]⟩,Pv (i+1),fun σ' H' p'=>⟨xs.length - (i+1),by omega,rfl,hlt,p'⟩,fun x H' y=>?_⟩;obtain⟨e,y⟩:=y;subst e;exact hs i x σ _ (y xs q) p
  · have e:i=xs.length:=by omega
    subst e;exact .inl ⟨⟨xs,q,Nat.le_refl _⟩,hd σ H p⟩
theorem Oi {lo:Int} {n:Nat} (Pv:Nat→St→Hp→Prop) (h0:Pv 0 (stC own caps σ) H)
    (hs:∀i σ H,i<n→Pv i σ H→Hl g tt te D (Pv (i+1)) (.int (lo+i)) σ H) (hd:∀σ H,Pv n σ H→Q H):lJ own caps (Nr lo n) g tt te D σ H Q:=by
  refine⟨fun i m σ H=>m=n - i∧i≤n∧Pv i σ H,⟨n,by simp,Nat.zero_le _,h0⟩,?_⟩;rintro i m σ H ⟨rfl,hi,p⟩
  by_cases hlt:i<n
  ·refine .inr ⟨hlt,Pv (i+1),fun σ' H' p'=>⟨n - (i+1),by omega,rfl,hlt,p'⟩,fun x H' y=>?_⟩;obtain⟨e,y⟩:=y;subst e y;exact hs i σ _ hlt p
  · have e:i=n:=by omega
    subst e;exact .inl ⟨Nat.le_refl _,hd σ H p⟩
theorem Wb {z:Str} (Pv:Nat→St→Hp→Prop) (h0:Pv 0 (stC own caps σ) H)
    (hs:∀i c σ H,z.cps[i]? = some c→Pv i σ H→Hl g tt te D (Pv (i+1)) (.str ⟨#[c]⟩) σ H) (hd:∀σ H,Pv z.cps.size σ H→Q H):lJ own caps (Its z) g tt te D σ H Q:=by
  refine⟨fun i m σ H=>m=z.cps.size - i∧i≤z.cps.size∧Pv i σ H,⟨z.cps.size,by simp,Nat.zero_le _,h0⟩,?_⟩;rintro i m σ H ⟨rfl,hi,p⟩
  by_cases hlt:i<z.cps.size
  ·refine .inr ⟨hlt,Pv (i+1),fun σ' H' p'=>⟨z.cps.size - (i+1),by omega,rfl,hlt,p'⟩,fun x H' y=>?_⟩;obtain⟨e,c,hc,rfl⟩:=y;subst e;exact hs i c σ _ hc p
  · have e:i=z.cps.size:=by omega
    subst e;exact .inl ⟨Nat.le_refl _,hd σ H p⟩
theorem Wc {l1 l2:Addr} {xs ys:List V} (Pv:Nat→St→Hp→Prop) (h0:Pv 0 (stC own caps σ) H) (he:xs.length=ys.length) (hl:∀i σ H,i≤xs.length→Pv i σ H→aX K H l1 xs∧aX K H l2 ys)
    (hs:∀i x y t σ H,xs[i]? = some x→ys[i]? = some y→H t=none→Pv i σ H→Hl g tt te D (Pv (i+1)) (.ref t) σ (upd H t (.tup [x,y]))) (hd:∀σ H,Pv xs.length σ H→Q H):lJ own caps (Vb K l1 l2) g tt te D σ H Q:=by
  refine⟨fun i m σ H=>m=xs.length - i∧i≤xs.length∧Pv i σ H,⟨xs.length,by simp,Nat.zero_le _,h0⟩,?_⟩;rintro i m σ H ⟨rfl,hi,p⟩;obtain⟨q1,q2⟩:=hl i σ H hi p
  by_cases hlt:i<xs.length
  · have hlt2:i<ys.length:=by omega
    refine .inr ⟨⟨xs,ys,xs[i],ys[i],q1,q2,by simp[hlt],by simp[hlt2]⟩,Pv (i+1),fun σ' H' p'=>⟨xs.length - (i+1),by omega,rfl,hlt,p'⟩,fun x H' y=>?_⟩;obtain⟨t,u,v,rfl,ht,rfl,e1,e2⟩:=y;exact hs i u v t σ H (e1 xs q1) (e2 ys q2) ht p
  · have e:i=xs.length:=by omega
    subst e;exact .inl ⟨⟨xs,ys,q1,q2,.inl (Nat.le_refl _)⟩,hd σ H p⟩
end
def Y7 (b:Bool) (K:W.Frag) (H:Hp) (p:Addr) (xs:List V):Prop:=match b with | true=>aX K H p xs | false=>d9 K H p xs
def Y8 (b:Bool) (K:W.Frag) (p:Addr):It:=match b with | true=>Va K p | false=>Zo K p
def qcA (K:W.Frag) (tl:TE):TI:=fun σ H R=>tl σ H fun x H1=>∃b p,x = .ref p∧(∃xs,Y7 b K H1 p xs)∧R (Y8 b K p) H1
theorem oN {X:Cx} {K:W.Frag} (hK:X.K=K) {tg l:Expr} {tl:TE} (hl:PE X l tl):PI X tg l (qcA K tl):=by
  intro p_ s σ H R I h;refine cN (hl p_ s σ H _ I h) fun v s1 zz=>?_;obtain⟨x,H1,I1,r1,q1⟩:=zz;obtain⟨b,p,e,hq,q⟩:=q1;subst e;subst hK;cases b with
  | true=>
    cases r1;obtain⟨xs,hq⟩:=hq;obtain⟨its,rv,pl,hz⟩:=I1.list hq;refine wpAny_pyIter_list pl.isList ?_;refine⟨s1.heap.objs.size,[s1.heap.objs.size],_,_,H1,rfl,I1.kept (t':=s1.toks) fun b o e=>Heap.get?_push_of_some _ e,G4 p _,⟨_,Heap.get?_push_size _ rfl,rfl,rfl⟩,fun b hb=>?_,q⟩;have e:b=s1.heap.objs.size:=by simpa using hb
    subst e;exact I1.Bh (Nat.le_refl _) (I1.hok.fresh (Nat.le_refl _))
  | false=>
    cases r1;obtain⟨xs,hq⟩:=hq;obtain⟨its,rv,pl,hz⟩:=I1.tuple hq;refine wpAny_pyIter_tuple (show s1.heap.IsTuple p its.toArray from pl) ?_;refine⟨s1.heap.objs.size,[s1.heap.objs.size],_,_,H1,rfl,I1.kept (t':=s1.toks) fun b o e=>Heap.get?_push_of_some _ e,Cq p _,⟨_,Heap.get?_push_size _ rfl,rfl,rfl⟩,fun b hb=>?_,q⟩;have e:b=s1.heap.objs.size:=by simpa using hb
    subst e;exact I1.Bh (Nat.le_refl _) (I1.hok.fresh (Nat.le_refl _))
section
variable {K:W.Frag} {own:List Str} {caps:List Nat} {g:TG} {tt:TT} {te:TE} {D:Addr} {σ:St} {H:Hp} {Q:Hp→Prop}
theorem Wd {b:Bool} {l:Addr} {xs:List V} (Pv:Nat→St→Hp→Prop) (h0:Pv 0 (stC own caps σ) H) (hl:∀i σ H,i≤xs.length→Pv i σ H→Y7 b K H l xs)
    (hs:∀i x σ H,xs[i]? = some x→Pv i σ H→Hl g tt te D (Pv (i+1)) x σ H) (hd:∀σ H,Pv xs.length σ H→Q H):lJ own caps (Y8 b K l) g tt te D σ H Q:=by
  cases b with
  | true=>exact Ho Pv h0 hl hs hd
  | false=>exact K7 Pv h0 hl hs hd
theorem ZX {b:Bool} {l:Addr} {xs:List V} {tb:TS} {D:Ends} (Pv:Nat→St→Hp→Prop) (h0:Pv 0 σ H) (hl:∀i σ H,i≤xs.length→Pv i σ H→Y7 b K H l xs)
    (hs:∀i x σ H,xs[i]? = some x→Pv i σ H→g x σ H fun σ2 H2=>tb {D with nx:=Pv (i+1),ct:=Pv (i+1),bk:=D.nx} σ2 H2) (hd:∀σ H,Pv xs.length σ H→D.nx σ H) :
    ∃mV:Nat→Nat→St→Hp→Prop,(∃m,mV 0 m σ H)∧∀i m σ H,mV i m σ H→
      ((Y8 b K l).stop i H∧D.nx σ H)∨((Y8 b K l).go i H∧∃N:St→Hp→Prop,(∀σ' H',N σ' H'→∃m',m'<m∧mV (i+1) m' σ' H')∧∀x H',(Y8 b K l).RP i H x H'→g x σ H' fun σ2 H2=>tb {D with nx:=N,ct:=N,bk:=D.nx} σ2 H2):=by
  cases b with
  | true=>exact KN Pv h0 hl hs hd
  | false=>exact Zr Pv h0 hl hs hd
end
theorem au {H:Hp} {p:Addr} {o:HO} (h:H p=none):Same H (upd H p o):=fun b u e=>by rw[aC (aP e h)];exact e
theorem bA {H H':Hp} {p:Addr} {o:HO} (s:Same H H') (h:H p=none):Same H (upd H' p o):=fun b u e=>by rw[aC (aP e h)];exact s b u e
def Sq (H:Hp) (p:Addr) (xs:List V):Prop:=H p=some (.lst xs)∨H p=some (.tup xs)
theorem Sq.q {K:W.Frag} {H:Hp} {p:Addr} {xs:List V} (h:Sq H p xs):aX K H p xs∨d9 K H p xs:=h.elim (fun e=>.inl (aX.of e)) fun e=>.inr (d9.of e)
theorem Sq.b {H:Hp} {p:Addr} {xs:List V} (h:Sq H p xs):∃b,∀K H',Same H H'→Y7 b K H' p xs:=h.elim (fun e=>⟨true,fun _ _ s=>aX.of (s _ _ e)⟩) fun e=>⟨false,fun _ _ s=>d9.of (s _ _ e)⟩
theorem Sq.same {H H':Hp} {p:Addr} {xs:List V} (h:Sq H p xs) (s:Same H H'):Sq H' p xs:=h.elim (fun e=>.inl (s _ _ e)) fun e=>.inr (s _ _ e)
theorem Sq.ty {K:W.Frag} {H:Hp} {p:Addr} {xs:List V} (h:Sq H p xs):mX K H (.ref p) (.type "list")∨mX K H (.ref p) (.type "tuple"):=h.elim (fun e=>.inl (.lst e)) fun e=>.inr (.tup e)
theorem zp {α:Type} (f:α→Bool):∀l:List α,oK (l.map fun c=>.bl (f c)) (l.map f)
  | []=>rfl
  | c::l=>⟨f c,l.map f,rfl,rfl,zp f l⟩
theorem Oj {α:Type} (f:α→Bool) (l:List α):(l.map f).all id=l.all f:=by
  rw[List.all_map];rfl
theorem take_one {α:Type} {l:List α} {i:Nat} {x:α} (h:l[i]? = some x):l.take (i+1)=l.take i++[x]:=by
  rw[List.take_succ,h];rfl
def QJ:List V→Hp→VK→Prop:=fun xs H Q=>∃p ys,xs=[.ref p]∧Sq H p ys∧∀l H',H' l=some (.tup ys)→Same H H'→Q (.ref l) H'
theorem Wf {X:Cx}:cP X (.type "tuple") QJ:=by
  intro p_ s σ H xs us Q I r h;obtain⟨p,ys,rfl,hq,q⟩:=h;refine Gu p_ s σ H _ us Q I r ⟨p,ys,rfl,?_⟩
  rcases hq with e | e
  ·exact .inl ⟨aX.of e,fun l hl=>q l _ ak (au hl)⟩
  ·exact .inr ⟨d9.of e,q p H e (Same.refl H)⟩
def qcB (J:It) (g:TG) (tb:TS):TS:=fun D σ H=>∃mV:Nat→Nat→St→Hp→Prop,(∃m,mV 0 m σ H)∧∀i m σ H,mV i m σ H→
      (J.stop i H∧D.nx σ H)∨(J.go i H∧∃N:St→Hp→Prop,(∀σ' H',N σ' H'→∃m',m'<m∧mV (i+1) m' σ' H')∧∀x H',J.RP i H x H'→g x σ H' fun σ2 H2=>tb {D with nx:=N,ct:=N,bk:=D.nx} σ2 H2)
theorem bG {H:Hp} {b p:Addr} {o u:HO} (h:H b=some o) (n:H p=none):upd H p u b=some o:=by rw[aC (aP h n)];exact h
theorem mY {H:Hp} {b p:Addr} {o o' u:HO} (h:H b=some o) (n:H p=some o') (d:o≠o'):upd H p u b=some o:=by
  rw[aC (fun e=>d (by subst e;rw[h] at n;exact Option.some.inj n))];exact h
theorem bQ {H H':Hp} {b:Addr} (s:Same H H') (h:H' b=none):H b=none:=by
  cases e:H b with
  | none=>rfl
  | some o=>rw[s b o e] at h;cases h
def But (p:Addr) (H H':Hp):Prop:=∀b o,b≠p→H b=some o→H' b=some o
theorem But.refl (p:Addr) (H:Hp):But p H H:=fun _ _ _ e=>e
theorem But.trans {p:Addr} {H H1 H2:Hp} (x:But p H H1) (y:But p H1 H2):But p H H2:=fun b o hb e=>y b o hb (x b o hb e)
theorem But.new {p q:Addr} {H H':Hp} {u:HO} (x:But p H H') (h:H q=none):But p H (upd H' q u):=fun b o hb e=>by
  rw[aC (aP e h)];exact x b o hb e
theorem But.same {p:Addr} {H H1 H2:Hp} (x:But p H H1) (y:Same H1 H2):But p H H2:=fun b o hb e=>y b o (x b o hb e)
theorem But.none {p b:Addr} {H H':Hp} {u:HO} (x:But p H H') (hp:H' p=some u) (h:H' b = .none):H b = .none:=by
  cases e:H b with
  | none=>rfl
  | some o=>
    have hb:b≠p:=fun z=>by subst z;rw[hp] at h;cases h
    rw[x b o hb e] at h;cases h
theorem QK {α:Type} {xs:List α} {i:Int} (h0:0≤i) (h1:i<xs.length):∃v,xs[i.toNat]? = some v∧xK xs i=some v:=by
  obtain⟨j,rfl⟩:∃j:Nat,i=j:=⟨i.toNat,by omega⟩;have hj:j<xs.length:=by omega
  exact⟨xs[j],by simp[hj],bD (by simp[hj])⟩
theorem qcC {d e n:Int} (h0:0≤d) (h1:d<n) (h2:0≤e) (h3:e<n - 1):0≤(d+1+e) % n∧(d+1+e) % n<n∧(d+1+e) % n≠d:=by
  refine⟨Int.emod_nonneg _ (by omega),Int.emod_lt_of_pos _ (by omega),?_⟩
  by_cases h:d+1+e<n
  ·rw[Int.emod_eq_of_lt (by omega) h];omega
  · have z:d+1+e=(d+1+e - n)+n * 1:=by omega
    rw[z,Int.add_mul_emod_self_left,Int.emod_eq_of_lt (by omega) (by omega)];omega
theorem pL {xs:List Str} {i:Nat} {x:V} (h:(xs.map V.str)[i]? = some x):∃z,xs[i]? = some z∧x = .str z:=by
  rw[List.getElem?_map] at h;cases e:xs[i]? with
  | none=>rw[e] at h;cases h
  | some z=>rw[e] at h;exact⟨z,rfl,(Option.some.inj h).symm⟩
theorem xW {α:Type} {xs:List α} (h:xs.Nodup) {i j:Nat} {x:α} (hi:xs[i]? = some x) (hj:xs[j]? = some x):i=j:=by
  obtain⟨h1,e1⟩:=List.getElem?_eq_some_iff.mp hi;obtain⟨h2,e2⟩:=List.getElem?_eq_some_iff.mp hj;exact(List.getElem_inj h).mp (e1.trans e2.symm)
def Z0 (c:Nat):Bool:=!(Builtin.Str.occurrences ("abcdefghijklmnopqrstuvwxyz" : Str) ⟨#[c]⟩ 0 ("abcdefghijklmnopqrstuvwxyz" : Str).length 1).isEmpty
def nameB (x:Str):Bool:=decide (1≤x.length) && decide (x.length≤4) && x.cps.toList.all Z0
theorem Wg:∀n<26,Z0 (97+n)=true:=by decide+kernel
theorem Ol:∀n:Nat,n<26→xK (Str.ofString "abcdefghijklmnopqrstuvwxyz").cps.toList (n:Int)=some (97+n):=by decide+kernel
theorem Am:(Str.ofString "abcdefghijklmnopqrstuvwxyz").length≤sizeLine:=by decide+kernel
theorem uc {i:Int} (h0:0≤i) (h1:i<26):∃n:Nat,i=n∧n<26∧xK (Str.ofString "abcdefghijklmnopqrstuvwxyz").cps.toList i=some (97+n):=
  ⟨i.toNat,by omega,by omega,by
    obtain⟨n,rfl⟩:∃n:Nat,i=n:=⟨i.toNat,by omega⟩;exact Ol n (by omega)⟩
structure pO (c:Nat) (k:Nat) (x:Str):Prop where
  len:x.length=k
  fst:x.cps[0]? = some c
  all:x.cps.toList.all Z0=true
theorem pO.one {n:Nat} (h:n<26):pO (97+n) 1 ⟨#[97+n]⟩:=⟨rfl,rfl,by simp[Wg n h]⟩
theorem pO.snoc {c k n:Nat} {x:Str} (h:pO c k x) (hk:0<k) (hn:n<26):pO c (k+1) (x++(⟨#[97+n]⟩:Str)):=by
  obtain⟨h1,h2,h3⟩:=h;refine⟨?_,?_,?_⟩
  ·show(x.cps++#[97+n]).size=_;have:x.cps.size=k:=h1;simp[this]
  ·show(x.cps++#[97+n])[0]? = _;have:x.cps.size=k:=h1;rw[Array.getElem?_append_left (by omega)];exact h2
  ·show(x.cps++#[97+n]).toList.all Z0=true;simp at h3;simp[Wg n hn];exact h3
theorem pO.name {c k:Nat} {x:Str} (h:pO c k x) (h1:1≤k) (h4:k≤4):nameB x=true:=by
  unfold nameB;rw[h.len,h.all];simp;omega
section
variable {κ:Type} [DecidableEq κ]
def mZ (kvs:List (κ×V)) (k:κ):Option V:=(kvs.find? fun kv=>decide (kv.1=k)).map (·.2)
def putK (kvs:List (κ×V)) (k:κ) (v:V):List (κ×V):=
  if (kvs.any fun kv=>decide (kv.1=k))=true then kvs.map (fun kv=>if kv.1=k then (kv.1,v) else kv) else kvs++[(k,v)]
theorem CK {p:κ×V} {r:List (κ×V)} {k:κ} (e:p.1=k):mZ (p::r) k=some p.2:=by simp[mZ,List.find?_cons,e]
theorem CN {p:κ×V} {r:List (κ×V)} {k:κ} (e:¬p.1=k):mZ (p::r) k=mZ r k:=by simp[mZ,List.find?_cons,e]
theorem CP (k:κ):∀kvs:List (κ×V),(kvs.any fun kv=>decide (kv.1=k))=(mZ kvs k).isSome
  | []=>rfl
  | p::r=>by
    rw[List.any_cons]
    by_cases e:p.1=k
    ·simp only[CK e,decide_eq_true e,Bool.true_or,Option.isSome_some]
    ·rw[CN e,decide_eq_false e,Bool.false_or];exact CP k r
theorem ud (kvs:List (κ×V)) (k:κ) (v:V):(putK kvs k v).length≤kvs.length+1:=by
  unfold putK;split
  ·rw[List.length_map];omega
  ·rw[List.length_append,List.length_cons,List.length_nil];omega
theorem Wh {kvs:List (κ×V)} {k:κ} (v:V) (h:mZ kvs k=none):putK kvs k v=kvs++[(k,v)]:=by
  unfold putK;rw[CP,h];exact if_neg (by decide)
theorem mU.qG {o:Option V} {u:Option Value} (r:mU o u):o.isSome=u.isSome:=by
  cases o with
  | none=>cases u with
    | none=>rfl
    | some _=>exact(show False from r).elim
  | some _=>cases u with
    | none=>exact(show False from r).elim
    | some _=>rfl
theorem mU.getD {o:Option V} {u:Option Value} {d:V} {d':Value} (r:mU o u) (rd:RelV d d'):RelV (o.getD d) (u.getD d'):=by
  cases o with
  | none=>cases u with
    | none=>exact rd
    | some _=>exact(show False from r).elim
  | some _=>cases u with
    | none=>exact(show False from r).elim
    | some _=>exact r
theorem KV.val {kvs:List (κ×V)} {vs:List (κ×Value)} (r:KV kvs vs) (k:κ):mU (mZ kvs k) (valueAt vs k):=by
  unfold KV at r
  induction r with
  | nil=>exact True.intro
  | @cons p q ps qs h t ih=>
    obtain⟨h1,h2⟩:=h
    by_cases e:p.1=k
    · have e':q.1=k:=h1.symm.trans e;have b:valueAt (q::qs) k=some q.2:=by simp[valueAt,List.find?_cons,e']
      rw[CK e,b];exact h2
    · have e':¬q.1=k:=fun z=>e (h1.trans z);have b:valueAt (q::qs) k=valueAt qs k:=by simp[valueAt,List.find?_cons,e']
      rw[CN e,b];exact ih
theorem KV.any {kvs:List (κ×V)} {vs:List (κ×Value)} (r:KV kvs vs) (k:κ):(kvs.any fun kv=>decide (kv.1=k))=vs.any fun kv=>decide (kv.1=k):=by
  unfold KV at r
  induction r with
  | nil=>rfl
  | cons h t ih=>rw[List.any_cons,List.any_cons,ih,h.1]
theorem KV.repl {kvs:List (κ×V)} {vs:List (κ×Value)} (r:KV kvs vs) (k:κ) {y:V} {u:Value} (ry:RelV y u) :
    KV (kvs.map fun kv=>if kv.1=k then (kv.1,y) else kv) (vs.map fun kv=>if kv.1=k then (kv.1,u) else kv):=by
  unfold KV at r ⊢
  induction r with
  | nil=>exact .nil
  | @cons p q ps qs h t ih=>
    rw[List.map_cons,List.map_cons];refine .cons ?_ ih;obtain⟨h1,h2⟩:=h
    by_cases e:p.1=k
    ·rw[if_pos e,if_pos (h1.symm.trans e)];exact⟨h1,ry⟩
    ·rw[if_neg e,if_neg (fun z=>e (h1.trans z))];exact⟨h1,h2⟩
theorem KV.put {kvs:List (κ×V)} {vs:List (κ×Value)} (r:KV kvs vs) (k:κ) {y:V} {u:Value} (ry:RelV y u):KV (putK kvs k y) (stored vs k u):=by
  unfold putK stored;rw[r.any k]
  by_cases e:(vs.any fun kv=>decide (kv.1=k))=true
  ·rw[if_pos e,if_pos e];exact r.repl k ry
  ·rw[if_neg e,if_neg e];exact Paired.snoc r ⟨rfl,ry⟩
theorem KV.length {kvs:List (κ×V)} {vs:List (κ×Value)} (r:KV kvs vs):kvs.length=vs.length:=Paired.length r
end
theorem CQ {P:Program} {w:World} {k:Key} {u:Value} (r:RelV (kV k) u):(cV P w).is k u=true:=by
  cases k with
  | inl i=>obtain⟨t,e⟩:=(show ∃t,u=Value.int i t from r);subst e;exact Kv P w i t
  | inr x=>obtain⟨t,e⟩:=(show ∃t,u=Value.str x t from r);subst e;exact Kw P w x t
theorem Hq {P:Program} {w:World}:∀{ks:List Key} {us:List Value},Vals (ks.map kV) us→ItemsAre (cV P w) ks us
  | [],_,r=>by rw[List.map_nil] at r;cases r;exact .nil
  | k::ks,_,r=>by
    rw[List.map_cons] at r;cases r with
    | cons h t=>exact .cons (CQ h) (Hq t)
abbrev KT (H:Hp):List (List Key×V)→List (List Key×Addr×Value)→Prop:=Paired fun p q=>p.1=q.1∧H q.2.1=some (.tup (p.1.map kV))∧RelV p.2 q.2.2
theorem KT.val {H:Hp} {kvs:List (List Key×V)} {xs:List (List Key×Addr×Value)} (r:KT H kvs xs) (k:List Key):mU (mZ kvs k) ((atKey xs k).map (·.2)):=by
  induction r with
  | nil=>exact True.intro
  | @cons p q ps qs h t ih=>
    obtain⟨h1,_,h2⟩:=h
    by_cases e:p.1=k
    · have e':q.1=k:=h1.symm.trans e;have b:atKey (q::qs) k=some q.2:=by simp[atKey,List.find?_cons,e']
      rw[CK e,b];exact h2
    · have e':¬q.1=k:=fun z=>e (h1.trans z);have b:atKey (q::qs) k=atKey qs k:=by simp[atKey,List.find?_cons,e']
      rw[CN e,b];exact ih
theorem KT.repl {H:Hp} {kvs:List (List Key×V)} {xs:List (List Key×Addr×Value)} (r:KT H kvs xs) (k:List Key) {y:V} {u:Value} (ry:RelV y u) :
    KT H (kvs.map fun kv=>if kv.1=k then (kv.1,y) else kv) (xs.map (putAt k u)):=by
  induction r with
  | nil=>exact .nil
  | @cons p q ps qs h t ih=>
    rw[List.map_cons,List.map_cons];refine .cons ?_ ih;obtain⟨h1,h2,h3⟩:=h;unfold putAt
    by_cases e:p.1=k
    ·rw[if_pos e,if_pos (h1.symm.trans e)];exact⟨h1,h2,ry⟩
    ·rw[if_neg e,if_neg (fun z=>e (h1.trans z))];exact⟨h1,h2,h3⟩
theorem KT.put {H:Hp} {kvs:List (List Key×V)} {xs:List (List Key×Addr×Value)} (r:KT H kvs xs) (k:List Key) {b:Addr} {y:V} {u:Value} (hb:H b=some (.tup (k.map kV))) (ry:RelV y u) :
    KT H (putK kvs k y) (storedH xs k b u):=by
  have e:(kvs.any fun kv=>decide (kv.1=k))=(atKey xs k).isSome:=by
    rw[CP,(r.val k).qG,Option.isSome_map]
  unfold putK storedH;rw[e]
  by_cases q:(atKey xs k).isSome=true
  ·rw[if_pos q,if_pos q];exact r.repl k ry
  ·rw[if_neg q,if_neg q];exact Paired.snoc r ⟨rfl,hb,ry⟩
theorem KT.keeps {H H':Hp} {kvs:List (List Key×V)} {xs:List (List Key×Addr×Value)} (r:KT H kvs xs) (ht:∀b ys,H b=some (.tup ys)→H' b=some (.tup ys)):KT H' kvs xs:=
  Paired.qbQ r fun _ _ z=>⟨z.1,ht _ _ z.2.1,z.2.2⟩
section
variable {P:Program} {w:World} {H:Hp} {h:Heap} {a:Addr}
theorem qbc {u:HO} (ok:tO P w H h) (e:Rd H a u):cM P w H h a u:=e.ok ok
theorem CT {kvs:List (Key×V)} (ok:tO P w H h) (e:Rd H a (.dK kvs)):kvs.length≤sizeLine∧(a == sysModules)=false∧∃vs,KV kvs vs∧h.DictOf (cV P w) a vs:=
  show cM P w H h a (.dK kvs) from qbc ok e
theorem Wi {kvs:List (Key×V)} (ok:tO P w H h) (e:H a=some (.dK kvs)):kvs.length≤sizeLine∧(a == sysModules)=false∧∃vs,KV kvs vs∧h.DictOf (cV P w) a vs:=CT ok (.inl e)
theorem zq {ks:List Key} (ok:tO P w H h) (e:H a=some (.tup (ks.map kV))):(tupleKind (cV P w)).is h ks a:=by
  obtain⟨_,its,r,o,h1,h2,n,h3⟩:=(show cM P w H h a (.tup (ks.map kV)) from ok a _ e);exact⟨o,its.toArray,n,h1,h2,h3,by simpa using Hq r⟩
theorem CV {kvs:List (List Key×V)} (ok:tO P w H h) (e:Rd H a (.dT kvs)):kvs.length≤sizeLine∧(a == sysModules)=false∧
    ∃xs,KT H kvs xs∧h.DictOfH (tupleKind (cV P w)) a xs:=by
  obtain⟨z,y,xs,r,o,es,ep,h1,h2,h3,h4,h5⟩:=(show cM P w H h a (.dT kvs) from qbc ok e);refine⟨z,y,xs,r,o,es,ep,h1,h2,h3,h4,fun x hx=>?_,h5⟩;have all:∀{l:List (List Key×V)} {m:List (List Key×Addr×Value)},KT H l m→∀x∈m,(tupleKind (cV P w)).is h x.1 x.2.1:=by
    intro l m q
    induction q with
    | nil=>intro x hx;exact nomatch hx
    | @cons p q ps qs hq t ih=>
      intro x hx
      rcases List.mem_cons.mp hx with e | hx
      ·subst e;exact zq ok (by rw[← hq.1];exact hq.2.1)
      ·exact ih x hx
  exact all r x hx
theorem qfd {kvs:List (List Key×V)} (ok:tO P w H h) (e:H a=some (.dT kvs)):kvs.length≤sizeLine∧(a == sysModules)=false∧
    ∃xs,KT H kvs xs∧h.DictOfH (tupleKind (cV P w)) a xs:=CV ok (.inl e)
end
def kY (H:Hp) (a:Addr) (y:V) (r:Option V):Prop:=
  (∃kvs k,Rd H a (.dK kvs)∧y=kV k∧r=mZ kvs k)∨∃kvs k b,Rd H a (.dT kvs)∧y = .ref b∧H b=some (.tup (k.map kV))∧r=mZ kvs k
def Jo (H:Hp) (a:Addr) (y v:V) (H':Hp):Prop:=
  (∃kvs k,H a=some (.dK kvs)∧y=kV k∧kvs.length<sizeLine∧H'=upd H a (.dK (putK kvs k v)))∨
  ∃kvs k b,H a=some (.dT kvs)∧y = .ref b∧H b=some (.tup (k.map kV))∧kvs.length<sizeLine∧H'=upd H a (.dT (putK kvs k v))
theorem kY.k {H:Hp} {a:Addr} {kvs:List (Key×V)} {k:Key} (e:H a=some (.dK kvs)):kY H a (kV k) (mZ kvs k):=.inl ⟨kvs,k,.inl e,rfl,rfl⟩
theorem Jo.k {H:Hp} {a:Addr} {kvs:List (Key×V)} {k:Key} {v:V} (e:H a=some (.dK kvs)) (hl:kvs.length<sizeLine):Jo H a (kV k) v (upd H a (.dK (putK kvs k v))):=.inl ⟨kvs,k,e,rfl,hl,rfl⟩
section
variable {X:Cx} {p_:List (Addr×Obj)} {σ:St} {H:Hp} {s:Shared} {a:Addr} {y v:V} {u r:Value} {o:Option V} {A:Around} {E:Value→Shared→Prop}
theorem Inv.big (I:Inv X p_ σ H s):sysModules<s.heap.objs.size:=by
  have h:mainGlobals<s.heap.objs.size:=(I.mod.glob.keeps I.bk).lt;exact Nat.lt_trans (by decide) h
theorem Sw {Q:Value→Shared→Prop} (hu:A.units+1<cLine) (I:Inv X p_ σ H s) (g:kY H a y (some v)) (ry:RelV y u) (h:∀w' s',Inv X p_ σ H s'→RelV v w'→Q w' s') :
    wpAny (model X.prog X.w) A (getItem (.ref a) u) Q E s:=by
  rcases g with⟨kvs,k,e,ey,l⟩ | ⟨kvs,k,b,e,ey,eb,l⟩
  ·subst ey;obtain⟨z,hd,vs,rel,dd⟩:=CT I.hok e;obtain⟨w',hw,V1⟩:=mU.some_of (v:=v) (o:=valueAt vs k) (by rw[l];exact rel.val k);exact wpAny_getItem_of (CQ ry) dd.mapOf hw (h w' _ (I.tok _) V1)
  · subst ey;cases (show u=Value.ref b from ry);obtain⟨z,hd,xs,rel,dd⟩:=CV I.hok e;obtain⟨w',hw,V1⟩:=mU.some_of (v:=v) (o:=(atKey xs k).map (·.2)) (by rw[l];exact rel.val k);obtain⟨p,hp,hp2⟩:=Option.map_eq_some_iff.mp hw;refine wpAny_getItem_heap (tupleKind_room_in1 hu) (zq I.hok eb) dd hp ?_;rw[hp2];exact h w' _ (I.tok _) V1
theorem qj8 {Q:Value→Shared→Prop} (hu:A.units+1<cLine) (I:Inv X p_ σ H s) (g:kY H a y o) (ry:RelV y u) (h:∀s',Inv X p_ σ H s'→Q (.bool o.isSome) s') :
    wpAny (model X.prog X.w) A (compareOp .In u (.ref a)) Q E s:=by
  rcases g with⟨kvs,k,e,ey,l⟩ | ⟨kvs,k,b,e,ey,eb,l⟩
  ·subst ey;obtain⟨z,hd,vs,rel,dd⟩:=CT I.hok e;refine wpAny_in_of (CQ ry) hd dd.mapOf ?_;rw[← (rel.val k).qG,← l];exact h _ (I.tok _)
  ·subst ey;cases (show u=Value.ref b from ry);obtain⟨z,hd,xs,rel,dd⟩:=CV I.hok e;refine wpAny_in_heap (tupleKind_room_in1 hu) (zq I.hok eb) hd dd ?_;have q:=(rel.val k).qG;rw[Option.isSome_map] at q;rw[← q,← l];exact h _ (I.tok _)
theorem Z1 {Q:Value→Shared→Prop} (hu:A.units+1<cLine) (I:Inv X p_ σ H s) (g:kY H a y o) (ry:RelV y u) (h:∀s',Inv X p_ σ H s'→Q (.bool (!o.isSome)) s') :
    wpAny (model X.prog X.w) A (compareOp .NotIn u (.ref a)) Q E s:=by
  rcases g with⟨kvs,k,e,ey,l⟩ | ⟨kvs,k,b,e,ey,eb,l⟩
  ·subst ey;obtain⟨z,hd,vs,rel,dd⟩:=CT I.hok e;refine wpAny_notIn_of (CQ ry) hd dd.mapOf ?_;rw[← (rel.val k).qG,← l];exact h _ (I.tok _)
  ·subst ey;cases (show u=Value.ref b from ry);obtain⟨z,hd,xs,rel,dd⟩:=CV I.hok e;refine wpAny_notIn_heap (tupleKind_room_in1 hu) (zq I.hok eb) hd dd ?_;have q:=(rel.val k).qG;rw[Option.isSome_map] at q;rw[← q,← l];exact h _ (I.tok _)
theorem Jp {h':Heap} {t':Nat} {ob:HO} (I:Inv X p_ σ H s) (mu:Mut (H a)) (hs:Heap.SameBut a s.heap h') (he:∃q,h'.get? a=some q) (new:cM X.prog X.w (upd H a ob) h' a ob) :
    Inv X p_ σ (upd H a ob) {s with heap:=h',toks:=t'}:=
  I.write (x:=a) (e:=a) mu (.inl rfl) (fun b q hb z=>(hs.2 b hb).trans z) he new
theorem Wj {P:Program} {w:World} {H':Hp} {h':Heap} {kvs:List (Key×V)} {vs:List (Key×Value)} (z:kvs.length≤sizeLine) (hd:(a == sysModules)=false) (rel:KV kvs vs) (dd:h'.DictOf (cV P w) a vs) :
    cM P w H' h' a (.dK kvs):=⟨z,hd,vs,rel,dd⟩
theorem Sx {H':Hp} {Q:Unit→Shared→Prop} (hu:A.units+1<cLine) (I:Inv X p_ σ H s) (g:Jo H a y v H') (ry:RelV y u) (rv:RelV v r) (h:∀s',Inv X p_ σ H' s'→Q () s') :
    wpAny (model X.prog X.w) A (setItem (.ref a) u r) Q E s:=by
  rcases g with⟨kvs,k,e,ey,l,eH⟩ | ⟨kvs,k,b,e,ey,eb,l,eH⟩
  · subst ey eH;obtain⟨z,hd,vs,rel,dd⟩:=Wi I.hok e;have hz:vs.length≤sizeLine:=by rw[← rel.length];exact z
    have hl:(putK kvs k v).length≤sizeLine:=by have:=ud kvs k v;omega
    refine wpAny_setItem_pairs (hsz:=hz) (CQ ry) dd fun h' Z2 hs=>h _ ?_;have he:∃q,h'.get? a=some q:=let ⟨q,_,_,hq,_⟩:=Z2;⟨q,hq⟩;exact Jp I (by rw[e];exact True.intro) hs he (Wj hl hd (rel.put k rv) Z2)
  · subst ey eH;cases (show u=Value.ref b from ry);obtain⟨z,hd,xs,rel,dd⟩:=qfd I.hok e;have hz:xs.length≤sizeLine:=by rw[← Paired.length rel];exact z
    have hl:(putK kvs k v).length≤sizeLine:=by have:=ud kvs k v;omega
    refine wpAny_setItem_heap (hsz:=hz) (tupleKind_room_in1 hu) (zq I.hok eb) dd fun h' Z2 hs=>h _ ?_;obtain⟨q,es,ep,hq,h2,h3,h4,_,h5⟩:=Z2;refine Jp I (by rw[e];exact True.intro) hs ⟨q,hq⟩ ⟨hl,hd,_,(rel.put k eb rv).keeps fun c ys ec=>?_,q,es,ep,hq,h2,h3,h4,h5⟩;rw[aC (Cg ec e (fun z=>nomatch z))];exact ec
end
def qfe (i:Expr):Prop:=∀ov iv,subscripted i false ov iv=operate [ov,iv] (getItem ov iv)
theorem Z4 {prog:Program} {w:World} {A:Around} {E:Value→Shared→Prop} {s:Shared} {env:Env} {value slice:Expr} {pos:Pos} {T id:String} {Q:Value→Shared→Prop}
    (hl:typeLookup (.type T) "__getitem__" = pure (some (.builtin id))) (hs:qfe slice)
    (h:wpAny (model prog w) A (eval value env) (fun o s₁=>wpAny (model prog w) A (eval slice env) (fun i s₂=>s₂.TypeIs o T∧wpAny (model prog w) A (getItem o i) Q E s₂) E s₁) E s) :
    wpAny (model prog w) A (eval (.Subscript value slice pos) env) Q E s:=by
  refine Subscript_ (wpAny_mono h (fun o s₁ h₁=>wpAny_mono h₁ (fun i s₂ h₂=>?_) fun _ _ x=>x) fun _ _ x=>x);obtain⟨hT,h₂⟩:=h₂;unfold subscriptTail;refine wpAny_bind ?_;rw[getitemInPython_of_ne hT.not_modules];refine wpAny_bind (wpAny_specialOf hT hl ?_);have fin:wpAny (model prog w) A (subscripted slice false o i) (fun r s₃=>wpAny (model prog w) A (letTemporaryGo value o r >>= fun _=>pure r) Q E s₃) E s₂:=by
    rw[hs o i];exact wpAny_operating (wpAny_mono h₂ (fun r s₃ h₃=>wpAny_bind (wpAny_letTemporaryGo (wpAny_pure h₃))) fun _ _ x=>x)
  first
    | exact wpAny_pure (wpAny_bind fin)
    | exact wpAny_bind (wpAny_pure (wpAny_bind fin))
    | exact wpAny_bind fin
theorem K8 {X:Cx} {p_:List (Addr×Obj)} {σ:St} {H:Hp} {s:Shared} {a:Addr} {y:V} {o:Option V} (I:Inv X p_ σ H s) (g:kY H a y o):s.TypeIs (.ref a) "dict" :=by
  rcases g with⟨kvs,k,e,_,_⟩ | ⟨kvs,k,b,e,_,_,_⟩
  ·obtain⟨_,_,vs,_,dd⟩:=CT I.hok e;exact dd.typeIs
  ·obtain⟨_,_,xs,_,dd⟩:=CV I.hok e;exact dd.typeIs
def Wk (td ty:TE):TE:=fun σ H Q=>td σ H fun x H1=>ty σ H1 fun y H2=>∃a v,x = .ref a∧kY H2 a y (some v)∧Q v H2
def qcD (ty td:TE):TE:=fun σ H Q=>ty σ H fun y H1=>td σ H1 fun x H2=>∃a o,x = .ref a∧kY H2 a y o∧Q (.bl o.isSome) H2
def Jq (ty td:TE):TE:=fun σ H Q=>ty σ H fun y H1=>td σ H1 fun x H2=>∃a o,x = .ref a∧kY H2 a y o∧Q (.bl (!o.isSome)) H2
def Wm (td ty tv:TE):TS:=fun D σ H=>tv σ H fun v H1=>td σ H1 fun x H2=>ty σ H2 fun y H3=>∃a H4,x = .ref a∧Jo H3 a y v H4∧D.nx σ H4
section
variable {X:Cx} {o i e value:Expr} {pos pos' tpos:Pos} {td ty tv:TE}
theorem QL (hu:X.A.units+1<cLine) (ho:PE X o td) (hi:PE X i ty) (hs:qfe i):PE X (.Subscript o i pos) (Wk td ty):=by
  intro p_ s σ H Q I h;refine Z4 PySem.F.slot_dict_getitem.lookup hs (cN (ho p_ s σ H _ I h) fun u s1 ⟨x,H1,I1,rx,q1⟩=>cN (hi p_ s1 σ H1 _ I1 q1) fun iv s2 ⟨y,H2,I2,ry,a,v,ex,g,q2⟩=>?_);subst ex;obtain rfl:u=Value.ref a:=rx;exact⟨K8 I2 g,Sw hu I2 g ry fun w' s3 I3 V1=>⟨v,H2,I3,V1,q2⟩⟩
theorem Wn (hu:X.A.units+1<cLine) (hi:PE X i ty) (ho:PE X o td):PC X .In i o (qcD ty td):=by
  intro p_ s σ H Q I h;refine cN (hi p_ s σ H _ I h) fun iv s1 ⟨y,H1,I1,ry,q1⟩=>cN (ho p_ s1 σ H1 _ I1 q1) fun u s2 ⟨x,H2,I2,rx,a,ov,ex,g,q2⟩=>?_;subst ex;obtain rfl:u=Value.ref a:=rx;exact qj8 hu I2 g ry fun s3 I3=>⟨.bl ov.isSome,H2,I3,rfl,q2⟩
theorem Sy (hu:X.A.units+1<cLine) (hi:PE X i ty) (ho:PE X o td):PC X .NotIn i o (Jq ty td):=by
  intro p_ s σ H Q I h;refine cN (hi p_ s σ H _ I h) fun iv s1 ⟨y,H1,I1,ry,q1⟩=>cN (ho p_ s1 σ H1 _ I1 q1) fun u s2 ⟨x,H2,I2,rx,a,ov,ex,g,q2⟩=>?_;subst ex;obtain rfl:u=Value.ref a:=rx;exact Z1 hu I2 g ry fun s3 I3=>⟨.bl (!ov.isSome),H2,I3,rfl,q2⟩
theorem Z5 (hu:X.A.units+1<cLine) (ho:PE X o td) (hi:PE X i ty) (hv:PE X value tv) (hs:swapsWith value (some (.Subscript o i pos')) pos.line X.env=pure false) :
    PS X (.Assign [.Subscript o i pos'] value pos) (Wm td ty tv):=by
  intro p_ s σ H D I h;refine wpAny_Assign_Subscript (cN (hv p_ s σ H _ I h) fun r s1 ⟨v,H1,I1,rv,q1⟩=>cN (ho p_ s1 σ H1 _ I1 q1) fun u s2 ⟨x,H2,I2,rx,q2⟩=>cN (hi p_ s2 σ H2 _ I2 q2) fun iv s3 ⟨y,H3,I3,ry,a,H4,ex,g,q3⟩=>?_) hs;subst ex;obtain rfl:u=Value.ref a:=rx;exact Sx hu I3 g ry rv fun s4 I4=>⟨σ,H4,I4,q3⟩
end
theorem K9 {P:Program} {w:World} {H:Hp} (h:Heap) (hb:sysModules<h.objs.size):cM P w H (h.push {cls:=.type "dict",data:=.dict #[]}) h.objs.size (.dK []):=
  ⟨Nat.zero_le _,beq_eq_false_iff_ne.mpr (Ne.symm (Nat.ne_of_lt hb)),[],.nil,Heap.DictOf.new h⟩
def Wo:TE:=fun _ H Q=>∀p,H p=none→Q (.ref p) (upd H p (.dK []))
section
variable {X:Cx} {pos:Pos}
theorem CW:PE X (.Dict [] [] pos) Wo:=fun p_ s σ H Q I h=>
  wpAny_Dict_empty ⟨.ref s.heap.objs.size,_,I.laid (a:=s.heap.objs.size) (o:=.dK []) (t':=s.toks) (fun _ _ q=>Heap.get?_push_of_some _ q) (Nat.le_refl _) (K9 s.heap I.big),rfl,h _ (I.hok.fresh (Nat.le_refl _))⟩
end
def vV:List (TE×TE)→St→Hp→(List (V×V)→Hp→Prop)→Prop
  | [],_,H,Q=>Q [] H
  | (tk,tv)::r,σ,H,Q=>tk σ H fun x H1=>tv σ H1 fun y H2=>vV r σ H2 fun ps H3=>Q ((x,y)::ps) H3
abbrev VV:List (V×V)→List (Value×Value)→Prop:=Paired fun p q=>RelV p.1 q.1∧RelV p.2 q.2
def PPs (X:Cx) (pos:Pos) (keys:List (Option Expr)) (values:List Expr) (Vc:List (TE×TE)):Prop:=
  ∀(p_:List (Addr×Obj)) (s:Shared) (σ:St) (H:Hp) (Q:List (V×V)→Hp→Prop),Inv X p_ σ H s→vV Vc σ H Q→
    wpAny (model X.prog X.w) X.A (evalPairs (pairTrees keys values X.env pos)) (fun vs s'=>∃ps H',Inv X p_ σ H' s'∧VV ps vs∧Q ps H') X.xe s
theorem Z6 {X:Cx} {pos:Pos}:PPs X pos [] [] []:=fun p_ s σ H Q I h=>pairTrees_nil_walk ⟨[],H,I,.nil,h⟩
theorem Wq {X:Cx} {pos:Pos} {k v:Expr} {ks:List (Option Expr)} {vs:List Expr} {tk tv:TE} {Vc:List (TE×TE)} (hk:PE X k tk) (hv:PE X v tv) (hr:PPs X pos ks vs Vc) :
    PPs X pos (some k::ks) (v::vs) ((tk,tv)::Vc):=fun p_ s σ H Q I h=>
  pairTrees_cons_walk (cN (hk p_ s σ H _ I h) fun u s1 ⟨x,H1,I1,rx,q1⟩=>cN (hv p_ s1 σ H1 _ I1 q1) fun w2 s2 ⟨y,H2,I2,ry,q2⟩=>
    cN (hr p_ s2 σ H2 _ I2 q2) fun ws s3 ⟨ps,H3,I3,rel,q3⟩=>⟨(x,y)::ps,H3,I3,.cons ⟨rx,ry⟩ rel,q3⟩)
def vW (kvs more:List (Key×V)):List (Key×V):=more.foldl (fun acc kv=>putK acc kv.1 kv.2) kvs
theorem KV.merge:∀{more:List (Key×V)} {rs:List (Key×Value)} {kvs:List (Key×V)} {vs:List (Key×Value)},KV more rs→KV kvs vs→KV (vW kvs more) (merged vs rs):=by
  intro more rs kvs vs r;unfold KV at r
  induction r generalizing kvs vs with
  | nil=>intro q;exact q
  | @cons p q ps qs h t ih=>
    intro r0;have e:KV (putK kvs p.1 p.2) (stored vs q.1 q.2):=by
      have:=r0.put p.1 h.2;rw[← h.1];exact this
    exact ih e
theorem vC:∀(more kvs:List (Key×V)),(vW kvs more).length≤kvs.length+more.length
  | [],kvs=>by show kvs.length≤kvs.length+0;omega
  | p::r,kvs=>by
    have h1:=vC r (putK kvs p.1 p.2);have h2:=ud kvs p.1 p.2;show(vW (putK kvs p.1 p.2) r).length≤_;rw[List.length_cons];omega
theorem CZ {P:Program} {w:World}:∀{kvs:List (Key×V)} {ws:List (Value×Value)},VV (kvs.map fun kv=>(kV kv.1,kv.2)) ws→∃rs,Carries (cV P w) ws rs∧KV kvs rs
  | [],_,r=>by rw[List.map_nil] at r;cases r;exact⟨[],True.intro,.nil⟩
  | p::kvs,_,r=>by
    rw[List.map_cons] at r;cases r with
    | @cons a b as bs h t=>
      obtain⟨rs,c,q⟩:=CZ (P:=P) (w:=w) t;obtain⟨b1,b2⟩:=b;exact⟨(p.1,b2)::rs,⟨CQ h.1,rfl,c⟩,.cons ⟨rfl,h.2⟩ q⟩
def qbd (Vc:List (TE×TE)):TE:=fun σ H Q=>∀p,H p=none→vV Vc σ (upd H p (.dK [])) fun ps H2=>H2 p=some (.dK [])∧∃kvs:List (Key×V),ps=kvs.map (fun kv=>(kV kv.1,kv.2))∧kvs.length≤15∧Q (.ref p) (upd H2 p (.dK (vW [] kvs)))
theorem Z7 {X:Cx} {pos:Pos} {keys:List (Option Expr)} {values:List Expr} {Vc:List (TE×TE)} (h:PPs X pos keys values Vc) (hall:keys.all (·.isSome)=true) (hl:keys.length=values.length) (h0:keys≠[])
    (h15:keys.length≤15):PE X (.Dict keys values pos) (qbd Vc):=by
  intro p_ s σ H Q I q;have hn:=I.hok.fresh (Nat.le_refl s.heap.objs.size);have I1:=I.laid (a:=s.heap.objs.size) (o:=.dK []) (h':=s.heap.push {cls:=.type "dict",data:=.dict #[]}) (t':=s.toks) (fun _ _ q=>Heap.get?_push_of_some _ q) (Nat.le_refl _) (K9 s.heap I.big);refine wpAny_Dict_walk (knd:=cV X.prog X.w) hall hl h0 h15 (cN (h p_ _ σ _ _ I1 (q _ hn)) fun ws s2 zz=>?_);obtain⟨ps,H2,I2,rel,e,kvs,ep,lk,q2⟩:=zz;subst ep;obtain⟨rs,c,rk⟩:=CZ (P:=X.prog) (w:=X.w) rel;obtain⟨z,hd,vs0,r0,dd⟩:=Wi I2.hok e;cases r0;refine⟨rs,c,dd,fun h' Z2 hs=>⟨.ref s.heap.objs.size,_,?_,rfl,q2⟩⟩;have hz:(vW [] kvs).length≤sizeLine:=by
    have h1:=vC kvs [];rw[List.length_nil] at h1;rw[sizeLine_eq];omega
  have he:∃q,h'.get? s.heap.objs.size=some q:=let ⟨q,_,_,hq,_⟩:=Z2;⟨q,hq⟩;exact Jp I2 (by rw[e];exact True.intro) hs he (Wj hz hd (rk.merge .nil) Z2)
structure M2 (X:Cx) (o:Expr) (m:Str) (apos:Pos) (e f:Expr) (cpos:Pos):Prop where
  base:attributeBase o m X.env (eval o X.env)=eval o X.env
  few:((backTo cpos (starEach [e,f] X.env)).all (fun x=>!x.1) && (backToKw cpos (keywordEach [] X.env)).all (fun x=>x.1.isSome)
    && decide (([e,f]:List Expr).length+([]:List Keyword).length+(if ([]:List Keyword).isEmpty then 0 else 1)<30))=true
  line:(apos.endLine == cpos.line)=true
  trees:backTo cpos (starEach [e,f] X.env)=[(false,eval e X.env),(false,eval f X.env)]
def IsD (H:Hp) (a:Addr):Prop:=(∃kvs,Rd H a (.dK kvs))∨∃kvs,Rd H a (.dT kvs)
theorem qcE {X:Cx} {p_:List (Addr×Obj)} {σ:St} {H:Hp} {s:Shared} {a:Addr} (I:Inv X p_ σ H s) (d:IsD H a) :
    s.TypeIs (.ref a) "dict" ∧(∀b,Value.ref a = .ref b→∃ob,s.heap.get? b=some ob∧ob.dict=none)∧(a == sysModules)=false:=by
  rcases d with⟨kvs,e⟩ | ⟨kvs,e⟩
  ·obtain⟨_,hd,vs,_,dd⟩:=CT I.hok e;refine⟨dd.typeIs,fun b q=>?_,hd⟩;cases q;obtain⟨ob,_,_,h1,h2,_⟩:=dd;exact⟨ob,h1,h2.2.1⟩
  ·obtain⟨_,hd,xs,_,dd⟩:=CV I.hok e;refine⟨dd.typeIs,fun b q=>?_,hd⟩;cases q;obtain⟨ob,_,_,h1,h2,_⟩:=dd;exact⟨ob,h1,h2.2.1⟩
section
variable {X:Cx} {p_:List (Addr×Obj)} {σ:St} {H:Hp} {s:Shared} {a:Addr} {y d:V} {u r:Value} {o:Option V} {A:Around} {E:Value→Shared→Prop}
theorem qcF {Q:Value→Shared→Prop} (hu:A.units+1<cLine) (I:Inv X p_ σ H s) (g:kY H a y o) (ry:RelV y u) (rd:RelV d r) (h:∀w' s',Inv X p_ σ H s'→RelV (o.getD d) w'→Q w' s') :
    wpAny (model X.prog X.w) A (call (.builtin "dict.get") [.ref a,u,r]) Q E s:=by
  rcases g with⟨kvs,k,e,ey,l⟩ | ⟨kvs,k,b,e,ey,eb,l⟩
  ·subst ey;obtain⟨z,hd,vs,rel,dd⟩:=CT I.hok e;refine call_meetsIn PySem.F.slot_dict_get dd.typeIs PySem.F.entry_dict_get (PySem.F.args_dict_get_3 _ _ _) (meets_dict_get_default (cV X.prog X.w) a (CQ ry) hd r) ⟨_,dd.mapOf,h _ _ (I.tok _) ?_⟩;rw[l];exact(rel.val k).getD rd
  ·subst ey;cases (show u=Value.ref b from ry);obtain⟨z,hd,xs,rel,dd⟩:=CV I.hok e;refine call_meetsIn PySem.F.slot_dict_get dd.typeIs PySem.F.entry_dict_get (PySem.F.args_dict_get_3 _ _ _) (meetsH_dict_get_default (tupleKind (cV X.prog X.w)) a b hd r) ⟨tupleKind_room_in1 hu,k,xs,zq I.hok eb,dd,h _ _ (I.tok _) ?_⟩;rw[l];exact(rel.val k).getD rd
end
def Om (td ty tx:TE):TE:=fun σ H Q=>td σ H fun x H1=>∃a,x = .ref a∧IsD H1 a∧ty σ H1 fun y H2=>tx σ H2 fun z H3=>∃o,kY H3 a y o∧Q (o.getD z) H3
section
variable {X:Cx} {o e f:Expr} {apos cpos:Pos} {td ty tx:TE}
theorem K_ (hu:X.A.units+1<cLine) (ho:PE X o td) (he:PE X e ty) (hf:PE X f tx) (m:M2 X o "get" apos e f cpos):PE X (.Call (.Attribute o "get" apos) [e,f] [] cpos) (Om td ty tx):=by
  intro p_ s σ H Q I h;refine wpAny_Call_method m.base m.few m.line PySem.F.plainAttrs_dict PySem.F.slot_dict_get PySem.F.type_dict_get (cN (ho p_ s σ H _ I h) fun u s1 zz=>?_);obtain⟨x,H1,I1,rx,a,ex,d,q1⟩:=zz;subst ex;obtain rfl:u=Value.ref a:=rx;obtain⟨t1,t2,_⟩:=qcE I1 d;refine⟨t1,t2,?_⟩;rw[m.trees];refine Calls.callWith_builtin rfl (Calls.evalArgs_plain (Calls.spliced_cons (cN (he p_ s1 σ H1 _ I1 q1) fun iv s2 ⟨y,H2,I2,ry,q2⟩=>
    Calls.spliced_cons (cN (hf p_ s2 σ H2 _ I2 q2) fun fv s3 ⟨z,H3,I3,rz,ov,g,q3⟩=>Calls.spliced_nil ?_))))
  exact qcF hu I3 g ry rz fun w' s4 I4 V1=>⟨_,H3,I4,V1,q3⟩
end
structure Nm2 (mg:Str→Option Value):Prop where
  enumerate:mg "enumerate" = none
  any:mg "any" = none
  dict:mg "dict" = none
  sorted:mg "sorted" = none
  repr:mg "repr" = none
  bool:mg "bool" = none
theorem Inv.Z8 {X:Cx} {p_:List (Addr×Obj)} {σ:St} {H:Hp} {s:Shared} {h2:Heap} {t':Nat} {x y:V} {u u':Value} (I:Inv X p_ σ H s) (I1:Inv X p_ σ H {s with heap:=h2,toks:=t'}) (ru:RelV x u) (ru':RelV y u')
    (Cz:h2.get? s.heap.objs.size=some {cls:=.type "tuple",data:=.seq #[u,u']}):Inv X p_ σ (upd H s.heap.objs.size (.tup [x,y])) {s with heap:=h2,toks:=t'}:=by
  have hfr:H s.heap.objs.size=none:=I.hok.fresh (Nat.le_refl _);refine⟨I1.ok,I1.os,I1.bare,⟨I1.base.keep,I1.base.slot,fun c o e n hx=>?_,I1.base.there,fun c zs e=>?_,fun c o v e=>?_,fun c qs e=>?_⟩,I1.loc,I1.cell,?_,fun v c e=>?_,fun v hv=>?_,?_,I1.len⟩
  · rw[aC (fun e'=>?_)]
    ·exact I1.base.free c o e n hx
    ·exact absurd (Nat.lt_of_lt_of_le (Heap.lt_size e) I.sz) (by rw[e'];exact Nat.lt_irrefl _)
  ·have e':=I1.base.tups c zs e;rw[aC (aP e' hfr)];exact e'
  ·have e':=I1.base.qW c o v e;rw[aC (aP e' hfr)];exact e'
  ·obtain⟨m,e'⟩:=I1.base.tE c qs e;exact⟨m,by rw[aC (aP e' hfr)];exact e'⟩
  ·rw[aC (Nat.ne_of_lt I.lt)];exact I1.free
  ·obtain⟨w',qc⟩:=I.cell v c e;rw[aC (Nat.ne_of_lt qc.lt)];exact I1.iH v c e
  ·obtain⟨f1,f2,f3⟩:=I1.pin v hv;refine⟨f1,?_,f3⟩;rw[aC (Nat.ne_of_lt (Heap.lt_size (I.pin v hv).1))];exact f2
  · intro c v e
    by_cases hcs:c=s.heap.objs.size
    ·subst hcs;rw[ak] at e;cases e;exact⟨by show 2≤sizeLine;rw[sizeLine_eq];decide,[u,u'],.cons ru (.cons ru' .nil),⟨_,Cz,rfl,0,rfl⟩⟩
    · rw[aC hcs] at e;refine(I1.hok c v e).stay (fun _ _ _ qq=>qq) (fun d qd=>?_) fun d zs qd=>?_
      ·rw[aC (aP qd hfr)];exact qd
      ·rw[aC (aP qd hfr)];exact qd
def Ite (K:W.Frag) (a:Addr):It:=
  ⟨fun i H=>∃xs x,aX K H a xs∧xs[i]? = some x,
   fun i H v H'=>∃t x,v = .ref t∧H t=none∧H'=upd H t (.tup [.int i,x])∧∀xs,aX K H a xs→xs[i]? = some x,
   fun i H=>∃xs,aX K H a xs∧xs.length≤i⟩
structure qcG (e it a:Addr) (i:Nat) (h:Heap):Prop where
  he:∃old,IsEnum h e it i old
  hi:h.IsListIter it a i
theorem SJ {P:Program} {w:World} {K:W.Frag} {es:List Expr} {k:Nat} {pos:Pos} {e it a:Addr} (nei:e≠it) :
    Turn P w K (.Tuple es k pos) (Ite K a) [e,it] e (qcG e it a) where
  mem:=by simp
  obj:=fun i h st c hc=>by
    simp only[List.mem_cons,List.not_mem_nil,or_false] at hc
    rcases hc with rfl | rfl
    ·obtain⟨old,q⟩:=st.he;exact⟨_,q,fun v e=>nomatch e⟩
    ·obtain⟨o,e,_,d⟩:=st.hi;exact⟨o,e,fun v y=>by rw[d] at y;cases y⟩
  keep:=fun i h h' st kk=>by
    obtain⟨old,q⟩:=st.he;exact⟨⟨old,kk e (by simp) _ q⟩,st.hi.at fun o z=>kk it (by simp) o z⟩
  item:=by
    intro X hP hw hK hc i p_ s σ H E I hf st hg;subst hP hw hK;obtain⟨xs,x,qa,hx⟩:=hg;obtain⟨its,rv,pl,hz1⟩:=I.list qa;obtain⟨u,hu,ru⟩:=rv.get hx;obtain⟨old,hE⟩:=st.he;obtain⟨o1,e1,c1,_⟩:=id st.hi;refine wpAny_pyNext_enum_item hE st.hi pl.isList (x:=u) (by simpa using hu) nei fun h' a1 a2 a3 a4 kk=>?_;refine⟨_,rfl,wpAny_letOwnedTupleGo_enum a1 fun h2 b1 sb=>?_⟩;have lt:∀{c o},s.heap.get? c=some o→s.heap.objs.size≠c:=fun e=>Nat.ne_of_gt (Heap.lt_size e);have hn:H s.heap.objs.size=none:=I.hok.fresh (Nat.le_refl _);have kk2:∀c o,c∉[e,it]→s.heap.get? c=some o→h2.get? c=some o:=fun c o hc z=>by
      simp only[List.mem_cons,List.not_mem_nil,or_false,not_or] at hc;exact(sb.2 c hc.1).trans (kk c o hc.1 hc.2 z)
    have I1:Inv X p_ σ H {s with heap:=h2,toks:=s.toks+1}:=I.uL kk2 hf;have Cz:=sb.extBut _ _ (lt hE) a3;have I2:Inv X p_ σ (upd H s.heap.objs.size (.tup [.int i,x])) {s with heap:=h2,toks:=s.toks+1}:=I.Z8 I1 ⟨_,rfl⟩ ru Cz;refine⟨.ref s.heap.objs.size,_,I2,rfl,⟨s.heap.objs.size,x,rfl,hn,rfl,fun xs' q'=>by rw[I.qD q' qa];exact hx⟩,?_,fun c hcm=>?_⟩
    ·exact⟨⟨_,b1⟩,a2.extBut sb.extBut nei.symm⟩
    · have hne:c≠s.heap.objs.size:=by
        simp only[List.mem_cons,List.not_mem_nil,or_false] at hcm
        rcases hcm with rfl | rfl
        ·exact(lt hE).symm
        ·exact(lt e1).symm
      rw[aC hne];exact(hf c hcm).1
  done:=by
    intro X hP hw hK hc i p_ s σ H E I hf st hg;subst hP hw hK;obtain⟨xs,qa,hl⟩:=hg;obtain⟨its,rv,pl,hz1⟩:=I.list qa;obtain⟨old,hE⟩:=st.he;have l1:=rv.length;refine wpAny_pyNext_enum_end (I.ok.hd hc) hE st.hi pl.isList (by simp;omega) fun h' kk=>⟨rfl,I.uL (t':=s.toks) (fun c o hcm z=>?_) hf⟩;simp only[List.mem_cons,List.not_mem_nil,or_false,not_or] at hcm;exact kk c o hcm.2 z
  self:=fun _ _ _ _ _ st h=>by
    obtain⟨old,q⟩:=st.he;exact wpAny_pyIter_enum q h
section
variable {X:Cx} {K:W.Frag}
def Wr (K:W.Frag) (t:TA):TI:=fun σ H R=>t σ H fun vs H1=>∃a xs,vs=[.ref a]∧aX K H1 a xs∧R (Ite K a) H1
theorem SM:bootBuiltins "enumerate" = some (.type "enumerate"):=by decide+kernel
theorem Bs (hK:X.K=K) {es:List Expr} {k:Nat} {pos':Pos} {a:Expr} {ta:TA} {p pos:Pos} (hg:Gl X "enumerate") (hm:X.mg "enumerate" = none) (ha:PA X [a] ta)
    (hs:starEach [a] X.env=[(false,eval a X.env)]:=by rfl) :
    PI X (.Tuple es k pos') (.Call (.Name "enumerate" p) [a] [] pos) (Wr K ta):=by
  subst hK;intro p_ s σ H R I h;refine Call_ (pH I hg hm SM (PyProof.Rows.callWith_type1 (cN (ha pos p_ s σ H _ I h) fun us s1 zz=>?_) (by rw[hs];rfl) (by rfl)));obtain⟨vs,H1,I1,r1,q1⟩:=zz;obtain⟨l1,xs,e,qa,q⟩:=q1;subst e;obtain⟨u,rfl,r⟩:=vals1 r1;obtain rfl:u=Value.ref l1:=r;obtain⟨its,rv,pl,hz1⟩:=I1.list qa;refine call_enumerate_list pl.isList fun h' b1 b2 b3 kk=>?_;refine wpAny_pyIter_enum (s:={s1 with heap:=h'}) b1 ?_;have I2:Inv X p_ σ H1 {s1 with heap:=h'}:=I1.kept (t':=s1.toks) kk;refine⟨s1.heap.objs.size+1,[s1.heap.objs.size+1,s1.heap.objs.size],_,_,H1,rfl,I2,SJ (Nat.succ_ne_self _),⟨⟨_,b1⟩,b2⟩,fun c hc=>?_,q⟩;have hle:s1.heap.objs.size≤c:=by
    simp only[List.mem_cons,List.not_mem_nil,or_false] at hc
    rcases hc with rfl | rfl <;> first | exact Nat.le_add_right _ _ | exact Nat.le_refl _
  exact I1.Bh hle (I1.hok.fresh hle)
end
section
variable {X:Cx} {K:W.Frag} {tg:Expr}
theorem Z9 (hK:X.K=K) {es:List Expr} {k:Nat} {pos':Pos} {a b:Expr} {ta:TA} {p pos:Pos} (hg:Gl X "zip") (hm:X.mg "zip" = none) (ha:PA X [a,b] ta)
    (hs:starEach [a,b] X.env=[(false,eval a X.env),(false,eval b X.env)]:=by rfl) (hs2:starEach [b] X.env=[(false,eval b X.env)]:=by rfl) :
    PI X (.Tuple es k pos') (.Call (.Name "zip" p) [a,b] [] pos) (ZM K ta):=by subst hK;exact qcu hg hm ha hs hs2
theorem QM (hK:X.K=K) {o:Expr} {to:TE} {name:Str} {apos cpos:Pos} {T id:String} {r:V→List V→Hp→VK→Prop} (pa:PlainAttrs T) (slot:Slot T name id) (hty:typeOf (.builtin id)=pure (.type "method_descriptor")) (hm:R6 X id r) (ho:PE X o to)
    (hbase:attributeBase o name X.env (eval o X.env)=eval o X.env:=by rfl) (hline:(apos.endLine == cpos.line)=true:=by rfl):PE X (.Call (.Attribute o name apos) [] [] cpos) (qcn K T r to):=by subst hK;exact qco pa slot hty hm ho hbase hline
theorem QS (hK:X.K=K) {o value:Expr} {ta tv:TE} {f:Str} {pos pos':Pos} (ha:PE X o ta) (hv:PE X value tv) (hs:swapsWith value (some (.Attribute o f pos')) pos.line X.env=pure false):PS X (.Assign [.Attribute o f pos'] value pos) (qcc K ta tv f):=by subst hK;exact qce ha hv hs
end
@[simp ↓] theorem qj9 (i:Nat) σ H Q:qbR i σ H Q=(∃v,σ[i]? = some (some v)∧Q v H):=rfl
@[simp ↓] theorem qnP (v:V) z0 H Q:tC v z0 H Q=(Q v H):=rfl
@[simp ↓] theorem qnQ (t:TE) σ H Q:tB t σ H Q=(t σ H fun x H1=>∃c,x = .bl c∧Q c H1):=rfl
@[simp ↓] theorem qj_ (t:TT) σ H Q:qeO t σ H Q=(t σ H fun c H1=>Q (!c) H1):=rfl
@[simp ↓] theorem qiV (ta:TE) σ H Q:Vn ta σ H Q=(ta σ H fun x H1=>∃c,x = .bl c∧Q (.bl (!c)) H1):=rfl
@[simp ↓] theorem qiW D σ H:qa5  D σ H=(D.nx σ H):=rfl
@[simp ↓] theorem qka (t u:TS) D σ H:qeP t u D σ H=(t {D with nx:=u D} σ H):=rfl
@[simp ↓] theorem qiX (te:TE) D σ H:qa6 te D σ H=(te σ H fun _ H1=>D.nx σ H1):=rfl
@[simp ↓] theorem qkb (te:TE) D σ H:qeQ te D σ H=(te σ H D.rt):=rfl
@[simp ↓] theorem qff z0 z1 z2:Vo  z0 z1 z2=(False):=rfl
@[simp ↓] theorem qiY (i:Nat) v σ H Q:Qp i v σ H Q=(Q (σ.set i (some v)) H):=rfl
@[simp ↓] theorem qkc vs σ H Q:qbY  vs σ H Q=(vs=[]∧Q σ H):=rfl
@[simp ↓] theorem qiZ (t:TG) (u:Cp) vs σ H Q:Vp t u vs σ H Q=(∃v r,vs=v::r∧t v σ H fun σ' H'=>u r σ' H' Q):=rfl
@[simp ↓] theorem qkd (K:W.Frag) (n:Nat) (t:Cp) v σ H Q:Zm K n t v σ H Q=(∃a xs,v = .ref a∧d9 K H a xs∧xs.length=n∧t xs σ H Q):=rfl
@[simp ↓] theorem qke (to ti:TE) (t:RM) v σ H Q:qeS to ti t v σ H Q=(to σ H fun o H1=>ti σ H1 fun i H2=>t o i v H2 fun H3=>Q σ H3):=rfl
@[simp ↓] theorem qkf (te:TE) (g:TG) D σ H:Zn te g D σ H=(te σ H fun x H1=>g x σ H1 D.nx):=rfl
@[simp ↓] theorem qkg (i:Nat) (te:TE) (ti:Zk) D σ H:qb0 i te ti D σ H=(∃x,σ[i]? = some (some x)∧te σ H fun y H1=>ti x y H1 fun z H2=>D.nx (σ.set i (some z)) H2):=rfl
@[simp ↓] theorem qng (f:Int→Int→Int) x y H Q:ipI f x y H Q=(∃i j,x = .int i∧y = .int j∧Q (.int (f i j)) H):=rfl
@[simp ↓] theorem qi0 (K:W.Frag) (tl:TE) σ H R:Qq K tl σ H R=(tl σ H fun x H1=>∃a,x = .ref a∧(∃xs,aX K H1 a xs)∧R (Va K a) H1):=rfl
@[simp ↓] theorem qkh (K:W.Frag) (tl:TE) σ H R:qb3 K tl σ H R=(tl σ H fun x H1=>∃a,x = .ref a∧(∃xs,d9 K H1 a xs)∧R (Zo K a) H1):=rfl
@[simp ↓] theorem qi1 (ta:TA) σ H R:Vs ta σ H R=(ta σ H fun vs H1=>∃j:Int,vs=[.int j]∧-(2 ^ 62)≤j∧j<2 ^ 62∧R (Nr 0 j.toNat) H1):=rfl
@[simp ↓] theorem qi2 (ta:TA) σ H R:Vt ta σ H R=(ta σ H fun vs H1=>∃i j:Int,vs=[.int i,.int j]∧(-(2 ^ 62)≤i∧i<2 ^ 62∧-(2 ^ 62)≤j∧j<2 ^ 62)∧R (Nr i (j - i).toNat) H1):=rfl
@[simp ↓] theorem qnh (r:R2) (ta tb:TE) σ H Q:Y6 r ta tb σ H Q=(ta σ H fun x H1=>tb σ H1 fun y H2=>r x y H2 Q):=rfl
@[simp ↓] theorem qni (r:V→Hp→VK→Prop) (ta:TE) σ H Q:tUn r ta σ H Q=(ta σ H fun x H1=>r x H1 Q):=rfl
@[simp ↓] theorem qi3 (t:TE) σ H Q:Qv t σ H Q=(t σ H fun x H'=>∃k,x = .bl k∧Q k H'):=rfl
@[simp ↓] theorem qki (K:W.Frag) (ta:TE) (f:Str) σ H Q:Zx K ta f σ H Q=(ta σ H fun x H1=>∃a C dx fs v,x = .ref a∧H1 a=some (.ins C dx fs)∧Cls K C∧mD K C f∧fs.lookup f=some v∧Q v H1):=rfl
@[simp ↓] theorem qkj (K:W.Frag) (ta tv:TE) (f:Str) D σ H:qcc K ta tv f D σ H=(tv σ H fun y H1=>ta σ H1 fun x H2=>∃a C dx fs,x = .ref a∧H2 a=some (.ins C dx fs)∧Cls K C∧mD K C f∧fs.length<1000∧D.nx σ (upd H2 a (.ins C dx (kO f y fs)))):=rfl
@[simp ↓] theorem qkk z0 H Q:N6  z0 H Q=(Q [] H):=rfl
@[simp ↓] theorem qi4 (ta:TE) (tr:TA) σ H Q:G7 ta tr σ H Q=(ta σ H fun x H1=>tr σ H1 fun xs H2=>Q (x::xs) H2):=rfl
@[simp ↓] theorem qkl (t:TA) σ H Q:qe1 t σ H Q=(t σ H fun xs H1=>xs.length≤sizeLine∧∀p,H1 p=none→Q (.ref p) (upd H1 p (.tup xs))):=rfl
@[simp ↓] theorem qkm (t:TA) σ H Q:qe2 t σ H Q=(t σ H fun xs H1=>xs.length≤sizeLine∧∀p,H1 p=none→Q (.ref p) (upd H1 p (.lst xs))):=rfl
@[simp ↓] theorem qnj (r:List V→Hp→VK→Prop) (t:TA) σ H Q:tCB r t σ H Q=(t σ H fun vs H1=>r vs H1 Q):=rfl
@[simp ↓] theorem qeB z0 H Q:Qz  z0 H Q=(Q none H):=rfl
@[simp ↓] theorem qi5 (t:TE) σ H Q:VR t σ H Q=(t σ H fun x H1=>∃i,x = .int i∧Q (some i) H1):=rfl
@[simp ↓] theorem qnk (r:V→Option Int→Option Int→Hp→VK→Prop) (te:TE) (tl th:TO) σ H Q:tSl r te tl th σ H Q=(te σ H fun x H1=>tl σ H1 fun l H2=>th σ H2 fun u H3=>r x l u H3 Q):=rfl
@[simp ↓] theorem qkn (K:W.Frag) x lo hi H Q:qch K x lo hi H Q=(∃a xs,x = .ref a∧d9 K H a xs∧¬(HT.jJ xs.length 0 lo=0∧HT.jJ xs.length xs.length hi=xs.length)∧∀p,H p=none→Q (.ref p) (upd H p (.tup (tY xs lo hi)))):=rfl
@[simp ↓] theorem qko (K:W.Frag) (T:String) (r:V→List V→Hp→VK→Prop) (to:TE) σ H Q:qcn K T r to σ H Q=(to σ H fun x H1=>ZJ K T x H1∧r x [] H1 Q):=rfl
@[simp ↓] theorem qnl (K:W.Frag) (T:String) (r:V→List V→Hp→VK→Prop) (to:TE) (t:TA) σ H Q:tBM K T r to t σ H Q=(to σ H fun x H1=>ZJ K T x H1∧t σ H1 fun xs H2=>r x xs H2 Q):=rfl
@[simp ↓] theorem qkp z0 H Q:qe8  z0 H Q=(Q true H):=rfl
@[simp ↓] theorem qkq (tl:TE) σ H R:qcs tl σ H R=(tl σ H fun x H1=>∃z,x = .str z∧R (Its z) H1):=rfl
@[simp ↓] theorem qkr (K:W.Frag) (t:TA) σ H R:ZM K t σ H R=(t σ H fun vs H1=>∃a b xs ys,vs=[.ref a,.ref b]∧aX K H1 a xs∧aX K H1 b ys∧R (Vb K a b) H1):=rfl
@[simp ↓] theorem qks (K:W.Frag) (tl:TE) σ H R:qcA K tl σ H R=(tl σ H fun x H1=>∃b p,x = .ref p∧(∃xs,Y7 b K H1 p xs)∧R (Y8 b K p) H1):=rfl
structure qkt (Q:VK) where
  n:Nat
structure qcH (g:TG) (tb:TS) (D:Ends) where
  n:Nat
structure qfg (c:TT) (tb:TS) (D:Ends) where
  n:Nat
structure qcI (g:TG) (tt:TT) (te:TE) (Q:Hp→Prop) where
  n:Nat
structure Oo (A B:Prop) where
  n:Nat
def Oq (sp:Sp) (vs:List V) (H:Hp) (Q:VK) (d:qkt Q) (E:XK):Prop:=sp vs H Q E
def tFr (J:It) (g:TG) (tb:TS) (D:Ends) (d:qcH g tb D) (σ:St) (H:Hp):Prop:=qcB J g tb D σ H
def tWh (c:TT) (tb:TS) (D:Ends) (d:qfg c tb D) (σ:St) (H:Hp):Prop:=Iv c tb D σ H
def tCm (own:List Str) (caps:List Nat) (J:It) (g:TG) (tt:TT) (te:TE) (Q:Hp→Prop) (d:qcI g tt te Q) (D:Addr) (σ:St) (H:Hp):Prop:=lJ own caps J g tt te D σ H Q
def dI (b:Bool) (A B:Prop) (d:Oo A B):Prop:=if b=true then A else B
@[simp] theorem qnm (A B:Prop) (d:Oo A B):dI true A B d=A:=rfl
@[simp] theorem qnn (A B:Prop) (d:Oo A B):dI false A B d=B:=rfl
theorem dI.of {b:Bool} {A B:Prop} {d:Oo A B} (h1:b=true→A) (h2:b=false→B):dI b A B d:=by
  cases b with
  | true=>exact h1 rfl
  | false=>exact h2 rfl
theorem dI.pos {b:Bool} {A B:Prop} {d:Oo A B} (h:b=true) (h1:A):dI b A B d:=by subst h;exact h1
theorem dI.neg {b:Bool} {A B:Prop} {d:Oo A B} (h:b=false) (h1:B):dI b A B d:=by subst h;exact h1
@[simp ↓] theorem qi6 (sp:Sp) (yV:List V) (E:XK) (t:TA) (σ:St) (H:Hp) (Q:VK):VG sp yV E t σ H Q=t σ H fun vs H1=>Oq sp (vs++yV) H1 Q ⟨0⟩ E:=rfl
@[simp ↓] theorem qi7 (C:Addr) (m:Str) (sp:Sp) (yV:List V) (E:XK) (ta:TE) (t:TA) (σ:St) (H:Hp) (Q:VK):VH C m sp yV E ta t σ H Q=ta σ H fun x H1=>∃a dx fs,x = .ref a∧H1 a=some (.ins C dx fs)∧fs.lookup m=none∧t σ H1 fun vs H2=>Oq sp (x::(vs++yV)) H2 Q ⟨0⟩ E:=rfl
@[simp ↓] theorem qi8 (C:Addr) (sp:Sp) (yV:List V) (E:XK) (t:TA) (σ:St) (H:Hp) (Q:VK):VJ C sp yV E t σ H Q=t σ H fun vs H1=>∀x dx,H1 x=none→H1 dx=none→dx≠x→
  Oq sp (.ref x::(vs++yV)) (upd (upd H1 dx (.own x)) x (.ins C dx [])) (fun v H2=>v = .non∧Q (.ref x) H2) ⟨0⟩ E:=rfl
@[simp ↓] theorem qku (wi:TI) (g:TG) (tb:TS) (D:Ends) (σ:St) (H:Hp):qeT wi g tb D σ H=wi σ H fun J H1=>tFr J g tb D ⟨0⟩ σ H1:=rfl
@[simp ↓] theorem qfh (c:TT) (tb:TS) (D:Ends) (σ:St) (H:Hp):Iv c tb D σ H=tWh c tb D ⟨0⟩ σ H:=rfl
@[simp ↓] theorem qi9 (own:List Str) (caps:List Nat) (wi:TI) (g:TG) (tt:TT) (te:TE) (σ:St) (H:Hp) (Q:VK):QF own caps wi g tt te σ H Q=wi σ H fun J H1=>∀D,H1 D=none→tCm own caps J g tt te (Q (.ref D)) ⟨0⟩ D σ (upd H1 D (.lst [])):=rfl
@[simp ↓] theorem qkv (c:TT) (t u:TS) (D:Ends) (σ:St) (H:Hp):qeR c t u D σ H=c σ H fun b H1=>dI b (t D σ H1) (u D σ H1) ⟨0⟩:=rfl
@[simp ↓] theorem qnp (c:TT) (t u:TE) (σ:St) (H:Hp) (Q:VK):tIf c t u σ H Q=c σ H fun b H1=>dI b (t σ H1 Q) (u σ H1 Q) ⟨0⟩:=rfl
@[simp ↓] theorem qkw (t u:TT) (σ:St) (H:Hp) (Q:Bool→Hp→Prop):qeN t u σ H Q=t σ H fun c H1=>dI c (u σ H1 Q) (Q false H1) ⟨0⟩:=rfl
@[simp ↓] theorem qnq (t u:TT) (σ:St) (H:Hp) (Q:Bool→Hp→Prop):tOr t u σ H Q=t σ H fun c H1=>dI c (Q true H1) (u σ H1 Q) ⟨0⟩:=rfl
@[simp ↓] theorem qi_ (ta tb:TE) (σ:St) (H:Hp) (Q:VK):Vm ta tb σ H Q=ta σ H fun x H1=>∃c,x = .bl c∧dI c (tb σ H1 Q) (Q (.bl false) H1) ⟨0⟩:=rfl
@[simp ↓] theorem qfi (r r':R2) (ta tb tc:TE) (σ:St) (H:Hp) (Q:VK):Iw r r' ta tb tc σ H Q=ta σ H fun x H1=>tb σ H1 fun y H2=>r x y H2 fun z H3=>∃k,z = .bl k∧dI k (tc σ H3 fun z H4=>r' y z H4 Q) (Q (.bl false) H3) ⟨0⟩:=rfl
def Ao (g:TG) (tt:TT) (te:TE) (D:Addr) (N:St→Hp→Prop) (x:V) (σ:St) (H:Hp):Prop:=
  g x σ H fun σ2 H3=>tt σ2 H3 fun b H4=>dI b (te σ2 H4 fun y H5=>∃ys,H5 D=some (.lst ys)∧ys.length<sizeLine∧N σ2 (upd H5 D (.lst (ys++[y])))) (N σ2 H4) ⟨0⟩
@[simp ↓] theorem qja (g:TG) (tt:TT) (te:TE) (D:Addr) (N:St→Hp→Prop) (x:V) (σ:St) (H:Hp):Ao g tt te D N x σ H =
  (g x σ H fun σ2 H3=>tt σ2 H3 fun b H4=>dI b (te σ2 H4 fun y H5=>∃ys,H5 D=some (.lst ys)∧ys.length<sizeLine∧N σ2 (upd H5 D (.lst (ys++[y])))) (N σ2 H4) ⟨0⟩):=rfl
@[simp ↓] theorem qkx {α:Type} (a b:α) (R:α→α→Prop):(∃v w,[a,b]=[v,w]∧R v w)=R a b:=by
  refine propext ⟨?_,fun h=>⟨a,b,rfl,h⟩⟩;rintro⟨_,_,e,h⟩;cases e;exact h
@[simp] theorem qjb {α β:Type} (a:α) (b:β) (R:α→β→Prop):(∃v w,(a=v∧b=w)∧R v w)=R a b:=by
  refine propext ⟨?_,fun h=>⟨a,b,⟨rfl,rfl⟩,h⟩⟩;rintro⟨_,_,⟨rfl,rfl⟩,h⟩;exact h
@[simp] theorem sz0:(0≤sizeLine)=True:=eq_true (by decide)
@[simp] theorem sz1:(1≤sizeLine)=True:=eq_true (by decide)
@[simp] theorem sz2:(2≤sizeLine)=True:=eq_true (by decide)
@[simp] theorem sz3:(3≤sizeLine)=True:=eq_true (by decide)
@[simp] theorem sz4:(4≤sizeLine)=True:=eq_true (by decide)
@[simp] theorem sz5:(5≤sizeLine)=True:=eq_true (by decide)
@[simp] theorem sz6:(6≤sizeLine)=True:=eq_true (by decide)
@[simp] theorem sz7:(7≤sizeLine)=True:=eq_true (by decide)
@[simp] theorem sz8:(8≤sizeLine)=True:=eq_true (by decide)
@[simp] theorem sz9:(9≤sizeLine)=True:=eq_true (by decide)
@[simp] theorem qnR:(10≤sizeLine)=True:=eq_true (by decide)
@[simp] theorem qnS:(11≤sizeLine)=True:=eq_true (by decide)
@[simp] theorem qnT:(12≤sizeLine)=True:=eq_true (by decide)
@[simp] theorem qnU:(13≤sizeLine)=True:=eq_true (by decide)
@[simp] theorem qnV:(14≤sizeLine)=True:=eq_true (by decide)
@[simp] theorem qnW:(15≤sizeLine)=True:=eq_true (by decide)
@[simp] theorem qnX:(16≤sizeLine)=True:=eq_true (by decide)
@[simp] theorem qnY:(17≤sizeLine)=True:=eq_true (by decide)
@[simp] theorem qnZ:(18≤sizeLine)=True:=eq_true (by decide)
@[simp] theorem qn0:(19≤sizeLine)=True:=eq_true (by decide)
@[simp] theorem Gw:(20≤sizeLine)=True:=eq_true (by decide)
@[simp] theorem qjc (i j:Int):Bj (.int i) (.int j)=true:=rfl
@[simp] theorem qjd (i j:Str):Bj (.str i) (.str j)=true:=rfl
@[simp] theorem qje (i j:Bool):Bj (.bl i) (.bl j)=true:=rfl
@[simp] theorem qjf (i:Int) (j:Str):Bj (.int i) (.str j)=true:=rfl
@[simp] theorem qjg (i:Int) (j:Str):Bj (.str j) (.int i)=true:=rfl
@[simp] theorem qfj (K:W.Frag) (p:Addr) (H:Hp):ZJ K "list" (.ref p) H=(∃xs,aX K H p xs):=by simp[ZJ]
@[simp] theorem qjh (K:W.Frag) (p:Str) (H:Hp):ZJ K "str" (.str p) H=True:=by simp[ZJ]
section
variable {K:W.Frag} {l:Addr} {xs:List V} {g:TG} {tb:TS} {D:Ends} {d:qcH g tb D} {σ:St} {H:Hp}
theorem frL (xs:List V) (Pv:Nat→St→Hp→Prop) (h0:Pv 0 σ H) (hl:∀i σ H,i≤xs.length→Pv i σ H→aX K H l xs)
    (hs:∀i x σ H,xs[i]? = some x→Pv i σ H→g x σ H fun σ2 H2=>tb {D with nx:=Pv (i+1),ct:=Pv (i+1),bk:=D.nx} σ2 H2) (hd:∀σ H,Pv xs.length σ H→D.nx σ H):tFr (Va K l) g tb D d σ H:=KN Pv h0 hl hs hd
theorem frQ {b:Bool} (xs:List V) (Pv:Nat→St→Hp→Prop) (h0:Pv 0 σ H) (hl:∀i σ H,i≤xs.length→Pv i σ H→Y7 b K H l xs)
    (hs:∀i x σ H,xs[i]? = some x→Pv i σ H→g x σ H fun σ2 H2=>tb {D with nx:=Pv (i+1),ct:=Pv (i+1),bk:=D.nx} σ2 H2) (hd:∀σ H,Pv xs.length σ H→D.nx σ H):tFr (Y8 b K l) g tb D d σ H:=ZX Pv h0 hl hs hd
theorem frR {lo:Int} {n:Nat} (Pv:Nat→St→Hp→Prop) (h0:Pv 0 σ H)
    (hs:∀i σ H,i<n→Pv i σ H→g (.int (lo+i)) σ H fun σ2 H2=>tb {D with nx:=Pv (i+1),ct:=Pv (i+1),bk:=D.nx} σ2 H2) (hd:∀σ H,Pv n σ H→D.nx σ H):tFr (Nr lo n) g tb D d σ H:=RW Pv h0 hs hd
end
section
variable {K:W.Frag} {own:List Str} {caps:List Nat} {g:TG} {tt:TT} {te:TE} {D l l1 l2:Addr} {σ:St} {H:Hp} {Q:Hp→Prop} {d:qcI g tt te Q}
theorem Nt (xs:List V) (Pv:Nat→St→Hp→Prop) (h0:Pv 0 (stC own caps σ) H) (hl:∀i σ H,i≤xs.length→Pv i σ H→aX K H l xs)
    (hs:∀i x σ H,xs[i]? = some x→Pv i σ H→Ao g tt te D (Pv (i+1)) x σ H) (hd:∀σ H,Pv xs.length σ H→Q H):tCm own caps (Va K l) g tt te Q d D σ H:=Ho Pv h0 hl hs hd
theorem cmT (xs:List V) (Pv:Nat→St→Hp→Prop) (h0:Pv 0 (stC own caps σ) H) (hl:∀i σ H,i≤xs.length→Pv i σ H→d9 K H l xs)
    (hs:∀i x σ H,xs[i]? = some x→Pv i σ H→Ao g tt te D (Pv (i+1)) x σ H) (hd:∀σ H,Pv xs.length σ H→Q H):tCm own caps (Zo K l) g tt te Q d D σ H:=K7 Pv h0 hl hs hd
theorem cmQ {b:Bool} (xs:List V) (Pv:Nat→St→Hp→Prop) (h0:Pv 0 (stC own caps σ) H) (hl:∀i σ H,i≤xs.length→Pv i σ H→Y7 b K H l xs)
    (hs:∀i x σ H,xs[i]? = some x→Pv i σ H→Ao g tt te D (Pv (i+1)) x σ H) (hd:∀σ H,Pv xs.length σ H→Q H):tCm own caps (Y8 b K l) g tt te Q d D σ H:=Wd Pv h0 hl hs hd
theorem cmR {lo:Int} {n:Nat} (Pv:Nat→St→Hp→Prop) (h0:Pv 0 (stC own caps σ) H)
    (hs:∀i σ H,i<n→Pv i σ H→Ao g tt te D (Pv (i+1)) (.int (lo+i)) σ H) (hd:∀σ H,Pv n σ H→Q H):tCm own caps (Nr lo n) g tt te Q d D σ H:=Oi Pv h0 hs hd
theorem cmS {z:Str} (Pv:Nat→St→Hp→Prop) (h0:Pv 0 (stC own caps σ) H)
    (hs:∀i c σ H,z.cps[i]? = some c→Pv i σ H→Ao g tt te D (Pv (i+1)) (.str ⟨#[c]⟩) σ H) (hd:∀σ H,Pv z.cps.size σ H→Q H):tCm own caps (Its z) g tt te Q d D σ H:=Wb Pv h0 hs hd
theorem cmZ (xs ys:List V) (Pv:Nat→St→Hp→Prop) (h0:Pv 0 (stC own caps σ) H) (he:xs.length=ys.length) (hl:∀i σ H,i≤xs.length→Pv i σ H→aX K H l1 xs∧aX K H l2 ys)
    (hs:∀i x y t σ H,xs[i]? = some x→ys[i]? = some y→H t=none→Pv i σ H→Ao g tt te D (Pv (i+1)) (.ref t) σ (upd H t (.tup [x,y]))) (hd:∀σ H,Pv xs.length σ H→Q H):tCm own caps (Vb K l1 l2) g tt te Q d D σ H:=Wc Pv h0 he hl hs hd
end
theorem C_ {c:Bool} {t u:TS} {D:Ends} {σ:St} {H:Hp} {d:Oo (t D σ H) (u D σ H)} (R:St→Hp→Prop) (hc:∀σ H,R σ H→D.nx σ H)
    (h:∀N:St→Hp→Prop,(∀σ H,R σ H→N σ H)→dI c (t {D with nx:=N} σ H) (u {D with nx:=N} σ H) ⟨0⟩):dI c (t D σ H) (u D σ H) d:=h D.nx hc
theorem xX {α β:Type} {f:α→β} {ys zs:List β} (h:ys.Perm zs):∀l:List α,zs=l.map f→∃l':List α,l'.Perm l∧ys=l'.map f:=by
  induction h with
  | nil=>
    intro l e;cases l with
    | nil=>exact⟨[],.nil,rfl⟩
    | cons a l=>cases e
  | cons x _ ih=>
    intro l e;cases l with
    | nil=>cases e
    | cons a l=>
      simp only[List.map_cons,List.cons.injEq] at e;obtain⟨l',p,e'⟩:=ih l e.2;exact⟨a::l',p.cons a,by rw[e',e.1,List.map_cons]⟩
  | swap x y _=>
    intro l e
    match l,e with
    | a::b::l,e=>
      simp only[List.map_cons,List.cons.injEq] at e;exact⟨b::a::l,.swap ..,by rw[e.1,e.2.1,e.2.2];rfl⟩
  | trans _ _ ih1 ih2=>
    intro l e;obtain⟨l',p,e'⟩:=ih2 l e;obtain⟨l2,p2,e2⟩:=ih1 l' e';exact⟨l2,p2.trans p,e2⟩
theorem Ws {α:Type} {xs:List α} {k:Nat} (h2:2≤xs.length) (hk:k<xs.length):∃j x,j≠k∧xs[j]? = some x∧xK xs ((k:Int) - 1)=some x:=by
  cases k with
  | zero=>
    have hj:xs.length - 1<xs.length:=by omega
    refine⟨xs.length - 1,xs[xs.length - 1],by omega,by simp[hj],?_⟩;unfold xK QB;rw[if_neg (by omega),if_pos (by omega)];have e:(((0:Nat):Int) - 1+xs.length).toNat=xs.length - 1:=by omega
    show xs[(((0:Nat):Int) - 1+xs.length).toNat]? = _;rw[e];simp[hj]
  | succ k=>
    have hj:k<xs.length:=by omega
    have e:((k+1:Nat):Int) - 1=(k:Int):=by omega
    rw[e];exact⟨k,xs[k],by omega,by simp[hj],bD (by simp[hj])⟩
end L2
namespace L2
open PySem
theorem pP (K:W.Frag):W.kitOne K (.type "list") (.type "list")=some true:=by simp[W.kitOne]
theorem sZ (K:W.Frag):W.kitOne K (.type "tuple") (.type "tuple")=some true:=by simp[W.kitOne]
theorem Aq (K:W.Frag):W.kitOne K (.type "str") (.type "str")=some true:=by simp[W.kitOne]
theorem Ar (K:W.Frag):W.kitOne K (.type "int") (.type "int")=some true:=by simp[W.kitOne]
theorem xY (K:W.Frag):W.kitOne K (.type "int") (.type "bool")=some false:=by simp[W.kitOne];rfl
end L2
namespace L2
open PySem PySem.Spec PyProof.Rows
section
variable {X:Cx} {K:W.Frag}
def qfk (K:W.Frag):R2:=fun x y H Q=>∃d e,Is K H d x∧Is K H e y∧d.canLay0=true∧e.canLay0=true∧d.depth≤64∧Q (.bl (PyData.eqv d e)) H
def qfl (K:W.Frag):R2:=fun x y H Q=>∃d e,Is K H d x∧Is K H e y∧d.canLay0=true∧e.canLay0=true∧d.depth≤64∧Q (.bl (!PyData.eqv d e)) H
theorem qcJ (hK:X.K=K) (hu:X.A.units+64<cLine):jk X (compareOp .Eq) (qfk K):=by
  subst hK;intro p_ s σ H x y v u Q I rx ry h;obtain⟨d,e,h1,h2,h3,h4,h5,q⟩:=h;exact qcv p_ s σ H x y v u Q I rx ry ⟨d,e,h1,h2,h3,h4,by omega,q⟩
theorem qcK (hK:X.K=K) (hu:X.A.units+64<cLine):jk X (compareOp .NotEq) (qfl K):=by
  subst hK;intro p_ s σ H x y v u Q I rx ry h;obtain⟨d,e,h1,h2,h3,h4,h5,q⟩:=h;exact qcw p_ s σ H x y v u Q I rx ry ⟨d,e,h1,h2,h3,h4,by omega,q⟩
end
def jr (xs:List Str):List PyData:=xs.map PyData.str
theorem qX {K:W.Frag} {H:Hp}:∀xs:List Str,mR K H (jr xs) (xs.map V.str)
  | []=>rfl
  | x::xs=>⟨_,_,rfl,rfl,qX xs⟩
theorem Z_ (c:Nat):Z0 c=decide (c∈("abcdefghijklmnopqrstuvwxyz" : Str).cps.toList):=PySem.StrLaws.found_one _ c
theorem qcL {c:Nat} (h:Z0 c=true):c<128:=by
  rw[Z_] at h;have h':=of_decide_eq_true h;have key:∀x∈("abcdefghijklmnopqrstuvwxyz" : Str).cps.toList,x<128:=by decide+kernel
  exact key c h'
theorem Jr {x:Str} (h:nameB x=true):PyData.strOk x=true:=by
  unfold nameB at h;simp only[Bool.and_eq_true] at h;have h2:=h.2;unfold PyData.strOk;rw[← Array.all_toList];rw[List.all_eq_true] at h2 ⊢;intro c hc;have:=qcL (h2 c hc);exact decide_eq_true (by omega)
theorem qH:∀xs:List Str,(∀x∈xs,PyData.strOk x=true)→PyData.canLayAll0 (jr xs)=true
  | [],_=>by simp[jr,PyData.canLayAll0]
  | x::xs,h=>by
    have:=qH xs fun y hy=>h y (List.mem_cons_of_mem _ hy);simp[jr] at this;simp[jr,PyData.canLayAll0,PyData.canLay0,this,h x List.mem_cons_self]
theorem uf:∀xs:List Str,PyData.depthAll (jr xs)≤1
  | []=>by simp[jr,PyData.depthAll]
  | x::xs=>by
    have:=uf xs;simp[jr] at this;simp[jr,PyData.depthAll,PyData.depth,this]
@[simp ↓] theorem qji (td ty:TE) (σ:St) (H:Hp) (Q:VK):Wk td ty σ H Q=(td σ H fun x H1=>ty σ H1 fun y H2=>∃a v,x = .ref a∧kY H2 a y (some v)∧Q v H2):=rfl
@[simp ↓] theorem qky (ty td:TE) (σ:St) (H:Hp) (Q:VK):qcD ty td σ H Q=(ty σ H fun y H1=>td σ H1 fun x H2=>∃a o,x = .ref a∧kY H2 a y o∧Q (.bl o.isSome) H2):=rfl
@[simp ↓] theorem qeC (ty td:TE) (σ:St) (H:Hp) (Q:VK):Jq ty td σ H Q=(ty σ H fun y H1=>td σ H1 fun x H2=>∃a o,x = .ref a∧kY H2 a y o∧Q (.bl (!o.isSome)) H2):=rfl
@[simp ↓] theorem qjj (td ty tv:TE) (D:Ends) (σ:St) (H:Hp):Wm td ty tv D σ H=(tv σ H fun v H1=>td σ H1 fun x H2=>ty σ H2 fun y H3=>∃a H4,x = .ref a∧Jo H3 a y v H4∧D.nx σ H4):=rfl
@[simp ↓] theorem qfm (σ:St) (H:Hp) (Q:VK):Wo σ H Q=(∀p,H p=none→Q (.ref p) (upd H p (.dK []))):=rfl
@[simp ↓] theorem qjk (Vc:List (TE×TE)) (σ:St) (H:Hp) (Q:VK):qbd Vc σ H Q=(∀p,H p=none→vV Vc σ (upd H p (.dK [])) fun ps H2=>H2 p=some (.dK [])∧∃kvs:List (Key×V),ps=kvs.map (fun kv=>(kV kv.1,kv.2))∧kvs.length≤15∧Q (.ref p) (upd H2 p (.dK (vW [] kvs)))):=rfl
@[simp ↓] theorem qfn (σ:St) (H:Hp) (Q:List (V×V)→Hp→Prop):vV [] σ H Q=Q [] H:=rfl
@[simp ↓] theorem qfo (tk tv:TE) (r:List (TE×TE)) (σ:St) (H:Hp) (Q:List (V×V)→Hp→Prop):vV ((tk,tv)::r) σ H Q=(tk σ H fun x H1=>tv σ H1 fun y H2=>vV r σ H2 fun ps H3=>Q ((x,y)::ps) H3):=rfl
@[simp ↓] theorem qfp (td ty tx:TE) (σ:St) (H:Hp) (Q:VK):Om td ty tx σ H Q=(td σ H fun x H1=>∃a,x = .ref a∧IsD H1 a∧ty σ H1 fun y H2=>tx σ H2 fun z H3=>∃o,kY H3 a y o∧Q (o.getD z) H3):=rfl
@[simp ↓] theorem qjl (K:W.Frag) (t:TA) (σ:St) (H:Hp) (R:It→Hp→Prop):Wr K t σ H R=(t σ H fun vs H1=>∃a xs,vs=[.ref a]∧aX K H1 a xs∧R (Ite K a) H1):=rfl
theorem qfq {H:Hp} {a:Addr} {kvs:List (Key×V)} (i:Int) (e:H a=some (.dK kvs)):kY H a (.int i) (mZ kvs (Sum.inl i)):=kY.k (k:=Sum.inl i) e
theorem Wt {H:Hp} {a:Addr} {kvs:List (Key×V)} (x:Str) (e:H a=some (.dK kvs)):kY H a (.str x) (mZ kvs (Sum.inr x)):=kY.k (k:=Sum.inr x) e
theorem qkz {H:Hp} {a:Addr} {kvs:List (Key×V)} {v:V} (x:Str) (e:H a=some (.dK kvs)) (hl:kvs.length<sizeLine):Jo H a (.str x) v (upd H a (.dK (putK kvs (Sum.inr x) v))):=Jo.k (k:=Sum.inr x) e hl
theorem isD {H:Hp} {a:Addr} {kvs:List (Key×V)} (e:H a=some (.dK kvs)):IsD H a:=.inl ⟨kvs,.inl e⟩
theorem range_any (bs:List Bool):(List.range bs.length).any (fun i=>bs.getD i false)=bs.any id:=by
  rw[Bool.eq_iff_iff,List.any_eq_true,List.any_eq_true];constructor
  ·rintro⟨i,hi,h⟩;have hi':=List.mem_range.mp hi;refine⟨bs[i],List.getElem_mem hi',?_⟩;simpa [List.getD,hi'] using h
  ·rintro⟨b,hb,h⟩;obtain⟨i,hi,rfl⟩:=List.mem_iff_getElem.mp hb;exact⟨i,List.mem_range.mpr hi,by simpa [List.getD,hi] using h⟩
section
variable {X:Cx} {K:W.Frag}
def qbe:List V→Hp→VK→Prop:=fun xs H Q=>∃a ys bs,xs=[.ref a]∧H a=some (.lst ys)∧oK ys bs∧Q (.bl (bs.any id)) H
theorem SN (hc:X.calm=true):cP X (.builtin "any") qbe:=by
  intro p_ s σ H xs us Q I r h;obtain⟨a,ys,bs,rfl,ha,hb,q⟩:=h;obtain⟨u,rfl,ru⟩:=r.one;obtain rfl:u=Value.ref a:=ru;obtain⟨z,its,n,rv,hl,e⟩:=I.Jd ha;obtain⟨h1,h2⟩:=hb.get rv;have hL:s.heap.IsList a its.toArray:=⟨_,e,rfl,n,rfl⟩;refine call_any_walk ?_;refine wpAny_pyIter_list hL ?_;have hne:a≠s.heap.objs.size:=Nat.ne_of_lt (Heap.lt_size e);have hL2:(s.heap.push {cls:=.type "list_iterator",data:=.fields #[.ref a,.int 0 0]}).IsList a its.toArray:=⟨_,Heap.get?_push_of_some _ e,rfl,n,rfl⟩;refine⟨s.heap.objs.size,_,_,_,_,_,fun i=>bs.getD i false,rfl,Walks.list (by exact I.ok.hd hc) s.heap.objs.size a hne its.toArray,⟨⟨_,Heap.get?_push_size _ rfl,rfl,rfl⟩,hL2⟩,fun i v s' Q' E' hP hQ=>?_,fun h' tk kk=>?_⟩
  ·obtain rfl:=h2 i v (by simpa using hP);exact wpAny_truthy_bool hQ
  · have e2:(List.range its.toArray.size).any (fun i=>bs.getD i false)=bs.any id:=by
      rw[List.size_toArray,← hl,h1];exact range_any bs
    rw[e2];refine⟨.bl _,H,?_,rfl,q⟩;exact I.kept (h':=h') (t':=tk) fun b o eb=>kk b o (by simp;exact Nat.ne_of_lt (Heap.lt_size eb)) (Heap.get?_push_of_some _ eb)
def qfr (K:W.Frag) (neg:Bool):R2:=fun x y H Q=>∃d es,Is K H d x∧Is K H (.list es) y∧d.canLay0=true∧PyData.canLayAll0 es=true∧d.depth≤32∧Q (.bl (if neg then !es.any (fun y=>PyData.eqv y d) else es.any fun y=>PyData.eqv y d)) H
@[simp ↓] theorem qkA (K:W.Frag) (neg:Bool) (x y:V) (H:Hp) (Q:VK):qfr K neg x y H Q=∃d es,Is K H d x∧Is K H (.list es) y∧d.canLay0=true∧PyData.canLayAll0 es=true∧d.depth≤32∧Q (.bl (if neg then !es.any (fun y=>PyData.eqv y d) else es.any fun y=>PyData.eqv y d)) H:=rfl
theorem Wu (hK:X.K=K) (hu:X.A.units+64<cLine):jk X (compareOp .NotIn) (qfr K true):=by
  subst hK;intro p_ s σ H x y v u Q I rx ry h;obtain⟨d,es,hx,hy,h1,h2,h3,q⟩:=h;obtain⟨as,ra⟩:=hx.reads I d x v rx;obtain⟨bs,rb⟩:=hy.reads I _ y u ry;have:=Nat.min_le_right (PyData.depthAll es) d.depth;exact SeqAt.notIn_list_reads rb ra h2 h1 (by omega) ⟨.bl _,H,I,rfl,q⟩
end
section
variable {K:W.Frag} {l:Addr} {g:TG} {tb:TS} {D:Ends} {d:qcH g tb D} {σ:St} {H:Hp}
theorem frE (xs:List V) (Pv:Nat→St→Hp→Prop) (h0:Pv 0 σ H) (hl:∀i σ H,i≤xs.length→Pv i σ H→aX K H l xs)
    (hs:∀i x t σ H,xs[i]? = some x→H t=none→Pv i σ H→g (.ref t) σ (upd H t (.tup [.int i,x])) fun σ2 H2=>tb {D with nx:=Pv (i+1),ct:=Pv (i+1),bk:=D.nx} σ2 H2) (hd:∀σ H,Pv xs.length σ H→D.nx σ H):tFr (Ite K l) g tb D d σ H:=by
  refine⟨fun i m σ H=>m=xs.length - i∧i≤xs.length∧Pv i σ H,⟨xs.length,by simp,Nat.zero_le _,h0⟩,?_⟩;rintro i m σ H ⟨rfl,hi,p⟩;have q:=hl i σ H hi p
  by_cases hlt:i<xs.length
  ·refine .inr ⟨⟨xs,xs[i],q,by simp[hlt]⟩,Pv (i+1),fun σ' H' p'=>⟨xs.length - (i+1),by omega,rfl,hlt,p'⟩,fun x H' y=>?_⟩;obtain⟨t,u,rfl,ht,rfl,e⟩:=y;exact hs i u t σ H (e xs q) ht p
  · have e:i=xs.length:=by omega
    subst e;exact .inl ⟨⟨xs,q,Nat.le_refl _⟩,hd σ H p⟩
end
section
variable {c:TT} {tb:TS} {D:Ends} {d:qfg c tb D} {σ:St} {H:Hp}
theorem whB (Pv:St→Hp→Prop) (μ:St→Hp→Nat) (h0:Pv σ H)
    (hs:∀σ H,Pv σ H→c σ H fun b H1=>dI b (tb {D with nx:=fun σ' H'=>Pv σ' H'∧μ σ' H'<μ σ H,ct:=fun σ' H'=>Pv σ' H'∧μ σ' H'<μ σ H,bk:=D.nx} σ H1) (D.nx σ H1) ⟨0⟩)
    (mono:∀σ H Q Q',(∀b H1,Q b H1→Q' b H1)→c σ H Q→c σ H Q'):tWh c tb D d σ H:=Vv Pv μ h0 hs mono
end
end L2
namespace L2
open PySem
inductive RT {α:Type} (R:α→α→Prop):α→α→Prop where
  | refl (a:α):RT R a a
  | tail {a b c:α}:RT R a b→R b c→RT R a c
theorem RT.one {α:Type} {R:α→α→Prop} {a b:α} (h:R a b):RT R a b:=.tail (.refl a) h
theorem RT.trans {α:Type} {R:α→α→Prop} {a b c:α} (h:RT R a b) (h2:RT R b c):RT R a c:=by
  induction h2 with
  | refl=>exact h
  | tail _ r ih=>exact .tail ih r
theorem RT.mono {α:Type} {R S:α→α→Prop} (h:∀a b,R a b→S a b) {a b:α} (r:RT R a b):RT S a b:=by
  induction r with
  | refl=>exact .refl _
  | tail _ q ih=>exact .tail ih (h _ _ q)
theorem RT.symm {α:Type} {R:α→α→Prop} (h:∀a b,R a b→R b a) {a b:α} (r:RT R a b):RT R b a:=by
  induction r with
  | refl=>exact .refl _
  | tail _ q ih=>exact(RT.one (h _ _ q)).trans ih
theorem RT.closed {α:Type} {R:α→α→Prop} {P:α→Prop} (hc:∀a b,R a b→P a→P b) {a b:α} (ha:P a) (r:RT R a b):P b:=by
  induction r with
  | refl=>exact ha
  | tail _ q ih=>exact hc _ _ q ih
abbrev kE:=Nat×Str×Str
def g_ (S:List kE) (a b:Str):Prop:=∃n,(n,a,b)∈S
def zu (fx:Nat→Option Int) (e:Str×Str) (k:Nat):List kE:=
  (if (fx k).getD 0=0 then [(k,e.1,e.2)] else [])++(if (fx k).getD 1=1 then [(k,e.2,e.1)] else [])
def aN (fx:Nat→Option Int):List (Str×Str)→Nat→List kE
  | [],_=>[]
  | e::r,k=>zu fx e k++aN fx r (k+1)
theorem ug (fx:Nat→Option Int):∀(l m:List (Str×Str)) (k:Nat),aN fx (l++m) k=aN fx l k++aN fx m (k+l.length)
  | [],m,k=>by simp[aN]
  | e::l,m,k=>by
    simp only[List.cons_append,aN,ug fx l m (k+1),List.append_assoc,List.length_cons];rw[show k+1+l.length=k+(l.length+1) by omega]
theorem Js (fx:Nat→Option Int) {ps:List (Str×Str)} {i:Nat} {e:Str×Str} (h:ps[i]? = some e):aN fx (ps.take (i+1)) 0=aN fx (ps.take i) 0++zu fx e i:=by
  have hi:i<ps.length:=(List.getElem?_eq_some_iff.mp h).1;rw[take_one h,ug,List.length_take,Nat.min_eq_left (Nat.le_of_lt hi),Nat.zero_add];simp[aN]
theorem kZ {fx:Nat→Option Int} {e:Str×Str} {k:Nat} {s:kE}:s∈zu fx e k↔s.1=k∧(((fx k).getD 0=0∧s.2.1=e.1∧s.2.2=e.2)∨((fx k).getD 1=1∧s.2.1=e.2∧s.2.2=e.1)):=by
  obtain⟨n,a,b⟩:=s;unfold zu;rw[List.mem_append];constructor
  · rintro(h | h)
    · split at h
      ·rename_i h0;simp at h;exact⟨h.1,.inl ⟨h0,h.2.1,h.2.2⟩⟩
      ·simp at h
    · split at h
      ·rename_i h0;simp at h;exact⟨h.1,.inr ⟨h0,h.2.1,h.2.2⟩⟩
      ·simp at h
  · rintro⟨rfl,⟨h0,rfl,rfl⟩ | ⟨h0,rfl,rfl⟩⟩
    ·exact .inl (by rw[if_pos h0];simp)
    ·exact .inr (by rw[if_pos h0];simp)
theorem mj {fx:Nat→Option Int}:∀{ps:List (Str×Str)} {k:Nat} {s:kE},s∈aN fx ps k↔∃j e,ps[j]? = some e∧s∈zu fx e (k+j)
  | [],k,s=>by simp[aN]
  | e::r,k,s=>by
    simp only[aN,List.mem_append,mj (ps:=r)];constructor
    · rintro(h | ⟨j,e',h1,h2⟩)
      ·exact⟨0,e,rfl,h⟩
      ·exact⟨j+1,e',by simpa using h1,by rw[show k+(j+1)=k+1+j by omega];exact h2⟩
    · rintro⟨j,e',h1,h2⟩;cases j with
      | zero=>simp at h1;subst h1;exact .inl h2
      | succ j=>exact .inr ⟨j,e',by simpa using h1,by rw[show k+1+j=k+(j+1) by omega];exact h2⟩
def fX (P:Nat→Prop) (ps:List (Str×Str)) (a b:Str):Prop:=∃k,P k∧(ps[k]? = some (a,b)∨ps[k]? = some (b,a))
theorem fX.symm {P:Nat→Prop} {ps:List (Str×Str)} {a b:Str} (h:fX P ps a b):fX P ps b a:=by
  obtain⟨k,hk,h⟩:=h;exact⟨k,hk,h.symm⟩
theorem nJ {P:Nat→Prop} [DecidablePred P] {ps:List (Str×Str)} {a b:Str}:g_ ((aN (fun _=>none) ps 0).filter fun s=>decide (P s.1)) a b↔fX P ps a b:=by
  unfold g_ fX;constructor
  · rintro⟨n,h⟩;obtain⟨h,hP⟩:=List.mem_filter.mp h;obtain⟨j,e,h1,h2⟩:=mj.mp h;rw[Nat.zero_add] at h2;obtain⟨rfl,h3⟩:=kZ.mp h2;refine⟨_,of_decide_eq_true hP,?_⟩
    rcases h3 with⟨_,h3,h4⟩ | ⟨_,h3,h4⟩
    ·simp only at h3 h4;subst h3 h4;exact .inl h1
    ·simp only at h3 h4;subst h3 h4;exact .inr h1
  · rintro⟨k,hP,h⟩;refine⟨k,List.mem_filter.mpr ⟨mj.mpr ?_,decide_eq_true hP⟩⟩
    rcases h with h | h
    ·exact⟨k,_,h,by rw[Nat.zero_add];exact kZ.mpr ⟨rfl,.inl ⟨rfl,rfl,rfl⟩⟩⟩
    ·exact⟨k,_,h,by rw[Nat.zero_add];exact kZ.mpr ⟨rfl,.inr ⟨rfl,rfl,rfl⟩⟩⟩
theorem Hr {ps:List (Str×Str)} {a b:Str}:g_ (aN (fun _=>none) ps 0) a b↔fX (fun _=>True) ps a b:=by
  have e:((aN (fun _=>none) ps 0).filter fun s=>decide ((fun _:Nat=>True) s.1))=aN (fun _=>none) ps 0:=List.filter_eq_self.mpr (by simp);rw[← nJ (P:=fun _=>True),e]
def qI (found:List Str) (e:Str×Str):List Str:=if (e.1∈found)↔(e.2∈found) then found else found++[e.1,e.2]
def gG (P:Nat→Bool):List (Str×Str)→Nat→List Str→List Str
  | [],_,found=>found
  | e::r,k,found=>gG P r (k+1) (if P k then qI found e else found)
theorem Ot (P:Nat→Bool) {ps:List (Str×Str)} {i:Nat} {e:Str×Str} (h:ps[i]? = some e) (found:List Str):gG P (ps.take (i+1)) 0 found=if P i then qI (gG P (ps.take i) 0 found) e else gG P (ps.take i) 0 found:=by
  have key:∀(l:List (Str×Str)) (k:Nat) (found:List Str) (e:Str×Str),gG P (l++[e]) k found=if P (k+l.length) then qI (gG P l k found) e else gG P l k found:=by
    intro l
    induction l with
    | nil=>intro k found e;simp[gG]
    | cons d l ih=>
      intro k found e;simp only[List.cons_append,gG,ih,List.length_cons];rw[show k+1+l.length=k+(l.length+1) by omega]
  have hi:i<ps.length:=(List.getElem?_eq_some_iff.mp h).1;rw[take_one h,key,List.length_take,Nat.min_eq_left (Nat.le_of_lt hi),Nat.zero_add]
theorem Dc {found:List Str} {e:Str×Str} {x:Str} (h:x∈found):x∈qI found e:=by
  unfold qI;split
  ·exact h
  ·exact List.mem_append_left _ h
theorem SQ {found:List Str} {e:Str×Str} (h:e.1∈found∨e.2∈found):e.1∈qI found e∧e.2∈qI found e:=by
  unfold qI;split
  · rename_i hi
    rcases h with h | h
    ·exact⟨h,hi.mp h⟩
    ·exact⟨hi.mpr h,h⟩
  ·simp
theorem SX {found:List Str} {e:Str×Str} {x:Str} (h:x∈qI found e):x∈found∨((e.1∈found∨e.2∈found)∧(x=e.1∨x=e.2)):=by
  unfold qI at h;split at h
  ·exact .inl h
  · rename_i hi
    rcases List.mem_append.mp h with h | h
    ·exact .inl h
    · refine .inr ⟨?_,by simpa using h⟩
      by_cases h1:e.1∈found
      ·exact .inl h1
      · by_cases h2:e.2∈found
        ·exact .inr h2
        ·exact absurd ⟨fun z=>absurd z h1,fun z=>absurd z h2⟩ hi
theorem Wv {found:List Str} {e:Str×Str}:(qI found e).length≤found.length+2:=by
  unfold qI;split <;> simp
theorem qJ {P:Nat→Bool}:∀{l:List (Str×Str)} {k:Nat} {found:List Str} {x:Str},x∈found→x∈gG P l k found
  | [],_,_,_,h=>h
  | e::l,k,found,x,h=>by
    unfold gG;refine qJ ?_;split
    ·exact Dc h
    ·exact h
theorem Av {P:Nat→Bool} {ps:List (Str×Str)} {R:Str→Prop} (hc:∀a b,fX (fun k=>P k=true) ps a b→R a→R b) :
    ∀{l:List (Str×Str)} {k:Nat} {found:List Str},(∀j e,l[j]? = some e→ps[k+j]? = some e)→(∀x∈found,R x)→∀x∈gG P l k found,R x
  | [],_,_,_,h=>h
  | e::l,k,found,hl,h=>by
    unfold gG;refine Av hc (fun j d hd=>by rw[show k+1+j=k+(j+1) by omega];exact hl (j+1) d (by simpa using hd)) ?_;intro x hx;split at hx
    · rename_i hP;have he:ps[k]? = some e:=hl 0 e rfl
      rcases SX hx with q | ⟨q,q2⟩
      ·exact h x q
      · have j12:fX (fun k=>P k=true) ps e.1 e.2:=⟨k,hP,.inl he⟩;have j21:fX (fun k=>P k=true) ps e.2 e.1:=⟨k,hP,.inr he⟩;have both:R e.1∧R e.2:=by
          rcases q with q | q
          ·exact⟨h _ q,hc _ _ j12 (h _ q)⟩
          ·exact⟨hc _ _ j21 (h _ q),h _ q⟩
        rcases q2 with rfl | rfl
        ·exact both.1
        ·exact both.2
    ·exact h x hx
theorem vX {P:Nat→Bool}:∀{l:List (Str×Str)} {k j:Nat} {found:List Str} {e:Str×Str},l[j]? = some e→P (k+j)=true→(e.1∈found∨e.2∈found)→e.1∈gG P l k found∧e.2∈gG P l k found
  | d::l,k,0,found,e,h,hP,hf=>by
    simp at h;subst h;unfold gG;rw[Nat.add_zero] at hP;rw[if_pos hP];obtain⟨h1,h2⟩:=SQ hf;exact⟨qJ h1,qJ h2⟩
  | d::l,k,j+1,found,e,h,hP,hf=>by
    unfold gG;refine vX (j:=j) (by simpa using h) (by rw[show k+1+j=k+(j+1) by omega];exact hP) ?_;split
    · rcases hf with q | q
      ·exact .inl (Dc q)
      ·exact .inr (Dc q)
    ·exact hf
theorem zx {P:Nat→Bool}:∀{l:List (Str×Str)} {k:Nat} {found:List Str},(gG P l k found).length≤found.length+2 * l.length
  | [],_,_=>by simp[gG]
  | e::l,k,found=>by
    unfold gG;have:=zx (P:=P) (l:=l) (k:=k+1) (found:=if P k then qI found e else found)
    have h2:(if P k then qI found e else found).length≤found.length+2:=by
      split
      ·exact Wv
      ·omega
    simp only[List.length_cons];omega
def dz (P:Nat→Bool) (ps:List (Str×Str)) (start:Str):Nat→List Str
  | 0=>[start]
  | t+1=>gG P ps 0 (dz P ps start t)
theorem Hs {P:Nat→Bool} {ps:List (Str×Str)} {start:Str}:∀t,(dz P ps start t).length≤1+t * (2 * ps.length)
  | 0=>by simp[dz]
  | t+1=>by
    have h1:=Hs (P:=P) (ps:=ps) (start:=start) t;have h2:=zx (P:=P) (l:=ps) (k:=0) (found:=dz P ps start t);simp only[dz];rw[Nat.add_mul,Nat.one_mul];omega
def oO (xs found:List Str):Nat:=(xs.filter fun x=>decide (x∈found)).length
theorem Ww {xs f g:List Str} (h:∀x∈xs,x∈f→x∈g):oO xs f≤oO xs g:=by
  induction xs with
  | nil=>exact Nat.le_refl _
  | cons a xs ih=>
    have i2:=ih fun x hx=>h x (List.mem_cons_of_mem _ hx);unfold oO at i2 ⊢;simp only[List.filter_cons]
    by_cases ha:a∈f
    ·have:=h a List.mem_cons_self ha;simp[ha,this];exact i2
    · by_cases hb:a∈g
      ·simp[ha,hb];omega
      ·simp[ha,hb];exact i2
theorem Wx {xs f g:List Str} (h:∀x∈xs,x∈f→x∈g) {y:Str} (hy:y∈xs) (h1:¬y∈f) (h2:y∈g):oO xs f<oO xs g:=by
  induction xs with
  | nil=>cases hy
  | cons a xs ih=>
    have hm:oO xs f≤oO xs g:=Ww fun x hx=>h x (List.mem_cons_of_mem _ hx)
    rcases List.mem_cons.mp hy with e | e
    ·subst e;unfold oO at hm ⊢;simp only[List.filter_cons];simp[h1,h2];omega
    · have i2:=ih (fun x hx=>h x (List.mem_cons_of_mem _ hx)) e;unfold oO at i2 ⊢;simp only[List.filter_cons]
      by_cases ha:a∈f
      ·have:=h a List.mem_cons_self ha;simp[ha,this];exact i2
      · by_cases hb:a∈g
        ·simp[ha,hb];omega
        ·simp[ha,hb];exact i2
def Closed (P:Nat→Bool) (ps:List (Str×Str)) (found:List Str):Prop:=∀j e,ps[j]? = some e→P j=true→(e.1∈found↔e.2∈found)
theorem Jt {P:Nat→Bool} {ps:List (Str×Str)} {found:List Str} (h:Closed P ps found):gG P ps 0 found=found:=by
  have key:∀(l:List (Str×Str)) (k:Nat),(∀j e,l[j]? = some e→ps[k+j]? = some e)→gG P l k found=found:=by
    intro l
    induction l with
    | nil=>intro k _;rfl
    | cons e l ih=>
      intro k hl;unfold gG;have he:ps[k]? = some e:=hl 0 e rfl;have e1:(if P k then qI found e else found)=found:=by
        split
        ·rename_i hP;unfold qI;rw[if_pos (h k e he hP)]
        ·rfl
      rw[e1];exact ih (k+1) fun j d hd=>by rw[show k+1+j=k+(j+1) by omega];exact hl (j+1) d (by simpa using hd)
  exact key ps 0 fun j e h=>by rw[Nat.zero_add];exact h
theorem Wy {P:Nat→Bool} {ps:List (Str×Str)} {xs:List Str} {start:Str} (hs:start∈xs) (hps:∀e∈ps,e.1∈xs∧e.2∈xs):Closed P ps (dz P ps start xs.length):=by
  have key:∀t,Closed P ps (dz P ps start t)∨t+1≤oO xs (dz P ps start t):=by
    intro t
    induction t with
    | zero=>
      refine Or.inr ?_
      unfold oO;have:start∈xs.filter fun x=>decide (x∈dz P ps start 0):=List.mem_filter.mpr ⟨hs,by simp[dz]⟩;have:=List.length_pos_of_mem this;omega
    | succ t ih=>
      by_cases hc:Closed P ps (dz P ps start t)
      · refine Or.inl ?_
        show Closed P ps (gG P ps 0 (dz P ps start t));rw[Jt hc];exact hc
      · refine Or.inr ?_
        rcases ih with q | q
        ·exact absurd q hc
        · unfold Closed at hc;simp only[Classical.not_forall] at hc;obtain⟨j,e,h1,h2,h3⟩:=hc;have hm:=List.mem_of_getElem? h1;obtain⟨m1,m2⟩:=hps e hm;have sub:∀x∈xs,x∈dz P ps start t→x∈dz P ps start (t+1):=fun x _ hx=>qJ hx;have lt:oO xs (dz P ps start t)<oO xs (dz P ps start (t+1)):=by
            by_cases q1:e.1∈dz P ps start t
            ·have q2:¬e.2∈dz P ps start t:=fun z=>h3 ⟨fun _=>z,fun _=>q1⟩;exact Wx sub m2 q2 (vX h1 (by rw[Nat.zero_add];exact h2) (.inl q1)).2
            ·have q2:e.2∈dz P ps start t:=Classical.byContradiction fun z=>h3 ⟨fun y=>absurd y q1,fun y=>absurd y z⟩;exact Wx sub m1 q1 (vX h1 (by rw[Nat.zero_add];exact h2) (.inr q2)).1
          omega
  rcases key xs.length with h | h
  ·exact h
  ·have:oO xs (dz P ps start xs.length)≤xs.length:=List.length_filter_le _ _;omega
theorem La {P:Nat→Bool} {ps:List (Str×Str)} {xs:List Str} {start:Str} (hs:start∈xs) (hps:∀e∈ps,e.1∈xs∧e.2∈xs) (y:Str) :
    y∈dz P ps start xs.length↔RT (fX (fun k=>P k=true) ps) start y:=by
  have hcl:=Wy (P:=P) hs hps;constructor
  · have:∀t,∀x∈dz P ps start t,RT (fX (fun k=>P k=true) ps) start x:=by
      intro t
      induction t with
      | zero=>intro x hx;simp[dz] at hx;subst hx;exact .refl _
      | succ t ih=>exact Av (R:=fun x=>RT (fX (fun k=>P k=true) ps) start x) (fun a b hab ha=>.tail ha hab) (fun j e h=>by rw[Nat.zero_add];exact h) ih
    exact this _ y
  · refine RT.closed (P:=fun x=>x∈dz P ps start xs.length) ?_ ?_
    · rintro a b ⟨k,hk,h | h⟩ ha
      ·exact(hcl k _ h hk).mp ha
      ·exact(hcl k _ h hk).mpr ha
    · have:∀t,start∈dz P ps start t:=by
        intro t
        induction t with
        | zero=>simp[dz]
        | succ t ih=>exact qJ ih
      exact this _
end L2
namespace L2
open PySem PySem.Spec PyProof.Rows
def bN {β:Type} (R:Hp→V→β→Prop) (H:Hp) (vs:List V) (bs:List β):Prop:=vs.length=bs.length∧∀(i:Nat) v b,vs[i]? = some v→bs[i]? = some b→R H v b
section
variable {β:Type} {R:Hp→V→β→Prop} {H H':Hp} {vs:List V} {bs:List β}
theorem bN.nil:bN R H [] []:=⟨rfl,fun i v b h=>by simp at h⟩
theorem bN.keep (h:bN R H vs bs) (k:∀v b,R H v b→R H' v b):bN R H' vs bs:=⟨h.1,fun i v b h1 h2=>k v b (h.2 i v b h1 h2)⟩
theorem bN.at (h:bN R H vs bs) {i:Nat} {v:V} (hv:vs[i]? = some v):∃b,bs[i]? = some b∧R H v b:=by
  have hi:i<bs.length:=by rw[← h.1];exact(List.getElem?_eq_some_iff.mp hv).1
  exact⟨bs[i],by simp[hi],h.2 i v _ hv (by simp[hi])⟩
theorem bN.snoc {v:V} {b:β} (h:bN R H vs bs) (hv:R H v b):bN R H (vs++[v]) (bs++[b]):=by
  refine⟨by simp[h.1],fun i u d h1 h2=>?_⟩
  by_cases hi:i<vs.length
  ·rw[List.getElem?_append_left hi] at h1;rw[List.getElem?_append_left (by rw[← h.1];exact hi)] at h2;exact h.2 i u d h1 h2
  · rw[List.getElem?_append_right (by omega)] at h1;rw[List.getElem?_append_right (by rw[← h.1];omega),← h.1] at h2;cases hk:i - vs.length with
    | zero=>
      rw[hk] at h1 h2;cases h1;cases h2;exact hv
    | succ j=>
      rw[hk] at h1;simp at h1
end
def Lb (H:Hp) (v:V) (s:kE):Prop:=∃t,v = .ref t∧H t=some (.tup [.int s.1,.str s.2.1,.str s.2.2])
def Wz (H:Hp) (v:V) (c:List Str):Prop:=∃t,v = .ref t∧H t=some (.lst (c.map V.str))
abbrev eU:=bN Lb
abbrev xZ:=bN Wz
def dD (H H':Hp):Prop:=∀b xs,H b=some (.tup xs)→H' b=some (.tup xs)
theorem dD.of {H H':Hp} (s:Same H H'):dD H H':=fun b xs e=>s b _ e
theorem dD.set {H:Hp} {p:Addr} {o u:HO} (h:H p=some o) (hn:∀xs,o≠.tup xs):dD H (upd H p u):=fun b xs e=>by
  rw[aC (fun z=>by subst z;rw[h] at e;exact hn xs (Option.some.inj e))];exact e
theorem Lb.keep {H H':Hp} (k:dD H H'):∀v s,Lb H v s→Lb H' v s:=fun v s ⟨t,e,h⟩=>⟨t,e,k _ _ h⟩
theorem eU.keep {H H':Hp} {vs:List V} {S:List kE} (h:eU H vs S) (k:dD H H'):eU H' vs S:=bN.keep h (Lb.keep k)
theorem xZ.same {H H':Hp} {vs:List V} {S:List (List Str)} (h:xZ H vs S) (k:Same H H'):xZ H' vs S:=bN.keep h fun v s ⟨t,e,q⟩=>⟨t,e,k _ _ q⟩
def qbf (H:Hp) (d:Addr) (fx:Nat→Option Int):Prop:=∃kvs,H d=some (.dK kvs)∧∀k:Nat,mZ kvs (Sum.inl (k:Int))=(fx k).map V.int
theorem Dd {H:Hp} {d:Addr} (h:H d=some (.dK [])):qbf H d (fun _=>none):=⟨[],h,fun _=>rfl⟩
theorem Ld (o:Option Int) (x:Int):(o.map V.int).getD (.int x) = .int (o.getD x):=by cases o <;> rfl
end L2
namespace L2
open PySem
inductive nM (S:List kE) (a:Str):List Nat→List Str→Str→Prop where
  | nil:nM S a [] [a] a
  | snoc {w:List Nat} {vs:List Str} {b c:Str} {n:Nat}:nM S a w vs b→(n,b,c)∈S→nM S a (w++[n]) (vs++[c]) c
theorem nM.reach {S:List kE} {a:Str} {w:List Nat} {vs:List Str} {b:Str} (h:nM S a w vs b):RT (g_ S) a b:=by
  induction h with
  | nil=>exact .refl _
  | snoc _ q ih=>exact .tail ih ⟨_,q⟩
inductive Walk (S:List kE) (a:Str):Nat→Str→Prop where
  | nil:Walk S a 0 a
  | snoc {k:Nat} {b c:Str} {n:Nat}:Walk S a k b→(n,b,c)∈S→Walk S a (k+1) c
theorem Walk.of {S:List kE} {a b:Str} (h:RT (g_ S) a b):∃k,Walk S a k b:=by
  induction h with
  | refl=>exact⟨0,.nil⟩
  | tail _ q ih=>
    obtain⟨k,hk⟩:=ih;obtain⟨n,hn⟩:=q;exact⟨k+1,.snoc hk hn⟩
abbrev BR:=List (Str×List Nat)
structure Nu (S:List kE) (a:Str) (at_:Nat) (R:BR):Prop where
  st:R[0]? = some (a,[])
  nd:(R.map (·.1)).Nodup
  pth:∀y w,(y,w)∈R→∃vs,nM S a w vs y∧vs.Nodup∧∀v∈vs,v∈R.map (·.1)
  cl:∀(i:Nat) y w,i<at_→R[i]? = some (y,w)→∀n c,(n,y,c)∈S→∃w',(c,w')∈R∧w'.length≤w.length+1
  mono:∀(i j:Nat) y w z u,i≤j→R[i]? = some (y,w)→R[j]? = some (z,u)→w.length≤u.length
  bd:∀(y:Str) (w:List Nat) z u,R[at_]? = some (y,w)→(z,u)∈R→u.length≤w.length+1
structure mH (S T:List kE) (a:Str) (at_:Nat) (h:Str) (wh:List Nat) (R:BR):Prop where
  bf:Nu S a at_ R
  hr:R[at_]? = some (h,wh)
  md:∀n c,(n,h,c)∈T→∃w',(c,w')∈R∧w'.length≤wh.length+1
theorem Nu.begin (S:List kE) (a:Str):Nu S a 0 [(a,[])]:=by
  refine⟨rfl,by simp,?_,by intro i y w h;omega,?_,?_⟩
  ·intro y w h;simp at h;obtain⟨rfl,rfl⟩:=h;exact⟨[y],.nil,by simp,by simp⟩
  · intro i j y w z u hij h1 h2;have hi:i=0:=by have:=(List.getElem?_eq_some_iff.mp h1).1;simp at this;omega
    have hj:j=0:=by have:=(List.getElem?_eq_some_iff.mp h2).1;simp at this;omega
    subst hi hj;rw[h1] at h2;cases h2;exact Nat.le_refl _
  ·intro y w z u h1 h2;simp at h1 h2;rw[h2.2,← h1.2];simp
theorem mH.enter {S:List kE} {a:Str} {at_:Nat} {h:Str} {wh:List Nat} {R:BR} (b:Nu S a at_ R) (hr:R[at_]? = some (h,wh)):mH S [] a at_ h wh R:=⟨b,hr,by simp⟩
theorem mH.skip {S T:List kE} {a:Str} {at_:Nat} {h:Str} {wh:List Nat} {R:BR} (b:mH S T a at_ h wh R) {s:kE} (hs:s.2.1=h→s.2.2∈R.map (·.1)):mH S (T++[s]) a at_ h wh R:=by
  refine⟨b.bf,b.hr,fun n c hm=>?_⟩
  rcases List.mem_append.mp hm with q | q
  ·exact b.md n c q
  ·simp at q;subst q;obtain⟨⟨c',w'⟩,hw,e⟩:=List.mem_map.mp (hs rfl);simp only at e;subst e;exact⟨w',hw,b.bf.bd _ _ _ _ b.hr hw⟩
theorem mH.add {S T:List kE} {a:Str} {at_:Nat} {h:Str} {wh:List Nat} {R:BR} (b:mH S T a at_ h wh R) {n:Nat} {c:Str} (hS:(n,h,c)∈S) (hc:¬c∈R.map (·.1)):mH S (T++[(n,h,c)]) a at_ h wh (R++[(c,wh++[n])]):=by
  obtain⟨⟨st,nd,pth,cl,mono,bd⟩,hr,md⟩:=b;have hat:at_<R.length:=(List.getElem?_eq_some_iff.mp hr).1;have ml:∀{i:Nat} {x},i<R.length→(R++[(c,wh++[n])])[i]? = some x→R[i]? = some x:=fun hi e=>by rwa [List.getElem?_append_left hi] at e
  have last:∀{i:Nat} {x},¬i<R.length→(R++[(c,wh++[n])])[i]? = some x→x=(c,wh++[n]):=fun hi e=>by
    rw[List.getElem?_append_right (by omega)] at e;cases hk:_ - R.length with
    | zero=>rw[hk] at e;simp at e;exact e.symm
    | succ k=>rw[hk] at e;simp at e
  refine⟨⟨?_,?_,?_,?_,?_,?_⟩,?_,?_⟩
  ·rw[List.getElem?_append_left (by omega)];exact st
  ·rw[List.map_append,List.nodup_append];refine⟨nd,by simp,?_⟩;intro x hx y hy e;simp at hy;subst hy;exact hc (e▸hx)
  · intro y w hy
    rcases List.mem_append.mp hy with q | q
    ·obtain⟨vs,h1,h2,h3⟩:=pth y w q;exact⟨vs,h1,h2,fun v hv=>by rw[List.map_append];exact List.mem_append_left _ (h3 v hv)⟩
    · simp at q;obtain⟨rfl,rfl⟩:=q;obtain⟨vs,h1,h2,h3⟩:=pth h wh (List.mem_of_getElem? hr);refine⟨vs++[y],.snoc h1 hS,?_,?_⟩
      ·rw[List.nodup_append];refine⟨h2,by simp,?_⟩;intro x hx z hz e;simp at hz;subst hz;exact hc (e▸h3 x hx)
      · intro v hv;rw[List.map_append]
        rcases List.mem_append.mp hv with q | q
        ·exact List.mem_append_left _ (h3 v q)
        ·simp at q;subst q;simp
  ·intro i y w hi e m c' hm;obtain⟨w',q1,q2⟩:=cl i y w hi (ml (by omega) e) m c' hm;exact⟨w',List.mem_append_left _ q1,q2⟩
  · intro i j y w z u hij h1 h2
    by_cases hj:j<R.length
    ·exact mono i j y w z u hij (ml (by omega) h1) (ml hj h2)
    · have e2:=last hj h2;cases e2
      by_cases hi:i<R.length
      ·have:=bd h wh y w hr (List.mem_of_getElem? (ml hi h1));simp;exact this
      ·have e1:=last hi h1;cases e1;exact Nat.le_refl _
  · intro y w z u h1 h2;have h1':=ml hat h1;rw[hr] at h1';cases h1'
    rcases List.mem_append.mp h2 with q | q
    ·exact bd _ _ z u hr q
    ·simp at q;rw[q.2];simp
  ·rw[List.getElem?_append_left hat];exact hr
  · intro m c' hm
    rcases List.mem_append.mp hm with q | q
    ·obtain⟨w',q1,q2⟩:=md m c' q;exact⟨w',List.mem_append_left _ q1,q2⟩
    ·simp at q;obtain⟨rfl,rfl⟩:=q;exact⟨wh++[m],by simp,by simp⟩
theorem mH.leave {S:List kE} {a:Str} {at_:Nat} {h:Str} {wh:List Nat} {R:BR} (b:mH S S a at_ h wh R):Nu S a (at_+1) R:=by
  obtain⟨⟨st,nd,pth,cl,mono,bd⟩,hr,md⟩:=b;refine⟨st,nd,pth,?_,mono,?_⟩
  · intro i y w hi e n c hm
    by_cases hia:i=at_
    ·subst hia;rw[hr] at e;cases e;exact md n c hm
    ·exact cl i y w (by omega) e n c hm
  ·intro y w z u h1 h2;have q1:=bd h wh z u hr h2;have q2:=mono at_ (at_+1) h wh y w (by omega) hr h1;omega
theorem Nu.all {S:List kE} {a:Str} {R:BR} (b:Nu S a R.length R) {k:Nat} {y:Str} (h:Walk S a k y):∃w,(y,w)∈R∧w.length≤k:=by
  induction h with
  | nil=>exact⟨[],List.mem_of_getElem? b.st,Nat.le_refl _⟩
  | @snoc k b' c n _ q ih=>
    obtain⟨w,h1,h2⟩:=ih;obtain⟨i,hi⟩:=List.mem_iff_getElem?.mp h1;obtain⟨w',h3,h4⟩:=b.cl i b' w (List.getElem?_eq_some_iff.mp hi).1 hi n c q;exact⟨w',h3,by omega⟩
theorem Nu.iff {S:List kE} {a:Str} {R:BR} (b:Nu S a R.length R) (y:Str):y∈R.map (·.1)↔RT (g_ S) a y:=by
  constructor
  ·intro h;obtain⟨⟨z,w⟩,h1,e⟩:=List.mem_map.mp h;simp only at e;subst e;obtain⟨vs,p,_⟩:=b.pth z w h1;exact p.reach
  ·intro h;obtain⟨k,hk⟩:=Walk.of h;obtain⟨w,h1,_⟩:=b.all hk;exact List.mem_map.mpr ⟨(y,w),h1,rfl⟩
theorem Nu.sub {S:List kE} {a:Str} {i:Nat} {R:BR} (b:Nu S a i R) {xs:List Str} (ha:a∈xs) (hS:∀s∈S,s.2.2∈xs):∀y∈R.map (·.1),y∈xs:=by
  intro y h;obtain⟨⟨z,w⟩,h1,e⟩:=List.mem_map.mp h;simp only at e;subst e;obtain⟨vs,p,_⟩:=b.pth z w h1;cases p with
  | nil=>exact ha
  | snoc _ q=>exact hS _ q
theorem b_ {α:Type} [DecidableEq α]:∀{l xs:List α},l.Nodup→(∀y∈l,y∈xs)→l.length≤xs.length
  | [],_,_,_=>Nat.zero_le _
  | y::l,xs,hn,hs=>by
    obtain⟨h1,h2⟩:=List.nodup_cons.mp hn;have hy:y∈xs:=hs y List.mem_cons_self;have:=b_ (l:=l) (xs:=xs.erase y) h2 fun z hz=>(List.mem_erase_of_ne (fun(e:z=y)=>h1 (e▸hz))).mpr (hs z (List.mem_cons_of_mem _ hz));rw[List.length_erase_of_mem hy] at this;have h0:0<xs.length:=List.length_pos_of_mem hy;simp only[List.length_cons];omega
theorem nM.len {S:List kE} {a:Str} {w:List Nat} {vs:List Str} {b:Str} (h:nM S a w vs b):vs.length=w.length+1:=by
  induction h with
  | nil=>rfl
  | snoc _ _ ih=>simp[ih]
theorem Nu.qfs {S:List kE} {a:Str} {i:Nat} {R:BR} (b:Nu S a i R) {y:Str} {w:List Nat} (h:(y,w)∈R):w.length<R.length:=by
  obtain⟨vs,p,nd,sub⟩:=b.pth y w h;have h1:=b_ nd sub;have h2:=p.len;simp at h1;omega
def qkB (H:Hp) (kv:Key×V) (yw:Str×List Nat):Prop:=kv.1=Sum.inr yw.1∧∃p,kv.2 = .ref p∧H p=some (.lst (yw.2.map fun n:Nat=>V.int n))
structure gJ (H:Hp) (kvs:List (Key×V)) (R:BR):Prop where
  len:kvs.length=R.length
  ok:∀(i:Nat) kv yw,kvs[i]? = some kv→R[i]? = some yw→qkB H kv yw
theorem gJ.keep {H H':Hp} {kvs:List (Key×V)} {R:BR} (h:gJ H kvs R) (k:∀(p:Addr) (w:List Nat),H p=some (.lst (w.map fun n:Nat=>V.int n))→H' p=some (.lst (w.map fun n:Nat=>V.int n))):gJ H' kvs R:=
  ⟨h.len,fun i kv yw h1 h2=>by
    obtain⟨e,p,e2,q⟩:=h.ok i kv yw h1 h2;exact⟨e,p,e2,k _ _ q⟩⟩
theorem gJ.none {H:Hp} {kvs:List (Key×V)} {R:BR} (h:gJ H kvs R) {y:Str} (hy:¬y∈R.map (·.1)):mZ kvs (Sum.inr y)=Option.none:=by
  unfold mZ;rw[List.find?_eq_none.mpr]
  ·rfl
  · intro kv hk;obtain⟨i,hi⟩:=List.mem_iff_getElem?.mp hk;have hl:i<R.length:=by rw[← h.len];exact(List.getElem?_eq_some_iff.mp hi).1
    obtain⟨e,_⟩:=h.ok i kv R[i] hi (by simp[hl]);simp only[decide_eq_true_eq];intro z;rw[e] at z;cases z;exact hy (List.mem_map.mpr ⟨R[i],List.getElem_mem hl,rfl⟩)
theorem gJ.some {H:Hp} {kvs:List (Key×V)} {R:BR} (h:gJ H kvs R) (nd:(R.map (·.1)).Nodup) {y:Str} {w:List Nat} (hy:(y,w)∈R):∃p,mZ kvs (Sum.inr y)=Option.some (.ref p)∧H p=Option.some (.lst (w.map fun n:Nat=>V.int n)):=by
  obtain⟨i,hi⟩:=List.mem_iff_getElem?.mp hy;have hl:i<kvs.length:=by rw[h.len];exact(List.getElem?_eq_some_iff.mp hi).1
  have hk:kvs[i]? = Option.some kvs[i]:=by simp[hl]
  unfold mZ;have hf:∃kv,kvs.find? (fun kv=>decide (kv.1=Sum.inr y))=Option.some kv:=by
    cases e:kvs.find? (fun kv=>decide (kv.1=Sum.inr y)) with
    | some kv=>exact⟨kv,rfl⟩
    | none=>
      have:=List.find?_eq_none.mp e kvs[i] (List.getElem_mem hl);obtain⟨e1,_⟩:=h.ok i _ _ hk hi;simp[e1] at this
  obtain⟨kv,hkv⟩:=hf;rw[hkv];have hm:=List.mem_of_find?_eq_some hkv;have hp:=List.find?_some hkv;simp only[decide_eq_true_eq] at hp;obtain⟨j,hj⟩:=List.mem_iff_getElem?.mp hm;have hlj:j<R.length:=by rw[← h.len];exact(List.getElem?_eq_some_iff.mp hj).1
  obtain⟨e1,p,e2,e3⟩:=h.ok j kv R[j] hj (by simp[hlj]);rw[hp] at e1;have ey:R[j].1=y:=(Sum.inr.inj e1).symm;have ej:j=i:=xW nd (x:=y) (by rw[List.getElem?_map,show R[j]? = Option.some R[j] by simp[hlj]];simp[ey]) (by rw[List.getElem?_map,hi];rfl);subst ej;have:R[j]=(y,w):=by
    have:=hi;simp[hlj] at this;exact this
  rw[this] at e3;exact⟨p,by simp[e2],e3⟩
theorem gJ.has {H:Hp} {kvs:List (Key×V)} {R:BR} (h:gJ H kvs R) (nd:(R.map (·.1)).Nodup) (y:Str):(mZ kvs (Sum.inr y)).isSome=decide (y∈R.map (·.1)):=by
  by_cases hy:y∈R.map (·.1)
  ·obtain⟨⟨z,w⟩,h1,e⟩:=List.mem_map.mp hy;simp only at e;subst e;obtain⟨p,e,_⟩:=h.some nd h1;rw[e,decide_eq_true hy];rfl
  ·rw[h.none hy,decide_eq_false hy];rfl
theorem gJ.qkC {H:Hp} {kvs:List (Key×V)} {R:BR} (h:gJ H kvs R) (nd:(R.map (·.1)).Nodup) (y:Str):(mZ kvs (Sum.inr y)).isNone = !decide (y∈R.map (·.1)):=by
  rw[← h.has nd y];cases mZ kvs (Sum.inr y) <;> rfl
theorem gJ.snoc {H:Hp} {kvs:List (Key×V)} {R:BR} {y:Str} {w:List Nat} {p:Addr} (h:gJ H kvs R) (hp:H p=Option.some (.lst (w.map fun n:Nat=>V.int n))):gJ H (kvs++[(Sum.inr y,.ref p)]) (R++[(y,w)]):=by
  refine⟨by simp[h.len],fun i kv yw h1 h2=>?_⟩
  by_cases hi:i<kvs.length
  ·rw[List.getElem?_append_left hi] at h1;rw[List.getElem?_append_left (by rw[← h.len];exact hi)] at h2;exact h.ok i kv yw h1 h2
  · rw[List.getElem?_append_right (by omega)] at h1;rw[List.getElem?_append_right (by rw[← h.len];omega),← h.len] at h2;cases hk:i - kvs.length with
    | zero=>
      rw[hk] at h1 h2;cases h1;cases h2;exact⟨rfl,p,rfl,hp⟩
    | succ j=>
      rw[hk] at h1;simp at h1
def qft (i:Nat) (σ:St):Nat:=match σ[i]? with | some (some (V.int n))=>(10 - n).toNat | _=>0
theorem bT (x:Str) (xs:List Str):inV (.str x) (xs.map V.str)=decide (x∈xs):=by
  unfold inV;rw[List.any_map,Bool.eq_iff_iff,List.any_eq_true,decide_eq_true_eq];constructor
  ·rintro⟨y,hy,e⟩;simp[R7] at e;exact e▸hy
  ·intro h;exact⟨x,h,by simp[R7]⟩
theorem cI (xs:List Str):(xs.map V.str).all jK=true:=by
  rw[List.all_map,List.all_eq_true];intro x _;rfl
open Classical in
def oF (S:List kE) (xs:List Str) (x:Str):List Str:=xs.filter fun y=>decide (RT (g_ S) x y)
theorem Bt {S:List kE} {xs:List Str} {x y:Str}:y∈oF S xs x↔y∈xs∧RT (g_ S) x y:=by
  unfold oF;simp
theorem QT {S:List kE} {xs:List Str} {x:Str}:(oF S xs x).length≤xs.length:=List.length_filter_le _ _
theorem WD {S:List kE} {xs:List Str} {x y:Str} {i:Nat} (h:xs[i]? = some y) (b:Bool) (hb:b=true↔RT (g_ S) x y):oF S (xs.take (i+1)) x=oF S (xs.take i) x++if b=true then [y] else []:=by
  unfold oF;rw[take_one h,List.filter_append];congr 1
  by_cases hr:RT (g_ S) x y
  ·rw[if_pos (hb.mpr hr)];simp[hr]
  ·rw[if_neg fun z=>hr (hb.mp z)];simp[hr]
def gH (S:List kE) (xs:List Str) (acc:List (List Str)) (x:Str):List (List Str):=if (acc.any fun c=>decide (x∈c))=true then acc else acc++[oF S xs x]
def Bl (S:List kE) (xs ys:List Str):List (List Str):=ys.foldl (gH S xs) []
theorem S_ {S:List kE} {xs ys:List Str} {x:Str} {i:Nat} (h:ys[i]? = some x):Bl S xs (ys.take (i+1))=gH S xs (Bl S xs (ys.take i)) x:=by
  unfold Bl;rw[take_one h,List.foldl_append];rfl
theorem Le {S:List kE} {xs:List Str}:∀(ys:List Str) (acc:List (List Str)),(ys.foldl (gH S xs) acc).length≤acc.length+ys.length
  | [],acc=>by simp
  | y::ys,acc=>by
    have h1:=Le (S:=S) (xs:=xs) ys (gH S xs acc y);have h2:(gH S xs acc y).length≤acc.length+1:=by
      unfold gH;split <;> simp
    simp only[List.foldl_cons,List.length_cons];omega
theorem Lg {S:List kE} {xs:List Str}:∀(ys:List Str) (acc:List (List Str)),(∀c∈acc,∃x∈xs,c=oF S xs x)→(∀y∈ys,y∈xs)→∀c∈ys.foldl (gH S xs) acc,∃x∈xs,c=oF S xs x
  | [],acc,h,_=>h
  | y::ys,acc,h,hy=>by
    refine Lg ys _ ?_ fun z hz=>hy z (List.mem_cons_of_mem _ hz);intro c hc;unfold gH at hc;split at hc
    ·exact h c hc
    · rcases List.mem_append.mp hc with q | q
      ·exact h c q
      ·simp at q;exact⟨y,hy y List.mem_cons_self,q⟩
end L2
namespace L2
open PySem PySem.Spec PyProof.Rows
@[simp] theorem qjm (i:Int):Bj (.int i) .non=true:=rfl
@[simp] theorem qjn (i:Int):Bj .non (.int i)=true:=rfl
@[simp] theorem qjo (i:Str):Bj (.str i) .non=true:=rfl
theorem yc:∀a b:List Str,PyData.eqvAll (jr a) (jr b)=decide (a=b)
  | [],[]=>rfl
  | [],y::b=>by simp[jr,PyData.eqvAll]
  | x::a,[]=>by simp[jr,PyData.eqvAll]
  | x::a,y::b=>by
    show(PyData.eqv (.str x) (.str y) && PyData.eqvAll (jr a) (jr b))=_;rw[yc a b,Bool.eq_iff_iff];simp[PyData.eqv]
theorem WK {ps:List (Str×Str)} {xs:List Str} {start:Str} (hs:start∈xs) (hps:∀e∈ps,e.1∈xs∧e.2∈xs) :
    (xs.filter fun y=>decide (y∈dz (fun _=>true) ps start xs.length))=oF (aN (fun _=>none) ps 0) xs start:=by
  unfold oF;refine List.filter_congr fun y _=>?_;have h1:=La (P:=fun _=>true) hs hps y;have h2:RT (fX (fun k=>(fun _:Nat=>true) k=true) ps) start y↔RT (g_ (aN (fun _=>none) ps 0)) start y:=
    ⟨RT.mono fun a b h=>Hr.mpr (by obtain⟨k,_,q⟩:=h;exact⟨k,trivial,q⟩),RT.mono fun a b h=>by obtain⟨k,_,q⟩:=Hr.mp h;exact⟨k,rfl,q⟩⟩
  have h3:=h1.trans h2;simp[h3]
end L2
namespace L2
open PySem
def k_ {α β:Type} (f:α→Nat→List β):List α→Nat→List β
  | [],_=>[]
  | e::r,k=>f e k++k_ f r (k+1)
theorem Aw {α β:Type} (f:α→Nat→List β):∀(l m:List α) (k:Nat),k_ f (l++m) k=k_ f l k++k_ f m (k+l.length)
  | [],m,k=>by simp[k_]
  | e::l,m,k=>by
    simp only[List.cons_append,k_,Aw f l m (k+1),List.append_assoc,List.length_cons];rw[show k+1+l.length=k+(l.length+1) by omega]
theorem Ht {α β:Type} (f:α→Nat→List β) {ps:List α} {i:Nat} {e:α} (h:ps[i]? = some e):k_ f (ps.take (i+1)) 0=k_ f (ps.take i) 0++f e i:=by
  have hi:i<ps.length:=(List.getElem?_eq_some_iff.mp h).1;rw[take_one h,Aw,List.length_take,Nat.min_eq_left (Nat.le_of_lt hi),Nat.zero_add];simp[k_]
theorem Lh {α β:Type} {f:α→Nat→List β}:∀{ps:List α} {k:Nat} {s:β},s∈k_ f ps k↔∃j e,ps[j]? = some e∧s∈f e (k+j)
  | [],k,s=>by simp[k_]
  | e::r,k,s=>by
    simp only[k_,List.mem_append,Lh (ps:=r)];constructor
    · rintro(h | ⟨j,e',h1,h2⟩)
      ·exact⟨0,e,rfl,h⟩
      ·exact⟨j+1,e',by simpa using h1,by rw[show k+(j+1)=k+1+j by omega];exact h2⟩
    · rintro⟨j,e',h1,h2⟩;cases j with
      | zero=>simp at h1;subst h1;exact .inl h2
      | succ j=>exact .inr ⟨j,e',by simpa using h1,by rw[show k+1+j=k+(j+1) by omega];exact h2⟩
theorem Df {α β:Type} {f:α→Nat→List β} (hf:∀e k,(f e k).length≤1):∀(ps:List α) (k:Nat),(k_ f ps k).length≤ps.length
  | [],_=>by simp[k_]
  | e::r,k=>by
    have h1:=Df hf r (k+1);have h2:=hf e k;simp only[k_,List.length_append,List.length_cons];omega
def Li (k:Nat) (s:kE):Bool:=decide (s.1≠k)
def nO (ps:List (Str×Str)) (xs:List Str) (k:Nat) (b:Str):List Str:=oF ((aN (fun _=>none) ps 0).filter (Li k)) xs b
def jR (ps:List (Str×Str)) (xs:List Str) (e:Str×Str) (k:Nat):List (Nat×List Str):=if e.1∈nO ps xs k e.2 then [] else [(k,nO ps xs k e.2)]
def fO (ps:List (Str×Str)) (xs:List Str):List (Nat×List Str):=k_ (jR ps xs) ps 0
theorem Tc (ps:List (Str×Str)) (xs:List Str) (e:Str×Str) (k:Nat):(jR ps xs e k).length≤1:=by
  unfold jR;split <;> simp
theorem WL {ps:List (Str×Str)} {xs:List Str} {b:Str} {k:Nat} (hs:b∈xs) (hps:∀e∈ps,e.1∈xs∧e.2∈xs) :
    (xs.filter fun y=>decide (y∈dz (fun j=>decide (j≠k)) ps b xs.length))=nO ps xs k b:=by
  unfold nO oF;refine List.filter_congr fun y _=>?_;have h1:=La (P:=fun j=>decide (j≠k)) hs hps y;have h2:RT (fX (fun j=>(fun j=>decide (j≠k)) j=true) ps) b y↔RT (g_ ((aN (fun _=>none) ps 0).filter (Li k))) b y:=
    ⟨RT.mono fun a b h=>(nJ (P:=fun j=>j≠k)).mpr (by obtain⟨j,hj,q⟩:=h;exact⟨j,of_decide_eq_true hj,q⟩),RT.mono fun a b h=>by obtain⟨j,hj,q⟩:=(nJ (P:=fun j=>j≠k)).mp h;exact⟨j,decide_eq_true hj,q⟩⟩
  have h3:=h1.trans h2;exact decide_eq_decide.mpr h3
theorem Hu {ps:List (Str×Str)} {xs:List Str} {b y:Str} {k:Nat}:y∈nO ps xs k b↔y∈xs∧RT (fX (fun j=>j≠k) ps) b y:=by
  unfold nO;rw[Bt];have:RT (g_ ((aN (fun _=>none) ps 0).filter (Li k))) b y↔RT (fX (fun j=>j≠k) ps) b y:=⟨RT.mono (S:=fX (fun j=>j≠k) ps) fun a b h=>nJ.mp h,RT.mono (R:=fX (fun j=>j≠k) ps) fun a b h=>nJ.mpr h⟩;rw[this]
def zy (H:Hp) (v:V) (z:Addr×Nat×List Str):Prop:=∃t,v = .ref t∧H t=some (.tup [.int z.2.1,.ref z.1])∧H z.1=some (.lst (z.2.2.map V.str))
theorem zy.same {H H':Hp} {vs:List V} {zs:List (Addr×Nat×List Str)} (h:bN zy H vs zs) (k:Same H H'):bN zy H' vs zs:=bN.keep h fun v s ⟨t,e,q,r⟩=>⟨t,e,k _ _ q,k _ _ r⟩
theorem zy.there {H:Hp} {vs:List V} {zs:List (Addr×Nat×List Str)} (h:bN zy H vs zs):∀z∈zs,H z.1=some (.lst (z.2.2.map V.str)):=fun z hz=>by
  obtain⟨i,hi⟩:=List.mem_iff_getElem?.mp hz;have hl:i<vs.length:=by rw[h.1];exact(List.getElem?_eq_some_iff.mp hi).1
  obtain⟨t,_,_,r⟩:=h.2 i vs[i] z (by simp[hl]) hi;exact r
end L2
set_option maxHeartbeats 4000000
namespace L2
open PySem PySem.Spec PyProof.Rows
section
variable {prog:Program} {w:World} {A:Around} {E:Value→Shared→Prop} {s:Shared}
end
structure Nm3 (mg:Str→Option Value):Prop where
  sum:mg "sum" = none
theorem boot_sum:bootBuiltins "sum" = some (.builtin "sum"):=by decide+kernel
section
variable {X:Cx} {K:W.Frag}
theorem qkD (hK:X.K=K):Zy X (ZF K):=by subst hK;exact ZG
@[simp ↓] theorem qjp (K:W.Frag) x lo hi H Q:ZF K x lo hi H Q=(∃a xs,x = .ref a∧aX K H a xs∧∀p,H p=none→Q (.ref p) (upd H p (.lst (tY xs lo hi)))):=rfl
end
def isInt (x:V) (R:Int→Prop):Prop:=match x with | .int i=>R i | _=>False
def isStr (x:V) (R:Str→Prop):Prop:=match x with | .str i=>R i | _=>False
def tG (x:V) (R:Bool→Prop):Prop:=match x with | .bl i=>R i | _=>False
def isRef (x:V) (R:Addr→Prop):Prop:=match x with | .ref i=>R i | _=>False
def Td (x:V) (R:String→Prop):Prop:=match x with | .ty n=>R n | _=>False
def ar0 (xs:List V) (R:Prop):Prop:=match xs with | []=>R | _=>False
def ar1 (xs:List V) (R:V→Prop):Prop:=match xs with | [x]=>R x | _=>False
def ar2 (xs:List V) (R:V→V→Prop):Prop:=match xs with | [x,y]=>R x y | _=>False
def arH (xs:List V) (R:V→List V→Prop):Prop:=match xs with | x::r=>R x r | []=>False
def getSt:St→Nat→(V→Prop)→Prop
  | [],_,_=>False
  | o::_,0,R=>match o with | some v=>R v | none=>False
  | _::σ,n+1,R=>getSt σ n R
@[simp ↓] theorem qjq (i:Int) R:isInt (.int i) R=R i:=rfl
@[simp ↓] theorem qjr (i:Str) R:isStr (.str i) R=R i:=rfl
@[simp ↓] theorem qkE (i:Bool) R:tG (.bl i) R=R i:=rfl
@[simp ↓] theorem qjs (i:Addr) R:isRef (.ref i) R=R i:=rfl
@[simp ↓] theorem qkF (i:String) R:Td (.ty i) R=R i:=rfl
@[simp ↓] theorem qnr R:ar0 [] R=R:=rfl
@[simp ↓] theorem qns x R:ar1 [x] R=R x:=rfl
@[simp ↓] theorem qnt x y R:ar2 [x,y] R=R x y:=rfl
@[simp ↓] theorem qnu x r R:arH (x::r) R=R x r:=rfl
@[simp ↓] theorem qjt v σ R:getSt (some v::σ) 0 R=R v:=rfl
@[simp ↓] theorem qju o σ n R:getSt (o::σ) (n+1) R=getSt σ n R:=rfl
theorem isInt.out {x:V} {R} (h:isInt x R):∃i,x = .int i∧R i:=by cases x <;> first | exact⟨_,rfl,h⟩ | exact h.elim
theorem isStr.out {x:V} {R} (h:isStr x R):∃i,x = .str i∧R i:=by cases x <;> first | exact⟨_,rfl,h⟩ | exact h.elim
theorem tG.out {x:V} {R} (h:tG x R):∃i,x = .bl i∧R i:=by cases x <;> first | exact⟨_,rfl,h⟩ | exact h.elim
theorem isRef.out {x:V} {R} (h:isRef x R):∃i,x = .ref i∧R i:=by cases x <;> first | exact⟨_,rfl,h⟩ | exact h.elim
theorem Td.out {x:V} {R} (h:Td x R):∃i,x = .ty i∧R i:=by cases x <;> first | exact⟨_,rfl,h⟩ | exact h.elim
theorem ar0.out {xs:List V} {R} (h:ar0 xs R):xs=[]∧R:=by cases xs <;> first | exact⟨rfl,h⟩ | exact h.elim
theorem ar1.out {xs:List V} {R} (h:ar1 xs R):∃x,xs=[x]∧R x:=by
  match xs,h with
  | [x],h=>exact⟨x,rfl,h⟩
theorem ar2.out {xs:List V} {R} (h:ar2 xs R):∃x y,xs=[x,y]∧R x y:=by
  match xs,h with
  | [x,y],h=>exact⟨x,y,rfl,h⟩
theorem arH.out {xs:List V} {R} (h:arH xs R):∃x r,xs=x::r∧R x r:=by cases xs <;> first | exact⟨_,_,rfl,h⟩ | exact h.elim
theorem getSt.out:∀{σ:St} {i:Nat} {R},getSt σ i R→∃v,σ[i]? = some (some v)∧R v
  | [],_,_,h=>h.elim
  | some v::_,0,_,h=>⟨v,rfl,h⟩
  | none::_,0,_,h=>h.elim
  | _::σ,n+1,R,h=>by
    obtain⟨v,e,q⟩:=getSt.out (σ:=σ) (i:=n) h;exact⟨v,by simpa using e,q⟩
section
variable {X:Cx}
theorem PE.mono {e:Expr} {t t':TE} (o:PE X e t) (h:∀{σ H Q},t' σ H Q→t σ H Q):PE X e t':=fun p_ s σ H Q I q=>o p_ s σ H Q I (h q)
theorem PS.mono {e:Stmt} {t t':TS} (o:PS X e t) (h:∀{D σ H},t' D σ H→t D σ H):PS X e t':=fun p_ s σ H D I q=>o p_ s σ H D I (h q)
theorem fL.mono {e:List Expr} {t t':Cp} (o:fL X e t) (h:∀{v σ H Q},t' v σ H Q→t v σ H Q):fL X e t':=fun p_ s σ H v u Q I r q=>o p_ s σ H v u Q I r (h q)
theorem jk.mono {f:Value→Value→Sem Value} {r r':R2} (o:jk X f r) (h:∀{x y H Q},r' x y H Q→r x y H Q):jk X f r':=fun p_ s σ H x y v u Q I rx ry q=>o p_ s σ H x y v u Q I rx ry (h q)
theorem UnR.mono {f:Value→Sem Value} {r r':V→Hp→VK→Prop} (o:UnR X f r) (h:∀{x H Q},r' x H Q→r x H Q):UnR X f r':=fun p_ s σ H x v Q I rx q=>o p_ s σ H x v Q I rx (h q)
theorem cP.mono {f:Value} {r r':List V→Hp→VK→Prop} (o:cP X f r) (h:∀{x H Q},r' x H Q→r x H Q):cP X f r':=fun p_ s σ H x v Q I rx q=>o p_ s σ H x v Q I rx (h q)
theorem R6.mono {f:String} {r r':V→List V→Hp→VK→Prop} (o:R6 X f r) (h:∀{x y H Q},r' x y H Q→r x y H Q):R6 X f r':=fun p_ s σ H x y v u Q I rx ry q=>o p_ s σ H x y v u Q I rx ry (h q)
theorem V0.mono {r r':R2} (o:V0 X r) (h:∀{x y H Q},r' x y H Q→r x y H Q):V0 X r':=fun a b p_ s σ H x y v u Q I rx ry q z=>o a b p_ s σ H x y v u Q I rx ry (h q) z
theorem Zy.mono {r r':V→Option Int→Option Int→Hp→VK→Prop} (o:Zy X r) (h:∀{x lo hi H Q},r' x lo hi H Q→r x lo hi H Q):Zy X r':=fun p_ s σ H x v vl vu lo hi sl Q I rx z1 z2 z3 q=>o p_ s σ H x v vl vu lo hi sl Q I rx z1 z2 z3 (h q)
theorem PIp.mono {op:Operator} {r r':Zk} (o:PIp X op r) (h:∀{x y H Q},r' x y H Q→r x y H Q):PIp X op r':=fun p_ s σ H x y v u Q I rx ry q=>o p_ s σ H x y v u Q I rx ry (h q)
theorem RN.mono {r r':RM} (o:RN X r) (h:∀{x y z H Q},r' x y z H Q→r x y z H Q):RN X r':=fun p_ s σ H o' i v ov iv u Q I a b c q=>o p_ s σ H o' i v ov iv u Q I a b c (h q)
end
def fVar (i:Nat):TE:=fun σ H Q=>getSt σ i fun v=>Q v H
@[simp ↓] theorem qkG (i:Nat) σ H Q:fVar i σ H Q=getSt σ i (fun v=>Q v H):=rfl
theorem qcM {i:Nat} {σ H Q} (h:fVar i σ H Q):qbR i σ H Q:=getSt.out h
def lg:List Str→List V→St
  | _::N,v::vs=>some v::lg N vs
  | _::N,[]=>none::lg N []
  | [],_=>[]
@[simp ↓] theorem qeD n N v vs:lg (n::N) (v::vs)=some v::lg N vs:=rfl
@[simp ↓] theorem qeE n N:lg (n::N) []=none::lg N []:=rfl
@[simp ↓] theorem qfu vs:lg [] vs=[]:=by cases vs <;> rfl
theorem qK:∀(N:List Str) (vs:List V),vs.length≤N.length→lg N vs=start N vs
  | [],[],_=>rfl
  | [],_::_,h=>by simp at h
  | n::N,[],_=>by
    rw[lg,qK N [] (by simp)];simp[start,List.replicate_succ]
  | n::N,v::vs,h=>by
    rw[lg,qK N vs (by simpa using h)];simp[start]
def WM (g:Int→Int→V):R2:=fun x y H Q=>isInt x fun i=>isInt y fun j=>Q (g i j) H
def fI (C:Int→Int→Prop) (g:Int→Int→V):R2:=fun x y H Q=>isInt x fun i=>isInt y fun j=>C i j∧Q (g i j) H
def fU (g:Int→V):V→Hp→VK→Prop:=fun x H Q=>isInt x fun i=>Q (g i) H
@[simp ↓] theorem qnv g x y H Q:WM g x y H Q=(isInt x fun i=>isInt y fun j=>Q (g i j) H):=rfl
@[simp ↓] theorem qn1 C g x y H Q:fI C g x y H Q=(isInt x fun i=>isInt y fun j=>C i j∧Q (g i j) H):=rfl
@[simp ↓] theorem qn2 g x H Q:fU g x H Q=(isInt x fun i=>Q (g i) H):=rfl
theorem Lj {g:Int→Int→V} {x y H Q} (h:WM g x y H Q):rI0 g x y H Q:=by
  obtain⟨i,rfl,h1⟩:=isInt.out h;obtain⟨j,rfl,h2⟩:=isInt.out h1;exact⟨i,j,rfl,rfl,h2⟩
theorem qaa {C} {g:Int→Int→V} {x y H Q} (h:fI C g x y H Q):rI C g x y H Q:=by
  obtain⟨i,rfl,h1⟩:=isInt.out h;obtain⟨j,rfl,h2⟩:=isInt.out h1;exact⟨i,j,rfl,rfl,h2⟩
theorem qkH {g:Int→V} {x H Q} (h:fU g x H Q):rU g x H Q:=by
  obtain⟨i,rfl,h⟩:=isInt.out h;exact⟨i,rfl,h⟩
def fEq:R2:=fun x y H Q=>match x,y with
  | .int i,.int j=>Q (.bl (decide (i=j))) H
  | .str i,.str j=>Q (.bl (decide (i=j))) H
  | .bl i,.bl j=>Q (.bl (decide (i=j))) H
  | x,y=>Bj x y=true∧Q (.bl (decide (x=y))) H
def fNe:R2:=fun x y H Q=>match x,y with
  | .int i,.int j=>∃k,decide (i=j) = !k∧Q (.bl k) H
  | .str i,.str j=>∃k,decide (i=j) = !k∧Q (.bl k) H
  | .bl i,.bl j=>∃k,decide (i=j) = !k∧Q (.bl k) H
  | x,y=>Bj x y=true∧∃k,decide (x=y) = !k∧Q (.bl k) H
@[simp ↓] theorem qnw i j H Q:fEq (.int i) (.int j) H Q=Q (.bl (decide (i=j))) H:=rfl
@[simp ↓] theorem qnx i j H Q:fEq (.str i) (.str j) H Q=Q (.bl (decide (i=j))) H:=rfl
@[simp ↓] theorem qny i j H Q:fEq (.bl i) (.bl j) H Q=Q (.bl (decide (i=j))) H:=rfl
@[simp ↓] theorem qfv i j H Q:fNe (.int i) (.int j) H Q=∃k,decide (i=j) = !k∧Q (.bl k) H:=rfl
@[simp ↓] theorem qnz i j H Q:fNe (.str i) (.str j) H Q=∃k,decide (i=j) = !k∧Q (.bl k) H:=rfl
@[simp ↓] theorem qnA i j H Q:fNe (.bl i) (.bl j) H Q=∃k,decide (i=j) = !k∧Q (.bl k) H:=rfl
theorem zA {b:Bool} {R:Bool→Prop} (h:∃k,b = !k∧R k):R (!b):=by
  obtain⟨k,e,q⟩:=h;rw[e,Bool.not_not];exact q
theorem qfw {x y H Q} (h:fEq x y H Q):rEq x y H Q:=by
  unfold fEq at h;split at h
  ·exact⟨rfl,by simpa using h⟩
  ·exact⟨rfl,by simpa using h⟩
  ·exact⟨rfl,by simpa using h⟩
  ·exact h
theorem qfx {x y H Q} (h:fNe x y H Q):rNe x y H Q:=by
  unfold fNe at h;split at h
  ·exact⟨rfl,by simpa using zA (R:=fun k=>Q (.bl k) H) h⟩
  ·exact⟨rfl,by simpa using zA (R:=fun k=>Q (.bl k) H) h⟩
  ·exact⟨rfl,by simpa using zA (R:=fun k=>Q (.bl k) H) h⟩
  ·exact⟨h.1,zA (R:=fun k=>Q (.bl k) H) h.2⟩
def WQ:R2:=fun x y H Q=>isStr x fun i=>isStr y fun j=>i.length+j.length≤sizeLine∧Q (.str (i++j)) H
@[simp ↓] theorem qjv x y H Q:WQ x y H Q=(isStr x fun i=>isStr y fun j=>i.length+j.length≤sizeLine∧Q (.str (i++j)) H):=rfl
theorem qab {x y H Q} (h:WQ x y H Q):qe9 x y H Q:=by
  obtain⟨i,rfl,h1⟩:=isStr.out h;obtain⟨j,rfl,h2⟩:=isStr.out h1;exact⟨i,j,rfl,rfl,h2⟩
def qcN:R2:=fun x y H Q=>isRef x fun l=>isRef y fun b=>∃xs,H l=some (.lst xs)∧∃zs,H b=some (.lst zs)∧xs.length+zs.length≤sizeLine∧∀p,H p=none→Q (.ref p) (upd H p (.lst (xs++zs)))
@[simp ↓] theorem qkI x y H Q:qcN x y H Q=(isRef x fun l=>isRef y fun b=>∃xs,H l=some (.lst xs)∧∃zs,H b=some (.lst zs)∧xs.length+zs.length≤sizeLine∧∀p,H p=none→Q (.ref p) (upd H p (.lst (xs++zs)))):=rfl
theorem qcO {x y H Q} (h:qcN x y H Q):qe5 x y H Q:=by
  obtain⟨i,rfl,h0⟩:=isRef.out h;obtain⟨j,rfl,xs,h1,zs,h2,h3⟩:=isRef.out h0;exact⟨i,j,xs,zs,rfl,rfl,h1,h2,h3⟩
def uh (t:TE):TT:=fun σ H Q=>t σ H fun x H'=>tG x fun k=>Q k H'
@[simp ↓] theorem qjw (t:TE) σ H Q:uh t σ H Q=(t σ H fun x H'=>tG x fun k=>Q k H'):=rfl
def WR (ta:TE):TE:=fun σ H Q=>ta σ H fun x H1=>tG x fun c=>Q (.bl (!c)) H1
@[simp ↓] theorem qjx (ta:TE) σ H Q:WR ta σ H Q=(ta σ H fun x H1=>tG x fun c=>Q (.bl (!c)) H1):=rfl
def WT (ta tb:TE):TE:=fun σ H Q=>ta σ H fun x H1=>tG x fun c=>dI c (tb σ H1 Q) (Q (.bl false) H1) ⟨0⟩
@[simp ↓] theorem qjy (ta tb:TE) σ H Q:WT ta tb σ H Q=(ta σ H fun x H1=>tG x fun c=>dI c (tb σ H1 Q) (Q (.bl false) H1) ⟨0⟩):=rfl
def Ju (r r':R2) (ta tb tc:TE):TE:=fun σ H Q=>ta σ H fun x H1=>tb σ H1 fun y H2=>r x y H2 fun z H3=>tG z fun k=>dI k (tc σ H3 fun w' H4=>r' y w' H4 Q) (Q (.bl false) H3) ⟨0⟩
@[simp ↓] theorem qfy (r r':R2) (ta tb tc:TE) σ H Q:Ju r r' ta tb tc σ H Q=(ta σ H fun x H1=>tb σ H1 fun y H2=>r x y H2 fun z H3=>tG z fun k=>dI k (tc σ H3 fun w' H4=>r' y w' H4 Q) (Q (.bl false) H3) ⟨0⟩):=rfl
section
variable {X:Cx} {K:W.Frag} {a b c:Expr} {ta tb tc:TE} {tA:TT} {pos:Pos}
theorem aH (i:Nat) {x:Str} {pos:Pos} (hN:X.N[i]? = some x:=by rfl) (hv:Vis X.env.scope x:=by first | exact Or.inl rfl | exact Or.inr (Or.inl rfl) | exact Or.inr (Or.inr rfl)) (hd:(x == ("__debug__" : Str))=false:=by decide)
    (hcd:(x == ("__classdict__" : Str))=false:=by decide):PE X (.Name x pos) (fVar i):=(qbS hN hv hd hcd).mono qcM
theorem lK:jk X (binaryOp .Add) (WM fun i j=>.int (i+j)):=qb7.mono Lj
theorem yd:jk X (binaryOp .Sub) (WM fun i j=>.int (i - j)):=qb8.mono Lj
theorem zB:jk X (compareOp .Lt) (WM fun i j=>.bl (decide (i<j))):=qeY.mono Lj
theorem Dg:jk X (compareOp .LtE) (WM fun i j=>.bl (decide (i≤j))):=qeZ.mono Lj
theorem vY:jk X (compareOp .Gt) (WM fun i j=>.bl (decide (j<i))):=qe0.mono Lj
theorem jD:jk X (compareOp .Eq) fEq:=qeW.mono qfw
theorem nP:jk X (compareOp .NotEq) fNe:=qeX.mono qfx
theorem Lk:jk X (binaryOp .Add) WQ:=Nz.mono qab
theorem m5:jk X (binaryOp .Add) qcN:=qcq.mono qcO
theorem jT:UnR X (unaryOp .USub) (fU fun i=>.int (-i)):=qcb.mono qkH
theorem yg (x:V) (R:Bool→Prop):tG x R=(∃k,x = .bl k∧R k):=propext ⟨tG.out,fun⟨k,e,q⟩=>by subst e;exact q⟩
theorem WW (x:V) (R:Int→Prop):isInt x R=(∃k,x = .int k∧R k):=propext ⟨isInt.out,fun⟨k,e,q⟩=>by subst e;exact q⟩
theorem Ln (x:V) (R:Addr→Prop):isRef x R=(∃k,x = .ref k∧R k):=propext ⟨isRef.out,fun⟨k,e,q⟩=>by subst e;exact q⟩
theorem WX (x:V) (R:Str→Prop):isStr x R=(∃k,x = .str k∧R k):=propext ⟨isStr.out,fun⟨k,e,q⟩=>by subst e;exact q⟩
theorem qcP (x:List V) (R:V→List V→Prop):arH x R=(∃k j,x=k::j∧R k j):=propext ⟨arH.out,fun⟨k,j,e,q⟩=>by subst e;exact q⟩
theorem Lq (t:TE):uh t=Qv t:=by
  funext σ H Q
  exact congrArg (t σ H) (funext fun x=>funext fun H'=>yg _ _)
theorem qbg (t:TE):uh t=tB t:=by
  funext σ H Q
  exact congrArg (t σ H) (funext fun x=>funext fun H'=>yg _ _)
theorem WY (t:TE):WR t=Vn t:=by
  funext σ H Q
  exact congrArg (t σ H) (funext fun x=>funext fun H'=>yg _ _)
theorem W0 (t u:TE):WT t u=Vm t u:=by
  funext σ H Q
  exact congrArg (t σ H) (funext fun x=>funext fun H'=>yg _ _)
theorem Hv (r r':R2) (ta tb tc:TE):Ju r r' ta tb tc=Iw r r' ta tb tc:=by
  funext σ H Q
  exact congrArg (ta σ H) (funext fun x=>funext fun H1=>congrArg (tb σ H1) (funext fun y=>funext fun H2=>congrArg (r x y H2) (funext fun z=>funext fun H3=>yg _ _)))
theorem aW {op:CmpOp} {r:R2} (ho:jk X (compareOp op) r) (ha:PE X a ta) (hb:PE X b tb) (hm:behindInMarks op b=false):PT X (.Compare a [op] [b] pos) (uh (Y6 r ta tb)):=Lq _▸Zv ho ha hb hm
theorem Jv {op:CmpOp} {t:TE} (h:PC X op a b t) (h1:behindInMarks op b=false:=by first | exact KC _ (by decide) (by decide) | rfl):PT X (.Compare a [op] [b] pos) (uh t):=qbg _▸qbU h h1
theorem cG {e:Expr} {t:TE} (h:PE X e t) (he:∀whole,isTrue e X.env whole=(do let v ← whole;standAt e.pos;holding [v] (truthy v)):=by intro _;rfl):PT X e (uh t):=qbg _▸qbV h he
theorem Tf {op op':CmpOp} {r r':R2} (ho:jk X (compareOp op) r) (ho':jk X (compareOp op') r') (ha:PE X a ta) (hb:PE X b tb) (hc:PE X c tc)
    (hm:lastMarks [op,op'] [b,c]=false:=by with_unfolding_all rfl):PE X (.Compare a [op,op'] [b,c] pos) (Ju r r' ta tb tc):=Hv _ _ _ _ _▸Vx ho ho' ha hb hc hm
theorem Hw {op op':CmpOp} {r r':R2} (ho:jk X (compareOp op) r) (ho':jk X (compareOp op') r') (ha:PE X a ta) (hb:PE X b tb) (hc:PE X c tc)
    (hm:lastMarks [op,op'] [b,c]=false:=by with_unfolding_all rfl):PT X (.Compare a [op,op'] [b,c] pos) (uh (Ju r r' ta tb tc)):=by
  rw[Lq,Hv];exact Vy ho ho' ha hb hc hm
theorem Bu (ha:PE X a ta):PE X (.UnaryOp .Not a pos) (WR ta):=WY _▸qbX ha
theorem jU {rest:List Expr} (ha:PE X a ta) (hb:PE X (.BoolOp .And (b::rest) pos) tb):PE X (.BoolOp .And (a::b::rest) pos) (WT ta tb):=W0 _ _▸qbW ha hb
end
def qcQ (K:W.Frag):R2:=fun x y H Q=>isRef x fun p=>isInt y fun i=>∃xs,(aX K H p xs∨d9 K H p xs)∧∃v,xK xs i=some v∧Q v H
@[simp ↓] theorem qkJ (K:W.Frag) x y H Q:qcQ K x y H Q=(isRef x fun p=>isInt y fun i=>∃xs,(aX K H p xs∨d9 K H p xs)∧∃v,xK xs i=some v∧Q v H):=rfl
theorem qcR {K:W.Frag} {x y H Q} (h:qcQ K x y H Q):qcy K x y H Q:=by
  obtain⟨p,rfl,h1⟩:=isRef.out h;obtain⟨i,rfl,xs,h2,v,h3,h4⟩:=isInt.out h1;exact⟨p,xs,i,v,rfl,rfl,h2,h3,h4⟩
def qcS  : R2:=fun x y H Q=>isStr x fun z=>isInt y fun i=>z.length≤sizeLine∧∃c,xK z.cps.toList i=some c∧Q (.str ⟨#[c]⟩) H
@[simp ↓] theorem qkK  x y H Q:qcS x y H Q=(isStr x fun z=>isInt y fun i=>z.length≤sizeLine∧∃c,xK z.cps.toList i=some c∧Q (.str ⟨#[c]⟩) H):=rfl
theorem qcT  {x y H Q} (h:qcS x y H Q):qe3 x y H Q:=by
  obtain⟨z,rfl,h1⟩:=isStr.out h;obtain⟨i,rfl,h2,c,h3,h4⟩:=isInt.out h1;exact⟨z,i,c,rfl,rfl,h2,h3,h4⟩
def Dh (K:W.Frag):List V→Hp→VK→Prop:=fun xs H Q=>ar1 xs fun x=>isRef x fun p=>∃ys,(aX K H p ys∨d9 K H p ys)∧Q (.int ys.length) H
@[simp ↓] theorem qjz (K:W.Frag) xs H Q:Dh K xs H Q=(ar1 xs fun x=>isRef x fun p=>∃ys,(aX K H p ys∨d9 K H p ys)∧Q (.int ys.length) H):=rfl
theorem qac {K:W.Frag} {xs H Q} (h:Dh K xs H Q):qa9 K xs H Q:=by
  obtain⟨x,rfl,h1⟩:=ar1.out h;obtain⟨p,rfl,ys,h2,h3⟩:=isRef.out h1;exact⟨p,ys,rfl,h2,h3⟩
def W2  : List V→Hp→VK→Prop:=fun xs H Q=>ar1 xs fun x=>isStr x fun z=>z.length≤sizeLine∧Q (.int z.length) H
@[simp ↓] theorem qjA  xs H Q:W2 xs H Q=(ar1 xs fun x=>isStr x fun z=>z.length≤sizeLine∧Q (.int z.length) H):=rfl
theorem qad  {xs H Q} (h:W2 xs H Q):qa_ xs H Q:=by
  obtain⟨x,rfl,h1⟩:=ar1.out h;obtain⟨p,rfl,h2⟩:=isStr.out h1;exact⟨p,rfl,h2⟩
def Jw (K:W.Frag):List V→Hp→VK→Prop:=fun xs H Q=>ar1 xs fun x=>isRef x fun p=>∃ys,(aX K H p ys∨d9 K H p ys)∧∀l,H l=none→Q (.ref l) (upd H l (.lst ys))
@[simp ↓] theorem qeF (K:W.Frag) xs H Q:Jw K xs H Q=(ar1 xs fun x=>isRef x fun p=>∃ys,(aX K H p ys∨d9 K H p ys)∧∀l,H l=none→Q (.ref l) (upd H l (.lst ys))):=rfl
theorem Tg {K:W.Frag} {xs H Q} (h:Jw K xs H Q):QH K xs H Q:=by
  obtain⟨x,rfl,h1⟩:=ar1.out h;obtain⟨p,rfl,ys,h2,h3⟩:=isRef.out h1;exact⟨p,ys,rfl,h2,h3⟩
def Jx  : List V→Hp→VK→Prop:=fun xs H Q=>ar1 xs fun x=>isRef x fun p=>∃ys,Sq H p ys∧∀l H',H' l=some (.tup ys)→Same H H'→Q (.ref l) H'
@[simp ↓] theorem qeG  xs H Q:Jx xs H Q=(ar1 xs fun x=>isRef x fun p=>∃ys,Sq H p ys∧∀l H',H' l=some (.tup ys)→Same H H'→Q (.ref l) H'):=rfl
theorem Ti  {xs H Q} (h:Jx xs H Q):QJ xs H Q:=by
  obtain⟨x,rfl,h1⟩:=ar1.out h;obtain⟨p,rfl,ys,h2,h3⟩:=isRef.out h1;exact⟨p,ys,rfl,h2,h3⟩
def W3 (K:W.Frag):List V→Hp→VK→Prop:=fun xs H Q=>ar2 xs fun x y=>Td y fun n=>∃t,mX K H x t∧∃b,W.kitOne K t (.type n)=some b∧Q (.bl b) H
@[simp ↓] theorem qjB (K:W.Frag) xs H Q:W3 K xs H Q=(ar2 xs fun x y=>Td y fun n=>∃t,mX K H x t∧∃b,W.kitOne K t (.type n)=some b∧Q (.bl b) H):=rfl
theorem qae {K:W.Frag} {xs H Q} (h:W3 K xs H Q):qba K xs H Q:=by
  obtain⟨x,y,rfl,h1⟩:=ar2.out h;obtain⟨n,rfl,t,h2,b,h3,h4⟩:=Td.out h1;exact⟨x,n,t,b,rfl,h2,h3,h4⟩
def W4 (K:W.Frag):List V→Hp→VK→Prop:=fun xs H Q=>ar2 xs fun x y=>isRef y fun p=>∃m n,H p=some (.tup [.ty m,.ty n])∧∃t,mX K H x t∧∃b,W.kitAny K t [.type m,.type n]=some b∧Q (.bl b) H
@[simp ↓] theorem qjC (K:W.Frag) xs H Q:W4 K xs H Q=(ar2 xs fun x y=>isRef y fun p=>∃m n,H p=some (.tup [.ty m,.ty n])∧∃t,mX K H x t∧∃b,W.kitAny K t [.type m,.type n]=some b∧Q (.bl b) H):=rfl
theorem qaf {K:W.Frag} {xs H Q} (h:W4 K xs H Q):qbb K xs H Q:=by
  obtain⟨x,y,rfl,h1⟩:=ar2.out h;obtain⟨p,rfl,m,n,h0,t,h2,b,h3,h4⟩:=isRef.out h1;exact⟨x,p,m,n,t,b,rfl,h0,h2,h3,h4⟩
def fIn (K:W.Frag):R2:=fun x y H Q=>isRef y fun p=>∃xs,(aX K H p xs∨d9 K H p xs)∧jK x=true∧(∀z∈xs,jK z=true)∧Q (.bl (inV x xs)) H
@[simp ↓] theorem qnB (K:W.Frag) x y H Q:fIn K x y H Q=(isRef y fun p=>∃xs,(aX K H p xs∨d9 K H p xs)∧jK x=true∧(∀z∈xs,jK z=true)∧Q (.bl (inV x xs)) H):=rfl
theorem qfz {K:W.Frag} {x y H Q} (h:fIn K x y H Q):ZS K x y H Q:=by
  obtain⟨p,rfl,xs,h1,h2,h3,h4⟩:=isRef.out h;exact .inl ⟨p,xs,rfl,h1,h2,List.all_eq_true.mpr h3,h4⟩
def Ou (K:W.Frag):R2:=fun x y H Q=>isRef y fun p=>∃xs,(aX K H p xs∨d9 K H p xs)∧jK x=true∧(∀z∈xs,jK z=true)∧∃k,inV x xs = !k∧Q (.bl k) H
@[simp ↓] theorem qfA (K:W.Frag) x y H Q:Ou K x y H Q=(isRef y fun p=>∃xs,(aX K H p xs∨d9 K H p xs)∧jK x=true∧(∀z∈xs,jK z=true)∧∃k,inV x xs = !k∧Q (.bl k) H):=rfl
theorem W5 {K:W.Frag} {x y H Q} (h:Ou K x y H Q):Jl K x y H Q:=by
  obtain⟨p,rfl,xs,h1,h2,h3,h4⟩:=isRef.out h;exact .inl ⟨p,xs,rfl,h1,h2,List.all_eq_true.mpr h3,zA (R:=fun k=>Q (.bl k) H) h4⟩
def qcU (K:W.Frag):R2:=fun x y H Q=>isStr x fun i=>isStr y fun j=>Q (.bl (!(Builtin.Str.occurrences j i 0 j.length 1).isEmpty)) H
@[simp ↓] theorem qkL (K:W.Frag) x y H Q:qcU K x y H Q=(isStr x fun i=>isStr y fun j=>Q (.bl (!(Builtin.Str.occurrences j i 0 j.length 1).isEmpty)) H):=rfl
theorem qcV {K:W.Frag} {x y H Q} (h:qcU K x y H Q):ZS K x y H Q:=by
  obtain⟨i,rfl,h1⟩:=isStr.out h;obtain⟨j,rfl,h2⟩:=isStr.out h1;exact .inr ⟨i,j,rfl,rfl,h2⟩
def Jy  : V→List V→Hp→VK→Prop:=fun x vs H Q=>isRef x fun l=>ar1 vs fun y=>∃xs,H l=some (.lst xs)∧xs.length<sizeLine∧Q .non (upd H l (.lst (xs++[y])))
@[simp ↓] theorem qeH  x vs H Q:Jy x vs H Q=(isRef x fun l=>ar1 vs fun y=>∃xs,H l=some (.lst xs)∧xs.length<sizeLine∧Q .non (upd H l (.lst (xs++[y])))):=rfl
theorem Tj  {x vs H Q} (h:Jy x vs H Q):Je x vs H Q:=by
  obtain⟨l,rfl,h1⟩:=isRef.out h;obtain⟨y,rfl,xs,h2,h3⟩:=ar1.out h1;exact⟨l,xs,y,rfl,rfl,h2,h3⟩
def Jz  : V→List V→Hp→VK→Prop:=fun x vs H Q=>isRef x fun l=>ar2 vs fun j y=>isInt j fun i=>∃xs,H l=some (.lst xs)∧0≤i∧i≤xs.length∧xs.length<sizeLine∧Q .non (upd H l (.lst (xs.take i.toNat++y::xs.drop i.toNat)))
@[simp ↓] theorem qeI  x vs H Q:Jz x vs H Q=(isRef x fun l=>ar2 vs fun j y=>isInt j fun i=>∃xs,H l=some (.lst xs)∧0≤i∧i≤xs.length∧xs.length<sizeLine∧Q .non (upd H l (.lst (xs.take i.toNat++y::xs.drop i.toNat)))):=rfl
theorem Tn  {x vs H Q} (h:Jz x vs H Q):Jh x vs H Q:=by
  obtain⟨l,rfl,h1⟩:=isRef.out h;obtain⟨j,y,rfl,h2⟩:=ar2.out h1;obtain⟨i,rfl,xs,h3⟩:=isInt.out h2;exact⟨l,xs,i,y,rfl,rfl,h3⟩
def Ov  : V→List V→Hp→VK→Prop:=fun x vs H Q=>isRef x fun l=>ar0 vs (∃xs,H l=some (.lst xs)∧Q .non (upd H l (.lst [])))
@[simp ↓] theorem qfB  x vs H Q:Ov x vs H Q=(isRef x fun l=>ar0 vs (∃xs,H l=some (.lst xs)∧Q .non (upd H l (.lst [])))):=rfl
theorem W6  {x vs H Q} (h:Ov x vs H Q):Ob x vs H Q:=by
  obtain⟨l,rfl,h1⟩:=isRef.out h;obtain⟨rfl,xs,h2⟩:=ar0.out h1;exact⟨l,xs,rfl,rfl,h2⟩
def qcW (K:W.Frag):R2:=fun x y H Q=>∃d,Is K H d x∧∃e,Is K H e y∧d.canLay0=true∧e.canLay0=true∧d.depth≤64∧∃k,PyData.eqv d e = !k∧Q (.bl k) H
@[simp ↓] theorem qkM (K:W.Frag) x y H Q:qcW K x y H Q=(∃d,Is K H d x∧∃e,Is K H e y∧d.canLay0=true∧e.canLay0=true∧d.depth≤64∧∃k,PyData.eqv d e = !k∧Q (.bl k) H):=rfl
theorem qcX {K:W.Frag} {x y H Q} (h:qcW K x y H Q):qfl K x y H Q:=by
  obtain⟨d,h1,e,h2,h3,h4,h5,h6⟩:=h;exact⟨d,e,h1,h2,h3,h4,h5,zA (R:=fun k=>Q (.bl k) H) h6⟩
def qcY (K:W.Frag):R2:=fun x y H Q=>∃d,Is K H d x∧∃e,Is K H e y∧d.canLay0=true∧e.canLay0=true∧d.depth≤64∧Q (.bl (PyData.eqv d e)) H
@[simp ↓] theorem qkN (K:W.Frag) x y H Q:qcY K x y H Q=(∃d,Is K H d x∧∃e,Is K H e y∧d.canLay0=true∧e.canLay0=true∧d.depth≤64∧Q (.bl (PyData.eqv d e)) H):=rfl
theorem qcZ {K:W.Frag} {x y H Q} (h:qcY K x y H Q):qfk K x y H Q:=by
  obtain⟨d,h1,e,h2,h3,h4,h5,h6⟩:=h;exact⟨d,e,h1,h2,h3,h4,h5,h6⟩
def qc0  : List V→Hp→VK→Prop:=fun xs H Q=>ar1 xs fun x=>isInt x fun i=>Q (.int (if i<0 then -i else i)) H
@[simp ↓] theorem qkO  xs H Q:qc0 xs H Q=(ar1 xs fun x=>isInt x fun i=>Q (.int (if i<0 then -i else i)) H):=rfl
theorem qc1  {xs H Q} (h:qc0 xs H Q):(fun xs H Q=>∃i,xs=[.int i]∧Q (.int (if i<0 then -i else i)) H:List V→Hp→VK→Prop) xs H Q:=by
  obtain⟨x,rfl,h1⟩:=ar1.out h;obtain⟨i,rfl,h2⟩:=isInt.out h1;exact⟨i,rfl,h2⟩
def W7  : List V→Hp→VK→Prop:=fun xs H Q=>ar2 xs fun x y=>isInt x fun i=>isInt y fun j=>Q (.int (if j > i then j else i)) H
@[simp ↓] theorem qjD  xs H Q:W7 xs H Q=(ar2 xs fun x y=>isInt x fun i=>isInt y fun j=>Q (.int (if j > i then j else i)) H):=rfl
theorem qag  {xs H Q} (h:W7 xs H Q):(fun xs H Q=>∃i j,xs=[.int i,.int j]∧Q (.int (if j > i then j else i)) H:List V→Hp→VK→Prop) xs H Q:=by
  obtain⟨x,y,rfl,h1⟩:=ar2.out h;obtain⟨i,rfl,h2⟩:=isInt.out h1;obtain⟨j,rfl,h3⟩:=isInt.out h2;exact⟨i,j,rfl,h3⟩
def W8  : List V→Hp→VK→Prop:=fun xs H Q=>ar2 xs fun x y=>isInt x fun i=>isInt y fun j=>Q (.int (if j<i then j else i)) H
@[simp ↓] theorem qjE  xs H Q:W8 xs H Q=(ar2 xs fun x y=>isInt x fun i=>isInt y fun j=>Q (.int (if j<i then j else i)) H):=rfl
theorem qah  {xs H Q} (h:W8 xs H Q):(fun xs H Q=>∃i j,xs=[.int i,.int j]∧Q (.int (if j<i then j else i)) H:List V→Hp→VK→Prop) xs H Q:=by
  obtain⟨x,y,rfl,h1⟩:=ar2.out h;obtain⟨i,rfl,h2⟩:=isInt.out h1;obtain⟨j,rfl,h3⟩:=isInt.out h2;exact⟨i,j,rfl,h3⟩
def JB  : List V→Hp→VK→Prop:=fun xs H Q=>ar2 xs fun x y=>isInt x fun i=>isInt y fun j=>RX i j∧∀p,H p=none→Q (.ref p) (upd H p (.tup [.int (i / j),.int (i % j)]))
@[simp ↓] theorem qeJ  xs H Q:JB xs H Q=(ar2 xs fun x y=>isInt x fun i=>isInt y fun j=>RX i j∧∀p,H p=none→Q (.ref p) (upd H p (.tup [.int (i / j),.int (i % j)]))):=rfl
theorem Tp  {xs H Q} (h:JB xs H Q):(fun xs H Q=>∃i j,xs=[.int i,.int j]∧RX i j∧∀p,H p=none→Q (.ref p) (upd H p (.tup [.int (i / j),.int (i % j)])):List V→Hp→VK→Prop) xs H Q:=by
  obtain⟨x,y,rfl,h1⟩:=ar2.out h;obtain⟨i,rfl,h2⟩:=isInt.out h1;obtain⟨j,rfl,h3⟩:=isInt.out h2;exact⟨i,j,rfl,h3⟩
def qc2  : List V→Hp→VK→Prop:=fun xs H Q=>ar1 xs fun x=>isRef x fun a=>∃ys,H a=some (.lst ys)∧∃bs,oK ys bs∧Q (.bl (bs.all id)) H
@[simp ↓] theorem qkP  xs H Q:qc2 xs H Q=(ar1 xs fun x=>isRef x fun a=>∃ys,H a=some (.lst ys)∧∃bs,oK ys bs∧Q (.bl (bs.all id)) H):=rfl
theorem qc3  {xs H Q} (h:qc2 xs H Q):(fun xs H Q=>∃a ys bs,xs=[.ref a]∧H a=some (.lst ys)∧oK ys bs∧Q (.bl (bs.all id)) H:List V→Hp→VK→Prop) xs H Q:=by
  obtain⟨x,rfl,h1⟩:=ar1.out h;obtain⟨a,rfl,ys,h2,bs,h3,h4⟩:=isRef.out h1;exact⟨a,ys,bs,rfl,h2,h3,h4⟩
def qc4  : List V→Hp→VK→Prop:=fun xs H Q=>ar1 xs fun x=>isRef x fun a=>∃ys,H a=some (.lst ys)∧∃bs,oK ys bs∧Q (.bl (bs.any id)) H
@[simp ↓] theorem qkQ  xs H Q:qc4 xs H Q=(ar1 xs fun x=>isRef x fun a=>∃ys,H a=some (.lst ys)∧∃bs,oK ys bs∧Q (.bl (bs.any id)) H):=rfl
theorem qc5  {xs H Q} (h:qc4 xs H Q):qbe xs H Q:=by
  obtain⟨x,rfl,h1⟩:=ar1.out h;obtain⟨a,rfl,ys,h2,bs,h3,h4⟩:=isRef.out h1;exact⟨a,ys,bs,rfl,h2,h3,h4⟩
def QV:List V→Hp→VK→Prop:=fun xs H Q=>ar1 xs fun x=>match x with | .int i=>Q (.int i) H | .bl k=>Q (.int (if k=true then 1 else 0)) H | _=>False
@[simp ↓] theorem qjF i H Q:QV [.int i] H Q=Q (.int i) H:=rfl
@[simp ↓] theorem qjG k H Q:QV [.bl k] H Q=Q (.int (if k=true then 1 else 0)) H:=rfl
theorem qai {xs H Q} (h:QV xs H Q):(fun xs H Q=>(∃i,xs=[.int i]∧Q (.int i) H)∨∃k,xs=[.bl k]∧Q (.int (if k then 1 else 0)) H:List V→Hp→VK→Prop) xs H Q:=by
  obtain⟨x,rfl,h1⟩:=ar1.out h;cases x with
  | int i=>exact .inl ⟨i,rfl,h1⟩
  | bl k=>exact .inr ⟨k,rfl,h1⟩
  | _=>exact h1.elim
def W9:RM:=fun o i v H Q=>isRef o fun p=>isInt i fun k=>∃xs,H p=some (.lst xs)∧∃j,QB xs.length k=some j∧Q (upd H p (.lst (xs.set j v)))
@[simp ↓] theorem qjH o i v H Q:W9 o i v H Q=(isRef o fun p=>isInt i fun k=>∃xs,H p=some (.lst xs)∧∃j,QB xs.length k=some j∧Q (upd H p (.lst (xs.set j v)))):=rfl
theorem qaj {o i v H Q} (h:W9 o i v H Q):qa8 o i v H Q:=by
  obtain⟨p,rfl,h1⟩:=isRef.out h;obtain⟨k,rfl,xs,h2,j,h3,h4⟩:=isInt.out h1;exact⟨p,xs,k,j,rfl,rfl,h2,h3,h4⟩
def qc6 (K:W.Frag):V→Option Int→Option Int→Hp→VK→Prop:=fun x lo hi H Q=>isRef x fun a=>∃xs,aX K H a xs∧∀p,H p=none→Q (.ref p) (upd H p (.lst (tY xs lo hi)))
@[simp ↓] theorem qkR (K:W.Frag) x lo hi H Q:qc6 K x lo hi H Q=(isRef x fun a=>∃xs,aX K H a xs∧∀p,H p=none→Q (.ref p) (upd H p (.lst (tY xs lo hi)))):=rfl
theorem qc7 {K:W.Frag} {x lo hi H Q} (h:qc6 K x lo hi H Q):ZF K x lo hi H Q:=by
  obtain⟨a,rfl,xs,h1⟩:=isRef.out h;exact⟨a,xs,rfl,h1⟩
def qfC:Cp:=fun vs σ H Q=>ar0 vs (Q σ H)
def qbh (t:TG) (u:Cp):Cp:=fun vs σ H Q=>arH vs fun v r=>t v σ H fun σ' H'=>u r σ' H' Q
def qak (K:W.Frag) (n:Nat) (t:Cp):TG:=fun v σ H Q=>isRef v fun a=>∃xs,d9 K H a xs∧xs.length=n∧t xs σ H Q
@[simp ↓] theorem qkS vs σ H Q:qfC vs σ H Q=ar0 vs (Q σ H):=rfl
@[simp ↓] theorem qjI t u vs σ H Q:qbh t u vs σ H Q=(arH vs fun v r=>t v σ H fun σ' H'=>u r σ' H' Q):=rfl
@[simp ↓] theorem qkT K n t v σ H Q:qak K n t v σ H Q=(isRef v fun a=>∃xs,d9 K H a xs∧xs.length=n∧t xs σ H Q):=rfl
theorem d8 {vs σ H Q} (h:qfC vs σ H Q):qbY vs σ H Q:=ar0.out h
theorem aR (t:TG) (u:Cp):qbh t u=Vp t u:=by
  funext vs σ H Q
  exact qcP _ _
theorem cX (K:W.Frag) (n:Nat) (t:Cp):qak K n t=Zm K n t:=by
  funext v σ H Q
  refine propext ⟨fun h=>?_,fun⟨a,xs,e,h⟩=>by subst e;exact⟨xs,h⟩⟩;obtain⟨a,rfl,xs,h1⟩:=isRef.out h;exact⟨a,xs,rfl,h1⟩
def qc8 (f:Int→Int→Int):Zk:=fun x y H Q=>isInt x fun i=>isInt y fun j=>Q (.int (f i j)) H
@[simp ↓] theorem qkU f x y H Q:qc8 f x y H Q=(isInt x fun i=>isInt y fun j=>Q (.int (f i j)) H):=rfl
theorem qc9 {f:Int→Int→Int} {x y H Q} (h:qc8 f x y H Q):ipI f x y H Q:=by
  obtain⟨i,rfl,h1⟩:=isInt.out h;obtain⟨j,rfl,h2⟩:=isInt.out h1;exact⟨i,j,rfl,rfl,h2⟩
def qfD (i:Nat) (te:TE) (ti:Zk):TS:=fun D σ H=>getSt σ i fun x=>te σ H fun y H1=>ti x y H1 fun z H2=>D.nx (σ.set i (some z)) H2
@[simp ↓] theorem qkV i te ti D σ H:qfD i te ti D σ H=(getSt σ i fun x=>te σ H fun y H1=>ti x y H1 fun z H2=>D.nx (σ.set i (some z)) H2):=rfl
theorem qc_ {i:Nat} {te:TE} {ti:Zk} {D σ H} (h:qfD i te ti D σ H):qb0 i te ti D σ H:=getSt.out h
def W_ (K:W.Frag) (tl:TE):TI:=fun σ H R=>tl σ H fun x H1=>isRef x fun a=>(∃xs,aX K H1 a xs)∧R (Va K a) H1
def qbi (K:W.Frag) (tl:TE):TI:=fun σ H R=>tl σ H fun x H1=>isRef x fun p=>∃b,(∃xs,Y7 b K H1 p xs)∧R (Y8 b K p) H1
def qbj (tl:TE):TI:=fun σ H R=>tl σ H fun x H1=>isStr x fun z=>R (Its z) H1
def Xa (ta:TA):TI:=fun σ H R=>ta σ H fun vs H1=>ar1 vs fun v=>isInt v fun j=>-(2 ^ 62)≤j∧j<2 ^ 62∧R (Nr 0 j.toNat) H1
def Xb (ta:TA):TI:=fun σ H R=>ta σ H fun vs H1=>ar2 vs fun v w=>isInt v fun i=>isInt w fun j=>(-(2 ^ 62)≤i∧i<2 ^ 62∧-(2 ^ 62)≤j∧j<2 ^ 62)∧R (Nr i (j - i).toNat) H1
def qbk (K:W.Frag) (t:TA):TI:=fun σ H R=>t σ H fun vs H1=>ar2 vs fun x y=>isRef x fun a=>isRef y fun b=>(∃xs,aX K H1 a xs)∧(∃ys,aX K H1 b ys)∧R (Vb K a b) H1
def Xc (K:W.Frag) (t:TA):TI:=fun σ H R=>t σ H fun vs H1=>ar1 vs fun x=>isRef x fun a=>(∃xs,aX K H1 a xs)∧R (Ite K a) H1
@[simp ↓] theorem qfE K tl σ H R:W_ K tl σ H R=(tl σ H fun x H1=>isRef x fun a=>(∃xs,aX K H1 a xs)∧R (Va K a) H1):=rfl
@[simp ↓] theorem qjJ K tl σ H R:qbi K tl σ H R=(tl σ H fun x H1=>isRef x fun p=>∃b,(∃xs,Y7 b K H1 p xs)∧R (Y8 b K p) H1):=rfl
@[simp ↓] theorem qjK tl σ H R:qbj tl σ H R=(tl σ H fun x H1=>isStr x fun z=>R (Its z) H1):=rfl
@[simp ↓] theorem qfF ta σ H R:Xa ta σ H R=(ta σ H fun vs H1=>ar1 vs fun v=>isInt v fun j=>-(2 ^ 62)≤j∧j<2 ^ 62∧R (Nr 0 j.toNat) H1):=rfl
@[simp ↓] theorem qfG ta σ H R:Xb ta σ H R=(ta σ H fun vs H1=>ar2 vs fun v w=>isInt v fun i=>isInt w fun j=>(-(2 ^ 62)≤i∧i<2 ^ 62∧-(2 ^ 62)≤j∧j<2 ^ 62)∧R (Nr i (j - i).toNat) H1):=rfl
@[simp ↓] theorem qjL K t σ H R:qbk K t σ H R=(t σ H fun vs H1=>ar2 vs fun x y=>isRef x fun a=>isRef y fun b=>(∃xs,aX K H1 a xs)∧(∃ys,aX K H1 b ys)∧R (Vb K a b) H1):=rfl
@[simp ↓] theorem qfH K t σ H R:Xc K t σ H R=(t σ H fun vs H1=>ar1 vs fun x=>isRef x fun a=>(∃xs,aX K H1 a xs)∧R (Ite K a) H1):=rfl
theorem bU (K:W.Frag) (tl:TE):W_ K tl=Qq K tl:=by
  funext σ H R
  exact congrArg (tl σ H) (funext fun x=>funext fun H1=>Ln _ _)
theorem mq (K:W.Frag) (tl:TE):qbi K tl=qcA K tl:=by
  funext σ H R
  refine congrArg (tl σ H) (funext fun x=>funext fun H1=>propext ⟨fun h=>?_,fun⟨b,p,e,h⟩=>by subst e;exact⟨b,h⟩⟩);obtain⟨p,rfl,b,h1⟩:=isRef.out h;exact⟨b,p,rfl,h1⟩
theorem Xd (tl:TE):qbj tl=qcs tl:=by
  funext σ H R
  exact congrArg (tl σ H) (funext fun x=>funext fun H1=>WX _ _)
theorem uP (ta:TA):Xa ta=Vs ta:=by
  funext σ H R
  refine congrArg (ta σ H) (funext fun x=>funext fun H1=>propext ⟨fun h=>?_,fun⟨b,e,h⟩=>by subst e;exact h⟩);obtain⟨v,rfl,h1⟩:=ar1.out h;obtain⟨i,rfl,h2⟩:=isInt.out h1;exact⟨i,rfl,h2⟩
theorem Tq (ta:TA):Xb ta=Vt ta:=by
  funext σ H R
  refine congrArg (ta σ H) (funext fun x=>funext fun H1=>propext ⟨fun h=>?_,fun⟨b,c,e,h⟩=>by subst e;exact h⟩);obtain⟨v,w,rfl,h1⟩:=ar2.out h;obtain⟨i,rfl,h2⟩:=isInt.out h1;obtain⟨j,rfl,h3⟩:=isInt.out h2;exact⟨i,j,rfl,h3⟩
theorem Xe (K:W.Frag) (t:TA):qbk K t=ZM K t:=by
  funext σ H R
  refine congrArg (t σ H) (funext fun x=>funext fun H1=>propext ⟨fun h=>?_,fun⟨a,b,xs,ys,e,h1,h2,h3⟩=>by subst e;exact⟨⟨xs,h1⟩,⟨ys,h2⟩,h3⟩⟩);obtain⟨v,w,rfl,h1⟩:=ar2.out h;obtain⟨i,rfl,h2⟩:=isRef.out h1;obtain⟨j,rfl,⟨xs,h3⟩,⟨ys,h4⟩,h5⟩:=isRef.out h2;exact⟨i,j,xs,ys,rfl,h3,h4,h5⟩
theorem uQ (K:W.Frag) (t:TA):Xc K t=Wr K t:=by
  funext σ H R
  refine congrArg (t σ H) (funext fun x=>funext fun H1=>propext ⟨fun h=>?_,fun⟨a,xs,e,h1,h3⟩=>by subst e;exact⟨⟨xs,h1⟩,h3⟩⟩);obtain⟨v,rfl,h1⟩:=ar1.out h;obtain⟨i,rfl,⟨xs,h3⟩,h5⟩:=isRef.out h1;exact⟨i,xs,rfl,h3,h5⟩
def qbl (sp:Sp) (E:XK) (t:TA):TE:=fun σ H Q=>t σ H fun vs H1=>Oq sp vs H1 Q ⟨0⟩ E
@[simp ↓] theorem qjM sp E t σ H Q:qbl sp E t σ H Q=(t σ H fun vs H1=>Oq sp vs H1 Q ⟨0⟩ E):=rfl
theorem aO (sp:Sp) (E:XK) (t:TA):qbl sp E t=VG sp [] E t:=by
  funext σ H Q
  exact congrArg (t σ H) (funext fun vs=>funext fun H1=>by rw[List.append_nil];rfl)
def qbm (C:Addr) (m:Str) (sp:Sp) (E:XK) (ta:TE) (t:TA):TE:=fun σ H Q=>ta σ H fun x H1=>isRef x fun a=>∃dx fs,H1 a=some (.ins C dx fs)∧fs.lookup m=none∧t σ H1 fun vs H2=>Oq sp (.ref a::vs) H2 Q ⟨0⟩ E
@[simp ↓] theorem qjN C m sp E ta t σ H Q:qbm C m sp E ta t σ H Q=(ta σ H fun x H1=>isRef x fun a=>∃dx fs,H1 a=some (.ins C dx fs)∧fs.lookup m=none∧t σ H1 fun vs H2=>Oq sp (.ref a::vs) H2 Q ⟨0⟩ E):=rfl
theorem h_ (C:Addr) (m:Str) (sp:Sp) (E:XK) (ta:TE) (t:TA):qbm C m sp E ta t=VH C m sp [] E ta t:=by
  funext σ H Q
  refine congrArg (ta σ H) (funext fun x=>funext fun H1=>propext ⟨fun h=>?_,fun⟨a,dx,fs,e,h1,h2,h3⟩=>?_⟩)
  ·obtain⟨a,rfl,dx,fs,h1,h2,h3⟩:=isRef.out h;refine⟨a,dx,fs,rfl,h1,h2,?_⟩;simp only[List.append_nil];exact h3
  ·subst e;refine⟨dx,fs,h1,h2,?_⟩;simp only[List.append_nil] at h3;exact h3
def qbn (C:Addr) (sp:Sp) (E:XK) (t:TA):TE:=fun σ H Q=>t σ H fun vs H1=>∀x dx,H1 x=none→H1 dx=none→dx≠x→
  Oq sp (.ref x::vs) (upd (upd H1 dx (.own x)) x (.ins C dx [])) (fun v H2=>v = .non∧Q (.ref x) H2) ⟨0⟩ E
@[simp ↓] theorem qjO C sp E t σ H Q:qbn C sp E t σ H Q=(t σ H fun vs H1=>∀x dx,H1 x=none→H1 dx=none→dx≠x→
  Oq sp (.ref x::vs) (upd (upd H1 dx (.own x)) x (.ins C dx [])) (fun v H2=>v = .non∧Q (.ref x) H2) ⟨0⟩ E):=rfl
theorem Di (C:Addr) (sp:Sp) (E:XK) (t:TA):qbn C sp E t=VJ C sp [] E t:=by
  funext σ H Q
  refine congrArg (t σ H) (funext fun vs=>funext fun H1=>?_);simp only[List.append_nil];rfl
def qfI (K:W.Frag) (ta:TE) (f:Str):TE:=fun σ H Q=>ta σ H fun x H1=>isRef x fun a=>∃C dx fs,H1 a=some (.ins C dx fs)∧Cls K C∧mD K C f∧∃v,fs.lookup f=some v∧Q v H1
@[simp ↓] theorem qkW K ta f σ H Q:qfI K ta f σ H Q=(ta σ H fun x H1=>isRef x fun a=>∃C dx fs,H1 a=some (.ins C dx fs)∧Cls K C∧mD K C f∧∃v,fs.lookup f=some v∧Q v H1):=rfl
theorem JC (K:W.Frag) (ta:TE) (f:Str):qfI K ta f=Zx K ta f:=by
  funext σ H Q
  refine congrArg (ta σ H) (funext fun x=>funext fun H1=>propext ⟨fun h=>?_,fun⟨a,C,dx,fs,v,e,h1,h2,h3,h4⟩=>by subst e;exact⟨C,dx,fs,h1,h2,h3,v,h4⟩⟩);obtain⟨a,rfl,C,dx,fs,h1,h2,h3,v,h4⟩:=isRef.out h;exact⟨a,C,dx,fs,v,rfl,h1,h2,h3,h4⟩
def qbo (td ty:TE):TE:=fun σ H Q=>td σ H fun x H1=>ty σ H1 fun y H2=>isRef x fun a=>∃v,kY H2 a y (some v)∧Q v H2
def qfJ (ty td:TE):TE:=fun σ H Q=>ty σ H fun y H1=>td σ H1 fun x H2=>isRef x fun a=>∃o,kY H2 a y o∧Q (.bl o.isSome) H2
def QW (ty td:TE):TE:=fun σ H Q=>ty σ H fun y H1=>td σ H1 fun x H2=>isRef x fun a=>∃o,kY H2 a y o∧Q (.bl o.isNone) H2
def qbp (td ty tv:TE):TS:=fun D σ H=>tv σ H fun v H1=>td σ H1 fun x H2=>ty σ H2 fun y H3=>isRef x fun a=>∃H4,Jo H3 a y v H4∧D.nx σ H4
def Xf (td ty tx:TE):TE:=fun σ H Q=>td σ H fun x H1=>isRef x fun a=>IsD H1 a∧ty σ H1 fun y H2=>tx σ H2 fun z H3=>∃o,kY H3 a y o∧Q (o.getD z) H3
@[simp ↓] theorem qjP td ty σ H Q:qbo td ty σ H Q=(td σ H fun x H1=>ty σ H1 fun y H2=>isRef x fun a=>∃v,kY H2 a y (some v)∧Q v H2):=rfl
@[simp ↓] theorem qkX ty td σ H Q:qfJ ty td σ H Q=(ty σ H fun y H1=>td σ H1 fun x H2=>isRef x fun a=>∃o,kY H2 a y o∧Q (.bl o.isSome) H2):=rfl
@[simp ↓] theorem qeK ty td σ H Q:QW ty td σ H Q=(ty σ H fun y H1=>td σ H1 fun x H2=>isRef x fun a=>∃o,kY H2 a y o∧Q (.bl o.isNone) H2):=rfl
@[simp ↓] theorem qjQ td ty tv D σ H:qbp td ty tv D σ H=(tv σ H fun v H1=>td σ H1 fun x H2=>ty σ H2 fun y H3=>isRef x fun a=>∃H4,Jo H3 a y v H4∧D.nx σ H4):=rfl
@[simp ↓] theorem qfK td ty tx σ H Q:Xf td ty tx σ H Q=(td σ H fun x H1=>isRef x fun a=>IsD H1 a∧ty σ H1 fun y H2=>tx σ H2 fun z H3=>∃o,kY H3 a y o∧Q (o.getD z) H3):=rfl
theorem JD {x:V} {β:Type} {R:Addr→β→Prop}:(isRef x fun a=>∃b,R a b)=(∃a b,x = .ref a∧R a b):=propext ⟨fun h=>by obtain⟨a,rfl,b,h1⟩:=isRef.out h;exact⟨a,b,rfl,h1⟩,fun⟨a,b,e,h⟩=>by subst e;exact⟨b,h⟩⟩
theorem Lr (td ty:TE):qbo td ty=Wk td ty:=by
  funext σ H Q
  exact congrArg (td σ H) (funext fun x=>funext fun H1=>congrArg (ty σ H1) (funext fun y=>funext fun H2=>JD))
theorem QX (ty td:TE):qfJ ty td=qcD ty td:=by
  funext σ H Q
  exact congrArg (ty σ H) (funext fun x=>funext fun H1=>congrArg (td σ H1) (funext fun y=>funext fun H2=>JD))
theorem Ow (ty td:TE):QW ty td=Jq ty td:=by
  funext σ H Q
  refine congrArg (ty σ H) (funext fun x=>funext fun H1=>congrArg (td σ H1) (funext fun y=>funext fun H2=>?_));rw[JD];simp only[Option.not_isSome]
theorem Xg (td ty tv:TE):qbp td ty tv=Wm td ty tv:=by
  funext D σ H
  exact congrArg (tv σ H) (funext fun v=>funext fun H1=>congrArg (td σ H1) (funext fun x=>funext fun H2=>congrArg (ty σ H2) (funext fun y=>funext fun H3=>JD)))
theorem Hx (td ty tx:TE):Xf td ty tx=Om td ty tx:=by
  funext σ H Q
  exact congrArg (td σ H) (funext fun x=>funext fun H1=>Ln _ _)
def qbq (t:TE):TO:=fun σ H Q=>t σ H fun x H1=>isInt x fun i=>Q (some i) H1
@[simp ↓] theorem qjR t σ H Q:qbq t σ H Q=(t σ H fun x H1=>isInt x fun i=>Q (some i) H1):=rfl
theorem jt (t:TE):qbq t=VR t:=by
  funext σ H Q
  exact congrArg (t σ H) (funext fun x=>funext fun H1=>WW _ _)
section
variable {X:Cx} {K:W.Frag}
theorem PE.eqv {e:Expr} {t t':TE} (o:PE X e t) (h:t'=t):PE X e t':=h▸o
theorem PC.eqv {op:CmpOp} {a b:Expr} {t t':TE} (o:PC X op a b t) (h:t'=t):PC X op a b t':=h▸o
theorem PS.eqv {e:Stmt} {t t':TS} (o:PS X e t) (h:t'=t):PS X e t':=h▸o
theorem PG.eqv {e:Expr} {t t':TG} (o:PG X e t) (h:t'=t):PG X e t':=h▸o
theorem fL.eqv {e:List Expr} {t t':Cp} (o:fL X e t) (h:t'=t):fL X e t':=h▸o
theorem PI.eqv {tg e:Expr} {t t':TI} (o:PI X tg e t) (h:t'=t):PI X tg e t':=h▸o
theorem PO.eqv {e:Option Expr} {t t':TO} (o:PO X e t) (h:t'=t):PO X e t':=h▸o
theorem Bv:jk X (binaryOp .Mult) (fI Zt fun i j=>.int (i * j)):=qb9.mono qaa
theorem Xh:jk X (binaryOp .FloorDiv) (fI RX fun i j=>.int (i / j)):=Zu.mono qaa
theorem uR:jk X (binaryOp .Mod) (fI (fun _ j=>0<j) fun i j=>.int (i % j)):=qb_.mono qaa
theorem qal:jk X (binaryOp .Pow) (fI qeV fun i j=>.int (i ^ j.toNat)):=qca.mono qaa
theorem bZ (hK:X.K=K):V0 X (qcQ K):=(qj7 hK).mono qcR
theorem QZ:V0 X qcS:=qck.mono qcT
theorem zE (hK:X.K=K):jk X (compareOp .In) (fIn K):=(inK hK).mono qfz
theorem qkY (hK:X.K=K):jk X (compareOp .In) (qcU K):=(inK hK).mono qcV
theorem m6 (hK:X.K=K):jk X (compareOp .NotIn) (Ou K):=(qcz hK).mono W5
theorem qda (hK:X.K=K) (hu:X.A.units+64<cLine):jk X (compareOp .Eq) (qcY K):=(qcJ hK hu).mono qcZ
theorem Ox (hK:X.K=K) (hu:X.A.units+64<cLine):jk X (compareOp .NotEq) (qcW K):=(qcK hK hu).mono qcX
theorem bY (hK:X.K=K):cP X (.builtin "len") (Dh K):=(qe_ hK).mono qac
theorem qdb:cP X (.builtin "len") W2:=qfa.mono qad
theorem um (hK:X.K=K):cP X (.type "list") (Jw K):=(ZV hK).mono Tg
theorem uT:cP X (.type "tuple") Jx:=Wf.mono Ti
theorem nQ (hK:X.K=K):cP X (.builtin "isinstance") (W3 K):=(qfb hK).mono qae
theorem qdc (hK:X.K=K):cP X (.builtin "isinstance") (W4 K):=(qfc hK).mono qaf
theorem jM (hc:X.calm=true):cP X (.builtin "all") qc2:=(Ss hc).mono qc3
theorem zF (hc:X.calm=true):cP X (.builtin "any") qc4:=(SN hc).mono qc5
theorem Oz:cP X (.type "int") QV:=R4.mono qai
theorem Hy:cP X (.builtin "abs") qc0:=Vz.mono qc1
theorem Dj (hc:X.calm=true):cP X (.builtin "max") W7:=(R0 hc).mono qag
theorem OD (hc:X.calm=true):cP X (.builtin "min") W8:=(R3 hc).mono qah
theorem JF:cP X (.builtin "divmod") JB:=KQ.mono Tp
theorem dH:R6 X "list.append" Jy:=R6.mono (r:=Je) yZ Tj
theorem OJ:R6 X "list.insert" Jz:=R6.mono (r:=Jh) Sh Tn
theorem Hz:R6 X "list.clear" Ov:=R6.mono (r:=Ob) V4 W6
theorem yh (hK:X.K=K):Zy X (qc6 K):=(qkD hK).mono qc7
theorem HB:RN X W9:=set_list.mono qaj
theorem qam:PIp X .Add (qc8 fun i j=>i+j):=qb2.mono qc9
end
theorem getSt.imp {σ:St} {i:Nat} {R R':V→Prop} (f:∀v,R v→R' v):getSt σ i R→getSt σ i R':=by
  induction σ generalizing i with
  | nil=>exact fun h=>h.elim
  | cons o σ ih=>
    cases i with
    | zero=>cases o with
      | none=>exact fun h=>h.elim
      | some v=>exact f v
    | succ n=>exact ih
theorem isInt.imp {x:V} {R R':Int→Prop} (f:∀v,R v→R' v):isInt x R→isInt x R':=by cases x <;> first | exact f _ | exact fun h=>h.elim
theorem isRef.imp {x:V} {R R':Addr→Prop} (f:∀v,R v→R' v):isRef x R→isRef x R':=by cases x <;> first | exact f _ | exact fun h=>h.elim
theorem tG.imp {x:V} {R R':Bool→Prop} (f:∀v,R v→R' v):tG x R→tG x R':=by cases x <;> first | exact f _ | exact fun h=>h.elim
theorem Ls {K:W.Frag} {g:Int→Int→V} {i j:Nat}:∀(σ:St) (H:Hp) (Q Q':Bool→Hp→Prop),(∀(b:Bool) (H1:Hp),Q b H1→Q' b H1)→uh (Y6 (WM g) (fVar i) (tCB (Dh K) (G7 (fVar j) N6))) σ H Q→uh (Y6 (WM g) (fVar i) (tCB (Dh K) (G7 (fVar j) N6))) σ H Q':=
  fun _ _ _ _ f h=>getSt.imp (fun _ h=>getSt.imp (fun _ h=>isRef.imp (fun _ ⟨ys,h1,h2⟩=>⟨ys,h1,isInt.imp (fun _ h=>isInt.imp (fun _ h=>tG.imp (fun _ h=>f _ _ h) h) h) h2⟩) h) h) h
theorem kW.tH {P:Program} {w:World} {K:W.Frag} {mg:Str→Option Value} {base:Heap} {x qual:Str} {st:Stmt} {f:Addr} {fd:FuncData} {N ps:List Str} {k:Nat} {sp:Sp} (F:kW K x qual st f fd) (S:bC N ps (ao st)) (len:∀vs H Q E,sp vs H Q E→vs.length=ps.length)
    (hbody:∀(cdv:Value) (A:Around) (outer:List Env) (s:Shared) (H:Hp) (vs:List V) (Q:VK) (E:XK),jl k (A.deeper (envOfC qual (ao st) s.heap.objs.size f cdv))→sp vs H Q E→
      ∃t,Gn (aB mF P w K mg base N qual (ao st) f cdv A outer s H E).U_ (aJ st) t∧t {nx:=fun _ H'=>Q .non H',rt:=Q} (lg N vs) H):dG P w K mg base mF (k+1) f fd ps sp:=by
  refine F.ok S len fun cdv A outer s H vs Q E hr h=>?_;obtain⟨t,h1,h2⟩:=hbody cdv A outer s H vs Q E hr h;refine⟨t,h1,?_⟩;have hl:=len _ _ _ _ h;have hp:ps.length≤N.length:=by have:=congrArg List.length S.pre;rw[List.length_take] at this;omega
  rw[qK N vs (by omega)] at h2;exact h2
end L2
namespace L2
open PySem
def yj (T:List kE) (h:Str) (wh:List Nat) (R:BR):BR:=T.foldl (fun R s=>if s.2.1=h∧¬s.2.2∈R.map (·.1) then R++[(s.2.2,wh++[s.1])] else R) R
def zG (S:List kE) (a:Str):Nat→BR
  | 0=>[(a,[])]
  | n+1=>match (zG S a n)[n]? with
    | some x=>yj S x.1 x.2 (zG S a n)
    | none=>zG S a n
theorem O1 (T:List kE) (s:kE) (h:Str) (wh:List Nat) (R:BR):yj (T++[s]) h wh R=if s.2.1=h∧¬s.2.2∈(yj T h wh R).map (·.1) then yj T h wh R++[(s.2.2,wh++[s.1])] else yj T h wh R:=by
  unfold yj;rw[List.foldl_append];rfl
theorem Tr {S:List kE} {a:Str} {n:Nat} {h:Str} {wh:List Nat} (e:(zG S a n)[n]? = some (h,wh)):zG S a (n+1)=yj S h wh (zG S a n):=by
  show(match (zG S a n)[n]? with | some x=>yj S x.1 x.2 (zG S a n) | none=>zG S a n)=_
  rw[e]
def qkZ (S:List kE) (a:Str) (R:BR):Prop:=zG S a R.length=R
def m7 (H:Hp) (kvs:List (Key×V)):Prop:=∀kv∈kvs,∀p,kv.2 = .ref p→H p=none
theorem m7.at {H:Hp} {kvs:List (Key×V)} (h:m7 H kvs) {k:Key} {p:Addr} (e:mZ kvs k=some (.ref p)):H p=none:=by
  unfold mZ at e;cases hf:kvs.find? fun kv=>decide (kv.1=k) with
  | none=>rw[hf] at e;cases e
  | some kv=>
    rw[hf] at e;exact h kv (List.mem_of_find?_eq_some hf) p (Option.some.inj e)
theorem m7.snoc {H:Hp} {kvs:List (Key×V)} (h:m7 H kvs) {k:Key} {p:Addr} (hp:H p=none):m7 H (kvs++[(k,.ref p)]):=by
  intro kv hkv q hq
  rcases List.mem_append.mp hkv with z | z
  ·exact h kv z q hq
  ·simp at z;subst z;cases hq;exact hp
theorem nM.at {S:List kE} {a:Str} {w:List Nat} {vs:List Str} {b:Str} (h:nM S a w vs b):vs.length=w.length+1∧vs[0]? = some a∧vs[w.length]? = some b∧∀(i:Nat) n,w[i]? = some n→∃u v,vs[i]? = some u∧vs[i+1]? = some v∧(n,u,v)∈S:=by
  induction h with
  | nil=>exact⟨rfl,rfl,rfl,fun i n e=>by simp at e⟩
  | @snoc w vs b c n h hs ih=>
    obtain⟨h1,h2,h3,h4⟩:=ih;refine⟨by simp[h1],by rw[List.getElem?_append_left (by omega)];exact h2,by simp[List.getElem?_append_right,h1],fun i m e=>?_⟩
    by_cases hi:i<w.length
    ·rw[List.getElem?_append_left hi] at e;obtain⟨u,v,q1,q2,q3⟩:=h4 i m e;exact⟨u,v,by rw[List.getElem?_append_left (by omega)];exact q1,by rw[List.getElem?_append_left (by omega)];exact q2,q3⟩
    · have hi2:i=w.length:=by have:=(List.getElem?_eq_some_iff.mp e).1;simp at this;omega
      subst hi2;simp at e;subst e;exact⟨b,c,by rw[List.getElem?_append_left (by omega)];exact h3,by simp[List.getElem?_append_right,h1],hs⟩
def qan (S:List kE) (f:List Str):Prop:=∀s∈S,s.2.1∈f→s.2.2∈f
structure Rch (S:List kE) (x:Str) (f:List Str):Prop where
  st:x∈f
  nd:f.Nodup
  rt:∀y∈f,RT (g_ S) x y
structure qk0 (S T:List kE) (x:Str) (f0 f:List Str):Prop where
  r0:f0.Nodup
  r:Rch S x f
  sub:∀y∈f0,y∈f
  le:f0.length≤f.length
  md:∀s∈T,s.2.1∈f0→s.2.2∈f
  cl:qan S f0→f=f0
theorem qk1 {m:Nat} (h:1≤m):(0:Int)<m:=by omega
theorem zlt {m b:Nat} {c:Int} (h:m≤b) (hb:(b:Int)<c):(m:Int)<c:=by omega
theorem zlo {f:Int} (h:0≤f) : -4611686018427387904≤f:=by omega
theorem qk2 {f:Nat} : -4611686018427387904≤(f:Int):=by omega
theorem ztn {d:Int} {m b:Nat} (h0:0≤d) (h:d<m) (hb:m≤b):d.toNat+1≤b:=by omega
theorem qk3 {d:Int} (h:0≤d) (c:Int):c+d=max d 0+c:=by omega
theorem zsz {a b:Nat} (h:a<b) (hb:b≤20):a<sizeLine:=Nat.lt_of_lt_of_le h (Nat.le_trans hb (of_eq_true Gw))
theorem z01 {d:Int} (h:0≤d) (h2:d<2):d=0∨d=1:=by omega
theorem z2 {n:Nat} (h:(1:Int)<n):2≤n:=by omega
theorem zk1 {k t:Nat} (h:t≤k):(0:Int)<k - t+1:=by omega
theorem zk2 {k t:Nat} {c:Int} (h:k≤20) (hc:21<c):(k:Int) - t+1<c:=by omega
theorem zk3 {f:Int} {k t p:Nat} (h0:0≤f) (h:f<k - t+1) (e:t=p):p+f.toNat≤k+0:=by omega
theorem zk4 {t p f k i:Nat} (e:t=p) (h:p+f≤k+i) (hi:i<f) (hk:k≤20):t<sizeLine:=by
  have:=of_eq_true Gw;omega
theorem zk5 {p f k i:Nat} (h:p+f≤k+i) (hi:i<f) (hk:k≤20):p≤19:=by omega
theorem zk6 {p f k i:Nat} (h:p+f≤k+i):p+1+f≤k+(i+1):=by omega
theorem zk7 {p f k:Nat} (h:p+f≤k+f):p≤k:=Nat.le_of_add_le_add_right h
theorem qk4 {lo i n:Nat} (h:i<n - lo):lo+i<n:=by omega
theorem zpa (c:Int):0≤if 1000000000000000000<c then c - 1000000000000000000 else 0:=by split <;> omega
theorem zpb (c:Int) (k:Nat):0≤c % 2147483629+977 * (k:Int)+1:=by omega
theorem zpc (c:Int) {k:Nat} (h:k<100):c % 2147483629+977 * (k:Int)+1<4294967296:=by omega
theorem zs1 {s i t p:Nat} (h:s≤2 * i+1) (hi:i<t) (e:t=p) (hp:p≤20):s<sizeLine:=by
  have:60<sizeLine:=by decide
  omega
theorem zs2 {s i:Nat} (h:s≤2 * i+1):s+1≤2 * (i+1):=by omega
theorem zs3 {s t p:Nat} (h:s≤2 * t) (e:t=p) (hp:p≤20):s≤40:=by omega
end L2
namespace L2
open PySem PySem.Spec PyProof.Rows
mutual
def Dk (H:Hp):PyData→V→Prop
  | .none,v=>v = .non
  | .bool b,v=>v = .bl b
  | .int i,v=>v = .int i
  | .str x,v=>v = .str x
  | .list ds,v=>∃a xs,v = .ref a∧H a=some (.lst xs)∧iD H ds xs
  | .tuple ds,v=>∃a xs,v = .ref a∧H a=some (.tup xs)∧iD H ds xs
  | .dict kvs,v=>kvs=[]∧∃a,v = .ref a∧H a=some (.dK [])
def iD (H:Hp):List PyData→List V→Prop
  | [],vs=>vs=[]
  | d::ds,vs=>∃v r,vs=v::r∧Dk H d v∧iD H ds r
end
mutual
theorem Dk.same {H H':Hp} (s:Same H H'):∀(d:PyData) (v:V),Dk H d v→Dk H' d v
  | .none,v,h=>by simp only[Dk] at h ⊢;exact h
  | .bool b,v,h=>by simp only[Dk] at h ⊢;exact h
  | .int i,v,h=>by simp only[Dk] at h ⊢;exact h
  | .str x,v,h=>by simp only[Dk] at h ⊢;exact h
  | .list ds,v,h=>by
    simp only[Dk] at h ⊢;obtain⟨a,xs,e,h1,h2⟩:=h;exact⟨a,xs,e,s _ _ h1,iD.same s ds xs h2⟩
  | .tuple ds,v,h=>by
    simp only[Dk] at h ⊢;obtain⟨a,xs,e,h1,h2⟩:=h;exact⟨a,xs,e,s _ _ h1,iD.same s ds xs h2⟩
  | .dict kvs,v,h=>by
    simp only[Dk] at h ⊢;obtain⟨e0,a,e,h1⟩:=h;exact⟨e0,a,e,s _ _ h1⟩
theorem iD.same {H H':Hp} (s:Same H H'):∀(ds:List PyData) (vs:List V),iD H ds vs→iD H' ds vs
  | [],vs,h=>by simp only[iD] at h ⊢;exact h
  | d::ds,vs,h=>by
    simp only[iD] at h ⊢;obtain⟨v,r,e,h1,h2⟩:=h;exact⟨v,r,e,Dk.same s d v h1,iD.same s ds r h2⟩
end
def hid (p:Addr) (H:Hp):Hp:=fun b=>if b=p then none else H b
theorem vZ {p b:Addr} {H:Hp} {o:HO} (h:b≠p) (e:H b=some o):hid p H b=some o:=by
  unfold hid;rw[if_neg h];exact e
section
variable {X:Cx} {p_:List (Addr×Obj)} {σ:St} {H:Hp} {s:Shared} {K:W.Frag}
theorem O2 {P:Program} {w:World} {h:Heap} {a:Addr} (ok:tO P w H h) (e:H a=some (.dK [])):Reads h (.ref a) (.dict []) [a]∧(a == sysModules)=false:=by
  obtain⟨_,hd,vs,kv,o,es,ep,h1,h2,h3,_,h5,_⟩:=Wi ok e;refine⟨?_,hd⟩;have ev:vs=[]:=by cases kv;rfl
  subst ev;have el:es.toList=[]:=by
    generalize es.toList=l at h5;cases h5;rfl
  have:=Reads.dict (kvs:=[]) (as:=[]) (bs:=[]) h1 h2.1 h3 (by rw[el];exact .nil) (by rw[el];exact .nil);exact this
mutual
theorem Dk.reads (I:Inv X p_ σ H s):∀(d:PyData) (v:V) (u:Value),Dk H d v→RelV v u→∃as,Reads s.heap u d as
  | .none,v,u,h,r=>by
    simp only[Dk] at h;subst h;cases r;exact⟨_,.none⟩
  | .bool b,v,u,h,r=>by
    simp only[Dk] at h;subst h;cases r;exact⟨_,.bool b⟩
  | .int i,v,u,h,r=>by
    simp only[Dk] at h;subst h;obtain⟨t,rfl⟩:=r;exact⟨_,.int i t⟩
  | .str x,v,u,h,r=>by
    simp only[Dk] at h;subst h;obtain⟨t,rfl⟩:=r;exact⟨_,.str x t⟩
  | .list ds,v,u,h,r=>by
    simp only[Dk] at h;obtain⟨a,xs,rfl,hq,hs⟩:=h;cases r;obtain⟨its,rv,pl,hz⟩:=I.list (aX.of hq);obtain⟨o,e,c,n,dt⟩:=pl.isList;obtain⟨as,ra⟩:=iD.reads I ds xs its hs rv;exact⟨_,.list e c dt (by simpa using ra)⟩
  | .tuple ds,v,u,h,r=>by
    simp only[Dk] at h;obtain⟨a,xs,rfl,hq,hs⟩:=h;cases r;obtain⟨its,rv,pl,hz⟩:=I.tuple (d9.of hq);obtain⟨o,e,c,n,dt⟩:=pl;obtain⟨as,ra⟩:=iD.reads I ds xs its hs rv;exact⟨_,.tuple e c dt (by simpa using ra)⟩
  | .dict kvs,v,u,h,r=>by
    simp only[Dk] at h;obtain⟨rfl,a,rfl,h1⟩:=h;cases r;exact⟨_,(O2 I.hok h1).1⟩
theorem iD.reads (I:Inv X p_ σ H s):∀(ds:List PyData) (vs:List V) (us:List Value),iD H ds vs→Vals vs us→∃as,ReadsAll s.heap us ds as
  | [],vs,us,h,r=>by
    simp only[iD] at h;subst h;cases r;exact⟨_,.nil⟩
  | d::ds,vs,us,h,r=>by
    simp only[iD] at h;obtain⟨v,vr,rfl,h1,h2⟩:=h;cases r with
    | cons r1 r2=>
      obtain⟨as,ra⟩:=Dk.reads I d v _ h1 r1;obtain⟨bs,rb⟩:=iD.reads I ds vr _ h2 r2;exact⟨_,.cons ra rb⟩
end
def tLR (ta:TA):TE:=fun σ H Q=>ta σ H fun vs H1=>ar1 vs fun v=>isInt v fun n=>0≤n∧n≤1000∧∀p,H1 p=none→Q (.ref p) (upd H1 p (.lst ((List.range n.toNat).map fun i=>V.int (i:Nat))))
@[simp ↓] theorem qnC ta σ H Q:tLR ta σ H Q=ta σ H fun vs H1=>ar1 vs fun v=>isInt v fun n=>0≤n∧n≤1000∧∀p,H1 p=none→Q (.ref p) (upd H1 p (.lst ((List.range n.toNat).map fun i=>V.int (i:Nat)))):=rfl
theorem Dl:∀(n lo:Nat) (l:List Value),l.length=n→(∀(j:Nat) v,l[j]? = some v→∃t,v = .int (((lo+j:Nat):Int)) t)→Vals ((List.range' lo n).map fun i=>V.int (i:Nat)) l
  | 0,lo,l,h,_=>by
    cases l with
    | nil=>exact .nil
    | cons _ _=>cases h
  | n+1,lo,l,h,q=>by
    cases l with
    | nil=>cases h
    | cons x r=>
      rw[List.range'_succ,List.map_cons];refine .cons ?_ (Dl n (lo+1) r (by simpa using h) fun j v e=>?_)
      ·obtain⟨t,rfl⟩:=q 0 x rfl;exact⟨t,rfl⟩
      ·obtain⟨t,rfl⟩:=q (j+1) v (by simpa using e);exact⟨t,by rw[show lo+(j+1)=lo+1+j by omega]⟩
theorem JG (hc:X.calm=true) {a:Expr} {ta:TA} {p p2 pos pos2:Pos} (hg1:Gl X "list") (hm1:X.mg "list" = none) (hg2:Gl X "range") (hm2:X.mg "range" = none) (ha:PA X [a] ta)
    (hs:starEach [a] X.env=[(false,eval a X.env)]:=by rfl)
    (hs1:starEach [.Call (.Name "range" p2) [a] [] pos2] X.env=[(false,eval (.Call (.Name "range" p2) [a] [] pos2) X.env)]:=by rfl) :
    PE X (.Call (.Name "list" p) [.Call (.Name "range" p2) [a] [] pos2] [] pos) (tLR ta):=by
  intro p_ s σ H Q I h;refine wpAny_Call_Name_kw (pH I hg1 hm1 boot_list ?_ (by decide) (by decide));refine PyProof.Rows.callWith_type1 ?_ (by rw[hs1];rfl) (by rfl);rw[hs1];show wpAny _ _ (spliced ((false,eval (.Call (.Name "range" p2) [a] [] pos2) X.env)::[])) _ _ s;refine Calls.spliced_cons ?_;refine wpAny_Call_Name_kw (pH I hg2 hm2 boot_range ?_ (by decide) (by decide));refine PyProof.Rows.callWith_type1 (cN (ha pos2 p_ s σ H _ I h) fun us s1 z=>?_) (by rw[hs];rfl) (by rfl);obtain⟨vs,H1,I1,r1,q1⟩:=z;obtain⟨v,rfl,q2⟩:=ar1.out q1;obtain⟨n,rfl,h0,h1,q⟩:=isInt.out q2;obtain⟨u,rfl,r⟩:=vals1 r1;obtain⟨t,rfl⟩:=r;refine call_range_1 (Calls.spliced_nil ?_);have hsz:(1000:Nat)≤sizeLine:=by decide
  have en:Builtin.Range.rangeSize 0 n 1=(n.toNat:Int):=by
    rw[rangeSize_one];split <;> omega
  refine call_list_range (n:=n.toNat) (I1.ok.hd hc) (IsRange.new ..) (small_one (by decide) (by decide) (by omega) (by omega)) en (by omega) fun h' tk acc' c' hk hD hit=>?_;have hle:s1.heap.objs.size≤(s1.heap.push {cls:=.type "range",data:=.fields #[.int 0 s1.toks,.int n t,.int 1 (s1.toks+1)]}).objs.size:=by rw[Heap.size_push];exact Nat.le_succ _
  have hf:=I1.hok.fresh hle;refine⟨.ref _,_,I1.laid (t':=tk) (fun b o e=>hk b o (Heap.get?_push_of_some _ e)) hle ?_,rfl,q _ hf⟩;refine(show cM _ _ _ _ _ (.lst _) from⟨by simp;omega,acc'.toList,c',?_,by simpa using hD⟩);rw[List.range_eq_range'];refine Dl _ 0 _ (by simpa using hit.1) fun j v e=>?_;obtain⟨t,rfl⟩:=hit.2 j v (by simpa using e);exact⟨t,by simp⟩
end
theorem Dm {f:Array Value→Array Value} {o:Obj}:(Obj.mapFields f o).dict=o.dict:=by
  obtain⟨c,d,dat,sl⟩:=o;cases dat <;> rfl
def Trc (base h:Heap) (e:Addr) (cls:Value×Option Addr) (fl:Value) (T:Addr):Prop:=
  ∃oe vs oT ts,h.get? e=some oe∧(oe.cls,oe.dict)=cls∧oe.data = .fields vs∧vs[2]? = some .none∧vs[1]? = some (.ref T)∧base.get? T=none∧T≠e∧h.get? T=some oT∧oT.data = .fields ts∧ts[3]? = some fl
structure Stn (base:Heap) (l:List Env) (e:Addr) (cls:Value×Option Addr) (fl:Value) (h h':Heap):Prop where
  stays:base.StaysIn h'
  frames:h'.FunFrames base l
  trc:∃T,Trc base h' e cls fl T
  slots:h.UpToSlots h'
section
variable {M:Model} {A:Around} {E:Value→Shared→Prop} {s:Shared} {base:Heap} {env:Env} {outer l:List Env} {L e:Addr} {Q:Unit→Shared→Prop}
theorem Q0 {oe:Obj} {vs:Array Value} {head:Value} {had:Bool} (fr:A.frames=some (env::outer)) (ff:s.heap.FunFrames base (env::outer)) (lf:env.frame=some L) (ee:s.heap.get? e=some oe)
    (st:base.StaysIn s.heap) (nb:base.get? e=none) (de:oe.data = .fields vs) (v2:vs[2]? = some .none) (hq:∀h',Stn base (env::outer) e (oe.cls,oe.dict) (rawInt L) s.heap h'→Q () {s with heap:=h'}) :
    wpAny M A (do let a ← frameOf env;let pl ← entryPlaceOf L had;let b ← EntryCells.newEntry head a .none (rawInt L) .none pl;setField (.ref e) 1 b) Q E s:=by
  have sz2:2<vs.size:=(Array.getElem?_eq_some_iff.mp v2).1;have ne:e∉frs (env::outer):=fun z=>by
    obtain⟨_,o,y,d⟩:=ff.mem z;rw[ee] at y;cases y;exact d vs de
  refine wpAny_bind (wpAny_frameOf_fun fr ff lf fun g1 x1=>?_);refine wpAny_bind (wpAny_entryPlaceOf fun pl okp=>?_);unfold EntryCells.newEntry newFields;refine wpAny_bind (wpAny_newObj_type ?_ (okp.sizeOk5 _ _ _ _ _));have e1:g1.get? e=some oe:=(x1.2.1 e ne).trans ee;have st1:base.StaysIn g1:=fun b o z=>(x1.2.1 b fun y=>by rw[(ff.mem y).1] at z;cases z).trans (st b o z);generalize hR:({cls:=.type "traceback",dict:=none,data:=.fields ([head,.ref L,.none,rawInt L,.none]++(if pl.isEmpty then List.replicate 6 Value.none else pl)).toArray}:Obj)=R
  have dR:∃ts,R.data = .fields ts∧ts[3]? = some (rawInt L)∧R.isFreed=false:=by
    subst hR;exact⟨_,rfl,by simp,rfl⟩
  obtain⟨ts,dR,tR,fR⟩:=dR;have e2:=Heap.get?_push_of_some (h:=g1) R e1;refine wpAny_setField e2 de (Nat.lt_of_succ_lt sz2) (hq _ ?_);have Te:g1.objs.size≠e:=Nat.ne_of_gt (Heap.lt_size e1);have keep:∀{b o},b≠e→g1.get? b=some o→((g1.push R).update e (Obj.mapFields (·.setIfInBounds 1 (Value.ref g1.objs.size)))).get? b=some o:=fun {b o} nb z=>by
    rw[Heap.get?_update_other _ _ (Ne.symm nb)];exact Heap.get?_push_of_some _ z
  have nr:∀{b o},s.heap.get? b=some o→(∀us,o.data≠.fields us)→b≠e:=fun {b o} z d y=>by
    rw[y,ee] at z;cases z;exact d vs de
  have d3:=Obj.data_mapFields de (·.setIfInBounds 1 (Value.ref g1.objs.size));refine⟨fun b o z=>keep (fun y=>by rw[y,nb] at z;cases z) (st1 b o z),ff.of_keeps fun b o z d=>?_,⟨g1.objs.size,?_⟩,fun b o z d=>?_⟩
  ·obtain⟨sl,y⟩:=x1.2.2 b o z;exact⟨_,keep (nr z d) y,rfl⟩
  · refine⟨_,_,R,ts,Heap.get?_update_self _ e2 (Obj.isFreed_of_fields d3),by rw[Obj.cls_mapFields,Dm],d3,?_,?_,st1.fresh,Te,?_,dR,tR⟩
    ·rw[Array.getElem?_setIfInBounds_ne (by decide)];exact v2
    ·simp[Nat.lt_of_succ_lt sz2]
    ·rw[Heap.get?_update_other _ _ (Ne.symm Te)];exact Heap.get?_push_size g1 fR
  ·obtain⟨sl,y⟩:=x1.2.2 b o z;exact⟨sl,keep (nr z d) y⟩
theorem O4 {oe:Obj} {vs:Array Value} (fr:A.frames=some (env::outer)) (ff:s.heap.FunFrames base (env::outer)) (lf:env.frame=some L) (ee:s.heap.get? e=some oe)
    (st:base.StaysIn s.heap) (nb:base.get? e=none) (de:oe.data = .fields vs) (v1:vs[1]? = some .none) (v2:vs[2]? = some .none) (hq:∀h',Stn base (env::outer) e (oe.cls,oe.dict) (rawInt L) s.heap h'→Q () {s with heap:=h'}) :
    wpAny M A (noteFrame (.ref e) env) Q E s:=by
  unfold noteFrame;simp only[lf];refine wpAny_bind (wpAny_field ee de v1 ?_);rw[if_neg (by decide)];exact Q0 fr ff lf ee st nb de v2 hq
theorem HD {cls:Value×Option Addr} {T:Addr} (fr:A.frames=some (env::outer)) (ff:s.heap.FunFrames base (env::outer)) (lf:env.frame=some L) (tr:Trc base s.heap e cls .none T)
    (st:base.StaysIn s.heap) (nb:base.get? e=none) (hq:∀h',Stn base (env::outer) e cls (rawInt L) s.heap h'→Q () {s with heap:=h'}) :
    wpAny M A (noteFrame (.ref e) env) Q E s:=by
  obtain⟨oe,vs,oT,ts,ee,rfl,de,v2,v1,nT,Te,eT,dT,t3⟩:=tr;unfold noteFrame;simp only[lf];refine wpAny_bind (wpAny_field ee de v1 ?_);rw[if_pos (by simp)];refine wpAny_bind (wpAny_field eT dT t3 ?_);rw[if_neg (by simp[rawInt])];refine wpAny_bind (wpAny_setField eT dT (Array.getElem?_eq_some_iff.mp t3).1 ?_);have oth:∀{b},b≠T→(s.heap.update T (Obj.mapFields (·.setIfInBounds 3 Value.none))).get? b=s.heap.get? b:=fun n=>Heap.get?_update_other _ _ (Ne.symm n);have nr:∀{b o},s.heap.get? b=some o→(∀us,o.data≠.fields us)→b≠T:=fun {b o} z d y=>by
    rw[y,eT] at z;cases z;exact d ts dT
  refine Q0 (s:={s with heap:=s.heap.update T (Obj.mapFields (·.setIfInBounds 3 Value.none))}) fr (ff.of_keeps fun b o z d=>⟨o,(oth (nr z d)).trans z,rfl⟩) lf ((oth (Ne.symm Te)).trans ee) (fun b o z=>(oth fun y=>by rw[y,nT] at z;cases z).trans (st b o z)) nb de v2 fun h' x=>hq h' ⟨x.stays,x.frames,x.trc,fun b o z d=>x.slots b o ((oth (nr z d)).trans z) d⟩
theorem Dq {cls:Value×Option Addr} {fl:Value} {T:Addr} (ff:s.heap.FunFrames base l) (tr:Trc base s.heap e cls fl T) (st:base.StaysIn s.heap) (hq:∀h',Stn base l e cls .none s.heap h'→Q () {s with heap:=h'}) :
    wpAny M A (setFlight (.ref e) none) Q E s:=by
  obtain⟨oe,vs,oT,ts,ee,rfl,de,v2,v1,nT,Te,eT,dT,t3⟩:=tr;have z3:3<ts.size:=(Array.getElem?_eq_some_iff.mp t3).1;unfold setFlight;refine wpAny_bind (wpAny_field ee de v1 ?_);rw[if_pos (by simp)];refine wpAny_setField eT dT z3 (hq _ ?_);have oth:∀{b} (f:Obj→Obj),b≠T→(s.heap.update T f).get? b=s.heap.get? b:=fun f n=>Heap.get?_update_other _ _ (Ne.symm n);have nr:∀{b o},s.heap.get? b=some o→(∀us,o.data≠.fields us)→b≠T:=fun {b o} z d y=>by
    rw[y,eT] at z;cases z;exact d ts dT
  refine⟨fun b o z=>(oth _ fun y=>by rw[y,nT] at z;cases z).trans (st b o z),ff.of_keeps fun b o z d=>⟨o,(oth _ (nr z d)).trans z,rfl⟩,⟨T,oe,vs,_,_,(oth _ (Ne.symm Te)).trans ee,rfl,de,v2,v1,nT,Te,Heap.get?_update_self _ eT (Obj.isFreed_of_fields (Obj.data_mapFields dT _)),Obj.data_mapFields dT _,?_⟩,fun b o z d=>⟨o.slots,(oth _ (nr z d)).trans z⟩⟩;simp[z3]
theorem Q5 {cls:Value×Option Addr} (note:∀Q':Unit→Shared→Prop,(∀h',Stn base (env::outer) e cls (rawInt L) s.heap h'→Q' () {s with heap:=h'})→wpAny M A (noteFrame (.ref e) env) Q' E s)
    (hq:∀h',Stn base (env::outer) e cls .none s.heap h'→Q () {s with heap:=h'}):wpAny M A (leaving env (.ref e)) Q E s:=by
  unfold leaving;refine wpAny_bind (note _ fun h1 x1=>?_);obtain⟨T,tr⟩:=x1.trc;exact Dq (s:={s with heap:=h1}) x1.frames tr x1.stays fun h2 x2=>hq h2 ⟨x2.stays,x2.frames,x2.trc,x1.slots.trans x2.slots⟩
end
structure HF (h0 h:Heap) (H:Hp) (a C:Addr) (od:Option Addr):Prop where
  new:h0.get? a=none
  un:H a=none
  ob:∃oe vs,h.get? a=some oe∧(oe.cls,oe.dict)=(Value.ref C,od)∧oe.data = .fields vs∧vs[2]? = some .none∧(vs[1]? = some .none∨
    ∃T oT ts,vs[1]? = some (.ref T)∧T≠a∧h0.get? T=none∧H T=none∧h.get? T=some oT∧oT.data = .fields ts∧ts[3]? = some .none)
structure Xi (h0 h:Heap) (H:Hp) (a C:Addr) (od:Option Addr) (T:Addr):Prop where
  new:h0.get? a=none
  newT:h0.get? T=none
  un:H a=none
  unT:H T=none
  ob:∃oe vs oT ts,h.get? a=some oe∧(oe.cls,oe.dict)=(Value.ref C,od)∧oe.data = .fields vs∧vs[2]? = some .none∧vs[1]? = some (.ref T)∧T≠a∧h.get? T=some oT∧oT.data = .fields ts∧ts[3]? = some .none
theorem Xi.in {h0 h:Heap} {H:Hp} {a C T:Addr} {od:Option Addr} (x:Xi h0 h H a C od T):HF h0 h H a C od:=by
  obtain⟨h1,h2,h3,h4,oe,vs,oT,ts,t1,t2,t3,t4,t5,t6,t7⟩:=x;exact⟨h1,h3,oe,vs,t1,t2,t3,t4,.inr ⟨T,oT,ts,t5,t6,h2,h4,t7⟩⟩
def Vd (P:Program) (w:World):VF:=fun outer H s E e s'=>∃(a C:Addr) (od:Option Addr) (H':Hp),e = .ref a∧s'.os=s.os∧AllBare s'.gens∧Un (frs outer) [] H H' s.heap s'.heap∧tO P w H' s'.heap∧(∃T,Xi s.heap s'.heap H' a C od T)∧E (.ref C) od H'
theorem Xj {P:Program} {w:World} {H:Hp} {h:Heap} (x:tO P w H h) {b:Addr} (e:h.get? b=none):H b=none:=by
  cases q:H b with
  | none=>rfl
  | some u=>
    obtain⟨o,eo⟩:∃o,h.get? b=some o:=by
      have:=x b u q;cases u with
      | lst xs=>obtain⟨_,_,_,_,e⟩:=this;exact⟨_,e⟩
      | tup xs=>obtain⟨_,_,_,o,e,_⟩:=this;exact⟨_,e⟩
      | dK kvs=>obtain⟨_,_,_,_,o,_,_,e,_⟩:=this;exact⟨_,e⟩
      | dT kvs=>obtain⟨_,_,_,_,o,_,_,e,_⟩:=this;exact⟨_,e⟩
      | set S n=>obtain⟨o,_,_,_,e,_⟩:=this;exact⟨_,e⟩
      | ins C dx fs=>obtain⟨_,_,_,e,_⟩:=this;exact⟨_,e⟩
      | own y=>obtain⟨_,e⟩:=this;exact⟨_,e⟩
      | xd fs=>obtain⟨_,⟨_,_,_,e,_⟩,_⟩:=this;exact⟨_,e⟩
      | rng lo hi=>obtain⟨_,_,_,e⟩:=this;exact⟨_,e⟩
      | Ky ob u=>obtain⟨e,_⟩:=this;exact⟨_,e⟩
      | tbl ps=>exact⟨_,(show h.get? b=some _ from this)⟩
      | met f y=>exact⟨_,(show h.get? b=some _ from this)⟩
      | ext φ=>obtain⟨_,⟨o,e⟩,_⟩:=this;exact⟨_,e⟩
    rw[e] at eo;cases eo
section
variable {X:Cx} {p_:List (Addr×Obj)} {σ:St} {H:Hp} {s:Shared}
theorem Inv.old (I:Inv X p_ σ H s) (hex:X.ex=[]) {b:Addr} (e:s.heap.get? b=none):X.s₀.heap.get? b=none:=by
  cases q:X.s₀.heap.get? b with
  | none=>rfl
  | some o=>
    obtain⟨o',eo⟩:=I.base.there b o q (by rw[hex];simp);rw[e] at eo;cases eo
theorem Q6 (I:Inv X p_ σ H s) (hex:X.ex=[]) {a C:Addr} {od:Option Addr} {l:List Addr} (hl:∀b∈l,b∈frs X.stack∨(X.s₀.heap.get? b=none∧H b=none)) (ha:X.s₀.heap.get? a=none) (hH:H a=none) (hs:∀b∈frs X.stack,b∈l)
    {E:XK} (hE:E (.ref C) od H) {h':Heap} (x:Stn (W.hideAll s.heap l) X.stack a (.ref C,od) .none s.heap h'):Vd X.prog X.w X.outer X.H₀ X.s₀ E (.ref a) {s with heap:=h'}:=by
  obtain⟨k1,k2,⟨T,oe,vs,oT,ts,t1,t2,t3,t4,tt,t5,t6,t7,t8,t9⟩,k4⟩:=x;have nl:∀{b:Addr} {o:Obj},b∉l→s.heap.get? b=some o→h'.get? b=some o:=fun hb e=>k1 _ _ (W.hideAll_get _ e hb);have qfL:∀{b:Addr} {o:Obj},X.s₀.heap.get? b=some o→b∉X.fs→b∉l:=fun {b o} e hb hm=>by
    rcases hl b hm with z | ⟨z,_⟩
    · rcases List.mem_cons.mp (I.vR b z) with z | z
      ·rw[z] at e;exact absurd (Heap.lt_size e) (Nat.not_lt.mpr I.ok.above)
      ·exact hb z
    ·rw[z] at e;cases e
  have trL:∀{b:Addr} {u:HO},H b=some u→b∉l:=fun {b u} e hm=>by
    rcases hl b hm with z | ⟨_,z⟩
    ·rw[I.Bq b z] at e;cases e
    ·rw[z] at e;cases e
  have fsl:∀{b:Addr} {o:Obj},b∈X.fs→s.heap.get? b=some o→∃sl,h'.get? b=some {o with slots:=sl}:=fun {b o} hb e=>by
    obtain⟨_,o2,e2,hd⟩:=I.tQ.mem hb;rw[e] at e2;cases e2;exact k4 b o e hd
  have U_:∀b:Addr,b∉X.ex:=fun b=>by rw[hex];simp
  refine⟨a,C,od,H,rfl,I.os,I.bare,⟨fun b o e n hb _=>?_,fun b o e n hb _=>?_,fun b o e n _=>I.base.free b o e n (U_ b),fun b o e _=>?_,I.base.tups,I.base.qW,I.base.tE⟩,fun b u e=>?_,⟨T,ha,?_,hH,?_,oe,vs,oT,ts,t1,t2,t3,t4,tt,t6,t7,t8,t9⟩,hE⟩
  ·exact nl (qfL e hb) (I.base.keep b o e n hb (U_ b))
  ·obtain⟨sl,e2⟩:=I.base.slot b o e n hb (U_ b);obtain⟨sl',e3⟩:=fsl hb e2;exact⟨sl',e3⟩
  · obtain⟨o',e2⟩:=I.base.there b o e (U_ b)
    by_cases hb:b∈X.fs
    ·obtain⟨sl,e3⟩:=fsl hb e2;exact⟨_,e3⟩
    ·exact⟨o',nl (qfL e hb) e2⟩
  · refine(I.hok b u e).stay (fun c v hc q=>?_) (fun c q=>q) fun c xs q=>q
    rcases hc with rfl | hc
    ·exact nl (trL e) q
    ·exact nl (trL hc) q
  all_goals
    have hT:T∉frs X.stack:=fun hm=>by
      obtain⟨_,o2,e2,hd⟩:=k2.mem hm;rw[t7] at e2;cases e2;exact hd _ t8
    have cs:s.heap.get? T=none∨(X.s₀.heap.get? T=none∧H T=none):=by
      cases q:s.heap.get? T with
      | none=>exact .inl rfl
      | some o=>
        by_cases hm:T∈l
        ·exact .inr ((hl T hm).resolve_left hT)
        ·rw[W.hideAll_get _ q hm] at t5;cases t5
  ·exact cs.elim (fun z=>I.old hex z) fun z=>z.1
  ·exact cs.elim (fun z=>Xj I.hok z) fun z=>z.2
theorem Xk (I:Inv X p_ σ H s) (hst:X.stack=X.env::X.outer) (hfr:X.env.frame=some X.env.locals) (hex:X.ex=[]) {a C:Addr} {od:Option Addr} (x:HF X.s₀.heap s.heap H a C od) {E:XK} (hE:E (.ref C) od H) {E':Value→Shared→Prop} :
    wpAny (model X.prog X.w) X.A (leaving X.env (.ref a)) (fun _ s''=>Vd X.prog X.w X.outer X.H₀ X.s₀ E (.ref a) s'') E' s:=by
  obtain⟨new,un,oe,vs,he,hc,hd,h0,hT⟩:=x;have fr:=I.ok.frames;rw[hst] at fr;have qbr:∀l:List Addr,s.heap.FunFrames (W.hideAll s.heap (frs X.stack++l)) (X.env::X.outer):=fun l=>by
    rw[← hst];exact W.funFrames_hide I.stack fun env he b hb=>List.mem_append_left _ (List.mem_filterMap.mpr ⟨env,he,hb⟩)
  rcases hT with h1 | ⟨T,oT,ts,h1,h2,h3,h4,h5,h6,h7⟩
  · refine Q5 (base:=W.hideAll s.heap (frs X.stack++[a])) (fun Q' q=>O4 fr (qbr _) hfr he (fun b o e=>W.of_hideAll _ e) (W.hideAll_none _ (by simp)) hd h1 h0 q) fun h' hL=>?_;rw[hc,← hst] at hL;refine Q6 I hex (fun b hb=>?_) new un (fun b hb=>List.mem_append_left _ hb) hE hL
    rcases List.mem_append.mp hb with z | z
    ·exact .inl z
    ·rw[List.mem_singleton.mp z];exact .inr ⟨new,un⟩
  · refine Q5 (base:=W.hideAll s.heap (frs X.stack++[a,T])) (cls:=(.ref C,od)) (fun Q' q=>HD fr (qbr _) hfr (T:=T) ⟨oe,vs,oT,ts,he,hc,hd,h0,h1,W.hideAll_none _ (by simp),h2,h5,h6,h7⟩ (fun b o e=>W.of_hideAll _ e) (W.hideAll_none _ (by simp)) q) fun h' hL=>?_;rw[← hst] at hL;refine Q6 I hex (fun b hb=>?_) new un (fun b hb=>List.mem_append_left _ hb) hE hL
    rcases List.mem_append.mp hb with z | z
    ·exact .inl z
    · simp only[List.mem_cons,List.not_mem_nil,or_false] at z
      rcases z with rfl | rfl
      ·exact .inr ⟨new,un⟩
      ·exact .inr ⟨h3,h4⟩
theorem HF.back {h0 h1 h:Heap} {H:Hp} {a C:Addr} {od:Option Addr} (x:HF h1 h H a C od) (k:∀b,h1.get? b=none→h0.get? b=none):HF h0 h H a C od:=by
  obtain⟨new,un,oe,vs,he,hc,hd,h2,hT⟩:=x;refine⟨k _ new,un,oe,vs,he,hc,hd,h2,?_⟩
  rcases hT with h1 | ⟨T,oT,ts,h1,h2,h3,h4,h5⟩
  ·exact .inl h1
  ·exact .inr ⟨T,oT,ts,h1,h2,k _ h3,h4,h5⟩
def Lets (X:Cx) (E:XK):Prop:=∀(p_:List (Addr×Obj)) (σ:St) (H:Hp) (s:Shared) (a C:Addr) (od:Option Addr),Inv X p_ σ H s→HF X.s₀.heap s.heap H a C od→E (.ref C) od H→X.xe (.ref a) s
theorem JH {P:Program} {w:World} {K:W.Frag} {mg:Str→Option Value} {base:Heap} {N:List Str} {qual:Str} {scope:Scope} {f:Addr} {cd:Value} {A:Around} {outer:List Env} {s:Shared} {H:Hp} {E:XK} :
    Lets (aB (Vd P w) P w K mg base N qual scope f cd A outer s H E) E:=fun p_ σ H1 s1 a C od I x hE=>Xk I rfl rfl rfl x hE
theorem Lets.passes {X:Cx} {E:XK} (h:Lets X E) (hex:X.ex=[]):Passes (Vd X.prog X.w) X E:=fun p_ σ H s e s' I hx=>by
  obtain⟨a,C,od,H',rfl,ho,hg,un,hok,⟨T,ex⟩,hE⟩:=hx;have I':Inv X p_ σ H' s':=I.call' (ch:=[]) ho un hok hg fun b z=>(nomatch z);exact h p_ σ H' s' a C od I' (ex.in.back fun b e=>I.old hex e) hE
theorem qao {K:W.Frag} {h:Heap} {C:Addr} {bmB:List Value} {newId:String} (X:K.In h) (q:W.excIn K C bmB newId=true) :
    ∃bm N nm q bs hdct sn sub ab col dd k0 k1 k2 k3 k5 mN,h.get? C=some (excClassObj nm q C N bs bm hdct sn sub ab col dd k0 k1 k2 k3 k5 newId)∧h.Ns N mN∧mN "__init__" = none∧OwnTail h bmB bm∧∀v b,W.mroIn K C v=some b→(Value.ref C::bm).contains v=b:=by
  unfold W.excIn at q;split at q
  · rename_i dd cd sl ho;split at q
    · rename_i C' bm k0 k1 k2 k3 n k5 hm hs;simp only[Bool.and_eq_true,beq_iff_eq,Bool.not_eq_true'] at q;obtain⟨⟨⟨⟨⟨rfl,rfl⟩,hdel⟩,ht⟩,hok⟩,hni⟩:=q;obtain⟨nm,bs,mro,ns,qn,hd,sn,sub,ab,col,del⟩:=cd;dsimp only at hm hdel hok hni;subst hm hdel;obtain rfl:sl = #[k0,k1,k2,k3,some (.builtin n),k5]:=by
        obtain⟨l⟩:=sl;simp only at hs;rw[hs]
      exact⟨bm,ns,nm,qn,bs,hd,sn,sub,ab,col,dd,k0,k1,k2,k3,k5,_,X _ _ ho,.of_isNs (W.isNs_of_in X hok),W.nsMap_none_of_in X hok hni,W.tail_of_in X ht,fun v b e=>by
        unfold W.mroIn W.clsIn at e;rw[ho] at e;simpa using e⟩
    ·cases q
  ·cases q
abbrev ju:List Value:=[.type "ValueError",.type "Exception",.type "BaseException",.type "object"]
def qY (K:W.Frag) (C:Addr):Prop:=W.excIn K C ju "ValueError.__new__" = true
theorem kW.okE {P:Program} {w:World} {K:W.Frag} {mg:Str→Option Value} {base:Heap} {x qual:Str} {st:Stmt} {f:Addr} {fd:FuncData} {N ps:List Str} {k:Nat} {sp:Sp} (F:kW K x qual st f fd) (S:bC N ps (ao st)) (len:∀vs H Q E,sp vs H Q E→vs.length=ps.length)
    (hbody:∀(cdv:Value) (A:Around) (outer:List Env) (s:Shared) (H:Hp) (vs:List V) (Q:VK) (E:XK),jl k (A.deeper (envOfC qual (ao st) s.heap.objs.size f cdv))→sp vs H Q E→
      ∃t,Gn (aB (Vd P w) P w K mg base N qual (ao st) f cdv A outer s H E) (aJ st) t∧t {nx:=fun _ H'=>Q .non H',rt:=Q} (start N vs) H):dG P w K mg base (Vd P w) (k+1) f fd ps sp:=by
  obtain⟨oc,od,kV,doc,pm,an,cdv,ct,osl,rfl,lk,hcd⟩:=F.ex;exact qa7 lk hcd S len fun A outer s H vs Q E hr hsp=>hbody cdv A outer s H vs Q E hr hsp
theorem Inv.gone {X:Cx} {p_:List (Addr×Obj)} {σ:St} {H:Hp} {s:Shared} {h':Heap} {t':Nat} {ch:List Addr} (I:Inv X p_ σ H s) (hex:X.ex=[])
    (hch:∀b∈ch,X.s₀.heap.get? b=none∧H b=none∧(∀vs o,s.heap.get? b=some o→o.data = .fields vs→True)∧(∃o vs,s.heap.get? b=some o∧o.data = .fields vs)∧∀p∈X.pn++p_,p.1≠b)
    (k1:∀b o,b∉frs X.stack→b∉ch→s.heap.get? b=some o→h'.get? b=some o) (k2:∀b o,s.heap.get? b=some o→(∀vs,o.data≠.fields vs)→∃sl,h'.get? b=some {o with slots:=sl}) :
    Inv X p_ σ H {s with heap:=h',toks:=t'}:=by
  have nf:∀{b o},s.heap.get? b=some o→(∀vs,o.data≠.fields vs)→b∉ch:=fun {b o} e hd hb=>by
    obtain⟨_,_,_,⟨o2,vs,e2,d2⟩,_⟩:=hch b hb;rw[e] at e2;cases e2;exact hd vs d2
  have fsl:∀{b:Addr} {o:Obj},b∈frs X.stack→s.heap.get? b=some o→∃sl,h'.get? b=some {o with slots:=sl}:=fun {b o} hb e=>by
    obtain⟨_,o2,e2,hd⟩:=I.stack.mem hb;rw[e] at e2;cases e2;exact k2 b o e hd
  have ex1:∀{b:Addr} {o:Obj},b∉ch→s.heap.get? b=some o→∃o',h'.get? b=some o':=fun {b o} hb e=>by
    by_cases hf:b∈frs X.stack
    ·obtain⟨sl,z⟩:=fsl hf e;exact⟨_,z⟩
    ·exact⟨o,k1 b o hf hb e⟩
  have old:∀{b:Addr} {o:Obj},X.s₀.heap.get? b=some o→b∉ch:=fun e hb=>by
    rw[(hch _ hb).1] at e;cases e
  have qk5:∀{b:Addr} {o:Obj},X.s₀.heap.get? b=some o→b∉X.fs→b∉frs X.stack:=fun {b o} e hb hm=>by
    rcases List.mem_cons.mp (I.vR b hm) with z | z
    ·rw[z] at e;exact absurd (Heap.lt_size e) (Nat.not_lt.mpr I.ok.above)
    ·exact hb z
  have U_:∀b:Addr,b∉X.ex:=fun b=>by rw[hex];simp
  have cells:∀{c:Addr} {v:Option Value},s.heap.IsCell c v→h'.IsCell c v:=fun {c v} ⟨o,e,d⟩=>by
    obtain⟨sl,z⟩:=k2 c o e (fun vs q=>by rw[d] at q;cases q);exact⟨_,z,d⟩
  have subs:∀{b:Addr},b∈X.fs→b∈frs X.stack:=fun {b} hb=>by
    rcases I.ok.stk with e | ⟨e,hf⟩
    ·rw[e];exact hb
    ·rw[e];show b∈List.filterMap _ (X.env::X.outer);rw[List.filterMap_cons,hf];exact List.mem_cons_of_mem _ hb
  refine⟨I.ok,I.os,I.bare,⟨fun b o e n hb hx=>?_,fun b o e n hb hx=>?_,I.base.free,fun b o e hx=>?_,I.base.tups,I.base.qW,I.base.tE⟩,?_,fun x c e=>?_,I.free,I.iH,fun p hp=>?_,fun b u e=>?_,I.len⟩
  ·exact k1 b o (qk5 e hb) (old e) (I.base.keep b o e n hb hx)
  ·obtain⟨sl,z⟩:=I.base.slot b o e n hb hx;obtain⟨sl',z'⟩:=fsl (subs hb) z;exact⟨sl',z'⟩
  ·obtain⟨o',z⟩:=I.base.there b o e hx;exact ex1 (old e) z
  · obtain⟨m,⟨o,es,ep,e,d,r⟩,q⟩:=I.loc;obtain⟨sl,z⟩:=k2 _ o e (fun vs y=>by rw[d] at y;cases y);refine⟨m,⟨_,es,ep,z,d,r⟩,fun i x v e1 e2 e3=>?_⟩;obtain⟨u,rv,l⟩:=q i x v e1 e2 e3;refine⟨u,rv,?_⟩
    rcases l with l | ⟨kd,c,ec,y⟩
    ·exact .inl l
    ·exact .inr ⟨kd,c,ec,cells y⟩
  ·obtain⟨v,z⟩:=I.cell x c e;exact⟨v,cells z⟩
  · obtain⟨e,n,ne,nfs,d⟩:=I.pin p hp;refine⟨k1 _ _ (fun hm=>?_) (fun hm=>(hch _ hm).2.2.2.2 p hp rfl) e,n,ne,nfs,d⟩
    rcases List.mem_cons.mp (I.vR _ hm) with z | z
    ·exact ne z
    ·exact nfs z
  · have no:∀{c:Addr} {u:HO},H c=some u→c∉frs X.stack∧c∉ch:=fun {c u} q=>⟨fun hm=>(by rw[I.Bq _ hm] at q;cases q),fun hm=>(by rw[(hch _ hm).2.1] at q;cases q)⟩;refine(I.hok b u e).stay (fun c v hc q=>?_) (fun c q=>q) fun c xs q=>q
    rcases hc with rfl | hc
    ·exact k1 _ _ (no e).1 (no e).2 q
    ·exact k1 _ _ (no hc).1 (no hc).2 q
end
end L2
namespace L2
open PySem PySem.Spec PySem.W PyProof.Rows
section
variable {prog:Program} {w:World} {A:Around} {E:Value→Shared→Prop} {K:W.Frag} {h:Heap} {g:Array GenState} {d:Drawn} {t:Nat} {os:OsState} {x C:Addr}
structure qZ (K:W.Frag) (C:Addr):Prop where
  ga:findIn K (.ref C) "__getattribute__" = some (some (.builtin "BaseException.__getattribute__"))
  gn:findIn K (.ref C) "__getattr__" = some none
  cl:findIn K (.ref C) "__class__" = some (some (.builtin "object.__class__"))
  sp:specialIn K (.builtin "object.__class__") "__get__" = some (some (.builtin "getset_descriptor.__get__"))
  tk:takesIn K (.builtin "object.__class__")=some true
  mo:mroIn K C (.type "object")=some true
  mb:mroIn K C (.type "BaseException")=some true
def lq (x C:Addr) (h:Heap):Prop:=∃ox vs,h.get? x=some ox∧ox.cls = .ref C∧ox.data = .fields vs∧vs[2]? = some .none
theorem lq.type {M:Model} (e:lq x C h):Looks M h (typeOf (.ref x)) (.ref C):=by
  obtain⟨ox,vs,h1,h2,_⟩:=e;exact h2▸(Looks.ld h1).andThen .now
theorem qap {R:Result→Shared→Prop} {tp:Value} (X:K.In h) (I:lq x C h) (L:qZ K C) (hq:R (.ok (.ret (.ref C))) ⟨h,g,d,t,os⟩) :
    codeAny (model prog w) A (.call (.builtin "getset_descriptor.__get__") ⟨[.builtin "object.__class__",.ref x,tp],[]⟩) R ⟨h,g,d,t,os⟩:=by
  have L0:=I.type (M:=model prog w);have L1:=looks_mroIn (M:=model prog w) X L.mo;have hT5:(⟨h,g,d,t,os⟩:Shared).TypeIs (.builtin "object.__class__") "getset_descriptor" :=F.typeOf_object_class;refine codeAny_call_builtin F.slot_gs_get.plain F.entry_gs_get (F.slot_gs_get.check _ _ _ _ _ _ _ _ hT5 (F.args_gs_get _ _ _) ?_)
  repeat (any_goals (first | assumption | with_reducible refine L0.at ?_ | with_reducible refine L1.at ?_ | wp_step))
  rw[show(".".intercalate ("object.__class__".cutAt '.').dropLast) = "object" by decide+kernel];refine L1.at ?_
  repeat (any_goals (first | assumption | with_reducible refine L0.at ?_ | wp_step))
  refine⟨Code.quiet_builtin _ (by decide+kernel),codeAny_builtin KF.entry_class ?_⟩;unfold Builtin.«object.__class__»
  repeat (any_goals (first | assumption | with_reducible refine L0.at ?_ | wp_step))
theorem Tt {tk:Tok} {Q:PySem.Fin→Shared→Prop} (X:K.In h) (I:lq x C h) (L:qZ K C) (hq:Q (.done (.ret (.ref C))) ⟨h,g,d,t,os⟩) :
    wpAny (model prog w) A (Builtin.«object.__getattribute__» ⟨[.ref x,.str "__class__" tk],[]⟩) Q E ⟨h,g,d,t,os⟩:=by
  have L0:=I.type (M:=model prog w);have L1:=looks_findIn (M:=model prog w) X L.cl;have hT5:(⟨h,g,d,t,os⟩:Shared).TypeIs (.builtin "object.__class__") "getset_descriptor" :=F.typeOf_object_class;have f5:=F.typeOf_object_class;have f6:=F.slot_gs_get.lookup;have f7:=F.slot_gs_set.lookup
  repeat (any_goals (first | assumption | with_reducible refine L0.at ?_ | with_reducible refine L1.at ?_ | wp_step))
  refine qap X I L ?_
  repeat (any_goals (first | assumption | wp_step))
theorem Tv {M:Model} {nameV:Value} {Q:Unit→Shared→Prop} (X:K.In h) (I:lq x C h) (L:qZ K C) (hq:Q () ⟨h,g,d,t,os⟩) :
    wpAny M A (checkBuiltinCall "BaseException.__getattribute__" ⟨[.ref x,nameV],[]⟩) Q E ⟨h,g,d,t,os⟩:=by
  have hk:builtinKind "BaseException.__getattribute__" = some .slot:=by decide+kernel
  have hs:splitId "BaseException.__getattribute__" = some ("BaseException", "__getattribute__"):=by decide+kernel
  have L0:=I.type (M:=M);have L1:=looks_mroIn (M:=M) X L.mb;have ha:=F.args_bexc_ga (.ref x) nameV;simp only[checkBuiltinCall,hk,hs];refine wpAny_bind ?_;unfold isInstance
  repeat (first | with_reducible refine L0.at ?_ | with_reducible refine L1.at ?_ | wp_step)
  exact hq
theorem qdd {tk:Tok} {fill:Bool} {Q:Value→Shared→Prop} (X:K.In h) (I:lq x C h) (L:qZ K C) (hq:Q (.ref C) ⟨h,g,d,t,os⟩) :
    wpAny (model prog w) A (getAttrBy (.ref x) (.str "__class__" tk) fill) Q E ⟨h,g,d,t,os⟩:=by
  have L0:=I.type (M:=model prog w);have L1:=looks_findIn (M:=model prog w) X L.ga;have L2:=looks_findIn (M:=model prog w) X L.gn;have f3:=(F.attrBase_ValueError.ga).bind (.ref x);have hx2:(Value.builtin "BaseException.__getattribute__" == Value.builtin "object.__getattribute__")=false:=by decide+kernel
  have hx1:(onTheHeap (Value.ref C) && Value.builtin "BaseException.__getattribute__" == Value.builtin "object.__getattribute__")=false:=by rw[hx2];rfl
  repeat (any_goals (first | assumption | with_reducible refine L0.at ?_ | with_reducible refine L1.at ?_ | with_reducible refine L2.at ?_ | wp_step))
  refine codeAny_call_builtin F.attrBase_ValueError.ga.plain F.entry_bexc_ga (Tv X I L (Tt X I L ?_))
  repeat (any_goals (first | assumption | wp_step))
theorem Tw {s:Shared} {Q:Option Value→Shared→Prop} (X:K.In s.heap) (I:lq x C s.heap) (L:qZ K C) (hq:Q (some (.ref C)) {s with toks:=s.toks+1}) :
    wpAny (model prog w) A (getAttr? (.ref x) "__class__") Q E s:=by
  obtain⟨h,g,d,t,os⟩:=s;unfold getAttr? getAttrBy?
  repeat (any_goals (first | assumption | with_reducible apply qdd X I L | wp_step))
end
theorem Xl {K:W.Frag} {x C:Addr} {cd:ClassData} (hcd:clsIn K C=some cd) (L:qZ K C):KitX K (.ref x) (.ref C) (lq x C) where
  ty:=fun M h _ e=>e.type
  it:=fun _ _ X _=>by
    unfold clsIn at hcd;split at hcd
    ·rename_i c' d' cd' sl' ho;intro A' Q' E' s' k q;unfold isType loadHead;exact wpAny_bind (wpAny_loadPart (k _ _ (X _ _ ho)) (wpAny_pure q))
    ·cases hcd
  ne:=fun h tp dd its n sl X htp=>by
    refine Bool.eq_false_iff.mpr fun q=>?_;have e:C=tp:=Value.ref.inj (beq_iff_eq.mp q);subst e;unfold clsIn at hcd;split at hcd
    ·rename_i c' d' cd' sl' ho;have z:=(X _ _ ho).symm.trans htp;cases z
    ·cases hcd
  ca:=fun X e k=>Tw X e L k
end L2
namespace L2
open PySem PySem.Spec PyProof.Rows
def Cx.caught (X:Cx) (a:Addr):Cx:={X with A:=X.A.mark (some (.ref a)),calm:=false,xe:=fun _ _=>False}
def Cx.tried (X:Cx) (pn:List (Addr×Obj)) (xe:Value→Shared→Prop):Cx:={X with pn:=pn,xe:=xe}
section
variable {X:Cx} {p_:List (Addr×Obj)} {σ:St} {H:Hp} {s:Shared}
theorem Inv.caught (I:Inv X p_ σ H s) (a:Addr):Inv (X.caught a) p_ σ H s:=
  ⟨⟨I.ok.mod,I.ok.kind,I.ok.glob,I.ok.blt,I.ok.above,I.ok.inj,I.ok.has,I.ok.cab,fun z=>(nomatch z),I.ok.frames,I.ok.stk,I.ok.Zi,I.ok.bs,I.ok.RK,I.ok.Kz,I.ok.Ir,I.ok.tQ,I.ok.Vl⟩,I.os,I.bare,I.base,I.loc,I.cell,I.free,I.iH,I.pin,I.hok,I.len⟩
theorem Inv.uncaught {a:Addr} {s':Shared} (I:Inv X p_ σ H s) {σ':St} {H':Hp} (J:Inv (X.caught a) p_ σ' H' s'):Inv X p_ σ' H' s':=
  ⟨I.ok,J.os,J.bare,J.base,J.loc,J.cell,J.free,J.iH,J.pin,J.hok,J.len⟩
theorem Inv.tried (I:Inv X p_ σ H s) (xe:Value→Shared→Prop):Inv (X.tried (X.pn++p_) xe) [] σ H s:=
  ⟨⟨I.ok.mod,I.ok.kind,I.ok.glob,I.ok.blt,I.ok.above,I.ok.inj,I.ok.has,I.ok.cab,I.ok.hd,I.ok.frames,I.ok.stk,I.ok.Zi,I.ok.bs,I.ok.RK,I.ok.Kz,I.ok.Ir,I.ok.tQ,I.ok.Vl⟩,I.os,I.bare,I.base,I.loc,I.cell,I.free,I.iH,fun p hp=>I.pin p (by rw[List.append_nil] at hp;exact hp),I.hok,I.len⟩
theorem Inv.yp {xe:Value→Shared→Prop} {Ci:List (Addr×Obj)} {s':Shared} (I:Inv X p_ σ H s) {σ':St} {H':Hp} (J:Inv (X.tried (X.pn++p_) xe) Ci σ' H' s'):Inv X p_ σ' H' s':=
  ⟨I.ok,J.os,J.bare,J.base,J.loc,J.cell,J.free,J.iH,fun p hp=>J.pin p (List.mem_append_left _ hp),J.hok,J.len⟩
def Takes (X:Cx) (pn:List (Addr×Obj)) (xe:Value→Shared→Prop) (R:St→Addr→Option Addr→Hp→Prop):Prop:=
  ∀(p_:List (Addr×Obj)) (σ:St) (H:Hp) (s:Shared) (a C:Addr) (od:Option Addr) (T:Addr),Inv (X.tried pn xe) p_ σ H s→Xi X.s₀.heap s.heap H a C od T→(∀p∈pn,p.1≠a∧p.1≠T)→R σ C od H→xe (.ref a) s
def Xm (sp:Sp) (R:St→Addr→Option Addr→Hp→Prop) (t:TA):TE:=fun σ H Q=>t σ H fun vs H1=>Oq sp vs H1 Q ⟨0⟩ (fun v od H'=>∃C,v = .ref C∧R σ C od H')
@[simp ↓] theorem qfM sp R t σ H Q:Xm sp R t σ H Q=t σ H fun vs H1=>Oq sp vs H1 Q ⟨0⟩ (fun v od H'=>∃C,v = .ref C∧R σ C od H'):=rfl
theorem Xn {k:Nat} {f:Addr} {fd:FuncData} {ps:List Str} {sp:Sp} {x:Str} {p pos:Pos} {e:Expr} {es:List Expr} {t:TA} {pn:List (Addr×Obj)} {xe:Value→Shared→Prop} {R:St→Addr→Option Addr→Hp→Prop}
    (hx:Takes X pn xe R) (hex:X.ex=[]) (F:dG X.prog X.w X.K X.mg X.base (Vd X.prog X.w) k f fd ps sp) (hr:jl k X.A) (hg:Gl X x) (hm:X.mg x=some (.ref f)) (hk:W.keepIn X.K (.ref f)=true) (hb:Binds X.K fd ps [])
    (ha:PA (X.tried pn xe) (e::es) t) (hdb:(x == ("__debug__" : Str))=false:=by decide) (he:starEach (e::es) X.env=(false,eval e X.env)::starEach es X.env:=by rfl) (hpl:(backTo pos (starEach es X.env)).any (·.1)=false:=by rfl) :
    PE (X.tried pn xe) (.Call (.Name x p) (e::es) [] pos) (Xm sp R t):=by
  intro p_ s σ H Q I h;refine wpAny_Call_Name_kw (lE I hg hm ?_ hdb);refine W.callWith_K (h₀:=X.base) I.ok.mod.Ip hk (cN (ha pos p_ s σ H _ I h) fun us s1 zz=>?_) he hpl;obtain⟨vs,H1,I1,r,q⟩:=zz;refine⟨I1.oE,?_⟩;have hl:us.length=ps.length:=by rw[← r.length];exact F.len _ _ _ _ q
  have hbd:=hb s1 us I1.oE (by rw[List.append_nil];exact hl);rw[List.append_nil] at hbd;refine wpAny_call (codeAny_mono (F.run X.A X.stack s1 H1 ⟨us,[]⟩ us vs Q _ hr I1.env0 hbd r q) fun rr s' hq=>?_);cases rr with
  | error e=>
    obtain⟨a,C,od,H',rfl,ho,hgn,un,hok,⟨T,ex⟩,C',e2,hR⟩:=hq;cases e2;have I':Inv (X.tried pn xe) p_ σ H' s':=I1.call' (ch:=[]) ho un hok hgn fun b z=>(nomatch z);have old:∀b,s1.heap.get? b=none→X.s₀.heap.get? b=none:=fun b z=>I1.old hex z;refine hx p_ σ H' s' a C od T I' ⟨old _ ex.new,old _ ex.newT,ex.un,ex.unT,ex.ob⟩ (fun p hp=>?_) hR;have e1:=(I1.pin p (List.mem_append_left _ hp)).1;exact⟨fun z=>(by rw[z,ex.new] at e1;cases e1),fun z=>(by rw[z,ex.newT] at e1;cases e1)⟩
  | ok fl=>
    cases fl with
    | ret u=>exact I1.after hq
    | next=>exact False.elim hq
    | brk=>exact False.elim hq
    | cont=>exact False.elim hq
def wg (x C:Addr) (od:Option Addr) (h:Heap):Prop:=∃ox vs,h.get? x=some ox∧(ox.cls,ox.dict)=(Value.ref C,od)∧ox.data = .fields vs∧vs[2]? = some .none
theorem wg.at {x C:Addr} {od:Option Addr} {h:Heap} (e:wg x C od h):lq x C h:=by
  obtain⟨ox,vs,h1,h2,h3,h4⟩:=e;exact⟨ox,vs,h1,congrArg Prod.fst h2,h3,h4⟩
def uo (a C:Addr) (od:Option Addr):HO:=.ext fun h=>wg a C od h
def Ds (K:W.Frag) (C:Addr):Prop:=∀h,K.In h→∃bm N nm q bs hdct sn sub ab col dd k0 k1 k2 k3 k5,h.get? C=some (excClassObj nm q C N bs bm hdct sn sub ab col dd k0 k1 k2 k3 k5 "ValueError.__new__")∧∀v b,W.mroIn K C v=some b→(Value.ref C::bm).contains v=b
theorem Inv.track {a C:Addr} {od:Option Addr} (I:Inv X p_ σ H s) (hex:X.ex=[]) (new:X.s₀.heap.get? a=none) (un:H a=none) (e:wg a C od s.heap) (hp:∀p∈X.pn++p_,p.1≠a):Inv X p_ σ (upd H a (uo a C od)) s:=by
  have nf:∀{b o},s.heap.get? b=some o→(∀vs,o.data≠.fields vs)→b≠a:=fun {b o} eb hd z=>by
    subst z;obtain⟨ox,vs,h1,_,h3,_⟩:=e;rw[eb] at h1;cases h1;exact hd vs h3
  have U_:∀b:Addr,b∉X.ex:=fun b=>by rw[hex];simp
  have old:∀{b o},X.s₀.heap.get? b=some o→b≠a:=fun {b o} eb z=>by
    rw[z,new] at eb;cases eb
  have ne:∀{b:Addr} {u:HO},H b=some u→b≠a:=fun {b u} q z=>by
    rw[z,un] at q;cases q
  refine⟨I.ok,I.os,I.bare,⟨fun b o eb n hb hx=>I.base.keep b o eb n hb hx,I.base.slot,fun b o eb n hx=>?_,I.base.there,fun b xs q=>?_,fun b o u q=>?_,fun b ps q=>?_⟩,I.loc,I.cell,?_,fun x c q=>?_,fun p hpp=>?_,fun b u q=>?_,I.len⟩
  ·rw[aC (old eb)];exact I.base.free b o eb n hx
  ·have z:=I.base.tups b xs q;rw[aC (ne z)];exact z
  ·have z:=I.base.qW b o u q;rw[aC (ne z)];exact z
  ·obtain⟨m,z⟩:=I.base.tE b ps q;exact⟨m,by rw[aC (ne z)];exact z⟩
  ·obtain⟨m,⟨o,es,ep,eo,d,r⟩,_⟩:=I.loc;rw[aC (nf eo fun vs y=>by rw[d] at y;cases y)];exact I.free
  ·obtain⟨v,o,eo,d⟩:=I.cell x c q;rw[aC (nf eo fun vs y=>by rw[d] at y;cases y)];exact I.iH x c q
  ·obtain⟨f1,f2,f3⟩:=I.pin p hpp;refine⟨f1,?_,f3⟩;rw[aC (hp p hpp)];exact f2
  · by_cases hb:b=a
    ·subst hb;rw[ak] at q;cases q;obtain⟨ox,vs,h1,h2,h3,_⟩:=id e;exact⟨e,⟨ox,h1⟩,fun h1 h2 ⟨ox,vs,a1,a2,a3⟩ k=>⟨ox,vs,k _ a1,a2,a3⟩⟩
    · rw[aC hb] at q;refine(I.hok b u q).stay (fun c v _ z=>z) (fun c z=>?_) fun c xs z=>?_
      ·rw[aC (ne z)];exact z
      ·rw[aC (ne z)];exact z
theorem Tz {M:Model} {A:Around} {E:Value→Shared→Prop} {i:Nat} {n:Str} {v:V} {Q:Unit→Shared→Prop} (I:Inv X p_ σ H s) (hN:X.N.Nodup) (hi:X.N[i]? = some n) (hl:X.env.scope.names.lookup n=some .local) (hv:σ[i]? = some (some v))
    (h:∀s',Inv X p_ (σ.set i none) H s'→Q () s'):wpAny M A (unbindName X.env n) Q E s:=by
  obtain⟨m,hn,q⟩:=id I.loc;obtain⟨u,rv,l⟩:=q i n v hi hv (.inl hl);have hm:m n=some u:=by
    rcases l with⟨_,l⟩ | ⟨k,c,_⟩
    ·exact l
    · rcases k with k | k
      ·have:X.env.kindOf n=some .local:=hl;rw[k] at this;cases this
      ·have:X.env.kindOf n=some .local:=hl;rw[k] at this;cases this
  have hcls:(X.env.scope.kind == .class || (X.env.scope.kind == .module && X.env.locals != X.env.globals))=false:=by rw[I.ok.kind];rfl
  have hiσ:i<σ.length:=by rw[I.len];exact(List.getElem?_eq_some_iff.mp hi).1
  refine wpAny_unbindName_local hl hn hm hcls fun h' u' hn' hs=>?_;obtain⟨oL,_,_,hoL,_⟩:=id hn;have loc:∀b o,X.s₀.heap.get? b=some o→b≠X.env.locals:=fun b o e=>Nat.ne_of_lt (Nat.lt_of_lt_of_le (Heap.lt_size e) I.ok.above);refine h _ ⟨I.ok,I.os,I.bare,⟨fun b o e n hb hx=>?_,fun b o e n hb hx=>?_,I.base.free,fun b o e hx=>?_,I.base.tups,I.base.qW,I.base.tE⟩,⟨_,hn',fun j y v' e1 e2 e3=>?_⟩,fun y c e=>?_,I.free,I.iH,fun p hp=>?_,fun b ob e=>?_,by simpa using I.len⟩
  ·exact(hs.2 b (loc b o e)).trans (I.base.keep b o e n hb hx)
  ·obtain⟨sl,z⟩:=I.base.slot b o e n hb hx;exact⟨sl,(hs.2 b (loc b o e)).trans z⟩
  ·obtain⟨o',z⟩:=I.base.there b o e hx;exact⟨o',(hs.2 b (loc b o e)).trans z⟩
  · have hj:j≠i:=fun z=>by
      subst z;rw[List.getElem?_set_self hiσ] at e2;cases e2
    rw[List.getElem?_set_ne (Ne.symm hj)] at e2;obtain⟨u2,r2,l2⟩:=q j y v' e1 e2 e3;refine⟨u2,r2,?_⟩
    rcases l2 with⟨k,e⟩ | ⟨k,c,e,z⟩
    ·have:y≠n:=fun e=>hj (Cj hN e1 (e▸hi));exact .inl ⟨k,by simp[this,e]⟩
    ·exact .inr ⟨k,c,e,z.sameBut hs (I.Zj y c e)⟩
  ·obtain⟨w',z⟩:=I.cell y c e;exact⟨w',z.sameBut hs (I.Zj y c e)⟩
  ·obtain⟨e,n,ne,nf,d⟩:=I.pin p hp;exact⟨(hs.2 p.1 ne).trans e,n,ne,nf,d⟩
  · have no:∀{c:Addr} {u:HO},H c=some u→c≠X.env.locals:=fun {c u} q z=>by
      rw[z,I.free] at q;cases q
    refine(I.hok b ob e).stay (fun c w' hc q=>(hs.2 c ?_).trans q) (fun _ q=>q) fun _ _ q=>q
    rcases hc with rfl | hc
    ·exact no e
    ·exact no hc
end
theorem zH:entryFor table "proto.unchain" = some Builtin.«proto.unchain»:=entryFor_of_tree (by kernel_rfl)
def Gx (a:Addr) (h:Heap):Prop:=∃oa us,h.get? a=some oa∧oa.data = .fields us∧us[2]? = some .none
theorem Gx.to {a:Addr} {h h':Heap} (x:Gx a h) (k:∀o,h.get? a=some o→h'.get? a=some o):Gx a h':=by
  obtain⟨oa,us,e,d,u⟩:=x;exact⟨oa,us,k _ e,d,u⟩
section
variable {prog:Program} {w:World} {A:Around} {E:Value→Shared→Prop} {s:Shared} {a:Addr}
theorem qaq {α:Type} {e:Addr} {ox:Obj} {vs:Array Value} {Q:α→Shared→Prop} (hh:A.handled=some (.ref a)) (la:Gx a s.heap)
    (ex:s.heap.get? e=some ox) (dx:ox.data = .fields vs) (sz:2<vs.size) (ne:e≠a) (hE:∀h',Heap.SameBut e s.heap h'→(∃o',h'.get? e=some o'∧o'.cls=ox.cls)→E (.ref e) {s with heap:=h'}) :
    wpAny (model prog w) A (raiseNew (.ref e):Sem α) Q E s:=by
  obtain⟨oa,us,ha,da,ua⟩:=la;unfold raiseNew;refine wpAny_bind (wpAny_handled ?_);rw[hh];dsimp only;rw[if_pos (by simpa using Ne.symm ne)];refine wpAny_bind (wpAny_holding (wpAny_runValue (codeAny_builtin zH ?_)));unfold Builtin.«proto.unchain»;refine wpAny_bind (wpAny_field ha da ua ?_);rw[if_pos (by rfl)];refine wpAny_bind (wpAny_pure (wpAny_pure ?_));show wpAny (model prog w) A (do updateField e 2 (.ref a);throw (.ref e)) Q E s
  refine wpAny_bind ?_;unfold updateField;refine wpAny_bind (wpAny_load ex ?_);rw[dx];dsimp only;rw[if_pos sz];refine wpAny_update ex ?_;refine wpAny_throw (hE _ (Heap.SameBut.update ..) ⟨_,Heap.get?_update_self _ ex (Obj.isFreed_of_fields (Obj.data_mapFields dx _)),?_⟩);obtain⟨c,d,dt,sl⟩:=ox;cases dt <;> rfl
theorem Xo {α:Type} {Q:α→Shared→Prop} (hh:A.handled=some (.ref a)) (la:Gx a s.heap)
    (hE:∀h' e,(∀b o,s.heap.get? b=some o→h'.get? b=some o)→(∃o,h'.get? e=some o∧o.cls = .type "StopIteration")→E (.ref e) {s with heap:=h'}) :
    wpAny (model prog w) A (newExc (.type "StopIteration") [] >>= fun e=>(raiseNew e:Sem α)) Q E s:=by
  refine wpAny_bind ?_;unfold newExc newTuple;refine wpAny_bind (wpAny_newObj_type ?_ (by size_fits));refine wpAny_bind (m:=firstArgMember _ _) (wpAny_of_eq (a:=Value.none) (by first | rfl | (unfold firstArgMember;rfl)) ?_)
  refine wpAny_newObj_type ?_ (by size_fits);have lt:∀{b:Addr} {o:Obj} (o1:Obj),s.heap.get? b=some o→(s.heap.push o1).objs.size≠b:=fun {b o} o1 z=>by
    have q:=Heap.lt_size z;rw[Heap.size_push];exact Nat.ne_of_gt (Nat.lt_succ_of_lt q)
  have kk:∀(o1 o2:Obj) {b:Addr} {o:Obj},s.heap.get? b=some o→((s.heap.push o1).push o2).get? b=some o:=fun o1 o2 {b o} z=>Heap.get?_push_of_some _ (Heap.get?_push_of_some _ z);obtain⟨oa,us,ha,da,ua⟩:=la;refine qaq hh ⟨oa,us,kk _ _ ha,da,ua⟩ (Heap.get?_push_size _ rfl) rfl (Nat.lt_of_lt_of_le (by decide) (Nat.le_trans (Nat.le_refl 6) ?_)) (lt _ ha) fun h' sb eo=>hE h' _ (fun b o z=>(sb.2 b (Ne.symm (lt _ z))).trans (kk _ _ z)) eo;simp
theorem Lw {it l:Addr} {items:Array Value} {i:Nat} {Q:Value→Shared→Prop} (hh:A.handled=some (.ref a)) (la:Gx a s.heap) (nit:a≠it)
    (hit:s.heap.IsListIter it l i) (hl:s.heap.IsList l items) (hx:items[i]? = none) (hE:∀h' e,Heap.ExtBut it s.heap h'→(∃o,h'.get? e=some o∧o.cls = .type "StopIteration")→E (.ref e) {s with heap:=h'}) :
    wpAny (model prog w) A (Builtin.SmallTypes.nextOf (.ref it)) Q E s:=by
  obtain⟨oi,ei,ci,di⟩:=id hit;obtain⟨ol,el,_,nl,dl⟩:=hl;unfold Builtin.SmallTypes.nextOf;refine wpAny_bind (wpAny_callSpecial?_slot (name:=Str.ofString "__next__") hit.typeIs slot_listiter_next (wpAny_call_entry slot_listiter_next hit.typeIs entry_listiter_next ?_ (args_listiter_next _)));show wpAny (model prog w) _ (field (.ref it) 0 >>= _) _ _ s;refine wpAny_bind (wpAny_field ei di (x:=.ref l) rfl ?_);show wpAny (model prog w) _ (if (Value.ref l == Value.none)=true then _ else _) _ _ s
  rw[if_neg (fun z=>by cases z)];show wpAny (model prog w) _ (field (.ref it) 1 >>= _) _ _ s;refine wpAny_bind (wpAny_field ei di (x:=.int i 0) rfl ?_);show wpAny (model prog w) _ (seqItems? (.ref l) >>= _) _ _ s;refine wpAny_bind (wpAny_seqItems el dl ?_);simp only[Int.toNat_natCast,hx];refine wpAny_bind (wpAny_rule (wpAny_bind (wpAny_setField ei di (by simp) ?_)));have eb:=(Heap.SameBut.update s.heap it (Obj.mapFields (·.setIfInBounds 0 Value.none))).extBut;exact Xo (A:=A.in1) hh (la.to fun o z=>eb _ _ nit z) fun h' e k eo=>hE h' e (fun b o nb z=>k _ _ (eb b o nb z)) eo
theorem Xp {it t:Addr} {i:Nat} {items} {Q:Option Value→Shared→Prop} (hh:A.handled=some (.ref a)) (la:Gx a s.heap) (nit:a≠it)
    (hit:IsTupIter s.heap it t i) (ht:IsTup s.heap t items) (hx:items[i]? = none)
    (hQ:∀h',Heap.ExtBut it s.heap h'→Q none {s with heap:=h'}):wpAny (model prog w) A (pyNext (.ref it)) Q E s:=by
  obtain⟨oi,ei,ci,di⟩:=id hit;obtain⟨ol,el,_,nl,dl⟩:=ht;unfold pyNext;refine wpAny_bind (wpAny_attempt (wpAny_callSpecial?_slot (name:=Str.ofString "__next__") hit.typeIs slot_tupleiter_next (wpAny_call_entry slot_tupleiter_next hit.typeIs entry_tupleiter_next ?_ (args_tupleiter_next _))));show wpAny (model prog w) _ (field (.ref it) 0 >>= _) _ _ s;refine wpAny_bind (wpAny_field ei di (x:=.ref t) rfl ?_);show wpAny (model prog w) _ (if (Value.ref t == Value.none)=true then _ else _) _ _ s
  rw[if_neg (fun z=>by cases z)];show wpAny (model prog w) _ (field (.ref it) 1 >>= _) _ _ s;refine wpAny_bind (wpAny_field ei di (x:=.int i 0) rfl ?_);show wpAny (model prog w) _ (seqItems? (.ref t) >>= _) _ _ s;refine wpAny_bind (wpAny_seqItems el dl ?_);simp only[Int.toNat_natCast,hx];refine wpAny_bind (wpAny_rule (wpAny_bind (wpAny_setField ei di (by simp) ?_)));have eb:=(Heap.SameBut.update s.heap it (Obj.mapFields (·.setIfInBounds 0 Value.none))).extBut;refine Xo (A:=A.in1) hh (la.to fun o z=>eb _ _ nit z) fun h' e k eo=>?_;obtain⟨o,eo,co⟩:=eo;refine wpAny_bind (wpAny_isInstance (b:=true) ⟨o,eo,co⟩ isSubtype_stop (wpAny_pure ?_));exact hQ _ fun b o nb z=>k _ _ (eb b o nb z)
theorem Xq {env:Env} {es:List Expr} {k1} {pos:Pos} {t:Addr} {items:Array Value} {Q:Unit→Shared→Prop} (hh:A.handled=some (.ref a)) (la:Gx a s.heap) (ht:IsTup s.heap t items)
    (hn:(assignEach es env).length=items.size) (hst:(assignEach es env).findIdx? (·.1)=none)
    (h:∀h',Heap.ExtBut s.heap.objs.size s.heap h'→wpAny (model prog w) A (assignInOrder ((assignEach es env).map (·.2)) items.toList) Q E {s with heap:=h'}) :
    wpAny (model prog w) A (assign (.Tuple es k1 pos) env (.ref t)) Q E s:=by
  rw[PyProof.Rows.assign_Tuple];refine wpAny_bind (wpAny_standAt ?_);unfold unpack;rw[hn,hst];refine wpAny_bind (wpAny_holding ?_);obtain⟨oa,us,ha,da,ua⟩:=id la;have tl:t≠s.heap.objs.size:=by
    obtain⟨o,z,_⟩:=ht;exact Nat.ne_of_lt (Heap.lt_size z)
  have al:a≠s.heap.objs.size:=Nat.ne_of_lt (Heap.lt_size ha);unfold unpackItems notIterableAtAll;refine wpAny_bind (wpAny_bind (wpAny_specialOf ht.typeIs slot_tuple_iter.lookup (wpAny_pure ?_)));simp only[Bool.false_eq_true,if_false];refine wpAny_bind (wpAny_holding (iter_tuple ht ?_));refine wpAny_bind (wpAny_holding (draw_tuple tl items.size 0 _ _ ⟨_,Heap.get?_push_size _ rfl,rfl,rfl⟩ (ht.push _) (by omega) fun h1 it1 sb1=>?_));have all:(items.toList.drop 0).take items.size=items.toList:=by
    rw[List.drop_zero];exact List.take_of_length_le (by simp)
  rw[all,if_neg (by simp)];refine wpAny_bind (wpAny_holding (Xp hh (la.to fun o z=>sb1.extBut a o al (Heap.get?_push_of_some _ z)) al it1 ((ht.push _).extBut sb1.extBut tl) (by simp) fun h2 eb2=>?_));simp only[Option.isSome_none,Bool.false_eq_true,if_false];exact wpAny_pure (h h2 fun b o hb z=>eb2 b o hb (sb1.extBut b o hb (Heap.get?_push_of_some _ z)))
theorem Xr {z TI TO i1 i2 l1 l2:Addr} {k1 k2:Nat} {xs ys:Array Value} {p q:Value} {Q:Option Value→Shared→Prop} (hh:A.handled=some (.ref a)) (la:Gx a s.heap) (D:ZipApart z TI TO i1 i2 l1 l2)
    (nz:a≠z) (nTO:a≠TO) (n1:a≠i1) (n2:a≠i2) (hz:IsZip s.heap z TI TO .none) (hTI:IsPair s.heap TI (.ref i1) (.ref i2)) (hTO:IsPair s.heap TO p q)
    (h1:s.heap.IsListIter i1 l1 k1) (h2:s.heap.IsListIter i2 l2 k2) (hl1:s.heap.IsList l1 xs) (hl2:s.heap.IsList l2 ys) (hend:xs[k1]? = none∨ys[k2]? = none)
    (hQ:∀h',(∀c o,c≠z→c≠TO→c≠i1→c≠i2→s.heap.get? c=some o→h'.get? c=some o)→Q none {s with heap:=h'}):wpAny (model prog w) A (pyNext (.ref z)) Q E s:=by
  have hT:s.TypeIs (.ref z) "zip" :=⟨_,hz,rfl⟩;unfold pyNext;refine wpAny_bind (wpAny_attempt (wpAny_callSpecial?_slot (name:=Str.ofString "__next__") hT F.slot_zip_next (wpAny_call_entry F.slot_zip_next hT F.entry_zip_next ?_ (F.args_zip_next_1 _))));show wpAny (model prog w) _ (field (.ref z) 2 >>= _) _ _ _;refine wpAny_bind (wpAny_field hz rfl (x:=.bool false) rfl ?_);show wpAny (model prog w) _ (field (.ref z) 3 >>= _) _ _ _;refine wpAny_bind (wpAny_field hz rfl (x:=.ref TI) rfl (wpAny_bind (wpAny_seqItems hTI rfl ?_)));show wpAny (model prog w) _ (Builtin.SmallTypes.ownedTupleIsFree (.ref z) >>= _) _ _ _;refine wpAny_bind ?_;unfold Builtin.SmallTypes.ownedTupleIsFree;refine wpAny_bind (wpAny_field hz rfl (x:=.none) rfl (wpAny_pure ?_));simp only[if_true];refine wpAny_bind (wpAny_rule (wpAny_bind (wpAny_field hz rfl (x:=.ref TO) rfl (wpAny_bind (wpAny_setField_rec hz (by simp) fun g1 z1 s1=>?_)))));replace z1:IsZip g1 z TI TO .ellipsis:=z1;have b1:=s1.extBut;refine wpAny_bind ?_;simp only[List.zipIdx_cons,List.zipIdx_nil,List.forIn_cons,List.forIn_nil];refine wpAny_bind (wpAny_bind (wpAny_onRaise ?_));show wpAny (model prog w) _ (Builtin.SmallTypes.nextOf (.ref i1) >>= _) _ _ _;cases hx:xs[k1]? with
  | none=>
    refine wpAny_bind (Lw (A:=A.in1) hh (la.to fun o y=>b1 a o nz y) n1 (h1.extBut b1 D.i1z) (hl1.extBut b1 D.l1z) hx fun g2 e b2 eo=>?_);obtain⟨oe,eo,co⟩:=eo;have z2:IsZip g2 z TI TO .ellipsis:=b2 _ _ D.i1z.symm z1;have ez:e≠z:=fun y=>by
      subst y;rw[z2] at eo;cases eo;simp at co
    refine wpAny_setField_rec z2 (by simp) fun g3 _ s3=>wpAny_bind (wpAny_isInstance (b:=true) ⟨oe,s3.extBut _ _ ez eo,co⟩ isSubtype_stop (wpAny_pure ?_));exact hQ g3 fun c o c1 _ c3 _ y=>s3.extBut _ _ c1 (b2 _ _ c3 (b1 _ _ c1 y))
  | some x=>
    have hy:ys[k2]? = none:=hend.resolve_left fun y=>by rw[hx] at y;cases y
    refine wpAny_bind (wpAny_nextOf_list_item (h1.extBut b1 D.i1z) (hl1.extBut b1 D.l1z) hx fun g2 it2 s2=>wpAny_pure ?_);have b2:=s2.extBut;have to2:IsPair g2 TO p q:=b2 _ _ D.TOi1 (b1 _ _ D.TOz hTO);refine wpAny_bind (wpAny_seqItems to2 rfl (wpAny_bind (wpAny_updateSeq_pair to2 fun g3 to3 s3=>?_)));have b3:=s3.extBut;refine wpAny_bind (wpAny_letGo (wpAny_pure (wpAny_bind (wpAny_bind (wpAny_onRaise ?_)))));show wpAny (model prog w) _ (Builtin.SmallTypes.nextOf (.ref i2) >>= _) _ _ _;refine wpAny_bind (Lw (A:=A.in1) hh (la.to fun o y=>b3 a o nTO (b2 a o n1 (b1 a o nz y))) n2 (((h2.extBut b1 D.i2z).extBut b2 D.i12.symm).extBut b3 D.TOi2.symm) (((hl2.extBut b1 D.l2z).extBut b2 D.l2i1).extBut b3 D.l2TO) hy fun g4 e b4 eo=>?_);obtain⟨oe,eo,co⟩:=eo;have z4:IsZip g4 z TI TO .ellipsis:=b4 _ _ D.i2z.symm (b3 _ _ D.TOz.symm (b2 _ _ D.i1z.symm z1));have ez:e≠z:=fun y=>by
      subst y;rw[z4] at eo;cases eo;simp at co
    refine wpAny_setField_rec z4 (by simp) fun g5 _ s5=>wpAny_bind (wpAny_isInstance (b:=true) ⟨oe,s5.extBut _ _ ez eo,co⟩ isSubtype_stop (wpAny_pure ?_));exact hQ g5 fun c o c1 c2 c3 c4 y=>s5.extBut _ _ c1 (b4 _ _ c4 (b3 _ _ c2 (b2 _ _ c3 (b1 _ _ c1 y))))
end
section
variable {X:Cx} {p_:List (Addr×Obj)} {σ:St} {H:Hp} {s:Shared} {a:Addr}
def Cau (H:Hp) (a:Addr):Prop:=∃C od,H a=some (uo a C od)
theorem Inv.lone (I:Inv X p_ σ H s) (e:Cau H a):Gx a s.heap:=by
  obtain⟨C,od,e⟩:=e;obtain⟨⟨ox,vs,h1,h2,h3,h4⟩,_⟩:=I.hok a _ e;exact⟨ox,vs,h1,h3,h4⟩
theorem Cau.ne {b:Addr} (e:Cau H a) (h:H b=none):a≠b:=fun z=>by
  obtain⟨C,od,e⟩:=e;rw[z,h] at e;cases e
def qbs (a:Addr) (K:W.Frag) (n:Nat) (t:Cp):TG:=fun v σ H Q=>Cau H a∧qak K n t v σ H Q
@[simp ↓] theorem qjS a K n t v σ H Q:qbs a K n t v σ H Q=(Cau H a∧qak K n t v σ H Q):=rfl
theorem qar {K:W.Frag} (hK:X.K=K) (hh:X.A.handled=some (.ref a)) {es:List Expr} {k:Nat} {pos:Pos} {t:Cp} {n:Nat} (h:fL X es t)
    (hn:(assignEach es X.env).length=n:=by rfl) (hst:(assignEach es X.env).findIdx? (·.1)=none:=by rfl):PG X (.Tuple es k pos) (qbs a K n t):=by
  subst hK;intro p_ s σ H v u Q I r hw;obtain⟨ca,hw⟩:=hw;obtain⟨p,rfl,xs,hq,hl,hw⟩:=isRef.out hw;cases r;obtain⟨its,rv,ht,hz⟩:=I.tuple hq;refine Xq hh (I.lone ca) ht (by simp[hn,← hl,rv.length]) hst fun h' hx=>?_;have I1:Inv X p_ σ H {s with heap:=h'}:=I.kept (t':=s.toks) fun b o e=>hx b o (Nat.ne_of_lt (Heap.lt_size e)) e;exact h p_ _ σ H xs _ Q I1 (by simpa using rv) hw
end
structure Xu (c:Addr) (P:Program) (w:World) (K:W.Frag) (tg:Expr) (J:It) (fp:List Addr) (it:Addr) (tn:Nat→Heap→Prop):Prop where
  mem:it∈fp
  obj:∀i h,tn i h→∀b∈fp,∃o,h.get? b=some o∧∀v,o.data≠.cell v
  keep:∀i h h',tn i h→(∀b∈fp,∀o,h.get? b=some o→h'.get? b=some o)→tn i h'
  item:∀(X:Cx),X.prog=P→X.w=w→X.K=K→∀(i:Nat) (p_:List (Addr×Obj)) (s:Shared) (σ:St) (H:Hp) (E:Value→Shared→Prop),Inv X p_ σ H s→(∀b∈fp,mW X p_ H b)→tn i s.heap→J.go i H→
    wpAny (model P w) X.A (pyNext (.ref it)) (fun r s1=>∃u,r=some u∧
      wpAny (model P w) X.A (letOwnedTupleGo tg (.ref it) u) (fun _ s2=>∃x H',Inv X p_ σ H' s2∧RelV x u∧J.RP i H x H'∧tn (i+1) s2.heap∧∀b∈fp,H' b=none) E s1) E s
  done:∀(X:Cx),X.prog=P→X.w=w→X.K=K→X.A.handled=some (.ref c)→∀(i:Nat) (p_:List (Addr×Obj)) (s:Shared) (σ:St) (H:Hp) (E:Value→Shared→Prop),Inv X p_ σ H s→(∀b∈fp,mW X p_ H b)→tn i s.heap→J.stop i H→
    wpAny (model P w) X.A (pyNext (.ref it)) (fun r s1=>r=none∧Inv X p_ σ H s1) E s
  self:∀(A:Around) (i:Nat) (s:Shared) (Q:Value→Shared→Prop) (E:Value→Shared→Prop),tn i s.heap→Q (.ref it) s→wpAny (model P w) A (pyIter (.ref it)) Q E s
def PIH (c:Addr) (X:Cx) (tg iter:Expr) (wi:TI):Prop:=
  ∀(p_:List (Addr×Obj)) (s:Shared) (σ:St) (H:Hp) (R:It→Hp→Prop),Inv X p_ σ H s→wi σ H R→
    wpAny (model X.prog X.w) X.A (eval iter X.env) (fun v s1=>wpAny (model X.prog X.w) X.A (pyIter v) (fun itv s2=>∃(it:Addr) (fp:List Addr) (tn:Nat→Heap→Prop) (J:It) (H':Hp),itv = .ref it∧Inv X p_ σ H' s2∧Xu c X.prog X.w X.K tg J fp it tn∧tn 0 s2.heap∧(∀b∈fp,mW X p_ H' b)∧R J H') X.xe s1) X.xe s
theorem Xv {X:Cx} {es:List Expr} {k:Nat} {pos:Pos} {z TI TO i1 i2 a b:Addr} (n12:i1≠i2) (nT:TI≠TO) {i:Nat} {p_:List (Addr×Obj)} {s:Shared} {σ:St} {H:Hp} {E:Value→Shared→Prop} (I:Inv X p_ σ H s)
    (hf:∀c∈[z,TI,TO,i1,i2],mW X p_ H c) (st:QG z TI TO i1 i2 a b i s.heap) (hg:(Vb X.K a b).go i H) :
    wpAny (model X.prog X.w) X.A (pyNext (.ref z)) (fun r s1=>∃u,r=some u∧
      wpAny (model X.prog X.w) X.A (letOwnedTupleGo (.Tuple es k pos) (.ref z) u) (fun _ s2=>∃x H',Inv X p_ σ H' s2∧RelV x u∧(Vb X.K a b).RP i H x H'∧QG z TI TO i1 i2 a b (i+1) s2.heap∧∀c∈[z,TI,TO,i1,i2],H' c=none) E s1) E s:=by
  obtain⟨xs,ys,x,y,qa,qb,hx,hy⟩:=hg;obtain⟨its,rv,pl,hz1⟩:=I.list qa;obtain⟨its',rv',Og,hz2⟩:=I.list qb;obtain⟨u,hu,ru⟩:=rv.get hx;obtain⟨u',hu',ru'⟩:=rv'.get hy;obtain⟨p,q,hTO⟩:=st.hO;obtain⟨oa,ea,ca,_⟩:=id pl.isList;obtain⟨ob,eb,cb,_⟩:=id Og.isList;obtain⟨o1,e1,c1,_⟩:=id st.h1;obtain⟨o2,e2,c2,_⟩:=id st.h2;have D:ZipApart z TI TO i1 i2 a b:=
    ⟨bM st.hI st.hz rfl rfl (by decide),bM hTO st.hz rfl rfl (by decide),bM e1 st.hz c1 rfl (by decide),bM e2 st.hz c2 rfl (by decide),nT,bM st.hI e1 rfl c1 (by decide),bM st.hI e2 rfl c2 (by decide),
      bM hTO e1 rfl c1 (by decide),bM hTO e2 rfl c2 (by decide),n12,bM ea st.hz ca rfl (by decide),bM ea hTO ca rfl (by decide),bM ea e1 ca c1 (by decide),bM ea e2 ca c2 (by decide),
      bM eb st.hz cb rfl (by decide),bM eb hTO cb rfl (by decide),bM eb e1 cb c1 (by decide),bM eb e2 cb c2 (by decide)⟩
  refine wpAny_pyNext_zip_item D st.hz st.hI hTO st.h1 st.h2 pl.isList Og.isList (x:=u) (y:=u') (by simpa using hu) (by simpa using hu') fun h' a1 a2 a3 a4 a5 a6 kk=>?_;refine⟨_,rfl,wpAny_letOwnedTupleGo_zip a1 fun h2 b1 sb=>?_⟩;have lt:∀{c o},s.heap.get? c=some o→s.heap.objs.size≠c:=fun e=>Nat.ne_of_gt (Heap.lt_size e);have hn:H s.heap.objs.size=none:=I.hok.fresh (Nat.le_refl _);have kk2:∀c o,c∉[z,TI,TO,i1,i2]→s.heap.get? c=some o→h2.get? c=some o:=fun c o hc e=>by
    simp only[List.mem_cons,List.not_mem_nil,or_false,not_or] at hc;exact(sb.2 c hc.1).trans (kk c o hc.1 hc.2.2.1 hc.2.2.2.1 hc.2.2.2.2 e)
  have I1:Inv X p_ σ H {s with heap:=h2,toks:=s.toks}:=I.uL kk2 hf;have Cz:IsPair h2 s.heap.objs.size u u':=sb.extBut _ _ (lt st.hz) a5;have I2:Inv X p_ σ (upd H s.heap.objs.size (.tup [x,y])) {s with heap:=h2,toks:=s.toks}:=by
    have hfr:H s.heap.objs.size=none:=hn;refine⟨I1.ok,I1.os,I1.bare,⟨I1.base.keep,I1.base.slot,fun c o e n hx=>?_,I1.base.there,fun c zs e=>?_,fun c o v e=>?_,fun c qs e=>?_⟩,I1.loc,I1.cell,?_,fun v c e=>?_,fun v hv=>?_,?_,I1.len⟩
    · rw[aC (fun e'=>?_)]
      ·exact I1.base.free c o e n hx
      ·exact absurd (Nat.lt_of_lt_of_le (Heap.lt_size e) I.sz) (by rw[e'];exact Nat.lt_irrefl _)
    ·have e':=I1.base.tups c zs e;rw[aC (aP e' hfr)];exact e'
    ·have e':=I1.base.qW c o v e;rw[aC (aP e' hfr)];exact e'
    ·obtain⟨m,e'⟩:=I1.base.tE c qs e;exact⟨m,by rw[aC (aP e' hfr)];exact e'⟩
    ·rw[aC (Nat.ne_of_lt I.lt)];exact I1.free
    ·obtain⟨w',qc⟩:=I.cell v c e;rw[aC (Nat.ne_of_lt qc.lt)];exact I1.iH v c e
    ·obtain⟨f1,f2,f3⟩:=I1.pin v hv;refine⟨f1,?_,f3⟩;rw[aC (Nat.ne_of_lt (Heap.lt_size (I.pin v hv).1))];exact f2
    · intro c v e
      by_cases hcs:c=s.heap.objs.size
      ·subst hcs;rw[ak] at e;cases e;exact⟨by show 2≤sizeLine;rw[sizeLine_eq];decide,[u,u'],.cons ru (.cons ru' .nil),⟨_,Cz,rfl,0,rfl⟩⟩
      · rw[aC hcs] at e;refine(I1.hok c v e).stay (fun _ _ _ qq=>qq) (fun d qd=>?_) fun d zs qd=>?_
        ·rw[aC (aP qd hfr)];exact qd
        ·rw[aC (aP qd hfr)];exact qd
  refine⟨.ref s.heap.objs.size,_,I2,rfl,⟨s.heap.objs.size,x,y,rfl,hn,rfl,fun xs' q'=>by rw[I.qD q' qa];exact hx,fun ys' q'=>by rw[I.qD q' qb];exact hy⟩,?_,fun c hcm=>?_⟩
  ·exact⟨b1,sb.extBut _ _ D.TIz (kk _ _ D.TIz D.TITO D.TIi1 D.TIi2 st.hI),⟨_,_,sb.extBut _ _ D.TOz a2⟩,a3.extBut sb.extBut D.i1z,a4.extBut sb.extBut D.i2z⟩
  · have hne:c≠s.heap.objs.size:=by
      simp only[List.mem_cons,List.not_mem_nil,or_false] at hcm
      rcases hcm with rfl | rfl | rfl | rfl | rfl
      ·exact(lt st.hz).symm
      ·exact(lt st.hI).symm
      ·exact(lt hTO).symm
      ·exact(lt e1).symm
      ·exact(lt e2).symm
    rw[aC hne];exact(hf c hcm).1
def qas (c:Addr) (K:W.Frag) (a b:Addr):It:=⟨(Vb K a b).go,(Vb K a b).RP,fun i H=>(Vb K a b).stop i H∧Cau H c⟩
theorem TF {c:Addr} {P:Program} {w:World} {K:W.Frag} {es:List Expr} {k:Nat} {pos:Pos} {z TI TO i1 i2 a b:Addr} (n12:i1≠i2) (nT:TI≠TO) :
    Xu c P w K (.Tuple es k pos) (qas c K a b) [z,TI,TO,i1,i2] z (QG z TI TO i1 i2 a b) where
  mem:=by simp
  obj:=fun i h st c hc=>by
    simp only[List.mem_cons,List.not_mem_nil,or_false] at hc
    rcases hc with rfl | rfl | rfl | rfl | rfl
    ·exact⟨_,st.hz,fun v e=>nomatch e⟩
    ·exact⟨_,st.hI,fun v e=>nomatch e⟩
    ·obtain⟨p,q,e⟩:=st.hO;exact⟨_,e,fun v e=>nomatch e⟩
    ·obtain⟨o,e,_,d⟩:=st.h1;exact⟨o,e,fun v y=>by rw[d] at y;cases y⟩
    ·obtain⟨o,e,_,d⟩:=st.h2;exact⟨o,e,fun v y=>by rw[d] at y;cases y⟩
  keep:=fun i h h' st kk=>by
    obtain⟨p,q,e⟩:=st.hO;exact⟨kk z (by simp) _ st.hz,kk TI (by simp) _ st.hI,⟨p,q,kk TO (by simp) _ e⟩,st.h1.at fun o e=>kk i1 (by simp) o e,st.h2.at fun o e=>kk i2 (by simp) o e⟩
  item:=by
    intro X hP hw hK i p_ s σ H E I hf st hg;subst hP hw hK;exact Xv n12 nT I hf st hg
  done:=by
    intro X hP hw hK hh i p_ s σ H E I hf st hg;subst hP hw hK;obtain⟨⟨xs,ys,qa,qb,hl⟩,cau⟩:=hg;have fne:∀d∈[z,TI,TO,i1,i2],c≠d:=fun d hd=>cau.ne (hf d hd).1;obtain⟨its,rv,pl,hz1⟩:=I.list qa;obtain⟨its',rv',Og,hz2⟩:=I.list qb;obtain⟨p,q,hTO⟩:=st.hO;obtain⟨oa,ea,ca,_⟩:=id pl.isList;obtain⟨ob,eb,cb,_⟩:=id Og.isList;obtain⟨o1,e1,c1,_⟩:=id st.h1;obtain⟨o2,e2,c2,_⟩:=id st.h2;have D:ZipApart z TI TO i1 i2 a b:=
      ⟨bM st.hI st.hz rfl rfl (by decide),bM hTO st.hz rfl rfl (by decide),bM e1 st.hz c1 rfl (by decide),bM e2 st.hz c2 rfl (by decide),nT,bM st.hI e1 rfl c1 (by decide),bM st.hI e2 rfl c2 (by decide),
        bM hTO e1 rfl c1 (by decide),bM hTO e2 rfl c2 (by decide),n12,bM ea st.hz ca rfl (by decide),bM ea hTO ca rfl (by decide),bM ea e1 ca c1 (by decide),bM ea e2 ca c2 (by decide),
        bM eb st.hz cb rfl (by decide),bM eb hTO cb rfl (by decide),bM eb e1 cb c1 (by decide),bM eb e2 cb c2 (by decide)⟩
    have l1:=rv.length;have l2:=rv'.length;refine Xr hh (I.lone cau) D (fne _ (by simp)) (fne _ (by simp)) (fne _ (by simp)) (fne _ (by simp)) st.hz st.hI hTO st.h1 st.h2 pl.isList Og.isList ?_ fun h' kk=>⟨rfl,I.uL (t':=s.toks) (fun c o hcm e=>?_) hf⟩
    · rcases hl with hl | hl
      ·exact .inl (by simp;omega)
      ·exact .inr (by simp;omega)
    ·simp only[List.mem_cons,List.not_mem_nil,or_false,not_or] at hcm;exact kk c o hcm.1 hcm.2.2.1 hcm.2.2.2.1 hcm.2.2.2.2 e
  self:=fun _ _ _ _ _ st h=>wpAny_pyIter_zip st.hz h
section
variable {X:Cx} {c:Addr}
def Xw (c:Addr) (K:W.Frag) (t:TA):TI:=fun σ H R=>t σ H fun vs H1=>ar2 vs fun x y=>isRef x fun a=>isRef y fun b=>(∃xs,aX K H1 a xs)∧(∃ys,aX K H1 b ys)∧R (qas c K a b) H1
@[simp ↓] theorem qfN c K t σ H R:Xw c K t σ H R=(t σ H fun vs H1=>ar2 vs fun x y=>isRef x fun a=>isRef y fun b=>(∃xs,aX K H1 a xs)∧(∃ys,aX K H1 b ys)∧R (qas c K a b) H1):=rfl
theorem qat {K:W.Frag} (hK:X.K=K) {es:List Expr} {k:Nat} {pos':Pos} {a b:Expr} {ta:TA} {p pos:Pos} (hg:Gl X "zip") (hm:X.mg "zip" = none) (ha:PA X [a,b] ta)
    (hs:starEach [a,b] X.env=[(false,eval a X.env),(false,eval b X.env)]:=by rfl) (hs2:starEach [b] X.env=[(false,eval b X.env)]:=by rfl) :
    PIH c X (.Tuple es k pos') (.Call (.Name "zip" p) [a,b] [] pos) (Xw c K ta):=by
  subst hK;intro p_ s σ H R I h;refine Call_ (pH I hg hm boot_zip (PyProof.Rows.callWith_type1 (cN (ha pos p_ s σ H _ I h) fun us s1 zz=>?_) (by rw[hs,hs2]) (by rw[hs2];rfl)));obtain⟨vs,H1,I1,r1,q1⟩:=zz;obtain⟨v1,v2,rfl,q1⟩:=ar2.out q1;obtain⟨l1,rfl,q1⟩:=isRef.out q1;obtain⟨l2,rfl,⟨xs,qa⟩,⟨ys,qb⟩,q⟩:=isRef.out q1;obtain⟨u,v,rfl,r,r'⟩:=r1.two;obtain rfl:u=Value.ref l1:=r;obtain rfl:v=Value.ref l2:=r';obtain⟨its,rv,pl,hz1⟩:=I1.list qa;obtain⟨its',rv',Og,hz2⟩:=I1.list qb;refine call_zip_2 pl.isList Og.isList fun h' b1 b2 b3 b4 b5 b6 kk=>?_;refine wpAny_pyIter_zip (s:={s1 with heap:=h'}) b1 ?_;have I2:Inv X p_ σ H1 {s1 with heap:=h'}:=I1.kept (t':=s1.toks) kk;refine⟨s1.heap.objs.size+4,[s1.heap.objs.size+4,s1.heap.objs.size+2,s1.heap.objs.size+3,s1.heap.objs.size,s1.heap.objs.size+1],_,_,H1,rfl,I2,TF (Nat.ne_of_lt (Nat.lt_succ_self _)) (Nat.ne_of_lt (Nat.lt_succ_self (s1.heap.objs.size+2))),⟨b1,b2,⟨_,_,b3⟩,b4,b5⟩,fun c hc=>?_,q⟩;have hle:s1.heap.objs.size≤c:=by
    simp only[List.mem_cons,List.not_mem_nil,or_false] at hc
    rcases hc with rfl | rfl | rfl | rfl | rfl <;> first | exact Nat.le_add_right _ _ | exact Nat.le_refl _
  exact I1.Bh hle (I1.hok.fresh hle)
end
section
variable {X:Cx} {c:Addr} {ps sc:Scope} {own pN:List Str} {caps:List Nat} {N:List Str}
theorem Lx {p_:List (Addr×Obj)} {σ:St} {H:Hp} {s:Shared} {E:Value→Shared→Prop} {elt tg iter:Expr} {ifs:List Expr} {pos:Pos} {J:It} {fp:List Addr} {it D:Addr} {tn:Nat→Heap→Prop} {g:TG} {tt:TT} {te:TE} {Q:Hp→Prop}
    (I:Inv X p_ σ H s) (hps:X.env.scope=ps) (hpN:X.N=pN) (S:aY ps sc pN own caps N) (T:Xu c X.prog X.w X.K tg J fp it tn) (st:tn 0 s.heap) (hf:∀b∈fp,mW X p_ H b) (hh:X.A.handled=some (.ref c))
    (hg:∀C s H fp pn,PG (cA X sc N C s H fp pn) tg g) (ht:∀C s H fp pn,PTs (cA X sc N C s H fp pn) ifs tt) (he:∀C s H fp pn,PE (cA X sc N C s H fp pn) elt te)
    (h:lJ own caps J g tt te D σ H Q) :
    wpAny (model X.prog X.w) X.A (newFunctionEnv sc X.env.globals (Jf X.env sc.names) [] X.env.qual none .none (some X.env)) (fun cenv s4=>
      codeAny (model X.prog X.w) X.A (.compStart (.ListComp elt [⟨tg,iter,ifs,0⟩] sc pos) 0 (.ref it) (.ref D) {cenv with scope:=relabel sc X.env}) (xT X p_ σ Q cenv.locals) s4) E s:=by
  obtain⟨mV,⟨m0,w0⟩,turn⟩:=h;refine xR ?_;have ho:=T.obj 0 _ st;have I0:=K3 I hps hpN S hf ho;have ok':=Jg I hps S hf ho;have hk:∀b o,s.heap.get? b=some o→(blockAt sc s).heap.get? b=some o:=fun b o e=>pushCells_keeps _ _ b o (Heap.get?_push_of_some _ e);have st0:tn 0 (blockAt sc s).heap:=T.keep 0 _ _ st fun b _ o e=>hk b o e;have stat:∀{H':Hp},(∀b∈fp,H' b=none)→∀b∈fp,mW (cA X sc N s.heap.objs.size s H fp (X.pn++p_)) [] H' b:=fun hn b hb=>
    ⟨hn b hb,(ok'.Zi b hb).1,ok'.Ir b hb,.inl hb,(ok'.Zi b hb).2,fun p hp=>(hf b hb).2.2.2.2.2 p (by rw[List.append_nil] at hp;exact hp)⟩
  have loop:codeAny (model X.prog X.w) X.A (.compLoop (.ListComp elt [⟨tg,iter,ifs,0⟩] sc pos) 0 (.ref it) (.ref D) (cA X sc N s.heap.objs.size s H fp (X.pn++p_)).env) (xT X p_ σ Q s.heap.objs.size) (blockAt sc s):=by
    refine Al (fun n s'=>∃i σ' H',Inv (cA X sc N s.heap.objs.size s H fp (X.pn++p_)) [] σ' H' s'∧tn i s'.heap∧(∀b∈fp,H' b=none)∧mV i n σ' H') ?_ m0 ⟨0,_,H,I0,st0,fun b hb=>(hf b hb).1,w0⟩;rintro n s3 ⟨i,σ3,H3,I3,st3,fr3,w3⟩
    rcases turn i n σ3 H3 w3 with⟨stop,qn⟩ | ⟨go,N',hN,step⟩
    ·refine cN (T.done (cA X sc N s.heap.objs.size s H fp (X.pn++p_)) rfl rfl rfl hh i [] s3 σ3 H3 V6 I3 (stat fr3) st3 stop) fun r s4 zz=>?_;obtain⟨hr,I4⟩:=zz;subst hr;obtain⟨m,hn,_⟩:=I4.loc;exact⟨H3,rfl,Hi I hf I4,⟨m,hn⟩,I.Bh (Nat.le_refl _) I4.free,qn⟩
    · refine cN (T.item (cA X sc N s.heap.objs.size s H fp (X.pn++p_)) rfl rfl rfl i [] s3 σ3 H3 V6 I3 (stat fr3) st3 go) fun r s4 zz=>?_;obtain⟨u,hr,h4⟩:=zz;subst hr;refine cN h4 fun _ s5 zz=>?_;obtain⟨x,H5,I5,r5,y5,Vu,fr5⟩:=zz;have I5':=I5.pinned (stat fr5) (T.obj _ _ Vu);refine cN (hg _ _ _ _ _ _ s5 σ3 H5 x u _ I5' r5 (step x H5 y5)) fun _ s6 zz=>?_;obtain⟨σ6,H6,I6,q6⟩:=zz;refine cN (ht _ _ _ _ _ _ s6 σ6 H6 _ I6 q6) fun b s7 zz=>?_;obtain⟨H7,I7,q7⟩:=zz;have again:∀{σ8:St} {H8:Hp} {s8:Shared},Inv (cA X sc N s.heap.objs.size s H fp (X.pn++p_)) ([]++yW fp s5.heap) σ8 H8 s8→N' σ8 H8→
          ∃m,m<n∧∃i σ' H',Inv (cA X sc N s.heap.objs.size s H fp (X.pn++p_)) [] σ' H' s8∧tn i s8.heap∧(∀b∈fp,H' b=none)∧mV i m σ' H':=fun {σ8 H8 s8} I8 n8=>by
        obtain⟨m',hm,w8⟩:=hN σ8 H8 n8;refine⟨m',hm,i+1,σ8,H8,I8.tV,T.keep _ _ _ Vu fun b hb o e=>(I8.pin (b,o) (List.mem_append_right _ (List.mem_append_right _ (kJ hb e)))).1,fun b hb=>?_,w8⟩;obtain⟨o,e,d⟩:=T.obj _ _ Vu b hb;exact(I8.pin (b,o) (List.mem_append_right _ (List.mem_append_right _ (kJ hb e)))).2.1
      cases b with
      | false=>
        rw[if_neg Bool.false_ne_true] at q7 ⊢;exact again I7 q7
      | true=>
        rw[if_pos rfl] at q7 ⊢;refine cN (he _ _ _ _ _ _ s7 σ6 H7 _ I7 q7) fun v s8 zz=>?_;obtain⟨y,H8,I8,r8,ys,hD,hz,n8⟩:=zz;refine cN (yZ (X:=cA X sc N s.heap.objs.size s H fp (X.pn++p_)) _ s8 σ6 H8 (.ref D) [y] (.ref D) [v] (fun _ H9=>N' σ6 H9) I8 rfl (.cons r8 .nil) ⟨D,ys,y,rfl,rfl,hD,hz,n8⟩) fun _ s9 zz=>?_;obtain⟨_,H9,I9,_,n9⟩:=zz;exact again I9 n9
  exact codeAny_compStart_list loop (T.self X.A 0 _ _ _ st0 loop)
variable {elt tg iter:Expr} {ifs:List Expr} {pos:Pos} {wi:TI} {g:TG} {tt:TT} {te:TE}
theorem Xx (hps:X.env.scope=ps) (hpN:X.N=pN) (S:aY ps sc pN own caps N) (hh:X.A.handled=some (.ref c)) (hi:PIH c X tg iter wi)
    (hg:∀C s H fp pn,PG (cA X sc N C s H fp pn) tg g) (ht:∀C s H fp pn,PTs (cA X sc N C s H fp pn) ifs tt) (he:∀C s H fp pn,PE (cA X sc N C s H fp pn) elt te)
    (hs:∀x,foldedSetIterable iter X.env x=pure x:=by intro _;rfl):PE X (.ListComp elt [⟨tg,iter,ifs,0⟩] sc pos) (QF own caps wi g tt te):=by
  intro p_ s σ H Q I h;rw[eval_ListComp];refine wpAny_comprehension_free (use:=none) rfl hs (mG (S.cells hps I.ok)) S.kind S.locs (cN (hi p_ s σ H _ I h) fun v s1 h1=>cN h1 fun itv s2 h2=>?_);obtain⟨it,fp,tn,J,H2,e,I2,T,st2,f2,q⟩:=h2;subst e;have fr:H2 s2.heap.objs.size=none:=I2.fresh;refine wpAny_newObj_type ?_;have I3:Inv X p_ σ (upd H2 s2.heap.objs.size (.lst [])) {s2 with heap:=s2.heap.push {cls:=.type "list",data:=.seq ([]:List Value).toArray},toks:=s2.toks}:=I2.ZK (its:=[]) (ys:=[]) .nil (Nat.zero_le _);have f3:∀b∈fp,mW X p_ (upd H2 s2.heap.objs.size (.lst [])) b:=fun b hb=>by
    obtain⟨o,e,_⟩:=T.obj 0 _ st2 b hb;exact⟨by rw[aC (Nat.ne_of_lt (Heap.lt_size e))];exact(f2 b hb).1,(f2 b hb).2⟩
  refine cN (Lx (iter:=iter) (pos:=pos) I3 hps hpN S T (T.keep 0 _ _ st2 fun b _ o e=>Heap.get?_push_of_some _ e) f3 hh hg ht he (q _ fr)) fun cenv s4 h4=>?_;refine codeAny_mono h4 fun r s5 ⟨H5,hr,I5,⟨m,hn⟩,f5,q5⟩=>?_;subst hr;refine⟨m,hn,fun h' hs'=>?_⟩;have I6:Inv X p_ σ H5 {s5 with heap:=h',toks:=s5.toks}:=I5.turned (it:=cenv.locals) (fun b o hb e=>(hs'.2 b hb).trans e) f5.1 f5.2.1 f5.2.2.2.1 f5.2.2.2.2.1 f5.2.2.2.2.2;exact⟨.ref s2.heap.objs.size,H5,I6,rfl,q5⟩
end
structure Q7 (P:Program) (w:World) (K:W.Frag) (mg:Str→Option Value) (base:Heap) (k:Nat) (f:Addr) (fd:FuncData) (ps:List Str) (sp:Addr→Sp):Prop where
  len:∀a vs H Q E,sp a vs H Q E→vs.length=ps.length
  run:∀(a:Addr) (A:Around) (outer:List Env) (s:Shared) (H:Hp) (args:Args) (us:List Value) (vs:List V) (Q:VK),jl k A→KY P w K mg base A outer s H→BindsTo s fd args (ps.zip us)→Vals vs us→sp a vs H Q E0→
    codeAny (model P w) (A.mark (some (.ref a))) (.call (.ref f) args) (CR mF outer P w H s Q E0) s
theorem kW.okH {P:Program} {w:World} {K:W.Frag} {mg:Str→Option Value} {base:Heap} {x qual:Str} {st:Stmt} {f:Addr} {fd:FuncData} {N ps:List Str} {k:Nat} {sp:Addr→Sp} (F:kW K x qual st f fd) (S:bC N ps (ao st)) (len:∀a vs H Q E,sp a vs H Q E→vs.length=ps.length)
    (hbody:∀(a:Addr) (cdv:Value) (A:Around) (outer:List Env) (s:Shared) (H:Hp) (vs:List V) (Q:VK),jl k (A.deeper (envOfC qual (ao st) s.heap.objs.size f cdv))→sp a vs H Q E0→
      ∃t,Gn ((aB mF P w K mg base N qual (ao st) f cdv A outer s H E0).caught a) (aJ st) t∧t {nx:=fun _ H'=>Q .non H',rt:=Q} (start N vs) H):Q7 P w K mg base (k+1) f fd ps sp:=by
  obtain⟨oc,od,kV,doc,pm,an,cdv,ct,osl,rfl,lk,hcd⟩:=F.ex;refine⟨len,fun a A outer s H args us vs Q hr e0 hb r hsp=>?_⟩;have hl:=len _ _ _ _ _ hsp;have KX:K.In s.heap:=e0.mod.Ip.keeps fun b o e=>(e0.bs b o e).1;have lim:s.heap.NoLimit:=e0.mod.nolimit.keeps fun b o e=>(e0.bs b o e).1;have hkind:∀y∈ps.zip us,(ao st).names.lookup y.1=some .local∨((ao st).names.lookup y.1=some .cell∧((cellsFrom (s.heap.objs.size+1) (ao st).names []).lookup y.1).isSome=true):=fun⟨n,v⟩ hy=>by
    rcases S.par n (List.of_mem_zip hy).1 with q | q
    ·exact .inl q
    ·exact .inr ⟨q,W.cellsFrom_some _ _ _ (.inl q)⟩
  refine codeAny_call_function (A:=A.mark (some (.ref a))) hr.depth (KX _ _ lk) rfl S.co S.gen rfl (W.codeRec_of KX hcd) (hb _ _ _ _ ?_);refine wpAny_newFunctionEnv_cells S.kind hkind fun env he s1 x=>?_;subst he;refine⟨lim.keeps x.toInCall.keep,codeAny_func ?_⟩;obtain⟨t,ht,hq⟩:=hbody a cdv A outer s H vs Q (hr.deeper _) hsp;have I:Inv (aB mF P w K mg base N qual (ao st) f cdv A outer s H E0) [] (start N vs) H s1:=Hg S hr.hd e0 hl r x;refine wpAny_mono (ht [] s1 (start N vs) H _ (I.caught a) hq) (fun fl s' hs=>?_) fun e s' hs=>hs.elim;have fin:∀{σ':St} {H':Hp} {v:V} {u:Value},Inv ((aB mF P w K mg base N qual (ao st) f cdv A outer s H E0).caught a) [] σ' H' s'→RelV v u→Q v H'→CE outer P w H s Q u s':=
    fun {σ' H' v u} J rv q=>⟨v,H',J.os,J.bare,J.base,J.hok,rv,q⟩
  cases fl with
  | ret u=>
    obtain⟨v,σ',H',J,rv,q⟩:=hs;exact fin J rv q
  | next=>
    obtain⟨σ',H',J,q⟩:=hs;exact fin (v:=V.non) (u:=Value.none) J rfl q
  | brk=>obtain⟨σ',H',J,q⟩:=hs;exact False.elim q
  | cont=>obtain⟨σ',H',J,q⟩:=hs;exact False.elim q
section
variable {X:Cx} {a:Addr}
def Xy (sp:Sp) (t:TA):TE:=fun σ H Q=>t σ H fun vs H1=>Oq sp vs H1 Q ⟨0⟩ E0
@[simp ↓] theorem qfO sp t σ H Q:Xy sp t σ H Q=t σ H fun vs H1=>Oq sp vs H1 Q ⟨0⟩ E0:=rfl
theorem Ly {k:Nat} {f:Addr} {fd:FuncData} {ps:List Str} {sp:Addr→Sp} {x:Str} {p pos:Pos} {e:Expr} {es:List Expr} {t:TA}
    (F:Q7 X.prog X.w X.K X.mg X.base k f fd ps sp) (hr:jl k X.A) (hg:Gl X x) (hm:X.mg x=some (.ref f)) (hk:W.keepIn X.K (.ref f)=true) (hb:Binds X.K fd ps [])
    (ha:PA (X.caught a) (e::es) t) (hdb:(x == ("__debug__" : Str))=false:=by decide) (he:starEach (e::es) X.env=(false,eval e X.env)::starEach es X.env:=by rfl) (hpl:(backTo pos (starEach es X.env)).any (·.1)=false:=by rfl) :
    PE (X.caught a) (.Call (.Name x p) (e::es) [] pos) (Xy (sp a) t):=by
  intro p_ s σ H Q I h;refine wpAny_Call_Name_kw (lE I hg hm ?_ hdb);refine W.callWith_K (h₀:=X.base) I.ok.mod.Ip hk (cN (ha pos p_ s σ H _ I h) fun us s1 zz=>?_) he hpl;obtain⟨vs,H1,I1,r,q⟩:=zz;refine⟨I1.oE,?_⟩;have hl:us.length=ps.length:=by rw[← r.length];exact F.len _ _ _ _ _ q
  have hbd:=hb s1 us I1.oE (by rw[List.append_nil];exact hl);rw[List.append_nil] at hbd;have e0:=I1.env0;refine wpAny_call (codeAny_mono (F.run a X.A X.stack s1 H1 ⟨us,[]⟩ us vs Q hr ⟨e0.frames,e0.mod,e0.bs,e0.RK,e0.tQ,e0.Vl,e0.hok,e0.bare⟩ hbd r q) fun rr s' hq=>?_);cases rr with
  | error e=>exact hq.elim
  | ok fl=>
    cases fl with
    | ret u=>exact I1.after hq
    | next=>exact False.elim hq
    | brk=>exact False.elim hq
    | cont=>exact False.elim hq
end
def JK (K:W.Frag) (C:Addr):Prop:=qZ K C∧∃cd,W.clsIn K C=some cd
def O5 (K:W.Frag) (C:Addr):V→Option Bool
  | .ref D=>W.kitOne K (.ref C) (.ref D)
  | .ty n=>W.kitOne K (.ref C) (.type n)
  | _=>none
theorem kW.qfP {P:Program} {w:World} {K:W.Frag} {mg:Str→Option Value} {base:Heap} {x qual:Str} {st:Stmt} {f:Addr} {fd:FuncData} {N ps:List Str} {k:Nat} {sp:Sp} (F:kW K x qual st f fd) (S:bC N ps (ao st)) (len:∀vs H Q E,sp vs H Q E→vs.length=ps.length)
    (hbody:∀(cdv:Value) (A:Around) (outer:List Env) (s:Shared) (H:Hp) (vs:List V) (Q:VK) (E:XK),jl k (A.deeper (envOfC qual (ao st) s.heap.objs.size f cdv))→sp vs H Q E→
      ∃t,Gn (aB (Vd P w) P w K mg base N qual (ao st) f cdv A outer s H E) (aJ st) t∧t {nx:=fun _ H'=>Q .non H',rt:=Q} (lg N vs) H):dG P w K mg base (Vd P w) (k+1) f fd ps sp:=by
  refine F.okE S len fun cdv A outer s H vs Q E hr h=>?_;obtain⟨t,h1,h2⟩:=hbody cdv A outer s H vs Q E hr h;refine⟨t,h1,?_⟩;have hl:=len _ _ _ _ h;have hp:ps.length≤N.length:=by have:=congrArg List.length S.pre;rw[List.length_take] at this;omega
  rw[qK N vs (by omega)] at h2;exact h2
theorem kW.qk6 {P:Program} {w:World} {K:W.Frag} {mg:Str→Option Value} {base:Heap} {x qual:Str} {st:Stmt} {f:Addr} {fd:FuncData} {N ps:List Str} {k:Nat} {sp:Addr→Sp} (F:kW K x qual st f fd) (S:bC N ps (ao st)) (len:∀a vs H Q E,sp a vs H Q E→vs.length=ps.length)
    (hbody:∀(a:Addr) (cdv:Value) (A:Around) (outer:List Env) (s:Shared) (H:Hp) (vs:List V) (Q:VK),jl k (A.deeper (envOfC qual (ao st) s.heap.objs.size f cdv))→sp a vs H Q E0→
      ∃t,Gn ((aB mF P w K mg base N qual (ao st) f cdv A outer s H E0).caught a) (aJ st) t∧t {nx:=fun _ H'=>Q .non H',rt:=Q} (lg N vs) H):Q7 P w K mg base (k+1) f fd ps sp:=by
  refine F.okH S len fun a cdv A outer s H vs Q hr h=>?_;obtain⟨t,h1,h2⟩:=hbody a cdv A outer s H vs Q hr h;refine⟨t,h1,?_⟩;have hl:=len _ _ _ _ _ h;have hp:ps.length≤N.length:=by have:=congrArg List.length S.pre;rw[List.length_take] at this;omega
  rw[qK N vs (by omega)] at h2;exact h2
theorem qfQ {P:Program} {w:World} {X:Cx}:Passes (Vd P w) X E0:=fun _ _ _ _ _ _ _ h=>by
  obtain⟨_,_,_,_,_,_,_,_,_,_,z⟩:=h;exact z.elim
theorem qau:bootBuiltins "ValueError" = some (.type "ValueError"):=by decide+kernel
section
variable {K:W.Frag} {own:List Str} {caps:List Nat} {g:TG} {tt:TT} {te:TE} {D l1 l2 c:Addr} {σ:St} {H:Hp} {Q:Hp→Prop}
theorem qk7 {d:qcI g tt te Q} (xs ys:List V) (Pv:Nat→St→Hp→Prop) (h0:Pv 0 (stC own caps σ) H) (he:xs.length=ys.length) (hl:∀i σ H,i≤xs.length→Pv i σ H→(aX K H l1 xs∧aX K H l2 ys)∧Cau H c)
    (hs:∀i x y t σ H,xs[i]? = some x→ys[i]? = some y→H t=none→Pv i σ H→Ao g tt te D (Pv (i+1)) (.ref t) σ (upd H t (.tup [x,y]))) (hd:∀σ H,Pv xs.length σ H→Q H):tCm own caps (qas c K l1 l2) g tt te Q d D σ H:=by
  refine⟨fun i m σ H=>m=xs.length - i∧i≤xs.length∧Pv i σ H,⟨xs.length,by simp,Nat.zero_le _,h0⟩,?_⟩;rintro i m σ H ⟨rfl,hi,p⟩;obtain⟨⟨q1,q2⟩,ca⟩:=hl i σ H hi p
  by_cases hlt:i<xs.length
  ·have hlt2:i<ys.length:=he▸hlt;refine .inr ⟨⟨xs,ys,xs[i],ys[i],q1,q2,by simp[hlt],by simp[hlt2]⟩,Pv (i+1),fun σ' H' p'=>⟨xs.length - (i+1),by omega,rfl,hlt,p'⟩,fun x H' y=>?_⟩;obtain⟨t,u,v,rfl,ht,rfl,e1,e2⟩:=y;exact hs i u v t σ H (e1 xs q1) (e2 ys q2) ht p
  · have e:i=xs.length:=by omega
    subst e;exact .inl ⟨⟨⟨xs,ys,q1,q2,.inl (Nat.le_refl _)⟩,ca⟩,hd σ H p⟩
end
end L2
namespace L2
open PySem PySem.Spec PySem.W PyProof.Rows
section
variable {prog:Program} {w:World} {A:Around} {E:Value→Shared→Prop} {K:W.Frag} {h:Heap} {g:Array GenState} {d:Drawn} {t:Nat} {os:OsState}
variable {nm q:Str} {C N:Addr} {bs bm:List Value} {hdct:Bool} {sn:List Str} {sub:List Value} {ab:Bool} {col:Option Bool} {dd:Option Addr} {k0 k1 k2 k3 k5:Option Value}
theorem JL {rest:List Value} {f:Addr} {Q:PySem.Fin→Shared→Prop} (X:K.In h) (T:OwnTail h ju bm) (hi:findIn K (.ref C) "__init__" = some (some (.ref f))) (hf:typeIn K (.ref f)=some (.type "function"))
    (hC:h.get? C=some (excClassObj nm q C N bs bm hdct sn sub ab col dd k0 k1 k2 k3 k5 "ValueError.__new__"))
    (hq:∀h' e,Heap.MadeExcOf h h' e (.ref C) rest→wpAny (model prog w) A (call (.ref f) (.ref e::rest)) (fun r s'=>r = .none∧Q (.done (.ret (.ref e))) s') E ⟨h',g,d,t,os⟩) (hz:rest.length≤sizeLine) :
    wpAny (model prog w) A (Builtin.«type.__call__» ⟨.ref C::rest,[]⟩) Q E ⟨h,g,d,t,os⟩:=by
  have F:=PySem.F.excBase_ValueError
  repeat (first | with_reducible refine wpAny_loadPart_at hC ?_ | with_reducible refine wpAny_madeBy_exc hC ?_ | wp_step)
  refine codeAny_call_builtin_code (Code.quiet_builtin _ F.quiet) (wpAny_check_new_subT F T hC (codeAny_exc_new_subT F T hC ?_ hz));show wpAny _ _ _ _ _ _;generalize hG:(h.push {cls:=.type "tuple",data:=.seq rest.toArray}).push {cls:=.ref C,data:=.fields #[.ref h.objs.size,.none,.none,.none,.bool false,.none]}=G;have kp:∀b o,h.get? b=some o→G.get? b=some o:=fun b o e=>by
    rw[← hG];exact Heap.get?_push_of_some _ (Heap.get?_push_of_some _ e)
  have hget:G.get? (h.objs.size+1)=some {cls:=.ref C,data:=.fields #[.ref h.objs.size,.none,.none,.none,.bool false,.none]}:=by
    rw[← hG]
    heap_get
  have hT:G.get? h.objs.size=some {cls:=.type "tuple",data:=.seq rest.toArray}:=by
    rw[← hG];exact Heap.get?_push_of_some _ (Heap.get?_push_at rfl rfl)
  have X1:K.In G:=fun b o e=>kp b o (X b o e);have Y9:=kp _ _ hC;have hcC:(Value.ref C::bm).contains (.ref C)=true:=by simp
  unfold isInstance
  repeat (first | with_reducible refine wpAny_loadPart_at hget ?_ | (with_reducible refine wpAny_isSubtype_exc Y9 ?_;rw[hcC]) | wp_step)
  show wpAny _ _ (typeLookup (.ref C) _) _ _ _;refine(looks_findIn (M:=model prog w) X1 hi).at ?_;refine wpAny_holding (wpAny_bind ?_);unfold bindSpecial;refine wpAny_bind ((looks_typeIn (M:=model prog w) X1 hf).at ?_);rw[if_pos (by decide)];refine wpAny_pure (wpAny_bind (wpAny_mono (hq G (h.objs.size+1) ⟨kp,Heap.get?_none_of_le (Nat.le_succ _),h.objs.size,hget,Heap.get?_none_of_le (Nat.le_refl _),hT⟩) (fun r s' hr=>?_) fun _ _ x=>x));obtain⟨rfl,hQ⟩:=hr
  wp_walk
  exact hQ
theorem qav {rest:List Value} {f:Addr} {Q:Value→Shared→Prop} (X:K.In h) (T:OwnTail h ju bm) (hi:findIn K (.ref C) "__init__" = some (some (.ref f))) (hf:typeIn K (.ref f)=some (.type "function"))
    (hC:h.get? C=some (excClassObj nm q C N bs bm hdct sn sub ab col dd k0 k1 k2 k3 k5 "ValueError.__new__"))
    (hq:∀h' e,Heap.MadeExcOf h h' e (.ref C) rest→wpAny (model prog w) (A.under (.builtin "type.__call__" ⟨.ref C::rest,[]⟩)) (call (.ref f) (.ref e::rest)) (fun r s'=>r = .none∧Q (.ref e) s') E ⟨h',g,d,t,os⟩) (hz:rest.length≤sizeLine) :
    wpAny (model prog w) A (call (.ref C) rest) Q E ⟨h,g,d,t,os⟩:=by
  have f1:=tc_lookup;have f2:=tc_bind (.ref C);have hT:(⟨h,g,d,t,os⟩:Shared).TypeIs (.ref C) "type" :=⟨_,hC,rfl⟩;refine wpAny_call (codeAny_of_tree ?_);show wpAny _ _ (callAny (.ref C) _) _ _ _
  repeat (any_goals (first | assumption | with_reducible refine wpAny_loadPart_at hC ?_ | wp_step))
  refine⟨rfl,codeAny_call_builtin_at (Code.quiet_builtin _ (by decide+kernel)) entry_typeCall (wpAny_check_type_call_sub hC (JL X T hi hf hC (fun h' e hm=>?_) hz))⟩;exact hq h' e hm
theorem qaw {rest:List Value} {e t0:Addr} {oe:Obj} {vs:Array Value} {Q:Value→Shared→Prop} (T:OwnTail h ju bm)
    (hC:h.get? C=some (excClassObj nm q C N bs bm hdct sn sub ab col dd k0 k1 k2 k3 k5 "ValueError.__new__")) (he:h.get? e=some oe) (hc:oe.cls = .ref C) (hd:oe.data = .fields vs) (h0:vs[0]? = some (.ref t0))
    (hq:∀h' t1,(∀b o,b≠e→h.get? b=some o→h'.get? b=some o)→h'.get? e=some {oe with data:=.fields (vs.setIfInBounds 0 (.ref t1))}→Q .none ⟨h',g,d,t,os⟩) (hz:rest.length≤sizeLine) :
    wpAny (model prog w) A (call (.builtin "ValueError.__init__") (.ref e::rest)) Q E ⟨h,g,d,t,os⟩:=by
  have F:=PySem.F.excBase_ValueError;refine wpAny_call (codeAny_call_builtin F.init.plain F.initEntry (wpAny_check_init_subT F T hC he hc ?_));have Ve:(h.push {cls:=.type "tuple",data:=.seq rest.toArray}).get? e=some oe:=Heap.get?_push_of_some _ he;unfold Builtin.«BaseException.__init__» Builtin.BaseException.bexcPut
  repeat (first | with_reducible refine wpAny_field Ve hd h0 ?_ | with_reducible refine wpAny_setField Ve hd (Array.getElem?_eq_some_iff.mp h0).1 ?_ | wp_step)
  have d3:=Obj.data_mapFields hd (·.setIfInBounds 0 (Value.ref h.objs.size));refine hq _ h.objs.size (fun b o hb z=>?_) ?_
  ·rw[Heap.get?_update_other _ _ (Ne.symm hb)];exact Heap.get?_push_of_some _ z
  ·refine(Heap.get?_update_self _ Ve (Obj.isFreed_of_fields d3)).trans (congrArg some ?_);obtain⟨c,dct,dat,sl⟩:=oe;cases hd;rfl
def JM (x C:Addr) (od:Option Addr) (h:Heap):Prop:=∃ox vs t0,h.get? x=some ox∧ox.cls = .ref C∧ox.data = .fields vs∧vs[0]? = some (.ref t0)∧vs[1]? = some .none∧vs[2]? = some .none∧ox.dict=od
theorem JM.at {x C:Addr} {od:Option Addr} {h:Heap} (e:JM x C od h):lq x C h:=by
  obtain⟨ox,vs,t0,h1,h2,h3,_,_,h5,_⟩:=e;exact⟨ox,vs,h1,h2,h3,h5⟩
structure O6 (K:W.Frag) (C:Addr):Prop where
  ga:findIn K (.ref C) "__getattribute__" = some (some (.builtin "BaseException.__getattribute__"))
  gn:findIn K (.ref C) "__getattr__" = some none
  mb:mroIn K C (.type "BaseException")=some true
  hd:hasDictIn K C=true
theorem Xz {M:Model} {x:Addr} {nameV:Value} {Q:Unit→Shared→Prop} (X:K.In h) (I:lq x C h) (hb:mroIn K C (.type "BaseException")=some true) (hq:Q () ⟨h,g,d,t,os⟩) :
    wpAny M A (checkBuiltinCall "BaseException.__getattribute__" ⟨[.ref x,nameV],[]⟩) Q E ⟨h,g,d,t,os⟩:=by
  have hk:builtinKind "BaseException.__getattribute__" = some .slot:=by decide+kernel
  have hs:splitId "BaseException.__getattribute__" = some ("BaseException", "__getattribute__"):=by decide+kernel
  have L0:=I.type (M:=M);have L1:=looks_mroIn (M:=M) X hb;have ha:=F.args_bexc_ga (.ref x) nameV;simp only[checkBuiltinCall,hk,hs];refine wpAny_bind ?_;unfold isInstance
  repeat (first | with_reducible refine L0.at ?_ | with_reducible refine L1.at ?_ | wp_step)
  exact hq
theorem qax {x dx:Addr} {mA:Str→Option Value} (e:wg x C (some dx) h) (hn:h.Ns1 dx mA):∃ox od,W.InstAt h x ox C (some od)∧∀name,W.lookIn name od=some (mA name):=by
  obtain⟨ox,vs,h1,h26,h3,_⟩:=e;have h2:ox.cls = .ref C:=congrArg Prod.fst h26;have h6:ox.dict=some dx:=congrArg Prod.snd h26;obtain⟨od,ho,hl⟩:=G5 hn;refine⟨ox,od,⟨h1,h2,?_,?_⟩,hl⟩
  ·unfold W.notCls;rw[h3]
  ·rw[h6];exact ho
theorem qde {x dx:Addr} {mA:Str→Option Value} {name:Str} {v:Value} {expr:Bool} {Q:Value→Shared→Prop} {s:Shared} (X:K.In s.heap) (e:wg x C (some dx) s.heap) (hn:s.heap.Ns1 dx mA) (G:O6 K C) (ha:findIn K (.ref C) name=some none)
    (hv:mA name=some v) (hv':handedIn v=true) (h:Q v {s with toks:=s.toks+1}):wpAny (model prog w) A (getAttr (.ref x) name expr) Q E s:=by
  obtain⟨ox,od,I,hl⟩:=qax e hn;obtain⟨hp,g,d,t,os⟩:=s;dsimp only at X e hn h I;have hf:findObj K C (some od) name=some (.value v):=findObj_own G.hd ha rfl (by rw[hl,hv]);have L0:=I.type (M:=model prog w);have L1:=looks_findIn (M:=model prog w) X G.ga;have L2:=looks_findIn (M:=model prog w) X G.gn;have L3:=looks_find (M:=model prog w) X I hf;have f3:=(F.attrBase_ValueError.ga).bind (.ref x);have hx2:(Value.builtin "BaseException.__getattribute__" == Value.builtin "object.__getattribute__")=false:=by decide+kernel
  have hx1:(onTheHeap (Value.ref C) && Value.builtin "BaseException.__getattribute__" == Value.builtin "object.__getattribute__")=false:=by rw[hx2];rfl
  unfold getAttr getAttrBy
  repeat (any_goals (first | assumption | with_reducible refine L0.at ?_ | with_reducible refine L1.at ?_ | with_reducible refine L2.at ?_ | wp_step))
  rw[show(expr && onTheHeap (Value.builtin "BaseException.__getattribute__"))=false from Bool.and_false _,if_neg (by decide)];unfold boundAndCalled;rw[f3];refine wpAny_bind (wpAny_pure ?_);show wpAny _ _ (call (.builtin "BaseException.__getattribute__") [.ref x,.str name t]) _ _ _;refine wpAny_call (codeAny_call_builtin F.attrBase_ValueError.ga.plain F.entry_bexc_ga (Xz X e.at G.mb ?_))
  repeat (any_goals (first | assumption | with_reducible refine L0.at ?_ | with_reducible refine L3.at ?_ | wp_step))
  show wpAny _ _ (handedOut v) _ _ _;rw[handedOut_of hv'];exact wpAny_pure h
structure wj (K:W.Frag) (C PE:Addr):Prop where
  sa:findIn K (.ref C) "__setattr__" = some (some (.builtin "object.__setattr__"))
  mo:mroIn K C (.type "object")=some true
  cl:∃cd,clsIn K C=some cd∧cd.mro = .ref C::.ref PE::ju∧cd.hasDict=true
theorem qdf {x PE:Addr} {name:Str} {tk:Tok} {v:Value} {R:Result→Shared→Prop} (X:K.In h) (I:lq x C h) (S:wj K C PE) (ha:findIn K (.ref C) name=some none)
    (hq:wpAny (model prog w) A.in1 (Builtin.ObjectAttr.storeInOwnDict (.ref x) (.ref C) (.str name tk) name v false)
      (fun fin s'=>match fin with | .done f=>R (.ok f) s' | .again c'=>c'.quiet=true∧codeAny (model prog w) A c' R s') (fun e s'=>R (.error e) s') ⟨h,g,d,t,os⟩) :
    codeAny (model prog w) A (.call (.builtin "object.__setattr__") ⟨[.ref x,.str name tk,v],[]⟩) R ⟨h,g,d,t,os⟩:=by
  have SF:=PySem.F.store_object;obtain⟨cd,hc,hm,_⟩:=S.cl;have L0:=I.type (M:=model prog w);have sub:Looks (model prog w) h (isInstance (.ref x) (.type "object")) true:=L0.andThen (looks_mroIn X S.mo);refine codeAny_call_builtin SF.slot.plain SF.entry (@check_slot (model prog w) _ _ ⟨h,g,d,t,os⟩ "object.__setattr__" "object" "__setattr__" (.ref x) [.str name tk,v] [] _ SF.kind SF.split sub (SF.args (.ref x) (.str name tk) v) ?_);have Lm:Looks (model prog w) h (mroOf (.ref C)) cd.mro:=(looks_clsIn X hc).andThen .now;rw[osa_eq,refuse_eq];refine wpAny_bind (wpAny_bind (Looks.here (s:=⟨h,g,d,t,os⟩) L0 (wpAny_bind (Looks.here (s:=⟨h,g,d,t,os⟩) Lm ?_))));rw[hm,refuseLoop_ref,refuseLoop_ref,PySem.F.store_ValueError.passes];exact wpAny_pure (wpAny_bind (Looks.here (s:=⟨h,g,d,t,os⟩) L0 (wpAny_bind (Looks.here (s:=⟨h,g,d,t,os⟩) (looks_findIn X ha) (wpAny_bind (wpAny_pure hq))))))
theorem XD {x PE:Addr} {name:Str} {v:Value} {Q:Unit→Shared→Prop} {s:Shared} (X:K.In s.heap) (I:lq x C s.heap) (S:wj K C PE) (ha:findIn K (.ref C) name=some none)
    (hq:∀A':Around,wpAny (model prog w) A' (Builtin.ObjectAttr.storeInOwnDict (.ref x) (.ref C) (.str name s.toks) name v false) (fun fin s'=>fin = .done (.ret .none)∧Q () s') (fun e s'=>False) {s with toks:=s.toks+1}) :
    wpAny (model prog w) A (setAttr (.ref x) name v) Q E s:=by
  have L0:=I.type (M:=model prog w);refine wpAny_bind (wpAny_mkText (wpAny_bind (wpAny_bind (wpAny_bind (L0 _ _ _ _ (fun _ _ e=>e) (looks_findIn X S.sa _ _ _ _ (fun _ _ e=>e) (wpAny_holding ?_)))))));rw[PySem.F.store_object.slot.bind];refine wpAny_bind (wpAny_pure (wpAny_bind (wpAny_call (codeAny_mono (qdf (A:=A) (tk:=s.toks) (v:=v) (R:=fun r s'=>match r with | .ok (.ret _)=>Q () s' | .ok _=>False | .error e=>False) X I S ha (wpAny_mono (hq _) (fun fin s' z=>?_) fun e s' z=>z)) fun r s' z=>?_))))
  ·obtain⟨rfl,z⟩:=z;exact z
  ·rcases r with e | (v | _ | _ | _) <;> first | exact z.elim | exact wpAny_pure (wpAny_pure z)
theorem qay {x dx:Addr} {ns:List Str} {mA:Str→Option Value} {name:Str} {tk:Tok} {v:Value} {Q:PySem.Fin→Shared→Prop} {cd:ClassData} (X:K.In h) (e:JM x C (some dx) h) (hn:h.Ns1 dx mA) (hc:clsIn K C=some cd) (hd:cd.hasDict=true)
    (hw:PySem.Within mA ns) (hsz:ns.length≤sizeLine) (hq:∀h' t',h'.Ns1 dx (fun y=>if y=name then some v else mA y)→Heap.SameBut dx h h'→Q (.done (.ret .none)) ⟨h',g,d,t',os⟩) :
    wpAny (model prog w) A (Builtin.ObjectAttr.storeInOwnDict (.ref x) (.ref C) (.str name tk) name v false) Q E ⟨h,g,d,t,os⟩:=by
  obtain⟨ox,vs,t0,h1,h2,h3,_,_,_,h6⟩:=e;obtain⟨oc,odi,oda,osl⟩:=ox;cases h2;cases h3;cases h6;refine wpAny_bind (wpAny_pure (wpAny_bind (wpAny_bind (wpAny_loadPart h1 (wpAny_bind (Looks.here (s:=⟨h,g,d,t,os⟩) (looks_clsIn X hc) ?_))))));rw[hd];refine wpAny_pure (a:=some dx) (wpAny_bind (wpAny_pure (wpAny_bind ?_)));refine wpAny_nsSet1 (s:=⟨h,g,d,t,os⟩) hn fun h' hn2 hs2=>?_;obtain⟨oD,esD,epD,hoD,hdD,hcD⟩:=hn2.count (PySem.Within.cons name v hw);refine wpAny_bind (wpAny_lookBehind hoD (by rw[hdD];exact pastItsLine_dict (Nat.le_trans hcD (by rw[List.length_cons];omega))) ?_);exact wpAny_pure (hq _ _ hn2 hs2)
theorem qaz {x:Addr} {name:Str} {tk:Tok} {v:Value} {Q:PySem.Fin→Shared→Prop} {cd:ClassData} (X:K.In h) (e:JM x C none h) (hc:clsIn K C=some cd) (hd:cd.hasDict=true)
    (hq:∀h' t',h'.Ns1 h.objs.size (fun y=>if y=name then some v else none)→(∀b o,b≠x→h.get? b=some o→h'.get? b=some o)→JM x C (some h.objs.size) h'→Q (.done (.ret .none)) ⟨h',g,d,t',os⟩) :
    wpAny (model prog w) A (Builtin.ObjectAttr.storeInOwnDict (.ref x) (.ref C) (.str name tk) name v false) Q E ⟨h,g,d,t,os⟩:=by
  obtain⟨ox,vs,t0,h1,h2,h3,h40,h41,h42,h6⟩:=e;obtain⟨oc,odi,oda,osl⟩:=ox;cases h2;cases h3;cases h6;refine wpAny_bind (wpAny_pure (wpAny_bind (wpAny_bind (wpAny_loadPart h1 (wpAny_bind (Looks.here (s:=⟨h,g,d,t,os⟩) (looks_clsIn X hc) ?_))))));rw[hd,if_neg (by decide)];show wpAny _ _ (if (!true || !typeHasDict (Value.ref C))=true then pure none else _) _ _ _
  rw[if_neg (by simp[typeHasDict])];have hxs:x≠h.objs.size:=Nat.ne_of_lt (Heap.lt_size h1);have h1':(h.push {cls:=.type "dict",data:=.dict #[]}).get? x=some ⟨.ref C,none,.fields vs,osl⟩:=Heap.get?_push_of_some _ h1;refine wpAny_bind (wpAny_alloc' ?_);refine wpAny_bind (wpAny_update' h1' ?_);refine wpAny_pure ?_;generalize hG:((h.push {cls:=.type "dict",data:=.dict #[]}).update x fun o=>{cls:=o.cls,dict:=some h.objs.size,data:=o.data,slots:=o.slots})=G;have g1:G.get? h.objs.size=some {cls:=.type "dict",data:=.dict #[]}:=by
    rw[← hG];exact(Heap.get?_update_ne _ _ _ _ hxs.symm).trans (Heap.get?_push_at rfl rfl)
  have g2:G.get? x=some ⟨.ref C,some h.objs.size,.fields vs,osl⟩:=by
    rw[← hG];exact Heap.get?_update_self _ h1' rfl
  have g3:∀b o,b≠x→h.get? b=some o→G.get? b=some o:=fun b o hb z=>by
    rw[← hG];exact(Heap.get?_update_ne _ _ _ _ hb).trans (Heap.get?_push_of_some _ z)
  have hnd:G.Ns h.objs.size (fun _=>none):=⟨_,#[],_,g1,rfl,fun e he=>absurd he (by simp),fun _=>rfl⟩;show wpAny _ _ (Builtin.ObjectAttr.storeInDict h.objs.size (.str name tk) name v) _ _ _;unfold Builtin.ObjectAttr.storeInDict Builtin.ObjectAttr.newKeyGuard;refine wpAny_bind (wpAny_pure (wpAny_bind (wpAny_nsSet1 (Heap.Ns1.of_empty hnd) fun h' hn' hs=>?_)));obtain⟨oD,esD,epD,hoD,hdD,hcD⟩:=hn'.count (Within.cons name v Within.nil);refine wpAny_bind (wpAny_lookBehind hoD (by rw[hdD];exact pastItsLine_dict (Nat.le_trans hcD (by rw[List.length_cons,List.length_nil,sizeLine_eq];omega))) ?_);exact wpAny_pure (hq _ _ hn' (fun b o hb z=>(hs.2 b (Nat.ne_of_lt (Heap.lt_size z))).trans (g3 b o hb z)) ⟨_,vs,t0,(hs.2 x hxs).trans g2,rfl,rfl,h40,h41,h42,rfl⟩)
end
end L2
namespace L2
open PySem PySem.Spec PyProof.Rows
def fH (x C:Addr) (od:Option Addr):HO:=.ext fun h=>JM x C od h
def jm (dx:Addr) (fs:List (Str×V)):HO:=.ext fun h=>fs.length≤1000∧∃mA,h.Ns1 dx mA∧(∀f,mU (fs.lookup f) (mA f))∧PySem.Within mA (fs.map (·.1))
section
variable {P:Program} {w:World} {H:Hp} {h:Heap} {x C dx:Addr} {od:Option Addr} {fs:List (Str×V)}
theorem JN (e:JM x C od h):cM P w H h x (fH x C od):=by
  obtain⟨ox,vs,t0,h1,h2⟩:=id e;exact⟨e,⟨ox,h1⟩,fun g1 g2 ⟨ox,vs,t0,a1,a2⟩ k=>⟨ox,vs,t0,k _ a1,a2⟩⟩
theorem Bw (ok:tO P w H h) (e:H x=some (fH x C od)):JM x C od h:=((show cM P w H h x (fH x C od) from ok _ _ e)).1
theorem Q8 {mA:Str→Option Value} (hl:fs.length≤1000) (hn:h.Ns1 dx mA) (hr:∀f,mU (fs.lookup f) (mA f)) (hw:PySem.Within mA (fs.map (·.1))):cM P w H h dx (jm dx fs):=by
  obtain⟨o,es,ep,h1,h2⟩:=id hn;exact⟨⟨hl,mA,hn,hr,hw⟩,⟨o,h1⟩,fun g1 g2 ⟨c,mB,⟨o,es,ep,a1,a2⟩,b⟩ k=>⟨c,mB,⟨o,es,ep,k _ a1,a2⟩,b⟩⟩
theorem Q9 (ok:tO P w H h) (e:H dx=some (jm dx fs)):fs.length≤1000∧∃mA,h.Ns1 dx mA∧(∀f,mU (fs.lookup f) (mA f))∧PySem.Within mA (fs.map (·.1)):=((show cM P w H h dx (jm dx fs) from ok _ _ e)).1
theorem qdg {o:HO} (e:H x=some o):upd H x o=H:=funext fun b=>by
  by_cases hb:b=x
  ·subst hb;rw[ak,e]
  ·rw[aC hb]
end
section
variable {X:Cx} {p_:List (Addr×Obj)} {σ:St} {H:Hp} {s:Shared}
theorem Inv.qdh {a:Addr} {ob:HO} (I:Inv X p_ σ H s) (hex:X.ex=[]) (new:X.s₀.heap.get? a=none) (un:H a=none) (e:∃ox vs,s.heap.get? a=some ox∧ox.data = .fields vs) (ok:cM X.prog X.w (upd H a ob) s.heap a ob) (hp:∀p∈X.pn++p_,p.1≠a):Inv X p_ σ (upd H a ob) s:=by
  have nf:∀{b o},s.heap.get? b=some o→(∀vs,o.data≠.fields vs)→b≠a:=fun {b o} eb hd z=>by
    subst z;obtain⟨ox,vs,h1,h3⟩:=e;rw[eb] at h1;cases h1;exact hd vs h3
  have old:∀{b o},X.s₀.heap.get? b=some o→b≠a:=fun {b o} eb z=>by
    rw[z,new] at eb;cases eb
  have ne:∀{b:Addr} {u:HO},H b=some u→b≠a:=fun {b u} q z=>by
    rw[z,un] at q;cases q
  refine⟨I.ok,I.os,I.bare,⟨fun b o eb n hb hx=>I.base.keep b o eb n hb hx,I.base.slot,fun b o eb n hx=>?_,I.base.there,fun b xs q=>?_,fun b o u q=>?_,fun b ps q=>?_⟩,I.loc,I.cell,?_,fun x c q=>?_,fun p hpp=>?_,fun b u q=>?_,I.len⟩
  ·rw[aC (old eb)];exact I.base.free b o eb n hx
  ·have z:=I.base.tups b xs q;rw[aC (ne z)];exact z
  ·have z:=I.base.qW b o u q;rw[aC (ne z)];exact z
  ·obtain⟨m,z⟩:=I.base.tE b ps q;exact⟨m,by rw[aC (ne z)];exact z⟩
  ·obtain⟨m,⟨o,es,ep,eo,d,r⟩,_⟩:=I.loc;rw[aC (nf eo fun vs y=>by rw[d] at y;cases y)];exact I.free
  ·obtain⟨v,o,eo,d⟩:=I.cell x c q;rw[aC (nf eo fun vs y=>by rw[d] at y;cases y)];exact I.iH x c q
  ·obtain⟨f1,f2,f3⟩:=I.pin p hpp;refine⟨f1,?_,f3⟩;rw[aC (hp p hpp)];exact f2
  · by_cases hb:b=a
    ·subst hb;rw[ak] at q;cases q;exact ok
    · rw[aC hb] at q;refine(I.hok b u q).stay (fun c v _ z=>z) (fun c z=>?_) fun c xs z=>?_
      ·rw[aC (ne z)];exact z
      ·rw[aC (ne z)];exact z
theorem Inv.qfR {e C:Addr} {args:List Value} {h':Heap} (I:Inv X p_ σ H s) (hex:X.ex=[]) (mk:Heap.MadeExcOf s.heap h' e (.ref C) args):H e=none∧Inv X p_ σ (upd H e (fH e C none)) {s with heap:=h'}:=by
  have un:=Xj I.hok mk.new;obtain⟨t0,ht,_⟩:=mk.there;have I2:Inv X p_ σ H {s with heap:=h',toks:=s.toks}:=I.kept mk.keeps;refine⟨un,I2.qdh hex (I.old hex mk.new) un ⟨_,_,ht,rfl⟩ (JN ⟨_,_,t0,ht,rfl,rfl,rfl,rfl,rfl,rfl⟩) fun p hp z=>?_⟩;have e1:=(I.pin p hp).1;rw[z,mk.new] at e1;cases e1
end
structure XMk (K:W.Frag) (C B f:Addr):Prop where
  ob:∃nm q N bs hdct sn sub ab col dd k0 k1 k2 k3 k5,K.lookup C=some (excClassObj nm q C N bs (.ref B::ju) hdct sn sub ab col dd k0 k1 k2 k3 k5 "ValueError.__new__")
  pe:qY K B
  pm:∃cd,W.clsIn K B=some cd∧cd.mro = .ref B::ju
  init:W.findIn K (.ref C) "__init__" = some (some (.ref f))
  fn:W.typeIn K (.ref f)=some (.type "function")
  kp:W.keepIn K (.ref C)=true
theorem XMk.tail {K:W.Frag} {C B f:Addr} {h:Heap} (M:XMk K C B f) (X:K.In h):OwnTail h ju (.ref B::ju):=by
  obtain⟨bm,N,nm,qn,bs,hdct,sn,sub,ab,col,dd,k0,k1,k2,k3,k5,mN,hC0,hN0,hni,T0,_⟩:=qao X M.pe;obtain⟨cd,h1,h2⟩:=M.pm;have e:bm=ju:=by
    unfold W.clsIn at h1;split at h1
    ·rename_i c' d' cd' sl' ho;cases h1;have z:=X _ _ ho;rw[hC0] at z;cases z;simpa using h2
    ·cases h1
  subst e;exact .own hC0 hN0 hni .base
section
variable {X:Cx} {C B f:Addr} {x:Str} {np p pos apos:Pos} {e:Expr} {es:List Expr} {t:TA}
structure qfS (K:W.Frag) (B:Addr):Prop where
  sg:W.specialIn K (.ref B) "__getattribute__" = some (some (.builtin "type.__getattribute__"))
  rd:W.readsIn K B (.type "type")=true
  fc:W.findCls K (.ref B) (.type "type") "__init__" = some (.val (.builtin "ValueError.__init__"))
def qbt (C:Addr) (t:TA):TE:=fun σ H Q=>t σ H fun vs H1=>ar2 vs fun v y=>isRef v fun a=>∃od,H1 a=some (fH a C od)∧Q .non H1
@[simp ↓] theorem qjT C t σ H Q:qbt C t σ H Q=t σ H fun vs H1=>ar2 vs fun v y=>isRef v fun a=>∃od,H1 a=some (fH a C od)∧Q .non H1:=rfl
theorem Q_ {pl:Sem Bool} (M:XMk X.K C B f) (N:qfS X.K B) (hg:Gl X x) (hm:X.mg x=some (.ref B)) (ha:PA X (e::es) t) (hdb:(x == ("__debug__" : Str))=false:=by decide)
    (he:starEach (e::es) X.env=(false,eval e X.env)::starEach es X.env:=by rfl) (hpl:(backTo pos (starEach es X.env)).any (·.1)=false:=by rfl)
    (ht:eval (.Call (.Attribute (.Name x np) "__init__" apos) (e::es) [] pos) X.env=(do
      let ov ← eval (.Name x np) X.env
      standAt apos.atName
      let (f,first) ← holding [ov] (getMethod ov "__init__" pl)
      callWith pos f first (backTo pos (starEach (e::es) X.env)) (backToKw pos (keywordEach [] X.env))):=by rfl) :
    PE X (.Call (.Attribute (.Name x np) "__init__" apos) (e::es) [] pos) (qbt C t):=by
  intro p_ s σ H Q I h;refine W.methodCall_KW (pl:=pl) (lE I hg hm ?_ hdb) ht;refine W.method_cls I.oE N.sg (W.cls_value I.oE N.rd N.fc rfl ?_);have I0:Inv X p_ σ H {s with toks:=s.toks+1}:=I.tok _;refine PyProof.Rows.callWith_builtin1 (cN (ha pos p_ _ σ H _ I0 h) fun us s1 zz=>?_) he hpl;obtain⟨vs,H1,I1,r,q⟩:=zz;obtain⟨v,y,rfl,q⟩:=ar2.out q;obtain⟨a,rfl,od,ea,q⟩:=isRef.out q;obtain⟨u1,u2,rfl,r1,r2⟩:=r.two;obtain rfl:u1=Value.ref a:=r1;obtain⟨nm,qn,N,bs,hdct,sn,sub,ab,col,dd,k0,k1,k2,k3,k5,hC⟩:=M.ob;have T:=M.tail I1.oE;have Y9:=I1.oE _ _ hC;obtain⟨ox,vs,t0,h1,h2,h3,h4,h5,h6,h7⟩:=Bw I1.hok ea;obtain⟨hh,g,d,tk,os⟩:=s1;refine qaw T Y9 h1 h2 h3 h4 (fun h' t1 keep he'=>?_) (by show 1≤sizeLine;decide);have sz:0<vs.size:=(Array.getElem?_eq_some_iff.mp h4).1;have new:JM a C od h':=⟨_,vs.setIfInBounds 0 (.ref t1),t1,he',h2,rfl,by simp[sz],by rw[Array.getElem?_setIfInBounds_ne (by decide)];exact h5,by rw[Array.getElem?_setIfInBounds_ne (by decide)];exact h6,h7⟩;have I2:Inv X p_ σ (upd H1 a (fH a C od)) {(⟨hh,g,d,tk,os⟩:Shared) with heap:=h',toks:=tk}:=I1.write (x:=a) (e:=a) (by rw[ea];exact True.intro) (.inl rfl) keep ⟨_,he'⟩ (JN new);rw[qdg ea] at I2;exact⟨.non,H1,I2,rfl,q⟩
end
section
variable {X:Cx} {C B:Addr} {o value:Expr} {f:Str} {pos pos':Pos} {ta tv:TE}
def sX0 (C:Addr) (ta tv:TE) (f:Str):TS:=fun D σ H=>tv σ H fun y H1=>ta σ H1 fun x H2=>isRef x fun a=>H2 a=some (fH a C none)∧∀dx,H2 dx=none→D.nx σ (upd (upd H2 dx (jm dx [(f,y)])) a (fH a C (some dx)))
@[simp ↓] theorem qnD C ta tv f D σ H:sX0 C ta tv f D σ H=tv σ H fun y H1=>ta σ H1 fun x H2=>isRef x fun a=>H2 a=some (fH a C none)∧∀dx,H2 dx=none→D.nx σ (upd (upd H2 dx (jm dx [(f,y)])) a (fH a C (some dx))):=rfl
theorem qbu (S:wj X.K C B) (hn:W.findIn X.K (.ref C) f=some none) (ha:PE X o ta) (hv:PE X value tv) (hs:swapsWith value (some (.Attribute o f pos')) pos.line X.env=pure false):PS X (.Assign [.Attribute o f pos'] value pos) (sX0 C ta tv f):=by
  intro p_ s σ H D I h;refine plainObj_wpAny_Assign_Attribute (cN (hv p_ s σ H _ I h) fun u s1 z1=>?_) hs;obtain⟨y,H1,I1,ry,q⟩:=z1;refine cN (ha p_ s1 σ H1 _ I1 q) fun ov s2 z2=>?_;obtain⟨x,H2,I2,rx,q2⟩:=z2;obtain⟨a,rfl,ea,q2⟩:=isRef.out q2;obtain rfl:ov=Value.ref a:=rx;have E0:=Bw I2.hok ea;obtain⟨cd,hc,_,hd⟩:=S.cl;have Ip:=I2.oE;refine XD Ip E0.at S hn fun A'=>?_;obtain⟨hh,g,d,tk,os⟩:=s2;refine qaz Ip E0 hc hd fun h' t' hns keep E1=>⟨rfl,?_⟩;have hf:H2 hh.objs.size=none:=I2.hok.fresh (Nat.le_refl _);obtain⟨oD,es,ep,eD,rest⟩:=id hns;obtain⟨ox,_,_,ex1,_⟩:=id E0;have axs:a≠hh.objs.size:=Nat.ne_of_lt (Heap.lt_size ex1);have nfr:oD.isFreed=false:=(Heap.get?_some_iff.mp eD).2;have hgD:(hh.push oD).get? hh.objs.size=some oD:=Heap.get?_push_size hh nfr;have hns':(hh.push oD).Ns1 hh.objs.size (fun y'=>if y'=f then some u else none):=⟨oD,es,ep,hgD,rest⟩
  have rel:∀f',mU ([(f,y)].lookup f') (if f'=f then some u else none):=fun f'=>by
    have e:=oJ f f' y [];rw[show[(f,y)].lookup f'=(kO f y []).lookup f' from rfl,e]
    by_cases z:f'=f
    ·rw[if_pos z,if_pos z];exact ry
    ·rw[if_neg z,if_neg z];exact True.intro
  have wi:PySem.Within (fun y'=>if y'=f then some u else none) ([(f,y)].map (·.1)):=Within.cons f u Within.nil
  have I3:Inv X p_ σ (upd H2 hh.objs.size (jm hh.objs.size [(f,y)])) {(⟨hh,g,d,tk,os⟩:Shared) with heap:=hh.push oD,toks:=tk}:=I2.laid (fun b o z=>Heap.get?_push_of_some _ z) (Nat.le_refl _) (Q8 (by show(1:Nat)≤1000;decide) hns' rel wi);have I4:Inv X p_ σ (upd (upd H2 hh.objs.size (jm hh.objs.size [(f,y)])) a (fH a C (some hh.objs.size))) {(⟨hh.push oD,g,d,tk,os⟩:Shared) with heap:=h',toks:=t'}:=by
    refine I3.write (x:=a) (e:=a) (by rw[aC axs,ea];exact True.intro) (.inl rfl) (fun b o hb z=>?_) ?_ (JN E1)
    · by_cases hbs:b=hh.objs.size
      ·subst hbs;rw[hgD] at z;cases z;exact eD
      ·rw[Heap.get?_push_ne _ _ _ hbs] at z;exact keep b o hb z
    ·obtain⟨ox',_,_,z,_⟩:=id E1;exact⟨_,z⟩
  exact⟨σ,_,I4,q2 _ hf⟩
def sX1 (C:Addr) (ta tv:TE) (f:Str):TS:=fun D σ H=>tv σ H fun y H1=>ta σ H1 fun x H2=>isRef x fun a=>∃dx fs,H2 a=some (fH a C (some dx))∧H2 dx=some (jm dx fs)∧fs.length<1000∧D.nx σ (upd H2 dx (jm dx (kO f y fs)))
@[simp ↓] theorem qnE C ta tv f D σ H:sX1 C ta tv f D σ H=tv σ H fun y H1=>ta σ H1 fun x H2=>isRef x fun a=>∃dx fs,H2 a=some (fH a C (some dx))∧H2 dx=some (jm dx fs)∧fs.length<1000∧D.nx σ (upd H2 dx (jm dx (kO f y fs))):=rfl
theorem qfT (S:wj X.K C B) (hn:W.findIn X.K (.ref C) f=some none) (ha:PE X o ta) (hv:PE X value tv) (hs:swapsWith value (some (.Attribute o f pos')) pos.line X.env=pure false):PS X (.Assign [.Attribute o f pos'] value pos) (sX1 C ta tv f):=by
  intro p_ s σ H D I h;refine plainObj_wpAny_Assign_Attribute (cN (hv p_ s σ H _ I h) fun u s1 z1=>?_) hs;obtain⟨y,H1,I1,ry,q⟩:=z1;refine cN (ha p_ s1 σ H1 _ I1 q) fun ov s2 z2=>?_;obtain⟨x,H2,I2,rx,q2⟩:=z2;obtain⟨a,rfl,dx,fs,ea,ed,hl,q2⟩:=isRef.out q2;obtain rfl:ov=Value.ref a:=rx;have E0:=Bw I2.hok ea;obtain⟨hl0,mA,hns,hr,hw⟩:=Q9 I2.hok ed;obtain⟨cd,hc,_,hd⟩:=S.cl;have Ip:=I2.oE;refine XD Ip E0.at S hn fun A'=>?_;obtain⟨hh,g,d,tk,os⟩:=s2;refine qay Ip E0 hns hc hd hw (by rw[List.length_map,sizeLine_eq];omega) fun h' t' hns' sb=>⟨rfl,?_⟩;have he:∃o,h'.get? dx=some o:=let ⟨o,_,_,e',_⟩:=hns';⟨o,e'⟩;have I4:Inv X p_ σ (upd H2 dx (jm dx (kO f y fs))) {(⟨hh,g,d,tk,os⟩:Shared) with heap:=h',toks:=t'}:=by
    refine I2.write (x:=dx) (e:=dx) (by rw[ed];exact True.intro) (.inl rfl) (fun b o hb z=>(sb.2 b hb).trans z) he (Q8 ?_ hns' (fun g'=>?_) fun g' hg=>?_)
    ·have:=tX f y fs;omega
    · show mU ((kO f y fs).lookup g') (if g'=f then some u else mA g')
      rw[oJ]
      by_cases z:g'=f
      ·rw[if_pos z,if_pos z];exact ry
      ·rw[if_neg z,if_neg z];exact hr g'
    · by_cases z:g'=f
      ·rw[z];exact(qF f y fs).1
      · refine(qF f y fs).2 g' (hw g' fun y'=>hg ?_);show(if g'=f then some u else mA g')=none
        rw[if_neg z];exact y'
  exact⟨σ,_,I4,q2⟩
end
inductive Lf:V→PyData→Prop
  | non:Lf .non .none
  | bl (b):Lf (.bl b) (.bool b)
  | int (i):Lf (.int i) (.int i)
  | str (x):Lf (.str x) (.str x)
inductive Ra:List (Str×V)→List (PyData×PyData)→Prop
  | nil:Ra [] []
  | cons {x v d ks kvs}:Lf v d→Ra ks kvs→Ra ((x,v)::ks) ((.str x,d)::kvs)
section
variable {X:Cx} {p_:List (Addr×Obj)} {σ:St} {H:Hp} {s:Shared}
inductive Shw (H:Hp):PyData→V→Prop
  | thg {d v}:Dk H d v→d.hasDict=false→Shw H d v
  | dic {a ks kvs}:Ra ks kvs→H a=some (.dK (ks.map fun e=>((Sum.inr e.1:Key),e.2)))→Shw H (.dict kvs) (.ref a)
end
structure Sml (k n:Nat) (d:PyData):Prop where
  sh:d.showable=true
  dp:d.depth≤k
  ln:d.shown.length≤n
end L2
namespace L2
open PySem PySem.Spec
section
variable {σ:St} {H:Hp} {p:Addr}
variable {φ:PyData→Prop}
structure big (t:TE) (σ:St) (H:Hp) (Q:VK):Prop where
  out:t σ H Q
end
end L2
namespace L2
open PySem
theorem XF {K:W.Frag} {C:Addr}:W.kitOne K (.ref C) (.ref C)=some true:=by
  unfold W.kitOne;simp
theorem qaA {K:W.Frag} {C D:Addr} {b:Bool} (ne:(C == D)=false) (i:W.isClsIn K D=true) (t:W.typeIn K (.ref D)=some (.type "type")) (s:W.subIn K (.ref C) (.ref D)=some b):W.kitOne K (.ref C) (.ref D)=some b:=by
  have i':(W.clsIn K D).isSome=true:=i;have ne':C≠D:=by simpa using ne
  unfold W.kitOne W.kitCls;rw[if_neg (by simpa using ne')];show(if _ then _ else _)=_
  rw[if_pos (by rw[i',t];rfl)];exact s
theorem qdi:W.kitMeta "ValueError" = true:=by decide+kernel
theorem qdj {K:W.Frag} {C:Addr} {T:String} {b:Bool} (m:W.kitMeta T=true) (s:W.subIn K (.ref C) (.type T)=some b):W.kitOne K (.ref C) (.type T)=some b:=by
  unfold W.kitOne W.kitCls;rw[if_neg (by simp)];show(if _ then _ else _)=_
  rw[if_pos m];exact s
end L2
namespace L2
open PySem PySem.Spec PyProof.Rows PySem.SeqAt
structure XC (K:W.Frag) (C B:Addr):Prop where
  cl:∃cd,W.clsIn K C=some cd∧cd.mro = .ref C::.ref B::ju∧cd.hasDict=true
  ty:W.typeIn K (.ref C)=some (.type "type")
  ga:W.findIn K (.ref C) "__getattribute__" = some (some (.builtin "BaseException.__getattribute__"))
  gn:W.findIn K (.ref C) "__getattr__" = some none
  gc:W.findIn K (.ref C) "__class__" = some (some (.builtin "object.__class__"))
  kp:W.keepIn K (.ref C)=true
section
variable {K:W.Frag} {C D B:Addr}
theorem XC.mro (c:XC K C B) (v:Value):W.mroIn K C v=some ((Value.ref C::Value.ref B::ju).contains v):=by
  obtain⟨cd,h1,h2,_⟩:=c.cl;unfold W.mroIn;rw[h1,Option.bind_some,h2];rfl
theorem XC.is (c:XC K C B):W.isClsIn K C=true:=by
  obtain⟨cd,h1,_⟩:=c.cl;unfold W.isClsIn;rw[h1];rfl
theorem XC.ask (c:XC K C B) (sp:W.specialIn K (.builtin "object.__class__") "__get__" = some (some (.builtin "getset_descriptor.__get__"))) (tk:W.takesIn K (.builtin "object.__class__")=some true):JK K C:=by
  obtain⟨cd,h1,_⟩:=c.cl;exact⟨⟨c.ga,c.gn,c.gc,sp,tk,by rw[c.mro];simp,by rw[c.mro];simp⟩,cd,h1⟩
theorem XC.get (c:XC K C B):O6 K C:=by
  obtain⟨cd,h1,_,h3⟩:=c.cl;refine⟨c.ga,c.gn,by rw[c.mro];simp,?_⟩;unfold W.hasDictIn;rw[h1];exact h3
theorem XC.set (c:XC K C B) (sa:W.findIn K (.ref C) "__setattr__" = some (some (.builtin "object.__setattr__"))):wj K C B:=by
  obtain⟨cd,h1,h2,h3⟩:=c.cl;exact⟨sa,by rw[c.mro];simp,cd,h1,h2,h3⟩
theorem XC.kit (c:XC K C B) (d:XC K D B) (hB:D≠B):O5 K C (.ref D)=some (decide (C=D)):=by
  show W.kitOne K (.ref C) (.ref D)=_
  by_cases h:C=D
  ·subst h;rw[XF,decide_eq_true rfl]
  ·rw[decide_eq_false h];refine qaA (by simpa using h) d.is d.ty ?_;show W.mroIn K C (.ref D)=_;rw[c.mro];have h':D≠C:=fun z=>h z.symm;simp[h',hB]
theorem XC.qk8 (c:XC K C B):O5 K C (.ty "ValueError")=some true:=by
  refine qdj qdi ?_;show W.mroIn K C (.type "ValueError")=_;rw[c.mro];simp
end
def JQ:List Addr→Bool
  | []=>true
  | a::l=>!l.contains a && JQ l
theorem HJ:∀{l:List Addr},JQ l=true→l.Nodup
  | [],_=>List.Pairwise.nil
  | a::l,h=>by
    simp only[JQ,Bool.and_eq_true,Bool.not_eq_true',List.contains_eq_mem,decide_eq_false_iff_not] at h;exact List.nodup_cons.mpr ⟨h.1,HJ h.2⟩
def ar3 (vs:List V) (R:V→V→V→Prop):Prop:=match vs with
  | [u,v,w]=>R u v w
  | _=>False
@[simp ↓] theorem qnF u v w R:ar3 [u,v,w] R=R u v w:=rfl
end L2
namespace L2
open PySem PySem.Spec PyProof.Rows
section
variable {M:Model} {A:Around} {E:Value→Shared→Prop} {s:Shared} {env:Env}
variable {nm q:Str} {C N:Addr} {bs bm:List Value} {hdct:Bool} {sn:List Str} {sub:List Value} {ab:Bool} {col:Option Bool} {dd:Option Addr} {k0 k1 k2 k3 k5:Option Value} {newId:String}
theorem qaB {x:Sem Value} {Q:Flow→Shared→Prop} (hh:A.handled=none)
    (h:wpAny M A x (fun v s1=>∃(a C:Addr) (oe:Obj) (vs:Array Value) (nm q:Str) (N:Addr) (bs bm:List Value) (hdct:Bool) (sn:List Str) (sub:List Value) (ab:Bool) (col:Option Bool) (dd:Option Addr) (k0 k1 k2 k3 k5:Option Value) (newId:String),v = .ref a∧bm.contains (.type "BaseException")=true∧
      s1.heap.get? C=some (excClassObj nm q C N bs bm hdct sn sub ab col dd k0 k1 k2 k3 k5 newId)∧s1.heap.get? a=some oe∧oe.cls = .ref C∧oe.data = .fields vs∧vs[1]? = some .none∧E (.ref a) s1) E s) :
    wpAny M A (raiseStmt env (some x) none) Q E s:=by
  unfold raiseStmt;refine wpAny_bind (wpAny_mono h (fun v s1 z=>?_) fun _ _ x=>x);obtain⟨a,C,oe,vs,nm,q,N,bs,bm,hdct,sn,sub,ab,col,dd,k0,k1,k2,k3,k5,newId,rfl,hb,hC,he,hc,hd,h1,hE⟩:=z;have hcB:(Value.ref C::bm).contains (.type "BaseException")=true:=by rw[List.contains_cons,hb,Bool.or_true]
  obtain⟨hp,g,d,tk,os⟩:=s1;obtain⟨oc,odd,oda,osl⟩:=oe;cases hc;cases hd
  repeat (first | with_reducible refine wpAny_loadPart_at he ?_ | with_reducible refine wpAny_loadPart_at hC ?_ | (with_reducible refine wpAny_isSubtype_exc hC ?_;rw[hcB]) | wp_step)
  rw[h1];refine wpAny_pure ?_;rw[if_neg (by decide)];exact wpAny_pure (wpAny_raiseNew_none hh hE)
end
section
variable {X:Cx} {p_:List (Addr×Obj)} {σ:St} {H:Hp} {s:Shared}
theorem Inv.qk9 {a:Addr} {φ:Heap→Prop} (I:Inv X p_ σ H s) (ea:H a=some (.ext φ)):Inv X p_ σ (hid a H) s:=by
  have ne:∀{b:Addr} {u:HO},hid a H b=some u→b≠a∧H b=some u:=fun {b u} z=>by
    unfold hid at z;split at z
    ·cases z
    ·rename_i h;exact⟨h,z⟩
  have kp:∀{b:Addr} {u:HO},b≠a→H b=some u→hid a H b=some u:=fun h z=>vZ h z;have nn:∀{b:Addr},H b=none→hid a H b=none:=fun {b} z=>by
    unfold hid;split
    ·rfl
    ·exact z
  refine⟨I.ok,I.os,I.bare,⟨I.base.keep,I.base.slot,fun b o eb n hx=>nn (I.base.free b o eb n hx),I.base.there,fun b xs q=>?_,fun b o u q=>?_,fun b ps q=>?_⟩,I.loc,I.cell,nn I.free,fun x c q=>nn (I.iH x c q),fun p hpp=>?_,fun b u q=>?_,I.len⟩
  ·have z:=I.base.tups b xs q;exact kp (fun y=>by rw[y,ea] at z;cases z) z
  ·have z:=I.base.qW b o u q;exact kp (fun y=>by rw[y,ea] at z;cases z) z
  ·obtain⟨m,z⟩:=I.base.tE b ps q;exact⟨m,kp (fun y=>by rw[y,ea] at z;cases z) z⟩
  ·obtain⟨f1,f2,f3⟩:=I.pin p hpp;exact⟨f1,nn f2,f3⟩
  · obtain⟨hb,q'⟩:=ne q;refine(I.hok b u q').stay (fun c v _ z=>z) (fun c z=>?_) fun c xs z=>?_
    ·exact kp (fun y=>by rw[y,ea] at z;cases z) z
    ·exact kp (fun y=>by rw[y,ea] at z;cases z) z
end
section
variable {X:Cx} {E:XK} {k:Nat} {C B f:Addr} {fd:FuncData} {ps:List Str} {sp:Sp} {x:Str} {np cpos pos:Pos} {e:Expr} {es:List Expr} {t:TA}
def Rb (C:Addr) (sp:Sp) (E:XK) (t:TA):TS:=fun _ σ H=>t σ H fun vs H1=>vs.length≤sizeLine∧∀a,H1 a=none→Oq sp (.ref a::vs) (upd H1 a (fH a C none)) (fun v H2=>v = .non∧∃od,H2 a=some (fH a C od)∧E (.ref C) od (hid a H2)) ⟨0⟩ E0
@[simp ↓] theorem qeL C sp E t D σ H:Rb C sp E t D σ H=t σ H fun vs H1=>vs.length≤sizeLine∧∀a,H1 a=none→Oq sp (.ref a::vs) (upd H1 a (fH a C none)) (fun v H2=>v = .non∧∃od,H2 a=some (fH a C od)∧E (.ref C) od (hid a H2)) ⟨0⟩ E0:=rfl
theorem HN (hL:Lets X E) (hex:X.ex=[]) (hc:X.calm=true) (M:XMk X.K C B f) (F:dG X.prog X.w X.K X.mg X.base mF k f fd ps sp) (hr:jl (k+1) X.A) (hg:Gl X x) (hm:X.mg x=some (.ref C)) (hb:Binds X.K fd ps [])
    (ha:PA X (e::es) t) (hdb:(x == ("__debug__" : Str))=false:=by decide) (he:starEach (e::es) X.env=(false,eval e X.env)::starEach es X.env:=by rfl) (hpl:(backTo cpos (starEach es X.env)).any (·.1)=false:=by rfl) :
    PS X (.Raise (some (.Call (.Name x np) (e::es) [] cpos)) none pos) (Rb C sp E t):=by
  intro p_ s σ H D I h;show wpAny _ _ (do standAt pos;raiseStmt X.env (some (do let v ← eval (.Call (.Name x np) (e::es) [] cpos) X.env;standAt pos;pure v)) none) _ _ s
  refine wpAny_bind (wpAny_standAt (qaB (I.ok.hd hc) (wpAny_bind ?_)));refine wpAny_mono (Q:=fun v s1=>∃(a C:Addr) (oe:Obj) (vs:Array Value) (nm q:Str) (N:Addr) (bs bm:List Value) (hdct:Bool) (sn:List Str) (sub:List Value) (ab:Bool) (col:Option Bool) (dd:Option Addr) (k0 k1 k2 k3 k5:Option Value) (newId:String),v = .ref a∧bm.contains (.type "BaseException")=true∧
      s1.heap.get? C=some (excClassObj nm q C N bs bm hdct sn sub ab col dd k0 k1 k2 k3 k5 newId)∧s1.heap.get? a=some oe∧oe.cls = .ref C∧oe.data = .fields vs∧vs[1]? = some .none∧X.xe (.ref a) s1) ?_ (fun v s1 z=>wpAny_bind (wpAny_standAt (wpAny_pure z))) fun _ _ z=>z
  refine wpAny_Call_Name_kw (lE I hg hm ?_ hdb);refine W.callWith_K (h₀:=X.base) I.ok.mod.Ip M.kp (cN (ha cpos p_ s σ H _ I h) fun us s1 zz=>?_) he hpl;obtain⟨vs,H1,I1,r,hz,q⟩:=zz;refine⟨I1.oE,?_⟩;obtain⟨nm,qn,N,bs,hdct,sn,sub,ab,col,dd,k0,k1,k2,k3,k5,hC⟩:=M.ob;have T:=M.tail I1.oE;have Y9:=I1.oE _ _ hC;have Ip:=I1.oE;obtain⟨hh,g,d,tk,os⟩:=s1;refine qav Ip T M.init M.fn Y9 (fun h' a mk=>?_) (by show us.length≤_;rw[← r.length];exact hz);have new:X.s₀.heap.get? a=none:=I1.old hex mk.new;obtain⟨un,I2⟩:=I1.qfR hex mk;have hq:=q a un;have r2:Vals (V.ref a::vs) (Value.ref a::us):=.cons rfl r;have hl:(Value.ref a::us).length=ps.length:=by rw[← r2.length];exact F.len _ _ _ _ hq
  have hbd:=hb _ (Value.ref a::us) I2.oE (by rw[List.append_nil];exact hl);rw[List.append_nil] at hbd;refine wpAny_call (codeAny_mono (F.run _ X.stack _ _ ⟨Value.ref a::us,[]⟩ (Value.ref a::us) _ _ _ (hr.make C us []) (I2.env0.make C us []) hbd r2 hq) fun rr s' hq'=>?_);cases rr with
  | error z=>exact False.elim hq'
  | ok fl=>
    cases fl with
    | ret u=>
      obtain⟨v,H',I3,rv,ev,od,ea,hE⟩:=I2.after hq';subst ev;obtain⟨ox,ws,t0,g1,g2,g3,g4,g5,g6,g7⟩:=Bw I3.hok ea;refine⟨rv,a,C,ox,ws,nm,qn,N,bs,_,hdct,sn,sub,ab,col,dd,k0,k1,k2,k3,k5,_,rfl,?_,I3.oE _ _ hC,g1,g2,g3,g5,?_⟩
      ·simp[ju]
      ·refine hL p_ σ (hid a H') s' a C od (I3.qk9 ea) ⟨new,?_,ox,ws,g1,by rw[g2,g7],g3,g6,.inl g5⟩ hE;unfold hid;rw[if_pos rfl]
    | next=>exact False.elim hq'
    | brk=>exact False.elim hq'
    | cont=>exact False.elim hq'
end
theorem Ds.ofX {K:W.Frag} {C B f:Addr} (M:XMk K C B f) (c:XC K C B):Ds K C:=fun h X=>by
  obtain⟨nm,qn,N,bs,hdct,sn,sub,ab,col,dd,k0,k1,k2,k3,k5,hC⟩:=M.ob;exact⟨_,N,nm,qn,bs,hdct,sn,sub,ab,col,dd,k0,k1,k2,k3,k5,X _ _ hC,fun v b e=>by rw[c.mro] at e;exact Option.some.inj e⟩
theorem Inv.qdk {X:Cx} {p_:List (Addr×Obj)} {σ:St} {H:Hp} {s:Shared} {a:Addr} {ob:HO} (I:Inv X p_ σ H s) (new:X.s₀.heap.objs.size≤a) (fp:mW X p_ H a) (ok:cM X.prog X.w (upd H a ob) s.heap a ob):Inv X p_ σ (upd H a ob) s:=by
  obtain⟨un,f1,f2,f3,f4,f5⟩:=fp;have old:∀{b o},X.s₀.heap.get? b=some o→b≠a:=fun {b o} eb z=>by
    have:=Heap.lt_size eb;rw[z] at this;exact absurd (Nat.lt_of_lt_of_le this new) (Nat.lt_irrefl _)
  have ne:∀{b:Addr} {u:HO},H b=some u→b≠a:=fun {b u} q z=>by
    rw[z,un] at q;cases q
  refine⟨I.ok,I.os,I.bare,⟨fun b o eb n hb hx=>I.base.keep b o eb n hb hx,I.base.slot,fun b o eb n hx=>?_,I.base.there,fun b xs q=>?_,fun b o u q=>?_,fun b ps q=>?_⟩,I.loc,I.cell,?_,fun x c q=>?_,fun p hpp=>?_,fun b u q=>?_,I.len⟩
  ·rw[aC (old eb)];exact I.base.free b o eb n hx
  ·have z:=I.base.tups b xs q;rw[aC (ne z)];exact z
  ·have z:=I.base.qW b o u q;rw[aC (ne z)];exact z
  ·obtain⟨m,z⟩:=I.base.tE b ps q;exact⟨m,by rw[aC (ne z)];exact z⟩
  ·rw[aC f1.symm];exact I.free
  ·rw[aC (f4 x c q)];exact I.iH x c q
  ·obtain⟨g1,g2,g3⟩:=I.pin p hpp;refine⟨g1,?_,g3⟩;rw[aC (f5 p hpp)];exact g2
  · by_cases hb:b=a
    ·subst hb;rw[ak] at q;cases q;exact ok
    · rw[aC hb] at q;refine(I.hok b u q).stay (fun _ _ _ qq=>qq) (fun d qd=>?_) fun d zs qd=>?_
      ·rw[aC (ne qd)];exact qd
      ·rw[aC (ne qd)];exact qd
def arT (xs:List V) (R:V→V→V→Prop):Prop:=match xs with | [x,y,z]=>R x y z | _=>False
@[simp ↓] theorem qnG x y z R:arT [x,y,z] R=R x y z:=rfl
section
variable {X:Cx} {K:W.Frag} {C D:Addr} {b:Bool}
def qbw (K:W.Frag):List V→Hp→VK→Prop:=fun xs H Q=>ar2 xs fun x y=>isRef x fun a=>∃C od b,H a=some (uo a C od)∧JK K C∧O5 K C y=some b∧Q (.bl b) H
theorem vD (hK:X.K=K):cP X (.builtin "isinstance") (qbw K):=by
  subst hK;intro p_ s σ H xs us Q I r h;obtain⟨v1,v2,rfl,h⟩:=ar2.out h;obtain⟨a,rfl,C,od,b,e,⟨L,cd,hcd⟩,hk,q⟩:=isRef.out h;obtain⟨u,v,rfl,r1,r2⟩:=r.two;obtain rfl:u=Value.ref a:=r1;obtain⟨ex,_⟩:=I.hok a _ e;have go:∀{c:Value},W.kitOne X.K (.ref C) c=some b→wpAny (model X.prog X.w) X.A (call (.builtin "isinstance") [.ref a,c]) (EP X p_ σ Q) X.xe s:=fun {c} hc=>
    W.kia_one (Xl hcd L) I.oE ex.at hc (fun z=>by cases z) fun tk=>⟨.bl b,H,I.kept (fun _ _ e=>e),rfl,q⟩
  cases v2 with
  | ref D=>obtain rfl:v=Value.ref D:=r2;exact go hk
  | ty n=>obtain rfl:v=Value.type n:=r2;exact go hk
  | _=>cases hk
end
section
variable {X:Cx} {C B:Addr} {o:Expr} {f:Str} {pos:Pos} {ta:TE}
theorem qaC {P:Program} {w:World} {H:Hp} {h:Heap} {x C:Addr} {od:Option Addr} (hok:∀b u,H b=some u→cM P w H h b u) (e:H x=some (uo x C od)):wg x C od h:=(hok x _ e).1
def XH (C:Addr) (ta:TE) (f:Str):TE:=fun σ H Q=>ta σ H fun x H1=>isRef x fun a=>∃dx fs,H1 a=some (uo a C (some dx))∧H1 dx=some (jm dx fs)∧∃v,fs.lookup f=some v∧Q v H1
@[simp ↓] theorem qfU C ta f σ H Q:XH C ta f σ H Q=ta σ H fun x H1=>isRef x fun a=>∃dx fs,H1 a=some (uo a C (some dx))∧H1 dx=some (jm dx fs)∧∃v,fs.lookup f=some v∧Q v H1:=rfl
theorem Dt (G:O6 X.K C) (hn:W.findIn X.K (.ref C) f=some none) (he:PE X o ta) (hb:attributeBase o f X.env (eval o X.env)=eval o X.env):PE X (.Attribute o f pos) (XH C ta f):=by
  intro p_ s σ H Q I h;refine Qw hb (cN (he p_ s σ H _ I h) fun u s1 z1=>?_);obtain⟨x,H1,I1,rx,q⟩:=z1;obtain⟨a,rfl,dx,fs,ea,ed,v,hv,q⟩:=isRef.out q;obtain rfl:u=Value.ref a:=rx;obtain⟨hl0,mA,hns,hr,hw⟩:=Q9 I1.hok ed;obtain⟨u',hu,ru⟩:=mU.some_of (v:=v) (o:=mA f) (by rw[← hv];exact hr f);exact qde I1.oE (qaC I1.hok ea) hns G hn hu (G6 ru) ⟨v,H1,I1.tok _,ru,q⟩
end
section
variable {M:Model} {A:Around} {E:Value→Shared→Prop} {h:Heap} {g:Array GenState} {d:Drawn} {t:Nat} {os:OsState}
variable {nm q:Str} {C N:Addr} {bs bm:List Value} {hdct:Bool} {sn:List Str} {sub:List Value} {ab:Bool} {col:Option Bool} {dd:Option Addr} {k0 k1 k2 k3 k5:Option Value} {newId:String}
variable {nm' q':Str} {D N':Addr} {bs' bm':List Value} {qfV:Bool} {sn':List Str} {sub':List Value} {ab':Bool} {col':Option Bool} {Z2:Option Addr} {j0 j1 j2 j3 j5:Option Value} {newId':String}
theorem wk {e:Addr} {oe:Obj} {b:Bool} {Q:Bool→Shared→Prop} (hC:h.get? C=some (excClassObj nm q C N bs bm hdct sn sub ab col dd k0 k1 k2 k3 k5 newId))
    (hD:h.get? D=some (excClassObj nm' q' D N' bs' bm' qfV sn' sub' ab' col' Z2 j0 j1 j2 j3 j5 newId')) (he:h.get? e=some oe) (hcls:oe.cls = .ref C) (hDB:(Value.ref D::bm').contains (.type "BaseException")=true) (hCD:(Value.ref C::bm).contains (.ref D)=b)
    (hq:Q b ⟨h,g,d,t,os⟩):wpAny M A (excMatches (.ref e) (.ref D)) Q E ⟨h,g,d,t,os⟩:=by
  have f:=tc_notTuple;unfold excMatches;cases b with
  | true=>
    repeat (first | (with_reducible refine wpAny_loadPart_at he ?_;rw[hcls]) | with_reducible refine wpAny_loadPart_at hD ?_ | (with_reducible refine wpAny_isSubtype_exc hD ?_;rw[hDB]) | (with_reducible refine wpAny_isSubtype_exc hC ?_;rw[hCD]) | wp_step)
    exact hq
  | false=>
    repeat (first | (with_reducible refine wpAny_loadPart_at he ?_;rw[hcls]) | with_reducible refine wpAny_loadPart_at hD ?_ | (with_reducible refine wpAny_isSubtype_exc hD ?_;rw[hDB]) | (with_reducible refine wpAny_isSubtype_exc hC ?_;rw[hCD]) | wp_step)
    exact hq
end
structure Clause (K:W.Frag) (D:Addr):Prop where
  ob:Ds K D
  be:W.mroIn K D (.type "BaseException")=some true
theorem Clause.of {K:W.Frag} {C B f:Addr} (M:XMk K C B f) (c:XC K C B):Clause K C:=⟨Ds.ofX M c,by rw[c.mro];simp⟩
def XJ (i:Nat) (ts:Addr→TS) (Dn:Ends) (σ1:St) (C:Addr) (od:Option Addr) (H1:Hp):Prop:=∀a,H1 a=none→
    ts a {nx:=fun σ2 H2=>Dn.nx (σ2.set i none) H2,rt:=Dn.rt,bk:=fun σ2 H2=>Dn.bk (σ2.set i none) H2,ct:=fun σ2 H2=>Dn.ct (σ2.set i none) H2} (σ1.set i (some (.ref a))) (upd H1 a (uo a C od))
def Lz (i:Nat) (K:W.Frag) (D1 D2:Addr) (t1 t2:Addr→TS) (Dn:Ends):St→Addr→Option Addr→Hp→Prop:=fun σ1 C od H1=>Ds K C∧
  ((W.mroIn K C (.ref D1)=some true∧XJ i t1 Dn σ1 C od H1)∨(W.mroIn K C (.ref D1)=some false∧W.mroIn K C (.ref D2)=some true∧XJ i t2 Dn σ1 C od H1))
def qbx (i:Nat) (K:W.Frag) (D1 D2:Addr) (t1 t2:Addr→TS) (tb:(St→Addr→Option Addr→Hp→Prop)→TS):TS:=fun Dn σ H=>tb (Lz i K D1 D2 t1 t2 Dn) Dn σ H
@[simp ↓] theorem qjU i K D1 D2 t1 t2 tb Dn σ H:qbx i K D1 D2 t1 t2 tb Dn σ H=tb (Lz i K D1 D2 t1 t2 Dn) Dn σ H:=rfl
section
variable {X:Cx} {body su1 su2:List Stmt} {b1 b2:Stmt} {i:Nat} {n c1 c2:Str} {np1 np2 hp1 hp2 pos:Pos} {D1 D2:Addr} {t1 t2:Addr→TS} {tb:(St→Addr→Option Addr→Hp→Prop)→TS}
theorem qaD (hst:X.stack=X.env::X.outer) (hfr:X.env.frame=some X.env.locals) (hex:X.ex=[]) (hN:X.N.Nodup) (hi:X.N[i]? = some n) (hl:X.env.scope.names.lookup n=some .local)
    (hb:∀R pn xe,Takes X pn xe R→Gn (X.tried pn xe) body (tb R)) (hg1:Gl X c1) (hm1:X.mg c1=some (.ref D1)) (cl1:Clause X.K D1) (hg2:Gl X c2) (hm2:X.mg c2=some (.ref D2)) (cl2:Clause X.K D2)
    (hs1:∀a,Gn (X.caught a) (b1::su1) (t1 a)) (hs2:∀a,Gn (X.caught a) (b2::su2) (t2 a)) (qfW:(c1 == ("__debug__" : Str))=false:=by decide) (qk_:(c2 == ("__debug__" : Str))=false:=by decide) :
    PS X (.Try body [.ExceptHandler (some (.Name c1 np1)) (some n) (b1::su1) hp1,.ExceptHandler (some (.Name c2 np2)) (some n) (b2::su2) hp2] [] [] pos) (qbx i X.K D1 D2 t1 t2 tb):=by
  intro p_ s σ H Dn I h;have hiσ:∀{σ':St} {H':Hp} {s':Shared},Inv X p_ σ' H' s'→i<σ'.length:=fun J=>by rw[J.len];exact(List.getElem?_eq_some_iff.mp hi).1
  refine wpAny_Try_except (wpAny_mono (hb (Lz i X.K D1 D2 t1 t2 Dn) (X.pn++p_) (fun e s1=>∃a C od T σ1 H1,e = .ref a∧Inv X p_ σ1 H1 s1∧Xi X.s₀.heap s1.heap H1 a C od T∧(∀p∈X.pn++p_,p.1≠a∧p.1≠T)∧Lz i X.K D1 D2 t1 t2 Dn σ1 C od H1) ?_ [] s σ H Dn (I.tried _) h) (fun f s1 hf=>?_) fun e s1 hx=>?_)
  ·intro Ci σ1 H1 s1 a C od T J ex hp hR;exact⟨a,C,od,T,σ1,H1,rfl,I.yp J,ex,hp,hR⟩
  · cases f with
    | next=>obtain⟨σ',H',J,q⟩:=hf;exact wpAny_execs_nil ⟨σ',H',I.yp J,q⟩
    | brk=>obtain⟨σ',H',J,q⟩:=hf;exact⟨σ',H',I.yp J,q⟩
    | cont=>obtain⟨σ',H',J,q⟩:=hf;exact⟨σ',H',I.yp J,q⟩
    | ret u=>obtain⟨v,σ',H',J,r,q⟩:=hf;exact⟨v,σ',H',I.yp J,r,q⟩
  · obtain⟨a,C,od,T,σ1,H1,rfl,J,ex,hp,clC,hR⟩:=hx;obtain⟨new,newT,un,unT,oe,vs,oT,tts,t1',t2',t3,t4,t5,t6,t7,t8,t9⟩:=ex;have fr:=J.ok.frames;rw[hst] at fr;have st0:(W.hideAll s1.heap (frs X.stack++[a,T])).StaysIn s1.heap:=fun b o e=>W.of_hideAll _ e;have na:(W.hideAll s1.heap (frs X.stack++[a,T])).get? a=none:=W.hideAll_none _ (by simp);have ff:s1.heap.FunFrames (W.hideAll s1.heap (frs X.stack++[a,T])) (X.env::X.outer):=by
      rw[← hst];exact W.funFrames_hide J.stack fun env he b hb=>List.mem_append_left _ (List.mem_filterMap.mpr ⟨env,he,hb⟩)
    have tr0:Trc (W.hideAll s1.heap (frs X.stack++[a,T])) s1.heap a (.ref C,od) .none T:=⟨oe,vs,oT,tts,t1',t2',t3,t4,t5,W.hideAll_none _ (by simp),t6,t7,t8,t9⟩;have gone:∀(h':Heap),(W.hideAll s1.heap (frs X.stack++[a,T])).StaysIn h'→s1.heap.UpToSlots h'→Inv X p_ σ1 H1 {s1 with heap:=h'}:=fun h' k1 k2=>by
      refine J.gone (t':=s1.toks) (ch:=[a,T]) hex (fun b hb=>?_) (fun b o hf hc e=>k1 b o (W.hideAll_get _ e (by rw[List.mem_append];exact fun z=>z.elim hf hc))) fun b o e hd=>k2 b o e hd;simp only[List.mem_cons,List.not_mem_nil,or_false] at hb
      rcases hb with rfl | rfl
      ·exact⟨new,un,fun _ _ _ _=>trivial,⟨oe,vs,t1',t3⟩,fun p q=>(hp p q).1⟩
      ·exact⟨newT,unT,fun _ _ _ _=>trivial,⟨oT,tts,t7,t8⟩,fun p q=>(hp p q).2⟩
    refine HD fr ff hfr tr0 st0 na fun h4 x4=>?_;obtain⟨T4,tr4⟩:=x4.trc;refine Dq (s:={s1 with heap:=h4}) x4.frames tr4 x4.stays fun h5 x5=>?_;obtain⟨T5,tr5⟩:=x5.trc;have J5:=gone h5 x5.stays (x4.slots.trans x5.slots);obtain⟨oe5,vs5,oT5,ts5,u1,u2,u3,_⟩:=id tr5;obtain⟨bm,N,nm,q,bs,hdct,sn,sub,ab,col,dd,k0,k1,k2,k3,k5,hC,hmro⟩:=clC _ J5.oE;obtain⟨bm1,N1,nm1,q1,bs1,qnH,sn1,qn3,ab1,qn4,dd1,j0,j1,j2,j3,j5,hD1,qfX⟩:=cl1.ob _ J5.oE;obtain⟨bm2,N2,XM,q2,bs2,qnI,sn2,qn5,ab2,qn6,dd2,i0,i1,i2,i3,i5,hD2,qla⟩:=cl2.ob _ J5.oE;have run:∀{b₀:Stmt} {suite:List Stmt} {hpos:Pos} {ts:Addr→TS},(∀a,Gn (X.caught a) (b₀::suite) (ts a))→XJ i ts Dn σ1 C od H1→
        codeAny (model X.prog X.w) (X.A.mark (some (.ref a))) (.handlers (.ref a) [.ExceptHandler none (some n) (b₀::suite) hpos] X.env) (fun r s₂=>match r with
          | .ok f=>wpAny (model X.prog X.w) X.A (do bindName X.env n .none;unbindBehindTheSuite X.env n hpos) (fun _ s₃=>SP X p_ Dn f s₃) X.xe s₂
          | .error x=>cameBackBy (model X.prog X.w) X.A X.env X.xe x s₂) {s1 with heap:=h5}:=by
      intro b₀ suite hpos ts hsu hR;refine codeAny_handlers_suite_as ?_;refine Dq (s:={s1 with heap:=h5}) x5.frames tr5 x5.stays fun h6 x6=>?_;have J6:=gone h6 x6.stays ((x4.slots.trans x5.slots).trans x6.slots);obtain⟨T6,oe6,vs6,oT6,ts6,v1,v2,v3,v4,_⟩:=x6.trc;have J7:=J6.track hex new un ⟨oe6,vs6,v1,v2,v3,v4⟩ fun p q=>(hp p q).1;refine uJ J7 hN hi (.inl hl) (v:=.ref a) rfl (fun s8 J8 _=>?_) (.inr hl);refine wpAny_mono (hsu a p_ s8 _ _ _ (J8.caught a) (hR a un)) (fun f s9 hf=>?_) fun _ _ z=>False.elim z;show wpAny (model X.prog X.w) X.A (do bindName X.env n .none;unbindBehindTheSuite X.env n hpos) (fun _ s₃=>SP X p_ Dn f s₃) X.xe s9
      have go:∀{σ':St} {H':Hp} (Q':Shared→Prop),Inv X p_ σ' H' s9→(∀s',Inv X p_ (σ'.set i none) H' s'→Q' s')→wpAny (model X.prog X.w) X.A (do bindName X.env n .none;unbindBehindTheSuite X.env n hpos) (fun _ s₃=>Q' s₃) X.xe s9:=fun {σ' H'} Q' J9 hq=>by
        refine wpAny_bind ?_;unfold bindName;refine wpAny_bind (wpAny_holding (wpAny_point (wpAny_bind (uJ J9 hN hi (.inl hl) (v:=.non) rfl (fun Du J10 _=>wpAny_point ?_) (.inr hl)))));unfold unbindBehindTheSuite;refine wpAny_onRaise (Tz (v:=.non) J10 hN hi hl (List.getElem?_set_self (hiσ J9)) fun Rf J11=>?_);rw[List.set_set] at J11;exact hq Rf J11
      cases f with
      | next=>obtain⟨σ',H',J9,q⟩:=hf;exact go _ (I.uncaught J9) fun s' J'=>⟨_,H',J',q⟩
      | brk=>obtain⟨σ',H',J9,q⟩:=hf;exact go _ (I.uncaught J9) fun s' J'=>⟨_,H',J',q⟩
      | cont=>obtain⟨σ',H',J9,q⟩:=hf;exact go _ (I.uncaught J9) fun s' J'=>⟨_,H',J',q⟩
      | ret u=>obtain⟨v,σ',H',J9,r,q⟩:=hf;exact go _ (I.uncaught J9) fun s' J'=>⟨v,_,H',J',r,q⟩
    rcases hR with⟨hCD,hR⟩ | ⟨Y9,hCD,hR⟩
    ·refine wpAny_handleBy_cons (codeAny_handlers_test (lE (J5.caught a) hg1 hm1 ?_ qfW)) (by intro q;cases q);exact wk hC hD1 u1 (congrArg Prod.fst u2) (qfX _ _ cl1.be) (hmro _ _ hCD) (run hs1 hR)
    ·refine wpAny_handleBy_cons (codeAny_handlers_test (lE (J5.caught a) hg1 hm1 ?_ qfW)) (by intro q;cases q);refine wk hC hD1 u1 (congrArg Prod.fst u2) (qfX _ _ cl1.be) (hmro _ _ Y9) ?_;refine wpAny_handleBy_cons (codeAny_handlers_test (lE (J5.caught a) hg2 hm2 ?_ qk_)) (by intro q;cases q);exact wk hC hD2 u1 (congrArg Prod.fst u2) (qla _ _ cl2.be) (hmro _ _ hCD) (run hs2 hR)
end
end L2
namespace L2
open PySem
theorem qaE {fx:Nat→Option Int} {ps:List (Str×Str)} {n:Nat} {a b:Str}:(n,a,b)∈aN fx ps 0↔∃e,ps[n]? = some e∧(((fx n).getD 0=0∧a=e.1∧b=e.2)∨((fx n).getD 1=1∧a=e.2∧b=e.1)):=by
  rw[mj];constructor
  ·rintro⟨j,e,h1,h2⟩;obtain⟨h3,h4⟩:=kZ.mp h2;rw[Nat.zero_add] at h3 h4;simp only at h3 h4;subst h3;exact⟨e,h1,h4⟩
  ·rintro⟨e,h1,h2⟩;exact⟨n,e,h1,kZ.mpr ⟨by simp,by rw[Nat.zero_add];exact h2⟩⟩
end L2
local macro_rules | `(tactic| left) => `(tactic| simp -dsimp [L2.aB,L2.stC,-Bool.exists_bool,-Prod.forall,-Prod.exists])
local macro_rules | `(tactic| right) => `(tactic| simp -dsimp [L2.aB,L2.stC,-Bool.exists_bool])
namespace TJ
open PySem L2
def top (i:Nat):Stmt:=PySem.Challenge.pw_pointways_k23_whole_ears_told.main.body.getD i (.Pass ⟨0,0,0,0⟩)
abbrev dJ:Stmt:=top 1
abbrev eV:Stmt:=top 2
abbrev cQ:Stmt:=top 3
abbrev fY:Stmt:=top 4
abbrev pQ:Stmt:=top 5
abbrev dM:Stmt:=inClass (top 15) 0
abbrev dN:Stmt:=inClass (top 16) 0
abbrev iV:Stmt:=top 22
abbrev gO:Stmt:=top 23
abbrev iw:Stmt:=top 24
abbrev dO:Stmt:=top 25
abbrev jw:Stmt:=top 26
abbrev fZ:Stmt:=top 27
abbrev f9:Stmt:=inClass (top 28) 0
abbrev eX:Stmt:=inClass (top 28) 1
abbrev gP:Stmt:=inClass (top 28) 2
abbrev gQ:Stmt:=inClass (top 28) 3
abbrev fQ:Stmt:=top 29
abbrev cR:Stmt:=top 30
abbrev cY:Stmt:=top 32
abbrev cZ:Stmt:=top 33
abbrev fJ:Stmt:=top 34
abbrev gb:Stmt:=top 35
abbrev pR:Stmt:=top 36
abbrev iJ:Stmt:=top 37
abbrev eY:Stmt:=top 38
abbrev yq:Stmt:=top 40
abbrev q_:Stmt:=top 41
abbrev m8:Stmt:=top 42
abbrev m9:Stmt:=top 43
abbrev yr:Stmt:=top 44
abbrev tD:Stmt:=top 45
abbrev iy:Stmt:=top 46
abbrev pU:Stmt:=top 47
abbrev iK:Stmt:=top 48
abbrev iW:Stmt:=top 49
abbrev rA:Stmt:=top 50
abbrev cJ:Stmt:=top 51
abbrev cH:Stmt:=top 52
abbrev yt:Stmt:=top 53
theorem iM:bC ["web", "fixed", "steps", "number", "first", "second"] ["web", "fixed"] (ao dJ):=⟨rfl,rfl,rfl,by decide+kernel,rfl,by decide+kernel,by decide+kernel⟩
theorem dU:bC ["start", "steps", "ways", "row", "at", "here", "number", "origin", "goal"] ["start", "steps"] (ao eV):=⟨rfl,rfl,rfl,by decide+kernel,rfl,by decide+kernel,by decide+kernel⟩
theorem uq:bC ["web", "start", "steps", "ways"] ["web", "start", "steps"] (ao cQ):=⟨rfl,rfl,rfl,by decide+kernel,rfl,by decide+kernel,by decide+kernel⟩
theorem oR:bC ["web", "steps", "told", "point"] ["web"] (ao fY):=⟨rfl,rfl,rfl,by decide+kernel,rfl,by decide+kernel,by decide+kernel⟩
theorem rB:bC ["web", "steps", "told", "number", "first", "second", "lot"] ["web"] (ao pQ):=⟨rfl,rfl,rfl,by decide+kernel,rfl,by decide+kernel,by decide+kernel⟩
theorem Dv:bC ["self", "lot"] ["self", "lot"] (ao dM):=⟨rfl,rfl,rfl,by decide+kernel,rfl,by decide+kernel,by decide+kernel⟩
theorem Dw:bC ["self", "tie", "lot"] ["self", "tie", "lot"] (ao dN):=⟨rfl,rfl,rfl,by decide+kernel,rfl,by decide+kernel,by decide+kernel⟩
theorem O7:bC ["thing"] ["thing"] (ao iV):=⟨rfl,rfl,rfl,by decide+kernel,rfl,by decide+kernel,by decide+kernel⟩
theorem LC:bC ["thing"] ["thing"] (ao gO):=⟨rfl,rfl,rfl,by decide+kernel,rfl,by decide+kernel,by decide+kernel⟩
theorem O8:bC ["thing"] ["thing"] (ao iw):=⟨rfl,rfl,rfl,by decide+kernel,rfl,by decide+kernel,by decide+kernel⟩
theorem Gy:bC ["thing"] ["thing"] (ao dO):=⟨rfl,rfl,rfl,by decide+kernel,rfl,by decide+kernel,by decide+kernel⟩
theorem TQ:bC ["thing", "points"] ["thing", "points"] (ao jw):=⟨rfl,rfl,rfl,by decide+kernel,rfl,by decide+kernel,by decide+kernel⟩
theorem LK:bC ["thing", "points"] ["thing", "points"] (ao fZ):=⟨rfl,rfl,rfl,by decide+kernel,rfl,by decide+kernel,by decide+kernel⟩
theorem LQ:bC ["self", "points", "ties"] ["self", "points", "ties"] (ao f9):=⟨rfl,rfl,rfl,by decide+kernel,rfl,by decide+kernel,by decide+kernel⟩
theorem Gz:bC ["self"] ["self"] (ao eX):=⟨rfl,rfl,rfl,by decide+kernel,rfl,by decide+kernel,by decide+kernel⟩
theorem LR:bC ["self"] ["self"] (ao gP):=⟨rfl,rfl,rfl,by decide+kernel,rfl,by decide+kernel,by decide+kernel⟩
theorem L_:bC ["self"] ["self"] (ao gQ):=⟨rfl,rfl,rfl,by decide+kernel,rfl,by decide+kernel,by decide+kernel⟩
theorem JR:bC ["web", "thing"] ["web", "thing"] (ao fQ):=⟨rfl,rfl,rfl,by decide+kernel,rfl,by decide+kernel,by decide+kernel⟩
theorem Dy:bC ["web", "thing"] ["web", "thing"] (ao cR):=⟨rfl,rfl,rfl,by decide+kernel,rfl,by decide+kernel,by decide+kernel⟩
theorem ig:bC ["web", "parts", "barring", "number", "lot"] ["web"] (ao cY):=⟨rfl,rfl,rfl,by decide+kernel,rfl,by decide+kernel,by decide+kernel⟩
theorem dB:bC ["web", "start", "numbers", "ties", "points", "here", "number", "first", "second"] ["web", "start", "numbers"] (ao cZ):=⟨rfl,rfl,rfl,by decide+kernel,rfl,by decide+kernel,by decide+kernel⟩
theorem oU:bC ["web", "met", "point", "number", "steps", "ways", "ends"] ["web", "met", "point", "number"] (ao fJ):=⟨rfl,rfl,rfl,by decide+kernel,rfl,by decide+kernel,by decide+kernel⟩
theorem iQ:bC ["web", "met", "left", "ties", "ready", "first", "second", "start", "goal"] ["web", "met", "left"] (ao gb):=⟨rfl,rfl,rfl,by decide+kernel,rfl,by decide+kernel,by decide+kernel⟩
theorem oV:bC ["web", "met", "left", "row", "start", "numbers"] ["web"] (ao pR):=⟨rfl,rfl,rfl,by decide+kernel,rfl,by decide+kernel,by decide+kernel⟩
theorem qL:bC ["web", "thing", "met", "gone", "start", "numbers", "points", "between"] ["web", "thing", "met", "gone"] (ao iJ):=⟨rfl,rfl,rfl,by decide+kernel,rfl,by decide+kernel,by decide+kernel⟩
theorem fG:bC ["web", "thing", "met", "gone", "ear", "start", "numbers"] ["web", "thing"] (ao eY):=⟨rfl,rfl,rfl,by decide+kernel,rfl,by decide+kernel,by decide+kernel⟩
theorem XQ:bC ["_law_script", "_law_k", "_law_cell"] ["_law_script", "_law_k"] (ao yq):=⟨rfl,rfl,rfl,by decide+kernel,rfl,by decide+kernel,by decide+kernel⟩
theorem Rg:bC ["_law_pot_here", "_law_many", "_law_digit"] ["_law_pot_here", "_law_many"] (ao q_):=⟨rfl,rfl,rfl,by decide+kernel,rfl,by decide+kernel,by decide+kernel⟩
theorem mz:bC ["_law_pot_here", "_law_many", "_law_letters", "_law_begin", "_law_found", "_law_k", "_law_word", "_law_j"] ["_law_pot_here", "_law_many"] (ao m8):=⟨rfl,rfl,rfl,by decide+kernel,rfl,by decide+kernel,by decide+kernel⟩
theorem Dz:bC ["_law_pot_here", "_law_things", "_law_found", "_law_thing"] ["_law_pot_here", "_law_things"] (ao m9):=⟨rfl,rfl,rfl,by decide+kernel,rfl,by decide+kernel,by decide+kernel⟩
theorem O9:bC ["_law_pot_here", "_law_names_here", "_law_a", "_law_b"] ["_law_pot_here", "_law_names_here"] (ao yr):=⟨rfl,rfl,rfl,by decide+kernel,rfl,by decide+kernel,by decide+kernel⟩
theorem rC:bC ["_law_pot_here", "_law_points", "_law_most", "_law_names_here", "_law_kind", "_law_ties", "_law_row", "_law_k", "_law_turns"] ["_law_pot_here", "_law_points", "_law_most"] (ao tD):=⟨rfl,rfl,rfl,by decide+kernel,rfl,by decide+kernel,by decide+kernel⟩
theorem nR:bC ["_law_e", "_law_found", "_law_words"] ["_law_e"] (ao iy):=⟨rfl,rfl,rfl,by decide+kernel,rfl,by decide+kernel,by decide+kernel⟩
theorem rD:bC ["_law_web_here", "_law_start", "_law_gone", "_law_found", "_law_turn", "_law_k", "_law_a", "_law_b"] ["_law_web_here", "_law_start", "_law_gone"] (ao pU):=⟨rfl,rfl,rfl,by decide+kernel,rfl,by decide+kernel,by decide+kernel⟩
theorem iz:bC ["_law_web_here", "_law_row", "_law_met", "_law_used", "_law_start", "_law_numbers", "_law_here", "_law_inner", "_law_k"] ["_law_web_here", "_law_row"] (ao iK):=⟨rfl,rfl,rfl,by decide+kernel,rfl,by decide+kernel,by decide+kernel⟩
theorem jE:bC ["_law_web_here", "_law_first", "_law_found", "_law_k", "_law_a", "_law_b", "_law_lot"] ["_law_web_here"] (ao iW):=⟨rfl,rfl,rfl,by decide+kernel,rfl,by decide+kernel,by decide+kernel⟩
theorem Bx:bC ["_law_web_here", "_law_found", "_law_e"] ["_law_web_here"] (ao rA):=⟨rfl,rfl,rfl,by decide+kernel,rfl,by decide+kernel,by decide+kernel⟩
theorem zJ:bC ["_law_told_here", "_law_due"] ["_law_told_here", "_law_due"] (ao cJ):=⟨rfl,rfl,rfl,by decide+kernel,rfl,by decide+kernel,by decide+kernel⟩
theorem m_:bC ["_law_web_here", "_law_names_here", "_law_ties", "_law_told_here", "_law_other", "_law_start", "_law_numbers"] ["_law_web_here", "_law_names_here", "_law_ties", "_law_told_here"] (ao cH):=⟨rfl,rfl,rfl,by decide+kernel,rfl,by decide+kernel,by decide+kernel⟩
theorem wu:bC ["_law_script", "_law_k", "_law_names_here", "_law_ties", "_law_web_here", "_law_due", "_law_told_here"] ["_law_script"] (ao yt):=⟨rfl,rfl,rfl,by decide+kernel,rfl,by decide+kernel,by decide+kernel⟩
set_option genInjectivity false in
structure Adr where
  dW:Addr
  jV:FuncData
  eZ:Addr
  lM:FuncData
  dX:Addr
  jW:FuncData
  gR:Addr
  oW:FuncData
  rE:Addr
  BJ:FuncData
  cT:Addr
  jX:FuncData
  cU:Addr
  jY:FuncData
  iY:Addr
  rF:FuncData
  gU:Addr
  oX:FuncData
  iZ:Addr
  rG:FuncData
  fj:Addr
  lN:FuncData
  jZ:Addr
  uU:FuncData
  gV:Addr
  oY:FuncData
  gk:Addr
  oZ:FuncData
  dY:Addr
  lO:FuncData
  gq:Addr
  o9:FuncData
  gw:Addr
  o_:FuncData
  fV:Addr
  ni:FuncData
  dZ:Addr
  j4:FuncData
  dg:Addr
  jz:FuncData
  dh:Addr
  jA:FuncData
  gW:Addr
  pq:FuncData
  gY:Addr
  pA:FuncData
  rJ:Addr
  BK:FuncData
  j6:Addr
  uV:FuncData
  fu:Addr
  lQ:FuncData
  yu:Addr
  JT:FuncData
  rK:Addr
  BL:FuncData
  nj:Addr
  yx:FuncData
  nq:Addr
  yC:FuncData
  yD:Addr
  JV:FuncData
  yE:Addr
  JW:FuncData
  i_:Addr
  rM:FuncData
  rN:Addr
  BP:FuncData
  j7:Addr
  uW:FuncData
  jc:Addr
  rO:FuncData
  rP:Addr
  BW:FuncData
  cL:Addr
  jd:FuncData
  fW:Addr
  nA:FuncData
  Ax:Addr
  JX:FuncData
  lA:Value
  fK:Value
  gA:Value
  iR:Value
  cj:Addr
  aG:Addr
  fB:Addr
  dj:Addr
  bR:Addr
  fC:Addr
  cB:Addr
  bK:Addr
  cC:Addr
  bw:Addr
  bh:Addr
def nC (a:Adr):List Addr:=[a.fB,a.dj,a.bR,a.fC,a.cB,a.bK,a.cC,a.bw,a.bh]
structure Txt (K:W.Frag) (mg:Str→Option Value) (a:Adr):Prop where
  jx:kW K "steps_along" "steps_along" dJ a.dW a.jV
  lR:Binds K a.jV ["web", "fixed"] []
  lU:mg "steps_along" = some (.ref a.dW)
  nF:kW K "ways_along" "ways_along" eV a.eZ a.lM
  rQ:Binds K a.lM ["start", "steps"] []
  rR:mg "ways_along" = some (.ref a.eZ)
  lV:kW K "found_along" "found_along" cQ a.dX a.jW
  pW:Binds K a.jW ["web", "start", "steps"] []
  pX:mg "found_along" = some (.ref a.dX)
  wz:kW K "clusters" "clusters" fY a.gR a.oW
  DG:Binds K a.oW ["web"] []
  DK:mg "clusters" = some (.ref a.gR)
  O_:kW K "bars" "bars" pQ a.rE a.BJ
  XR:Binds K a.BJ ["web"] []
  XS:mg "bars" = some (.ref a.rE)
  vG:kW K "__init__" "Parted.__init__" dM a.cT a.jX
  vH:Binds K a.jX ["self", "lot"] []
  vI:kW K "__init__" "Barred.__init__" dN a.cU a.jY
  vJ:Binds K a.jY ["self", "tie", "lot"] []
  jN:kW K "is_list" "is_list" iV a.iY a.rF
  lB:Binds K a.rF ["thing"] []
  lC:mg "is_list" = some (.ref a.iY)
  wA:kW K "is_whole" "is_whole" gO a.gU a.oX
  DN:Binds K a.oX ["thing"] []
  DP:mg "is_whole" = some (.ref a.gU)
  qM:kW K "is_name" "is_name" iw a.iZ a.rG
  uX:Binds K a.rG ["thing"] []
  uY:mg "is_name" = some (.ref a.iZ)
  rT:kW K "are_points" "are_points" dO a.fj a.lN
  yF:Binds K a.lN ["thing"] []
  yG:mg "are_points" = some (.ref a.fj)
  DQ:kW K "is_tie" "is_tie" jw a.jZ a.uU
  Ma:Binds K a.uU ["thing", "points"] []
  Mf:mg "is_tie" = some (.ref a.jZ)
  wB:kW K "are_ties" "are_ties" fZ a.gV a.oY
  DR:Binds K a.oY ["thing", "points"] []
  DW:mg "are_ties" = some (.ref a.gV)
  DX:kW K "__init__" "Web.__init__" f9 a.gk a.oZ
  rW:Binds K a.oZ ["self", "points", "ties"] []
  yH:kW K "points" "Web.points" eX a.dY a.lO
  je:Binds K a.lO ["self"] []
  DY:kW K "ties" "Web.ties" gP a.gq a.o9
  nU:Binds K a.o9 ["self"] []
  D_:kW K "many" "Web.many" gQ a.gw a.o_
  rY:Binds K a.o_ ["self"] []
  ur:kW K "is_number" "is_number" fQ a.fV a.ni
  Ay:Binds K a.ni ["web", "thing"] []
  Az:mg "is_number" = some (.ref a.fV)
  pY:kW K "are_numbers" "are_numbers" cR a.dZ a.j4
  vK:Binds K a.j4 ["web", "thing"] []
  vL:mg "are_numbers" = some (.ref a.dZ)
  nW:kW K "sure_of_ears" "sure_of_ears" cY a.dg a.jz
  uw:Binds K a.jz ["web"] []
  ux:mg "sure_of_ears" = some (.ref a.dg)
  iT:kW K "points_along" "points_along" cZ a.dh a.jA
  j8:Binds K a.jA ["web", "start", "numbers"] []
  j9:mg "points_along" = some (.ref a.dh)
  wC:kW K "way_back" "way_back" fJ a.gW a.pq
  Ea:Binds K a.pq ["web", "met", "point", "number"] []
  Eb:mg "way_back" = some (.ref a.gW)
  wD:kW K "next_ear" "next_ear" gb a.gY a.pA
  Ec:Binds K a.pA ["web", "met", "left"] []
  Ed:mg "next_ear" = some (.ref a.gY)
  JZ:kW K "ears" "ears" pR a.rJ a.BK
  Pg:Binds K a.BK ["web"] []
  Ph:mg "ears" = some (.ref a.rJ)
  Ef:kW K "is_ear" "is_ear" iJ a.j6 a.uV
  Mg:Binds K a.uV ["web", "thing", "met", "gone"] []
  Mh:mg "is_ear" = some (.ref a.j6)
  jf:kW K "reads_ears" "reads_ears" eY a.fu a.lQ
  j_:Binds K a.lQ ["web", "thing"] []
  kh:mg "reads_ears" = some (.ref a.fu)
  X3:kW K "_law_pot" "_law_pot" yq a.yu a.JT
  qby:Binds K a.JT ["_law_script", "_law_k"] []
  qbz:mg "_law_pot" = some (.ref a.yu)
  mJ:kW K "_law_take" "_law_take" q_ a.rK a.BL
  nY:Binds K a.BL ["_law_pot_here", "_law_many"] []
  nZ:mg "_law_take" = some (.ref a.rK)
  J0:kW K "_law_names" "_law_names" m8 a.nj a.yx
  Rh:Binds K a.yx ["_law_pot_here", "_law_many"] []
  Ri:mg "_law_names" = some (.ref a.nj)
  BX:kW K "_law_mixed" "_law_mixed" m9 a.nq a.yC
  J1:Binds K a.yC ["_law_pot_here", "_law_things"] []
  J2:mg "_law_mixed" = some (.ref a.nq)
  X4:kW K "_law_tie" "_law_tie" yr a.yD a.JV
  qbA:Binds K a.JV ["_law_pot_here", "_law_names_here"] []
  qbB:mg "_law_tie" = some (.ref a.yD)
  X5:kW K "_law_web" "_law_web" tD a.yE a.JW
  qbC:Binds K a.JW ["_law_pot_here", "_law_points", "_law_most"] []
  qbD:mg "_law_web" = some (.ref a.yE)
  uZ:kW K "_law_classes" "_law_classes" iy a.i_ a.rM
  zK:Binds K a.rM ["_law_e"] []
  zL:mg "_law_classes" = some (.ref a.i_)
  J3:kW K "_law_hang" "_law_hang" pU a.rN a.BP
  Pj:Binds K a.BP ["_law_web_here", "_law_start", "_law_gone"] []
  Pk:mg "_law_hang" = some (.ref a.rN)
  yI:kW K "_law_walked" "_law_walked" iK a.j7 a.uW
  Eh:Binds K a.uW ["_law_web_here", "_law_row"] []
  Ei:mg "_law_walked" = some (.ref a.j7)
  zM:kW K "_law_no_ears" "_law_no_ears" iW a.jc a.rO
  HS:Binds K a.rO ["_law_web_here"] []
  HW:mg "_law_no_ears" = some (.ref a.jc)
  Ej:kW K "_law_told" "_law_told" rA a.rP a.BW
  J4:Binds K a.BW ["_law_web_here"] []
  J_:mg "_law_told" = some (.ref a.rP)
  jB:kW K "_law_refused_right" "_law_refused_right" cJ a.cL a.jd
  mK:Binds K a.jd ["_law_told_here", "_law_due"] []
  mL:mg "_law_refused_right" = some (.ref a.cL)
  uy:kW K "_law_row_right" "_law_row_right" cH a.fW a.nA
  A_:Binds K a.nA ["_law_web_here", "_law_names_here", "_law_ties", "_law_told_here"] []
  Bb:mg "_law_row_right" = some (.ref a.fW)
  qbE:kW K "law" "law" yt a.Ax a.JX
  qfY:Binds K a.JX ["_law_script"] []
  qfZ:mg "law" = some (.ref a.Ax)
  HX:mg "LETTERS" = some a.lA
  HY:RelV (.str "abcdefghijklmnopqrstuvwxyz") a.lA
  uz:mg "MOST_LETTERS" = some a.fK
  uD:RelV (.int 4) a.fK
  vM:mg "MOST_POINTS" = some a.gA
  vN:RelV (.int 9) a.gA
  Bc:mg "MOST_TIES" = some a.iR
  Bd:RelV (.int 20) a.iR
  Rj:mg "Web" = some (.ref a.cj)
  kI:Cls K a.cj
  Ka:mD K a.cj "names"
  BZ:mD K a.cj "pairs"
  Rk:Mk K a.cj a.gk
  jg:Meth K a.cj "points" a.dY
  n6:Meth K a.cj "ties" a.gq
  rZ:Meth K a.cj "many" a.gw
  su:mg "PointError" = some (.ref a.aG)
  Rm:mg "NoWeb" = some (.ref a.fB)
  Mi:mg "NoText" = some (.ref a.dj)
  Bf:mg "NoNumbers" = some (.ref a.bR)
  Rn:mg "NoLot" = some (.ref a.fC)
  H_:mg "NoPoint" = some (.ref a.cB)
  yJ:mg "NoPointing" = some (.ref a.bK)
  Ia:mg "TooMuch" = some (.ref a.cC)
  yK:mg "Parted" = some (.ref a.bw)
  yL:mg "Barred" = some (.ref a.bh)
  gZ:qY K a.aG
  yM:qY K a.fB
  uE:qY K a.dj
  mC:qY K a.bR
  yN:qY K a.fC
  qN:qY K a.cB
  kj:qY K a.bK
  qO:qY K a.cC
  Mj:XC K a.fB a.aG
  Ib:XC K a.dj a.aG
  yO:XC K a.bR a.aG
  Ml:XC K a.fC a.aG
  Ek:XC K a.cB a.aG
  vO:XC K a.bK a.aG
  El:XC K a.cC a.aG
  jh:XC K a.bw a.aG
  gK:XC K a.bh a.aG
  ib:W.isClsIn K a.aG=true
  tb:W.typeIn K (.ref a.aG)=some (.type "type")
  ini:qfS K a.aG
  Em:W.specialIn K (.builtin "object.__class__") "__get__" = some (some (.builtin "getset_descriptor.__get__"))
  En:W.takesIn K (.builtin "object.__class__")=some true
  nd:(a.aG::nC a).Nodup
  ji:mg "ValueError" = none
  qP:XMk K a.bw a.aG a.cT
  Ie:wj K a.bw a.aG
  gB:W.findIn K (.ref a.bw) "lot" = some none
  qQ:XMk K a.bh a.aG a.cU
  zN:wj K a.bh a.aG
  gC:W.findIn K (.ref a.bh) "tie" = some none
  gD:W.findIn K (.ref a.bh) "lot" = some none
  nm:Nm mg
  XM:Nm2 mg
  nm3:Nm3 mg
end TJ
namespace TJ
open PySem L2
variable {P:Program} {w:World} {K:W.Frag} {mg:Str→Option Value} {base:Heap} {a:Adr}
def oG (H:Hp) (p:Addr):Prop:=∃x y:Int,H p=some (.lst [.int x,.int y])∧0≤x∧0≤y∧y<4294967296
def qdl (K:W.Frag):Sp:=fun vs H Q _=>∃(l:Addr) (ns:List Int) (k:Nat),vs=[.ref l,.int k]∧aX K H l (ns.map V.int)∧k<100∧∀p H',H p=none→oG H' p→But p H H'→Q (.ref p) H'
def qaF:Sp:=fun vs H Q _=>∃(p:Addr) (m:Int),vs=[.ref p,.int m]∧oG H p∧0<m∧m<1000000∧∀(d:Int) H',0≤d→d<m→oG H' p→But p H H'→Q (.int d) H'
theorem qdm (T:Txt K mg a):dG P w K mg base mF 1 a.yu a.JT ["_law_script", "_law_k"] (qdl K):=by
  refine T.X3.tH XQ (fun vs H Q E h=>?_) (fun cdv A outer s H vs Q E hr h=>?_)
  ·obtain⟨l,ns,k,rfl,_⟩:=h;rfl
  · obtain⟨l,ns,k,rfl,hS,hk,q⟩:=h;refine⟨_,(aA (bx (i:=2) XQ.nd rfl (Or.inl rfl) (Cm (aW zB (aH 1) (aF (bY (K:=K) rfl) rfl T.nm.len PySem.boot_len (aj (aH 0) aq)) (bO _)) (bW (bZ (K:=K) rfl) (aH 0) (aH 1) (fun _ _=>rfl)) aL))
      (aD (aZ (cg (aj (aF (Dj rfl) rfl T.nm.max boot_max (aj aL (aj (dF yd (aF Hy rfl T.nm.abs boot_abs (aj (aH 2) aq)) (dF qal aL aL)) aq))) (aj (dF lK (dF lK (dF uR (aF Hy rfl T.nm.abs boot_abs (aj (aH 2) aq)) aL) (dF Bv aL (aH 1))) aL) aq)))))),?_⟩
    have fin:∀(x y:Int),0≤x→0≤y→y<4294967296→∀p:Addr,H p=none→Q (.ref p) (upd H p (.lst [.int x,.int y])):=fun x y h1 h2 h3 p hp=>
      q p _ hp ⟨x,y,ak,h1,h2,h3⟩ fun b o hb e=>by rw[aC hb];exact e
    simp -dsimp[aB,stC];refine⟨_,.inl hS,dI.of (fun h=>?_) (fun h=>?_)⟩
    · have hlt:k<ns.length:=by simpa using h
      simp -dsimp[aB,stC];refine⟨_,.inl hS,.int (ns[k]'hlt),bD (by simp[hlt]),?_⟩;simp -dsimp[aB,stC];exact fin _ _ (zpa _) (zpb _ _) (zpc _ hk)
    ·simp -dsimp[aB,stC];exact fin _ _ (by first | omega | (split <;> omega)) (by omega) (by omega)
theorem lW (T:Txt K mg a):dG P w K mg base mF 1 a.rK a.BL ["_law_pot_here", "_law_many"] qaF:=by
  refine T.mJ.tH Rg (fun vs H Q E h=>?_) (fun cdv A outer s H vs Q E hr h=>?_)
  ·obtain⟨p,m,rfl,_⟩:=h;rfl
  · obtain⟨p,m,rfl,⟨x,y,hp,hx,hy,hy2⟩,hm,hm2,q⟩:=h;refine⟨_,(aA (cO (aW vY (bW (bZ (K:=K) rfl) (aH 0) aL (fun _ _=>rfl)) aL (bO _)) (aA (pJ (aF JF rfl T.nm.divmod boot_divmod (aj (bW (bZ (K:=K) rfl) (aH 0) aL (fun _ _=>rfl)) (aj (aH 1) aq))) (PG.eqv (cW (K:=K) (n:=2) rfl rfl (fL.eqv (aQ (Vq (aH 0) aL HB) (fL.eqv (aQ (aM (i:=2) Rg.nd rfl (Or.inl rfl)) (fL.mono cF d8)) (aR _ _))) (aR _ _))) (cX _ _ _)))
      (aD (aZ (aH 2)))) bH)
      (aA (pJ (dF uR (dF lK (dF Bv (bW (bZ (K:=K) rfl) (aH 0) aL (fun _ _=>rfl)) aL) aL) aL) (Vq (aH 0) aL HB))
      (aD (aZ (dF uR (dF Xh (dF uR (dF Bv (bW (bZ (K:=K) rfl) (aH 0) aL (fun _ _=>rfl)) (bW (bZ (K:=K) rfl) (aH 0) aL (fun _ _=>rfl))) aL) aL) (aH 1)))))),?_⟩
    have hl:aX K H p [.int x,.int y]:=aX.of hp;simp -dsimp[aB,stC];refine⟨_,.inl hl,_,bD (j:=0) rfl,?_⟩;simp -dsimp[aB,stC];refine dI.of (fun h=>?_) (fun h=>?_)
    ·simp -dsimp[aB,stC];refine⟨_,.inl hl,_,bD (j:=0) rfl,?_⟩;simp -dsimp[aB,stC];refine⟨⟨hm,by omega⟩,fun t ht=>?_⟩;have npt:p≠t:=aP hp ht;refine⟨_,d9.of ak,rfl,_,(by rw[aC npt];exact hp),0,rfl,?_⟩;refine q _ _ (Int.emod_nonneg _ (by omega)) (Int.emod_lt_of_pos _ hm) ⟨_,_,ak,Int.ediv_nonneg hx (by omega),hy,hy2⟩ fun b o hb e=>?_;rw[aC hb,aC (aP e ht)];exact e
    ·have z0:0≤(y * 48271+12345) % 2147483647:=Int.emod_nonneg _ (by decide);have z1:(y * 48271+12345) % 2147483647<2147483647:=Int.emod_lt_of_pos _ (by decide);simp -dsimp[aB,stC];refine⟨_,.inl hl,_,bD (j:=1) rfl,?_⟩;simp -dsimp[aB,stC];refine⟨_,hp,1,rfl,_,.inl (aX.of ak),_,bD (j:=1) rfl,_,.inl (aX.of ak),_,bD (j:=1) rfl,?_⟩;simp -dsimp[aB,stC];refine⟨⟨by omega,by omega⟩,hm,?_⟩;refine q _ _ (Int.emod_nonneg _ (by omega)) (Int.emod_lt_of_pos _ hm) ⟨_,_,ak,hx,z0,by omega⟩ fun b o hb e=>?_;rw[aC hb];exact e
def Pn:Sp:=fun vs H Q _=>∃p xs,vs=[.ref p]∧Sq H p xs∧∀H',Same H H'→Q (.bl true) H'
theorem lD (T:Txt K mg a):dG P w K mg base mF 1 a.iY a.rF ["thing"] Pn:=by
  refine T.jN.tH O7 (fun vs H Q E h=>?_) (fun cdv A outer s H vs Q E hr h=>?_)
  ·obtain⟨p,xs,rfl,_⟩:=h;rfl
  · obtain⟨p,xs,rfl,hp,q⟩:=h;refine⟨_,(aD (aZ (aF (qdc (K:=K) rfl) rfl T.nm.isinstance boot_isinstance (aj (aH 0) (aj (fM (aj (iG (v:=.ty "list") rfl T.nm.list boot_list rfl) (aj (iG (v:=.ty "tuple") rfl T.nm.tuple boot_tuple rfl) aq))) aq))))),?_⟩;simp -dsimp[aB,stC,-Bool.exists_bool,-List.map_take];refine fun t ht=>⟨_,_,ak,?_⟩
    rcases(hp.same (au ht)).ty (K:=K) with ty | ty
    ·exact⟨_,ty,true,by simp[W.kitAny,W.kitOne],q _ (au ht)⟩
    ·exact⟨_,ty,true,by simp[W.kitAny,W.kitOne];rfl,q _ (au ht)⟩
def Pq:Sp:=fun vs H Q _=>∃x,vs=[.str x]∧x.length≤sizeLine∧∀H',Same H H'→Q (.bl (nameB x)) H'
theorem wF (T:Txt K mg a):dG P w K mg base mF 1 a.iZ a.rG ["thing"] Pq:=by
  refine T.qM.tH O8 (fun vs H Q E h=>?_) (fun cdv A outer s H vs Q E hr h=>?_)
  ·obtain⟨x,rfl,_⟩:=h;rfl
  · obtain⟨x,rfl,hx,q⟩:=h;refine⟨_,(aA (cO (PW.pt (jj (d7 (cG (aF (nQ (K:=K) rfl) rfl T.nm.isinstance boot_isinstance (aj (aH 0) (aj (iG (v:=.ty "str") rfl T.nm.str boot_str rfl) aq))))) (iC (d7 (Hw Dg Dg aL (aF qdb rfl T.nm.len PySem.boot_len (aj (aH 0) aq)) (iU rfl T.uz T.uD)))))) (aD (aZ gF)) bH)
      (aD (aZ (aF (jM rfl) rfl T.nm.all jL (aj (eO rfl rfl (show aY (ao iw) _ ["thing"] ["sign"] [] ["sign"] from⟨rfl,by decide+kernel,by decide+kernel,rfl,by decide+kernel,by decide+kernel⟩) rfl (PI.eqv (qct (aH 0)) (Xd _)) (fun C s H fp pn=>(aM (i:=0) (show(["sign"]:List Str).Nodup by decide+kernel) rfl (Or.inl rfl))) (fun C s H fp pn=>fP) (fun C s H fp pn=>(eG (qkY (K:=K) rfl) (aH 0) (iU rfl T.HX T.HY) rfl))) aq))))),?_⟩
    simp -dsimp[aB,stC,-Bool.exists_bool,-List.map_take];refine⟨_,.str x,_,Aq K,dI.neg rfl ?_⟩;simp -dsimp[aB,stC,-Bool.exists_bool,-List.map_take];refine⟨hx,dI.of (fun h1=>?_) (fun h1=>?_)⟩
    · have h1':1≤x.length:=by simp at h1;omega
      simp -dsimp[aB,stC,-Bool.exists_bool,-List.map_take];refine dI.of (fun h2=>?_) (fun h2=>?_)
      · have h2':¬x.length≤4:=by simp at h2;omega
        have e:nameB x=false:=by
          unfold nameB;rw[decide_eq_false h2'];simp
        rw[e] at q;simp -dsimp[aB,stC,-Bool.exists_bool,-List.map_take];exact q H (Same.refl H)
      · have h2':x.length≤4:=by simp at h2;omega
        simp -dsimp[aB,stC,-Bool.exists_bool,-List.map_take];refine fun D hD=>cmS (fun i σ' H'=>(∃o,σ'=[o])∧Same H H'∧H' D=some (.lst ((x.cps.toList.take i).map fun c=>.bl (Z0 c)))) ⟨⟨none,rfl⟩,au hD,by simpa using ak⟩ ?_ ?_
        · rintro i c σ' H' hc ⟨⟨o,rfl⟩,sm,GC⟩;have h4:4<sizeLine:=by decide
          have hsz:x.cps.size=x.length:=rfl;simp -dsimp[aB,stC,-Bool.exists_bool,-List.map_take];refine⟨_,GC,by simp;omega,bA sm hD,?_⟩;rw[ak,take_one (l:=x.cps.toList) (x:=c) (by simpa using hc),List.map_append];rfl
        · rintro σ' H' ⟨⟨o,rfl⟩,sm,GC⟩;simp -dsimp[aB,stC,-Bool.exists_bool,-List.map_take];refine⟨_,GC,_,zp Z0 _,?_⟩;rw[Oj];have e:nameB x=(x.cps.toList.take x.cps.size).all Z0:=by
            unfold nameB;rw[decide_eq_true h1',decide_eq_true h2',show x.cps.toList.take x.cps.size=x.cps.toList from List.take_of_length_le (by simp)];rfl
          rw[← e];exact q H' sm
    · have h1':¬1≤x.length:=by simp at h1;omega
      have e:nameB x=false:=by
        unfold nameB;rw[decide_eq_false h1'];simp
      rw[e] at q;simp -dsimp[aB,stC,-Bool.exists_bool,-List.map_take];exact q H (Same.refl H)
theorem X6 {xs:List Str} {i:Nat} {x:V} (h:(xs.map V.str)[i]? = some x):∃z,z∈xs∧x = .str z:=by
  rw[List.getElem?_map] at h;cases e:xs[i]? with
  | none=>rw[e] at h;cases h
  | some z=>
    rw[e] at h;exact⟨z,List.mem_of_getElem? e,(Option.some.inj h).symm⟩
theorem wG {x:Str} (h:nameB x=true):x.length≤sizeLine:=by
  unfold nameB at h;simp at h;have h4:4≤sizeLine:=by decide
  omega
theorem jO:∀n,oK (List.replicate n (.bl true)) (List.replicate n true)
  | 0=>rfl
  | n+1=>⟨true,_,rfl,rfl,jO n⟩
theorem Eo:∀xs:List Str,keysOf (xs.map V.str)=xs.map Sum.inr
  | []=>rfl
  | x::xs=>by
    show Sum.inr x::keysOf (xs.map V.str)=_;rw[Eo xs];rfl
theorem Pr {xs:List Str} (h:xs.Nodup):(Gp (fun i=>(keysOf (xs.map V.str))[i]?.getD (Sum.inl 0)) (xs.map V.str).length).length=xs.length:=by
  rw[Eo,List.length_map];refine(Oh _ xs.length fun i j hi hj e=>?_).1;simp[hi,hj] at e;exact(List.getElem_inj h).mp e
structure Gq (xs:List Str):Prop where
  len:1≤xs.length∧xs.length≤9
  nm:∀x∈xs,nameB x=true
  nd:xs.Nodup
def GD:Sp:=fun vs H Q _=>∃p xs,vs=[.ref p]∧Sq H p (xs.map V.str)∧Gq xs∧∀H',Same H H'→Q (.bl true) H'
theorem GF (T:Txt K mg a):dG P w K mg base mF 2 a.fj a.lN ["thing"] GD:=by
  refine T.rT.tH Gy (fun vs H Q E h=>?_) (fun cdv A outer s H vs Q E hr h=>?_)
  ·obtain⟨p,xs,rfl,_⟩:=h;rfl
  · obtain⟨p,xs,rfl,hp,hx,q⟩:=h;refine⟨_,(aA (cO (PW.pt (jj (d7 (cG (PE.eqv (aV (lD (K:=K) T) (hr.mono (by decide)) rfl T.lC T.jN.kp T.lB .nil bF (aj (aH 0) aq)) (aO _ _ _)))) (iC (d7 (Hw Dg Dg aL (aF (bY (K:=K) rfl) rfl T.nm.len PySem.boot_len (aj (aH 0) aq)) (iU rfl T.vM T.vN)))))) (aD (aZ gF)) bH)
      (aD (aZ (jU (aF (jM rfl) rfl T.nm.all jL (aj (eO rfl rfl (show aY (ao dO) _ ["thing"] ["one"] [] ["one"] from⟨rfl,by decide+kernel,by decide+kernel,rfl,by decide+kernel,by decide+kernel⟩) rfl (PI.eqv (oN (K:=K) rfl (aH 0)) (mq _ _)) (fun C s H fp pn=>(aM (i:=0) (show(["one"]:List Str).Nodup by decide+kernel) rfl (Or.inl rfl))) (fun C s H fp pn=>fP) (fun C s H fp pn=>(PE.eqv (aV (wF (K:=K) T) (hr.mono (by decide)) rfl T.uY T.qM.kp T.uX .nil bF (aj (aH 0) aq)) (aO _ _ _)))) aq)) (nH (eG jD (aF uO rfl T.nm.len PySem.boot_len (aj (eE (uN rfl) rfl T.nm.set uM (aj (aH 0) aq)) aq)) (aF (bY (K:=K) rfl) rfl T.nm.len PySem.boot_len (aj (aH 0) aq)) (bO _))))))),?_⟩
    have hl:=hx.len;have h60:60<sizeLine:=by decide
    simp -dsimp[aB,stC,-Bool.exists_bool,-List.map_take];refine⟨p,_,rfl,hp,fun H1 s1=>?_⟩;have hp1:=hp.same s1;simp -dsimp[aB,stC,-Bool.exists_bool,-List.map_take];refine⟨_,hp1.q,dI.pos (by simp;omega) ?_⟩;simp -dsimp[aB,stC,-Bool.exists_bool,-List.map_take];refine dI.neg (by simp;omega) ?_;obtain⟨b,hb⟩:=hp.b;simp -dsimp[aB,stC,-Bool.exists_bool,-List.map_take];refine⟨b,⟨_,hb K H1 s1⟩,fun D hD=>cmQ (xs.map V.str) (fun i σ' H'=>(∃o,σ'=[o])∧Same H1 H'∧H' D=some (.lst (List.replicate i (.bl true)))) ⟨⟨none,rfl⟩,au hD,ak⟩ (fun i σ' H' _ h=>hb K H' (s1.trans h.2.1)) ?_ ?_⟩
    · rintro i x σ' H' hi ⟨⟨o,rfl⟩,sm,GC⟩;obtain⟨z,hz,rfl⟩:=X6 hi;have hi2:i<xs.length:=by simpa using (List.getElem?_eq_some_iff.mp hi).1
      simp -dsimp[aB,stC,-Bool.exists_bool,-List.map_take];refine⟨z,rfl,wG (hx.nm z hz),fun H2 s2=>?_⟩;simp -dsimp[aB,stC,-Bool.exists_bool,-List.map_take];refine⟨_,s2 _ _ GC,by simp;omega,bA (sm.trans s2) hD,?_⟩;rw[ak,hx.nm z hz,← List.replicate_succ']
    ·rintro σ' H' ⟨⟨o,rfl⟩,sm,GC⟩;have hp2:=hp1.same sm;simp -dsimp[aB,stC,-Bool.exists_bool,-List.map_take];refine⟨_,GC,_,jO _,?_⟩;rw[show(List.replicate (xs.map V.str).length true).all id=true by simp];simp -dsimp[aB,stC,-Bool.exists_bool,-List.map_take];refine⟨_,hp2.q,by simp[isKey],by simp;unfold scanBound;omega,fun t ht=>⟨_,ak,_,(hp2.same (au ht)).q,?_⟩⟩;rw[decide_eq_true (by rw[Pr hx.nd];simp)];exact q _ (s1.trans (sm.trans (au ht)))
theorem qaG {x:Str} {xs:List Str} (h:x∈xs):inV (.str x) (xs.map V.str)=true:=by
  unfold inV;rw[List.any_eq_true];exact⟨.str x,List.mem_map.mpr ⟨x,h,rfl⟩,by simp[R7]⟩
theorem X7 (xs:List Str):(xs.map V.str).all jK=true:=by
  rw[List.all_eq_true];intro v hv;obtain⟨x,_,rfl⟩:=List.mem_map.mp hv;rfl
def TV:Sp:=fun vs H Q _=>∃t p x y xs,vs=[.ref t,.ref p]∧Sq H t [.str x,.str y]∧Sq H p (xs.map V.str)∧Gq xs∧x∈xs∧y∈xs∧x≠y∧∀H',Same H H'→Q (.bl true) H'
theorem TX (T:Txt K mg a):dG P w K mg base mF 2 a.jZ a.uU ["thing", "points"] TV:=by
  refine T.DQ.tH TQ (fun vs H Q E h=>?_) (fun cdv A outer s H vs Q E hr h=>?_)
  ·obtain⟨t,p,x,y,xs,rfl,_⟩:=h;rfl
  · obtain⟨t,p,x,y,xs,rfl,ht,hp,hx,hxm,hym,hne,q⟩:=h;refine⟨_,(aA (cO (PW.pt (jj (d7 (cG (PE.eqv (aV (lD (K:=K) T) (hr.mono (by decide)) rfl T.lC T.jN.kp T.lB .nil bF (aj (aH 0) aq)) (aO _ _ _)))) (iC (aW nP (aF (bY (K:=K) rfl) rfl T.nm.len PySem.boot_len (aj (aH 0) aq)) aL (bO _))))) (aD (aZ gF)) bH)
      (aA (cO (d7 (cG (aF (jM rfl) rfl T.nm.all jL (aj (eO rfl rfl (show aY (ao jw) _ ["thing", "points"] ["end"] [1] ["end", "points"] from⟨rfl,by decide+kernel,by decide+kernel,rfl,by decide+kernel,by decide+kernel⟩) rfl (PI.eqv (oN (K:=K) rfl (aH 0)) (mq _ _)) (fun C s H fp pn=>(aM (i:=0) (show(["end", "points"]:List Str).Nodup by decide+kernel) rfl (Or.inl rfl))) (fun C s H fp pn=>fP) (fun C s H fp pn=>(jU (PE.eqv (aV (wF (K:=K) T) (hr.mono (by decide)) rfl T.uY T.qM.kp T.uX .nil bF (aj (aH 0) aq)) (aO _ _ _)) (nH (eG (zE (K:=K) rfl) (aH 0) (aH 1) rfl))))) aq)))) (aD (aZ gF)) bH)
      (aD (aZ (eG nP (bW (bZ (K:=K) rfl) (aH 0) aL (fun _ _=>rfl)) (bW (bZ (K:=K) rfl) (aH 0) aL (fun _ _=>rfl)) (bO _)))))),?_⟩
    have h60:60<sizeLine:=by decide
    right;refine⟨t,_,rfl,ht,fun H1 s1=>?_⟩;right;refine⟨_,(ht.same s1).q,false,rfl,dI.neg rfl ?_⟩;obtain⟨b,hb⟩:=ht.b;right;refine⟨b,⟨_,hb K H1 s1⟩,fun D hD=>cmQ [.str x,.str y] (fun i σ' H'=>(∃o,σ'=[o,some (.ref p)])∧Same H1 H'∧H' D=some (.lst (List.replicate i (.bl true)))) ⟨⟨none,rfl⟩,au hD,ak⟩ (fun i σ' H' _ h=>hb K H' (s1.trans h.2.1)) ?_ ?_⟩
    · rintro i v σ' H' hi ⟨⟨o,rfl⟩,sm,GC⟩;obtain⟨z,hz,rfl⟩:∃z,z∈xs∧v = .str z:=by
        match i,hi with
        | 0,hi=>exact⟨x,hxm,(Option.some.inj hi).symm⟩
        | 1,hi=>exact⟨y,hym,(Option.some.inj hi).symm⟩
      have hi2:i<2:=(List.getElem?_eq_some_iff.mp hi).1;right;refine⟨z,rfl,wG (hx.nm z hz),fun H2 s2=>?_⟩;rw[hx.nm z hz];right;refine⟨_,(hp.same (s1.trans (sm.trans s2))).q,rfl,List.all_eq_true.mp (X7 xs),_,s2 _ _ GC,by simp;omega,bA (sm.trans s2) hD,?_⟩;rw[ak,qaG hz,← List.replicate_succ']
    ·rintro σ' H' ⟨⟨o,rfl⟩,sm,GC⟩;have Ro:=ht.same (s1.trans sm);right;refine⟨_,GC,_,jO _,?_⟩;rw[show(List.replicate [V.str x,V.str y].length true).all id=true by simp];right;refine⟨_,Ro.q,_,bD (j:=0) rfl,_,Ro.q,_,bD (j:=1) rfl,?_⟩;right;refine⟨true,by simp[hne],?_⟩;exact q _ (s1.trans sm)
def Ep (H:Hp) (v:V) (e:Str×Str):Prop:=∃t,v = .ref t∧Sq H t [.str e.1,.str e.2]
theorem Ep.same {H H':Hp} {v:V} {e:Str×Str} (h:Ep H v e) (s:Same H H'):Ep H' v e:=by
  obtain⟨t,rfl,h⟩:=h;exact⟨t,rfl,h.same s⟩
def pB (H:Hp) (vs:List V) (ps:List (Str×Str)):Prop:=vs.length=ps.length∧∀(i:Nat) v e,vs[i]? = some v→ps[i]? = some e→Ep H v e
theorem pB.same {H H':Hp} {vs:List V} {ps:List (Str×Str)} (h:pB H vs ps) (s:Same H H'):pB H' vs ps:=⟨h.1,fun i v e h1 h2=>(h.2 i v e h1 h2).same s⟩
theorem pB.at {H:Hp} {vs:List V} {ps:List (Str×Str)} (h:pB H vs ps) {i:Nat} {v:V} (hv:vs[i]? = some v):∃e,ps[i]? = some e∧Ep H v e:=by
  have hi:i<ps.length:=by rw[← h.1];exact(List.getElem?_eq_some_iff.mp hv).1
  exact⟨ps[i],by simp[hi],h.2 i v _ hv (by simp[hi])⟩
structure jF (xs:List Str) (ps:List (Str×Str)):Prop where
  len:ps.length≤20
  ok:∀e∈ps,e.1∈xs∧e.2∈xs∧e.1≠e.2
def Mp:Sp:=fun vs H Q _=>∃t p tv xs ps,vs=[.ref t,.ref p]∧Sq H t tv∧pB H tv ps∧Sq H p (xs.map V.str)∧Gq xs∧jF xs ps∧∀H',Same H H'→Q (.bl true) H'
theorem Mq (T:Txt K mg a):dG P w K mg base mF 3 a.gV a.oY ["thing", "points"] Mp:=by
  refine T.wB.tH LK (fun vs H Q E h=>?_) (fun cdv A outer s H vs Q E hr h=>?_)
  ·obtain⟨t,p,tv,xs,ps,rfl,_⟩:=h;rfl
  · obtain⟨t,p,tv,xs,ps,rfl,ht,hpr,hp,hx,hts,q⟩:=h;refine⟨_,(aA (cO (PW.pt (jj (d7 (cG (PE.eqv (aV (lD (K:=K) T) (hr.mono (by decide)) rfl T.lC T.jN.kp T.lB .nil bF (aj (aH 0) aq)) (aO _ _ _)))) (iC (aW vY (aF (bY (K:=K) rfl) rfl T.nm.len PySem.boot_len (aj (aH 0) aq)) (iU rfl T.Bc T.Bd) (bO _))))) (aD (aZ gF)) bH)
      (aD (aZ (aF (jM rfl) rfl T.nm.all jL (aj (eO rfl rfl (show aY (ao fZ) _ ["thing", "points"] ["one"] [1] ["one", "points"] from⟨rfl,by decide+kernel,by decide+kernel,rfl,by decide+kernel,by decide+kernel⟩) rfl (PI.eqv (oN (K:=K) rfl (aH 0)) (mq _ _)) (fun C s H fp pn=>(aM (i:=0) (show(["one", "points"]:List Str).Nodup by decide+kernel) rfl (Or.inl rfl))) (fun C s H fp pn=>fP) (fun C s H fp pn=>(PE.eqv (aV (TX (K:=K) T) (hr.mono (by decide)) rfl T.Mf T.DQ.kp T.Ma .nil bF (aj (aH 0) (aj (aH 1) aq))) (aO _ _ _)))) aq))))),?_⟩
    have hlen:=hpr.1;have Er:=hts.len;have h60:60<sizeLine:=by decide
    right;refine⟨t,_,rfl,ht,fun H1 s1=>?_⟩;right;refine⟨_,(ht.same s1).q,dI.neg (by simp;omega) ?_⟩;obtain⟨b,hb⟩:=ht.b;right;refine⟨b,⟨_,hb K H1 s1⟩,fun D hD=>cmQ tv (fun i σ' H'=>(∃o,σ'=[o,some (.ref p)])∧Same H1 H'∧H' D=some (.lst (List.replicate i (.bl true)))) ⟨⟨none,rfl⟩,au hD,ak⟩ (fun i σ' H' _ h=>hb K H' (s1.trans h.2.1)) ?_ ?_⟩
    ·rintro i v σ' H' hi ⟨⟨o,rfl⟩,sm,GC⟩;obtain⟨e,he,t2,rfl,Ro⟩:=hpr.at hi;have hi2:i<tv.length:=(List.getElem?_eq_some_iff.mp hi).1;obtain⟨h1,h2,h3⟩:=hts.ok e (List.mem_of_getElem? he);have s2:=s1.trans sm;right;refine⟨t2,p,e.1,e.2,xs,rfl,Ro.same s2,hp.same s2,hx,h1,h2,h3,fun H2 s3=>?_⟩;right;refine⟨_,s3 _ _ GC,by simp;omega,bA (sm.trans s3) hD,?_⟩;rw[ak,← List.replicate_succ']
    ·rintro σ' H' ⟨⟨o,rfl⟩,sm,GC⟩;right;refine⟨_,GC,_,jO _,?_⟩;rw[show(List.replicate tv.length true).all id=true by simp];exact q _ (s1.trans sm)
def bL (H:Hp) (vs:List V) (ps:List (Str×Str)):Prop:=vs.length=ps.length∧∀(i:Nat) v e,vs[i]? = some v→ps[i]? = some e→∃t,v = .ref t∧H t=some (.tup [.str e.1,.str e.2])
def dD (H H':Hp):Prop:=∀b xs,H b=some (.tup xs)→H' b=some (.tup xs)
theorem bL.keep {H H':Hp} {vs:List V} {ps:List (Str×Str)} (h:bL H vs ps) (s:dD H H'):bL H' vs ps:=⟨h.1,fun i v e h1 h2=>by
  obtain⟨t,rfl,e⟩:=h.2 i v e h1 h2;exact⟨t,rfl,s _ _ e⟩⟩
theorem bL.snoc {H:Hp} {vs:List V} {ps:List (Str×Str)} {t:Addr} {e:Str×Str} (h:bL H vs ps) (ht:H t=some (.tup [.str e.1,.str e.2])):bL H (vs++[.ref t]) (ps++[e]):=by
  refine⟨by simp[h.1],fun i v d h1 h2=>?_⟩
  by_cases hi:i<vs.length
  ·rw[List.getElem?_append_left hi] at h1;rw[List.getElem?_append_left (by rw[← h.1];exact hi)] at h2;exact h.2 i v d h1 h2
  · rw[List.getElem?_append_right (by omega)] at h1;rw[List.getElem?_append_right (by rw[← h.1];omega),← h.1] at h2;cases hk:i - vs.length with
    | zero=>
      rw[hk] at h1 h2;cases h1;cases h2;exact⟨t,rfl,ht⟩
    | succ j=>
      rw[hk] at h1;simp at h1
structure iu (C:Addr) (H:Hp) (o:Addr) (xs:List Str) (ps:List (Str×Str)):Prop where
  ex:∃dx n m tv,H o=some (.ins C dx [("names",V.ref n),("pairs",V.ref m)])∧H n=some (.tup (xs.map V.str))∧H m=some (.tup tv)∧bL H tv ps∧ps.length≤20
def qaH (C:Addr):Sp:=fun vs H Q _=>∃o dx p t tv xs ps,vs=[.ref o,.ref p,.ref t]∧H o=some (.ins C dx [])∧Sq H t tv∧pB H tv ps∧Sq H p (xs.map V.str)∧Gq xs∧jF xs ps∧
  ∀H',iu C H' o xs ps→But o H H'→Q .non H'
theorem uF (T:Txt K mg a):dG P w K mg base mF 4 a.gk a.oZ ["self", "points", "ties"] (qaH a.cj):=by
  refine T.DX.tH LQ (fun vs H Q E h=>?_) (fun cdv A outer s H vs Q E hr h=>?_)
  ·obtain⟨o,dx,p,t,tv,xs,ps,rfl,_⟩:=h;rfl
  · obtain⟨o,dx,p,t,tv,xs,ps,rfl,ho,ht,hpr,hp,hx,hts,q⟩:=h;refine⟨_,(aA (cO (d7 (cG (PE.eqv (aV (GF (K:=K) T) (hr.mono (by decide)) rfl T.yG T.rT.kp T.yF .nil bF (aj (aH 1) aq)) (aO _ _ _)))) (aD KD) bH)
      (aA (cO (d7 (cG (PE.eqv (aV (Mq (K:=K) T) (hr.mono (by decide)) rfl T.DW T.wB.kp T.DR .nil bF (aj (aH 2) (aj (aH 1) aq))) (aO _ _ _)))) (aD KD) bH)
      (aA (QS (K:=K) rfl (aH 0) (eE uT rfl T.nm.tuple boot_tuple (aj (aH 1) aq)) rfl)
      (aD (QS (K:=K) rfl (aH 0) (eE uT rfl T.nm.tuple boot_tuple (aj (eO rfl rfl (show aY (ao f9) _ ["self", "points", "ties"] ["pair"] [] ["pair"] from⟨rfl,by decide+kernel,by decide+kernel,rfl,by decide+kernel,by decide+kernel⟩) rfl (PI.eqv (oN (K:=K) rfl (aH 2)) (mq _ _)) (fun C s H fp pn=>(aM (i:=0) (show(["pair"]:List Str).Nodup by decide+kernel) rfl (Or.inl rfl))) (fun C s H fp pn=>fP) (fun C s H fp pn=>(fM (aj (bW (bZ (K:=K) rfl) (aH 0) aL (fun _ _=>rfl)) (aj (bW (bZ (K:=K) rfl) (aH 0) aL (fun _ _=>rfl)) aq))))) aq)) rfl))))),?_⟩
    right;refine⟨p,xs,rfl,hp,hx,fun H1 s1=>?_⟩;right;refine⟨t,p,tv,xs,ps,rfl,ht.same s1,hpr.same s1,hp.same s1,hx,hts,fun H2 s2'=>?_⟩;have s2:=s1.trans s2';right;refine⟨_,hp.same s2,fun n H3 hn s3'=>?_⟩;have s3:=s2.trans s3';have nno:n≠o:=Cg hn (s3 _ _ ho) (by intro z;cases z);refine⟨_,_,_,s3 _ _ ho,T.kI,T.Ka,by simp,?_⟩;have hto:t≠o:=by rcases ht with z | z <;> exact Cg z ho (by intro y;cases y)
    have qf0:∀{ob:HO} {b:Addr} {u:HO},b≠o→H b=some u→upd H3 o ob b=some u:=fun hb e=>by rw[aC hb];exact s3 _ _ e
    obtain⟨b,hb⟩:∃b,∀H',(∀c u,c≠o→H c=some u→H' c=some u)→Y7 b K H' t tv:=by
      rcases ht with z | z
      ·exact⟨true,fun H' k=>aX.of (k _ _ hto z)⟩
      ·exact⟨false,fun H' k=>d9.of (k _ _ hto z)⟩
    have e1:kO "names" (V.ref n) []=([("names",V.ref n)]:List (Str×V)):=rfl;rw[e1];have st4:∀(c:Addr) (u:HO),c≠o→H c=some u→upd H3 o (.ins a.cj dx [("names",V.ref n)]) c=some u:=fun c u hc e=>qf0 hc e;generalize h4:upd H3 o (.ins a.cj dx [("names",V.ref n)])=H4 at st4 ⊢;have ho4:H4 o=some (.ins a.cj dx [("names",V.ref n)]):=by rw[← h4];exact ak
    have hn4:H4 n=some (.tup (xs.map V.str)):=by rw[← h4,aC nno];exact hn
    refine⟨b,⟨_,hb H4 st4⟩,fun D hD=>cmQ tv (fun i σ' H'=>(∃o',σ'=[o'])∧Same H4 H'∧∃tvs,H' D=some (.lst tvs)∧bL H' tvs (ps.take i)) ⟨⟨none,rfl⟩,au hD,[],ak,by simp[bL]⟩ (fun i σ' H' _ h=>hb H' fun c u hc e=>h.2.1 _ _ (st4 c u hc e)) ?_ ?_⟩
    · rintro i v σ' H' hi ⟨⟨o',rfl⟩,sm,tvs,GC,htv⟩;have hi2:i<tv.length:=(List.getElem?_eq_some_iff.mp hi).1;have hlen:=hpr.1;have Er:=hts.len;obtain⟨e,he,t2,rfl,Ro⟩:=hpr.at hi;have t2o:t2≠o:=by rcases Ro with z | z <;> exact Cg z ho (by intro y;cases y)
      have ht3:Sq H' t2 [.str e.1,.str e.2]:=by
        rcases Ro with z | z
        ·exact .inl (sm _ _ (st4 _ _ t2o z))
        ·exact .inr (sm _ _ (st4 _ _ t2o z))
      right;refine⟨_,ht3.q,_,bD (j:=0) rfl,_,ht3.q,_,bD (j:=1) rfl,fun pt hpt=>?_⟩;have hDp:D≠pt:=aP GC hpt;refine⟨tvs,by rw[aC hDp];exact GC,?_,bA (sm.trans (au hpt)) hD,_,ak,?_⟩
      · have h4':20<sizeLine:=by decide
        have:=htv.1;simp at this;omega
      · rw[take_one he];refine(htv.keep ?_).snoc ?_
        ·intro c zs ec;rw[aC (Cg ec GC (by intro y;cases y)),aC (aP ec hpt)];exact ec
        ·rw[aC (Ne.symm hDp)];exact ak
    · rintro σ' H' ⟨⟨o',rfl⟩,sm,tvs,GC,htv⟩;right;refine⟨tvs,.inl GC,fun m H5 hm s5=>⟨_,_,_,s5 _ _ (sm _ _ ho4),T.kI,T.BZ,by simp,?_⟩⟩;have ho5:=s5 _ _ (sm _ _ ho4);have mno:m≠o:=Cg hm ho5 (by intro z;cases z);have e2:kO "pairs" (V.ref m) ([("names",V.ref n)]:List (Str×V))=([("names",V.ref n),("pairs",V.ref m)]:List (Str×V)):=by
        show(if ("names" : Str) = "pairs" then _ else (("names" : Str),V.ref n)::kO "pairs" (V.ref m) [])=_
        rw[if_neg (by decide+kernel)];rfl
      rw[e2];refine q _ ⟨dx,n,m,tvs,ak,?_,?_,?_,hts.len⟩ fun c u hc e=>?_
      ·rw[aC nno];exact s5 _ _ (sm _ _ hn4)
      ·rw[aC mno];exact hm
      ·have hl:=hpr.1;rw[hl,List.take_length] at htv;refine htv.keep fun c zs ec=>?_;rw[aC (Cg (s5 _ _ ec) ho5 (by intro z;cases z))];exact s5 _ _ ec
      ·rw[aC hc];exact s5 _ _ (sm _ _ (st4 c u hc e))
def TY (C:Addr):Sp:=fun vs H Q _=>∃o xs ps,vs=[.ref o]∧iu C H o xs ps∧∀l,H l=none→Q (.ref l) (upd H l (.lst (xs.map V.str)))
theorem jy (T:Txt K mg a):dG P w K mg base mF 1 a.dY a.lO ["self"] (TY a.cj):=by
  refine T.yH.tH Gz (fun vs H Q E h=>?_) (fun cdv A outer s H vs Q E hr h=>?_)
  ·obtain⟨o,xs,ps,rfl,_⟩:=h;rfl
  ·obtain⟨o,xs,ps,rfl,⟨dx,n,m,tv,h1,h2,h3,h4,h5⟩,q⟩:=h;refine⟨_,(aD (aZ (eE (um (K:=K) rfl) rfl T.nm.list boot_list (aj (PE.eqv (Jm (K:=K) rfl (aH 0) rfl) (JC _ _ _)) aq)))),?_⟩;right;refine⟨_,_,_,h1,T.kI,T.Ka,_,rfl,_,.inr (d9.of h2),q⟩
def qaI (C:Addr):Sp:=fun vs H Q _=>∃o xs ps,vs=[.ref o]∧iu C H o xs ps∧∀l tv,H l=none→bL H tv ps→Q (.ref l) (upd H l (.lst tv))
theorem pD (T:Txt K mg a):dG P w K mg base mF 1 a.gq a.o9 ["self"] (qaI a.cj):=by
  refine T.DY.tH LR (fun vs H Q E h=>?_) (fun cdv A outer s H vs Q E hr h=>?_)
  ·obtain⟨o,xs,ps,rfl,_⟩:=h;rfl
  ·obtain⟨o,xs,ps,rfl,⟨dx,n,m,tv,h1,h2,h3,h4,h5⟩,q⟩:=h;refine⟨_,(aD (aZ (eE (um (K:=K) rfl) rfl T.nm.list boot_list (aj (PE.eqv (Jm (K:=K) rfl (aH 0) rfl) (JC _ _ _)) aq)))),?_⟩;right;refine⟨_,_,_,h1,T.kI,T.BZ,_,rfl,_,.inr (d9.of h3),fun l hl=>q l tv hl h4⟩
theorem oG.upd {p q:Addr} {H:Hp} {u:HO} (x:oG H p) (h:p≠q):oG (L2.upd H q u) p:=by
  obtain⟨a,b,e,r⟩:=x;exact⟨a,b,by rw[aC h];exact e,r⟩
theorem oG.ne {p q:Addr} {H:Hp} (x:oG H p) (h:H q=none):p≠q:=by
  obtain⟨a,b,e,r⟩:=x;exact aP e h
theorem oG.none {p b:Addr} {H H':Hp} (x:But p H H') (hp:oG H' p) (h:H' b = .none):H b = .none:=by
  obtain⟨a,b,e,r⟩:=hp;exact x.none e h
def X8:Sp:=fun vs H Q _=>∃p l xs,vs=[.ref p,.ref l]∧oG H p∧l≠p∧H l=some (.lst xs)∧xs.length≤100∧∀r ys H',H r=none→H' r=some (.lst ys)→ys.Perm xs→oG H' p→But p H H'→Q (.ref r) H'
theorem Mr (T:Txt K mg a):dG P w K mg base mF 2 a.nq a.yC ["_law_pot_here", "_law_things"] X8:=by
  refine T.BX.tH Dz (fun vs H Q E h=>?_) (fun cdv A outer s H vs Q E hr h=>?_)
  ·obtain⟨p,l,xs,rfl,_⟩:=h;rfl
  · obtain⟨p,l,xs,rfl,hp,hlp,hl,h100,q⟩:=h;refine⟨_,(aA (bx (i:=2) Dz.nd rfl (Or.inl rfl) (cg aq))
      (aA (iI PassesOwn.never rfl (PI.eqv (cu (K:=K) rfl (aH 1)) (bU _ _)) (aM (i:=3) Dz.nd rfl (Or.inl rfl))
      (aD (eF (jQ (K:=K) rfl PySem.F.plainAttrs_list PySem.F.slot_list_insert PySem.F.type_list_insert OJ (aH 2) (aj (PE.eqv (aV (lW (K:=K) T) (hr.mono (by decide)) rfl T.nZ T.mJ.kp T.nY .nil bF (aj (aH 0) (aj (dF lK (aF (bY (K:=K) rfl) rfl T.nm.len PySem.boot_len (aj (aH 2) aq)) aL) aq))) (aO _ _ _)) (aj (aH 3) aq))))))
      (aD (aZ (aH 2))))),?_⟩
    have h4':100<sizeLine:=by decide
    simp -dsimp[aB,stC];intro r hr0;have hpr:p≠r:=hp.ne hr0;refine⟨⟨_,aX.of (bG hl hr0)⟩,frL xs (fun i σ H'=>∃v ys,σ=[some (.ref p),some (.ref l),some (.ref r),v]∧H' r=some (.lst ys)∧ys.Perm (xs.take i)∧oG H' p∧But p H H') ⟨none,[],rfl,ak,by simp,hp.upd hpr,(But.refl _ _).new hr0⟩ (fun i σ H' _ ⟨_,_,_,_,_,_,hb⟩=>aX.of (hb _ _ hlp hl)) ?_ ?_⟩
    · rintro i x σ H' hi ⟨v,ys,rfl,hr',hperm,hP,hB⟩;have hi2:i<xs.length:=(List.getElem?_eq_some_iff.mp hi).1;have hly:ys.length=i:=by
        have:=hperm.length_eq;simp at this;omega
      simp -dsimp[aB,stC];refine⟨⟨_,aX.of hr'⟩,ys,.inl (aX.of hr'),p,_,rfl,hP,by omega,by omega,fun d H1 hd0 hd1 X_ Rp=>?_⟩;have hr1:H1 r=some (.lst ys):=Rp _ _ (Ne.symm hpr) hr';simp -dsimp[aB,stC];refine⟨ys,hr1,hd0,by omega,by omega,_,ak,?_,X_.upd hpr,(hB.trans Rp).new hr0⟩
      · rw[take_one hi];have e:(ys.take d.toNat++x::ys.drop d.toNat).Perm (x::ys):=by
          refine List.perm_middle.trans ?_;rw[List.take_append_drop]
        exact e.trans ((List.Perm.cons x hperm).trans (List.perm_append_singleton x _).symm)
    ·rintro σ H' ⟨v,ys,rfl,hr',hperm,hP,hB⟩;rw[List.take_length] at hperm;simp -dsimp[aB,stC];exact q r ys H' hr0 hr' hperm hP hB
def qdn:Sp:=fun vs H Q _=>∃(p l:Addr) (xs:List Str),vs=[.ref p,.ref l]∧oG H p∧l≠p∧H l=some (.lst (xs.map V.str))∧2≤xs.length∧xs.length≤9∧xs.Nodup∧∀t x y H',H t=none→H' t=some (.tup [.str x,.str y])→x∈xs→y∈xs→x≠y→oG H' p→But p H H'→Q (.ref t) H'
theorem qdo (T:Txt K mg a):dG P w K mg base mF 2 a.yD a.JV ["_law_pot_here", "_law_names_here"] qdn:=by
  refine T.X4.tH O9 (fun vs H Q E h=>?_) (fun cdv A outer s H vs Q E hr h=>?_)
  ·obtain⟨p,l,xs,rfl,_⟩:=h;rfl
  · obtain⟨p,l,xs,rfl,hp,hlp,hl,h2,h9,hnd,q⟩:=h;refine⟨_,(aA (bx (i:=2) O9.nd rfl (Or.inl rfl) (PE.eqv (aV (lW (K:=K) T) (hr.mono (by decide)) rfl T.nZ T.mJ.kp T.nY .nil bF (aj (aH 0) (aj (aF (bY (K:=K) rfl) rfl T.nm.len PySem.boot_len (aj (aH 1) aq)) aq))) (aO _ _ _)))
      (aA (bx (i:=3) O9.nd rfl (Or.inl rfl) (dF uR (dF lK (dF lK (aH 2) aL) (PE.eqv (aV (lW (K:=K) T) (hr.mono (by decide)) rfl T.nZ T.mJ.kp T.nY .nil bF (aj (aH 0) (aj (dF yd (aF (bY (K:=K) rfl) rfl T.nm.len PySem.boot_len (aj (aH 1) aq)) aL) aq))) (aO _ _ _))) (aF (bY (K:=K) rfl) rfl T.nm.len PySem.boot_len (aj (aH 1) aq))))
      (aD (aZ (fM (aj (bW (bZ (K:=K) rfl) (aH 1) (aH 2) (fun _ _=>rfl)) (aj (bW (bZ (K:=K) rfl) (aH 1) (aH 3) (fun _ _=>rfl)) aq))))))),?_⟩
    simp -dsimp[aB,stC];refine⟨_,.inl (aX.of hl),p,_,rfl,hp,by simp;omega,by simp;omega,fun d H1 hd0 hd1 X_ Rp=>?_⟩;have hl1:=Rp _ _ hlp hl;simp -dsimp[aB,stC];refine⟨_,.inl (aX.of hl1),p,_,rfl,X_,by simp;omega,by simp;omega,fun e H2 he0 Ve hP2 hB2=>?_⟩;have hl2:=hB2 _ _ hlp hl1;simp only[List.length_map] at hd1 Ve;obtain⟨m0,m1,m2⟩:=qcC hd0 hd1 he0 Ve;obtain⟨vx,ex,ax⟩:=QK (xs:=xs.map V.str) hd0 (by simpa using hd1);obtain⟨vy,ey,ay⟩:=QK (xs:=xs.map V.str) m0 (by simpa using m1);obtain⟨x,ex',rfl⟩:=pL ex;obtain⟨y,ey',rfl⟩:=pL ey;have sl:=aX.of (K:=K) hl2;simp -dsimp[aB,stC];refine⟨_,.inl sl,by simp;omega,_,.inl sl,_,ax,_,.inl sl,_,(by simpa using ay),fun t ht=>?_⟩;refine q t x y _ (oG.none (Rp.trans hB2) hP2 ht) ak (List.mem_of_getElem? ex') (List.mem_of_getElem? ey') (fun z=>?_) (hP2.upd (hP2.ne ht)) ((Rp.trans hB2).same (au ht));subst z;have:=xW hnd ex' ey';omega
def Yb:Sp:=fun vs H Q _=>∃(p:Addr) (m:Nat),vs=[.ref p,.int m]∧oG H p∧1≤m∧m≤9∧∀(r:Addr) (xs:List Str) (H':Hp),H r=none→H' r=some (.lst (xs.map V.str))→Gq xs→xs.length=m→oG H' p→But p H H'→Q (.ref r) H'
theorem Yc (T:Txt K mg a):dG P w K mg base mF 2 a.nj a.yx ["_law_pot_here", "_law_many"] Yb:=by
  refine T.J0.tH mz (fun vs H Q E h=>?_) (fun cdv A outer s H vs Q E hr h=>?_)
  ·obtain⟨p,m,rfl,_⟩:=h;rfl
  · obtain⟨p,m,rfl,hp,h1,h9,q⟩:=h;refine⟨_,(aA (bx (i:=2) mz.nd rfl (Or.inl rfl) gM)
      (aA (bx (i:=3) mz.nd rfl (Or.inl rfl) (PE.eqv (aV (lW (K:=K) T) (hr.mono (by decide)) rfl T.nZ T.mJ.kp T.nY .nil bF (aj (aH 0) (aj aL aq))) (aO _ _ _)))
      (aA (bx (i:=4) mz.nd rfl (Or.inl rfl) (cg aq))
      (aA (iI PassesOwn.never rfl (PI.eqv (uK rfl T.nm.range (aj (aH 1) aq)) (uP _)) (aM (i:=5) mz.nd rfl (Or.inl rfl))
      (aA (bx (i:=6) mz.nd rfl (Or.inl rfl) (bW QZ (aH 2) (dF uR (dF lK (aH 3) (dF Bv aL (aH 5))) aL) (fun _ _=>rfl)))
      (aA (iI PassesOwn.never rfl (PI.eqv (uK rfl T.nm.range (aj (PE.eqv (aV (lW (K:=K) T) (hr.mono (by decide)) rfl T.nZ T.mJ.kp T.nY .nil bF (aj (aH 0) (aj aL aq))) (aO _ _ _)) aq)) (uP _)) (aM (i:=7) mz.nd rfl (Or.inl rfl))
      (aD (bx (i:=6) mz.nd rfl (Or.inl rfl) (dF Lk (aH 6) (bW QZ (aH 2) (PE.eqv (aV (lW (K:=K) T) (hr.mono (by decide)) rfl T.nZ T.mJ.kp T.nY .nil bF (aj (aH 0) (aj aL aq))) (aO _ _ _)) (fun _ _=>rfl))))))
      (aD (eF (jQ (K:=K) rfl PySem.F.plainAttrs_list PySem.F.slot_list_append PySem.F.type_list_append dH (aH 4) (aj (aH 6) aq)))))))
      (aD (aZ (aH 4))))))),?_⟩
    simp -dsimp[aB,stC];refine⟨p,_,rfl,hp,by decide,by decide,fun d H1 hd0 hd1 X_ Rp=>?_⟩;obtain⟨b,rfl,qn7,hbl⟩:=uc hd0 hd1;have hP2:=X_;have hB2:=Rp;simp -dsimp[aB,stC];intro r hr0;refine⟨by omega,frR (fun i σ H'=>∃v8 v9 v10 ws,σ=[some (.ref p),some (.int m),some (.str (Str.ofString "abcdefghijklmnopqrstuvwxyz")),some (.int b),some (.ref r),v8,v9,v10]∧H' r=some (.lst (ws.map V.str))∧ws.length=i∧(∀(j:Nat) x,ws[j]? = some x→∃k,1≤k∧k≤4∧pO (97+(b+5 * j) % 26) k x)∧oG H' p∧But p H H') ⟨none,none,none,[],rfl,ak,rfl,fun j x e=>by simp at e,hP2.upd (hP2.ne hr0),hB2.same (au hr0)⟩ ?_ ?_⟩
    · rintro i σ H' hi ⟨v8,v9,v10,ws,rfl,hr',hl,hw,hP,hB⟩;simp -dsimp[aB,stC];obtain⟨c,hc,qlb,hcl⟩:=uc (i:=((b:Int)+5 * i) % 26) (by omega) (by omega);have hc':c=(b+5 * i) % 26:=by omega
      have pr:r≠p:=fun z=>by subst z;obtain⟨_,_,u,_⟩:=hP2;rw[hr0] at u;cases u
      refine⟨Am,_,hcl,p,_,rfl,hP,by decide,by decide,fun e H3 he0 Ve hP3 hB3=>?_⟩;simp -dsimp[aB,stC];refine⟨by omega,by omega,frR (fun j σ H'=>∃v10 x,σ=[some (.ref p),some (.int m),some (.str (Str.ofString "abcdefghijklmnopqrstuvwxyz")),some (.int b),some (.ref r),some (.int i),some (.str x),v10]∧H' r=some (.lst (ws.map V.str))∧pO (97+c) (j+1) x∧oG H' p∧But p H H') ⟨v10,_,rfl,hB3 _ _ pr hr',pO.one qlb,hP3,hB.trans hB3⟩ ?_ ?_⟩
      ·rintro j σ H4 hj ⟨v10,x,rfl,hr4,hx,T3,Yd⟩;simp -dsimp[aB,stC];refine⟨p,_,rfl,T3,by decide,by decide,fun f H5 hf0 hf1 Nv Y_=>?_⟩;obtain⟨n,rfl,qlc,hnl⟩:=uc hf0 hf1;simp -dsimp[aB,stC,Am,hnl];have hx1:=hx.len;have s20:=of_eq_true Gw;refine⟨?_,_,_,⟨rfl,rfl⟩,Y_ _ _ pr hr4,hx.snoc (by omega) qlc,Nv,Yd.trans Y_⟩;show x.length+1≤sizeLine;omega
      · rintro σ H4 ⟨v10,x,rfl,hr4,hx,T3,Yd⟩;simp -dsimp[aB,stC];have s20:=of_eq_true Gw;refine⟨⟨_,aX.of hr4⟩,_,hr4,by simp;omega,ws++[x],by rw[ak];simp,by simp[hl],fun j y e=>?_,T3.upd pr.symm,Yd.new (oG.none hB2 hP2 hr0)⟩
        by_cases hj:j<ws.length
        ·rw[List.getElem?_append_left hj] at e;exact hw j y e
        · rw[List.getElem?_append_right (by omega)] at e;cases hk:j - ws.length with
          | zero=>
            rw[hk] at e;simp at e;subst e;have ej:j=i:=by omega
            subst ej;exact⟨_,by omega,by omega,hc'▸hx⟩
          | succ k=>
            rw[hk] at e;simp at e
    · rintro σ H' ⟨v8,v9,v10,ws,rfl,hr',hl,hw,hP,hB⟩;simp -dsimp[aB,stC];have nd:ws.Nodup:=by
        unfold List.Nodup;rw[List.pairwise_iff_getElem];intro i j hi hj hij e;obtain⟨k1,_,_,w1⟩:=hw i _ (by simp[hi]:ws[i]? = some ws[i]);obtain⟨k2,_,_,w2⟩:=hw j _ (by simp[hj]:ws[j]? = some ws[j]);have z:=w1.fst;rw[e,w2.fst] at z;simp at z;omega
      refine q r ws H' (oG.none hB2 hP2 hr0) hr' ⟨by omega,fun x hx=>?_,nd⟩ hl hP hB;obtain⟨j,hj,e⟩:=List.mem_iff_getElem.mp hx;obtain⟨k,k1,k4,w⟩:=hw j x (by simp[hj,e]);exact w.name k1 k4
theorem bL.perm {H:Hp} {vs ys:List V} {ps:List (Str×Str)} (h:bL H vs ps) (hp:ys.Perm vs):∃qs:List (Str×Str),bL H ys qs∧qs.Perm ps:=by
  have e1:vs=(vs.zip ps).map (·.1):=by rw[List.map_fst_zip (by rw[h.1];exact Nat.le_refl _)]
  have e2:ps=(vs.zip ps).map (·.2):=by rw[List.map_snd_zip (by rw[h.1];exact Nat.le_refl _)]
  obtain⟨l',pl,e⟩:=xX hp _ e1;refine⟨l'.map (·.2),⟨by rw[e];simp,fun i v d h1 h2=>?_⟩,by rw[e2];exact pl.map _⟩;rw[e,List.getElem?_map] at h1;rw[List.getElem?_map] at h2;cases hz:l'[i]? with
  | none=>rw[hz] at h1;cases h1
  | some z=>
    rw[hz] at h1 h2;cases h1;cases h2;have hm:z∈vs.zip ps:=pl.mem_iff.mp (List.mem_of_getElem? hz);obtain⟨j,hj,ez⟩:=List.mem_iff_getElem.mp hm;have hj':j<vs.length∧j<ps.length:=by
      simp at hj;omega
    simp at ez;subst ez;exact h.2 j _ _ (by simp[hj'.1]) (by simp[hj'.2])
theorem bL.at {H:Hp} {vs:List V} {ps:List (Str×Str)} (h:bL H vs ps) {i:Nat} {v:V} (hv:vs[i]? = some v):∃e,ps[i]? = some e∧∃t,v = .ref t∧H t=some (.tup [.str e.1,.str e.2]):=by
  have hi:i<ps.length:=by rw[← h.1];exact(List.getElem?_eq_some_iff.mp hv).1
  exact⟨ps[i],by simp[hi],h.2 i v _ hv (by simp[hi])⟩
theorem bL.but {p:Addr} {H H':Hp} {vs:List V} {ps:List (Str×Str)} (h:bL H vs ps) (hp:oG H p) (b:But p H H'):bL H' vs ps:=h.keep fun c xs e=>b c _ (fun z=>by
  subst z;obtain⟨_,_,u,_⟩:=hp;rw[e] at u;cases u) e
theorem bL.same {H H':Hp} {vs:List V} {ps:List (Str×Str)} (h:bL H vs ps) (b:Same H H'):bL H' vs ps:=h.keep fun c xs e=>b c _ e
theorem oG.nl {p q:Addr} {H:Hp} (x:oG H p) (h:H q = .none):q≠p:=fun z=>(x.ne h) z.symm
def qdp:Sp:=fun vs H Q _=>∃(p:Addr) (m k:Nat),vs=[.ref p,.int m,.int k]∧oG H p∧1≤m∧m≤9∧m≤k∧k≤20∧∀(t n l:Addr) (xs:List Str) (tv:List V) (ps:List (Str×Str)) (H':Hp),
  H t=none→H n=none→H l=none→H' t=some (.tup [.ref n,.ref l])→H' n=some (.lst (xs.map V.str))→H' l=some (.lst tv)→bL H' tv ps→Gq xs→jF xs ps→xs.length≤m→ps.length≤k→oG H' p→But p H H'→Q (.ref t) H'
theorem qdq (T:Txt K mg a):dG P w K mg base mF 3 a.yE a.JW ["_law_pot_here", "_law_points", "_law_most"] qdp:=by
  refine T.X5.tH rC (fun vs H Q E h=>?_) (fun cdv A outer s H vs Q E hr h=>?_)
  ·obtain⟨p,m,k,rfl,_⟩:=h;rfl
  · obtain⟨p,m,k,rfl,hp,h1,h9,hmk,hk,q⟩:=h;refine⟨_,(aA (bx (i:=3) rC.nd rfl (Or.inl rfl) (PE.eqv (aV (Yc (K:=K) T) (hr.mono (by decide)) rfl T.Ri T.J0.kp T.Rh .nil bF (aj (aH 0) (aj (dF lK aL (PE.eqv (aV (lW (K:=K) T) (hr.mono (by decide)) rfl T.nZ T.mJ.kp T.nY .nil bF (aj (aH 0) (aj (aH 1) aq))) (aO _ _ _))) aq))) (aO _ _ _)))
      (aA (bx (i:=4) rC.nd rfl (Or.inl rfl) (PE.eqv (aV (lW (K:=K) T) (hr.mono (by decide)) rfl T.nZ T.mJ.kp T.nY .nil bF (aj (aH 0) (aj aL aq))) (aO _ _ _)))
      (aA (bx (i:=5) rC.nd rfl (Or.inl rfl) (cg aq))
      (aA (cO (aW vY (aF (bY (K:=K) rfl) rfl T.nm.len PySem.boot_len (aj (aH 3) aq)) aL (bO _)) (aA (bx (i:=6) rC.nd rfl (Or.inr rfl) (PE.eqv (aV (Mr (K:=K) T) (hr.mono (by decide)) rfl T.J2 T.BX.kp T.J1 .nil bF (aj (aH 0) (aj (aH 3) aq))) (aO _ _ _)))
      (aA (cO (aW vY (aH 4) aL (bO _)) (aD (jC (i:=5) rC.nd rfl rfl rfl rfl (show aY (ao tD) _ ["_law_pot_here", "_law_points", "_law_most", "_law_names_here", "_law_kind", "_law_ties", "_law_row", "_law_k", "_law_turns"] ["_law_k"] [6] ["_law_k", "_law_row"] from⟨rfl,by decide+kernel,by decide+kernel,rfl,by decide+kernel,by decide+kernel⟩) rfl (PI.eqv (RQ rfl T.nm.range (aj (eE Oz rfl T.nm.int zc (aj (eG jD (aH 4) aL (bO _)) aq)) (aj (aF (bY (K:=K) rfl) rfl T.nm.len PySem.boot_len (aj (aH 6) aq)) aq))) (Tq _)) (fun C s H fp pn=>(aM (i:=0) (show(["_law_k", "_law_row"]:List Str).Nodup by decide+kernel) rfl (Or.inl rfl))) (fun C s H fp pn=>fP) (fun C s H fp pn=>(fM (aj (bW (bZ (K:=K) rfl) (aH 1) (dF yd (aH 0) aL) (fun _ _=>rfl)) (aj (bW (bZ (K:=K) rfl) (aH 1) (aH 0) (fun _ _=>rfl)) aq)))))) bH)
      (aD (iI PassesOwn.never rfl (PI.eqv (uK rfl T.nm.range (aj (PE.eqv (aV (lW (K:=K) T) (hr.mono (by decide)) rfl T.nZ T.mJ.kp T.nY .nil bF (aj (aH 0) (aj (dF lK (dF yd (aH 2) (aF (bY (K:=K) rfl) rfl T.nm.len PySem.boot_len (aj (aH 5) aq))) aL) aq))) (aO _ _ _)) aq)) (uP _)) (aM (i:=7) rC.nd rfl (Or.inl rfl))
      (aD (eF (jQ (K:=K) rfl PySem.F.plainAttrs_list PySem.F.slot_list_append PySem.F.type_list_append dH (aH 5) (aj (PE.eqv (aV (qdo (K:=K) T) (hr.mono (by decide)) rfl T.qbB T.X4.kp T.qbA .nil bF (aj (aH 0) (aj (aH 3) aq))) (aO _ _ _)) aq)))))))) bH)
      (aA (jC (i:=8) rC.nd rfl rfl rfl rfl (show aY (ao tD) _ ["_law_pot_here", "_law_points", "_law_most", "_law_names_here", "_law_kind", "_law_ties", "_law_row", "_law_k", "_law_turns"] ["_law_tie_here"] [0] ["_law_tie_here", "_law_pot_here"] from⟨rfl,by decide+kernel,by decide+kernel,rfl,by decide+kernel,by decide+kernel⟩) rfl (PI.eqv (cu (K:=K) rfl (aH 5)) (bU _ _)) (fun C s H fp pn=>(aM (i:=0) (show(["_law_tie_here", "_law_pot_here"]:List Str).Nodup by decide+kernel) rfl (Or.inl rfl))) (fun C s H fp pn=>fP) (fun C s H fp pn=>(PE.eqv (aV (lW (K:=K) T) (hr.mono (by decide)) rfl T.nZ T.mJ.kp T.nY .nil bF (aj (aH 1) (aj aL aq))) (aO _ _ _))))
      (aA (jC (i:=5) rC.nd rfl rfl rfl rfl (show aY (ao tD) _ ["_law_pot_here", "_law_points", "_law_most", "_law_names_here", "_law_kind", "_law_ties", "_law_row", "_law_k", "_law_turns"] ["_law_turn", "_law_a", "_law_b"] [] ["_law_turn", "_law_a", "_law_b"] from⟨rfl,by decide+kernel,by decide+kernel,rfl,by decide+kernel,by decide+kernel⟩) rfl (PI.eqv (Z9 (K:=K) rfl rfl T.nm.zip (aj (aH 5) (aj (aH 8) aq))) (Xe _ _)) (fun C s H fp pn=>(PG.eqv (cW (K:=K) (n:=2) rfl rfl (fL.eqv (aQ (PG.eqv (cW (K:=K) (n:=2) rfl rfl (fL.eqv (aQ (aM (i:=1) (show(["_law_turn", "_law_a", "_law_b"]:List Str).Nodup by decide+kernel) rfl (Or.inl rfl)) (fL.eqv (aQ (aM (i:=2) (show(["_law_turn", "_law_a", "_law_b"]:List Str).Nodup by decide+kernel) rfl (Or.inl rfl)) (fL.mono cF d8)) (aR _ _))) (aR _ _))) (cX _ _ _)) (fL.eqv (aQ (aM (i:=0) (show(["_law_turn", "_law_a", "_law_b"]:List Str).Nodup by decide+kernel) rfl (Or.inl rfl)) (fL.mono cF d8)) (aR _ _))) (aR _ _))) (cX _ _ _))) (fun C s H fp pn=>fP) (fun C s H fp pn=>(bW (bZ (K:=K) rfl) (cg (aj (fM (aj (aH 1) (aj (aH 2) aq))) (aj (fM (aj (aH 2) (aj (aH 1) aq))) aq))) (aH 0) (fun _ _=>rfl))))
      (aD (aZ (fM (aj (aH 3) (aj (PE.eqv (aV (Mr (K:=K) T) (hr.mono (by decide)) rfl T.J2 T.BX.kp T.J1 .nil bF (aj (aH 0) (aj (aH 5) aq))) (aO _ _ _)) aq))))))))))),?_⟩
    left;refine⟨p,_,rfl,hp,qk1 h1,zlt h9 (by decide),fun d H1 hd0 hd1 X_ Rp=>?_⟩;left;refine⟨p,d.toNat+1,?_,X_,Nat.le_add_left 1 _,ztn hd0 hd1 h9,fun n xs H2 hn hn2 hX hxl hP2 hB2'=>?_⟩
    ·simp;exact qk3 hd0 1
    have hxm:xs.length≤m:=by rw[hxl];exact ztn hd0 hd1 (Nat.le_refl m)
    have hx9:=Nat.le_trans hxm h9;have hB2:=Rp.trans hB2';left;refine⟨p,_,rfl,hP2,by decide,by decide,fun kd H3 hk0 hk1 hP3 qf1=>?_⟩;have hB3:=hB2.trans qf1;have np:n≠p:=fun z=>by subst z;obtain⟨_,_,u,_⟩:=X_;rw[hn] at u;cases u
    have hn3:=qf1 _ _ np hn2;left;refine fun L hL=>⟨_,.inl (aX.of (bG hn3 hL)),C_ (fun σ H4=>∃v6 v7 L tv ps,σ=[some (.ref p),some (.int m),some (.int k),some (.ref n),some (.int kd),some (.ref L),v6,v7,none]∧H L=none∧H4 L=some (.lst tv)∧bL H4 tv ps∧jF xs ps∧ps.length≤k∧H4 n=some (.lst (xs.map V.str))∧oG H4 p∧But p H H4) ?_ ?_⟩
    · rintro σ H4 ⟨v6,v7,L,tv,ps,rfl,hL0,Ig,htv,hts,hpk,hn4,T3,Yd⟩;left;have Lp:L≠p:=hp.nl hL0;have Pu:tv.length≤20:=by rw[htv.1];exact Nat.le_trans hpk hk
      have s20:=of_eq_true Gw;refine⟨⟨_,aX.of Ig⟩,fun D hD=>Nt tv (fun i σ H'=>∃v ds,σ=[v,some (.ref p)]∧H' D=some (.lst (ds.map V.int))∧ds.length=i∧(∀d∈ds,0≤d∧d<2)∧H' L=some (.lst tv)∧bL H' tv ps∧H' n=some (.lst (xs.map V.str))∧oG H' p∧But p H H') ⟨none,[],rfl,ak,rfl,by simp,bG Ig hD,htv.same (au hD),bG hn4 hD,T3.upd (T3.ne hD),Yd.same (au hD)⟩ (fun i σ H' _ h=>by
        obtain⟨_,_,_,_,_,_,z,_⟩:=h;exact aX.of z) ?_ ?_⟩
      · rintro i x σ H5 hi ⟨v,ds,rfl,Es,hl,hds,Za,qdr,hn5,Nv,Y_⟩;have hi2:i<tv.length:=(List.getElem?_eq_some_iff.mp hi).1;left;refine⟨p,_,rfl,Nv,by decide,by decide,fun d H6 hd0 hd1 hP6 Vf=>?_⟩;have Dp:D≠p:=T3.nl hD;have LD:L≠D:=aP Ig hD;have nD:n≠D:=aP hn4 hD;have hD6:=Vf _ _ Dp Es;left;refine⟨_,hD6,by rw[List.length_map,hl];exact zsz hi2 Pu,ds++[d],by rw[ak];simp,by simp[hl],?_,by rw[aC LD];exact Vf _ _ Lp Za,(qdr.but Nv Vf).keep (fun c zs e=>mY e hD6 (by intro z;cases z)),by rw[aC nD];exact Vf _ _ np hn5,hP6.upd (Dp.symm),(Y_.trans Vf).new (oG.none Yd T3 hD)⟩;intro z hz
        rcases List.mem_append.mp hz with y | y
        ·exact hds z y
        ·simp at y;subst y;exact⟨hd0,hd1⟩
      · rintro σ H5 ⟨v,ds,rfl,Es,hl,hds,Za,qdr,hn5,Nv,Y_⟩;left;have hD0:=oG.none Yd T3 hD;have LD:L≠D:=aP Ig hD;refine⟨⟨_,aX.of Za⟩,⟨_,aX.of Es⟩,fun D2 hD2=>cmZ tv (ds.map V.int) (fun i σ H'=>(∃o1 o2 o3,σ=[o1,o2,o3])∧∃tvs qs,H' D2=some (.lst tvs)∧bL H' tvs qs∧qs.length=i∧(∀e∈qs,e.1∈xs∧e.2∈xs∧e.1≠e.2)∧H' L=some (.lst tv)∧H' D=some (.lst (ds.map V.int))∧bL H' tv ps∧H' n=some (.lst (xs.map V.str))∧oG H' p∧But p H H') ⟨⟨_,_,_,rfl⟩,[],[],ak,⟨rfl,by simp⟩,rfl,by simp,bG Za hD2,bG Es hD2,qdr.same (au hD2),bG hn5 hD2,Nv.upd (Nv.ne hD2),Y_.same (au hD2)⟩ (by simp[hl]) (fun i σ H' _ h=>by
          obtain⟨_,_,_,_,_,_,_,z1,z2,_⟩:=h;exact⟨aX.of z1,aX.of z2⟩) ?_ ?_⟩
        · rintro i x y t σ H6 hx hy ht ⟨⟨o1,o2,o3,rfl⟩,tvs,qs,qds,GJ,hql,hqs,hL6,hD6,qdt,hn6,hP6,Vf⟩;left;obtain⟨e,he,tt,rfl,htt⟩:=qdt.at hx;have hi2:i<tv.length:=(List.getElem?_eq_some_iff.mp hx).1;have hem:=List.mem_of_getElem? he;rw[List.getElem?_map] at hy;obtain⟨d,hd,rfl⟩:∃d,ds[i]? = some d∧y = .int d:=by
            cases z:ds[i]? with
            | none=>rw[z] at hy;cases hy
            | some d=>rw[z] at hy;exact⟨d,rfl,(Option.some.inj hy).symm⟩
          have hd2:=hds d (List.mem_of_getElem? hd);refine⟨_,d9.of ak,rfl,_,d9.of (bG htt ht),rfl,?_⟩;left;refine fun p1 h1 p2 h2 p3 h3=>⟨_,.inl (aX.of ak),?_⟩;have hp1:=bG (u:=HO.lst [V.ref p1,V.ref p2]) (bG (u:=HO.tup [.str e.2,.str e.1]) (ak (H:=upd H6 t (HO.tup [V.ref tt,V.int d])) (a:=p1) (o:=HO.tup [.str e.1,.str e.2])) h2) h3;have hp2:=bG (u:=HO.lst [V.ref p1,V.ref p2]) (ak (H:=upd (upd H6 t (HO.tup [V.ref tt,V.int d])) p1 (HO.tup [.str e.1,.str e.2])) (a:=p2) (o:=HO.tup [.str e.2,.str e.1])) h3;have sm:=(((au (o:=HO.tup [V.ref tt,V.int d]) ht).trans (au (o:=HO.tup [.str e.1,.str e.2]) h1)).trans (au (o:=HO.tup [.str e.2,.str e.1]) h2)).trans (au (o:=HO.lst [V.ref p1,V.ref p2]) h3);generalize upd (upd (upd (upd H6 t (HO.tup [V.ref tt,V.int d])) p1 (HO.tup [.str e.1,.str e.2])) p2 (HO.tup [.str e.2,.str e.1])) p3 (HO.lst [V.ref p1,V.ref p2])=H9 at hp1 hp2 sm ⊢;have key:∃(pp:Addr) (e':Str×Str),xK [V.ref p1,V.ref p2] d=some (.ref pp)∧H9 pp=some (.tup [.str e'.1,.str e'.2])∧e'.1∈xs∧e'.2∈xs∧e'.1≠e'.2:=by
            have ⟨q1,q2,q3⟩:=hts.ok e hem;have:d=0∨d=1:=z01 hd2.1 hd2.2
            rcases this with rfl | rfl
            ·exact⟨p1,e,rfl,hp1,q1,q2,q3⟩
            ·exact⟨p2,(e.2,e.1),rfl,hp2,q2,q1,Ne.symm q3⟩
          obtain⟨pp,e',a1,hpp,k1,k2,k3⟩:=key;have D2n:=hD2;have D2p:D2≠p:=Nv.nl hD2;have LD2:L≠D2:=aP Za hD2;have DD2:D≠D2:=aP Es hD2;have nD2:n≠D2:=aP hn5 hD2;have qf2:=sm _ _ qds;have kp:dD H9 (upd H9 D2 (.lst (tvs++[.ref pp]))):=fun c zs e=>mY e qf2 (by intro z;cases z);have hP9:oG H9 p:=by
            obtain⟨u1,u2,u3,u4⟩:=hP6;exact⟨u1,u2,sm _ _ u3,u4⟩
          refine⟨_,a1,_,qf2,?_,_,ak,qs++[e'],((GJ.same sm).keep kp).snoc (kp _ _ hpp),by simp[hql],?_,by rw[aC LD2];exact sm _ _ hL6,by rw[aC DD2];exact sm _ _ hD6,(qdt.same sm).keep kp,by rw[aC nD2];exact sm _ _ hn6,hP9.upd D2p.symm,(Vf.same sm).new (oG.none Y_ Nv hD2)⟩
          ·rw[GJ.1,hql];exact zsz hi2 Pu
          · intro z hz
            rcases List.mem_append.mp hz with y | y
            ·exact hqs z y
            ·simp at y;subst y;exact⟨k1,k2,k3⟩
        · rintro σ H6 ⟨⟨o1,o2,o3,rfl⟩,tvs,qs,qds,GJ,hql,hqs,hL6,hD6,qdt,hn6,hP6,Vf⟩;left;have D2p:D2≠p:=Nv.nl hD2;have qn8:=oG.none Y_ Nv hD2;have tl:tvs.length=tv.length:=by rw[GJ.1,hql]
          refine⟨p,D2,_,rfl,hP6,D2p,qds,by rw[tl];exact Nat.le_trans Pu (by decide),fun l ys H7 hl0 hl7 hperm hP7 hB7=>?_⟩;left;intro t ht;obtain⟨rs,hrs,hrp⟩:=(GJ.but hP6 hB7).perm hperm;refine q t n l xs ys rs _ (oG.none (Vf.trans hB7) hP7 ht) (oG.none Rp X_ hn) (oG.none Vf hP6 hl0) ak (bG (hB7 _ _ np hn6) ht) (bG hl7 ht) (hrs.same (au ht)) hX ⟨?_,fun e he=>hqs e (hrp.mem_iff.mp he)⟩ hxm ?_ (hP7.upd (hP7.ne ht)) ((Vf.trans hB7).same (au ht))
          ·rw[hrp.length_eq,hql];exact Pu
          ·rw[hrp.length_eq,hql,htv.1];exact hpk
    · intro N hN;refine dI.of (fun h=>?_) (fun h=>?_)
      · left;have hx2:2≤xs.length:=by simp at h;exact z2 h
        have qf3:upd H3 L (.lst []) n=some (.lst (xs.map V.str)):=bG hn3 hL;refine⟨p,n,_,rfl,hP3.upd (hP3.ne hL),np,qf3,by rw[List.length_map];exact Nat.le_trans hx9 (by decide),fun rw ys H4 hrw qf4 hperm T3 qdu=>?_⟩;have Yd:=(hB3.same (au hL)).trans qdu;obtain⟨zs,hzp,rfl⟩:=xX hperm xs rfl;have hzl:zs.length=xs.length:=hzp.length_eq;have qf5:zs.Nodup:=hzp.nodup_iff.mpr hX.nd;have hn4:=qdu _ _ np qf3;have Ig:H4 L=some (.lst []):=qdu _ _ (hP3.nl hL) ak;have hL0:=oG.none hB3 hP3 hL;left;refine C_ (fun σ H5=>∃v6 v7 L tv ps,σ=[some (.ref p),some (.int m),some (.int k),some (.ref n),some (.int kd),some (.ref L),v6,v7,none]∧H L=none∧H5 L=some (.lst tv)∧bL H5 tv ps∧jF xs ps∧ps.length≤m∧H5 n=some (.lst (xs.map V.str))∧oG H5 p∧But p H H5) ?_ ?_
        · rintro σ H5 ⟨v6,v7,L,tv,ps,rfl,hL0,Za,htv,hts,hpm,hn5,Nv,Y_⟩;left;have Lp:L≠p:=hp.nl hL0;have Pu:tv.length=ps.length:=htv.1;have s20:=of_eq_true Gw;have htk:tv.length≤k:=by rw[Pu];exact Nat.le_trans hpm hmk
          refine⟨_,.inl (aX.of Za),p,_,rfl,Nv,zk1 htk,zk2 hk (by decide),fun f H6 hf0 hf1 hP6 qaJ=>?_⟩;left;refine⟨zlo hf0,Int.lt_trans hf1 (zk2 hk (by decide)),frR (fun i σ H7=>∃v7 tv ps,σ=[some (.ref p),some (.int m),some (.int k),some (.ref n),some (.int kd),some (.ref L),v6,v7,none]∧H7 L=some (.lst tv)∧bL H7 tv ps∧jF xs ps∧ps.length+f.toNat≤k+i∧H7 n=some (.lst (xs.map V.str))∧oG H7 p∧But p H H7) ⟨v7,tv,ps,rfl,qaJ _ _ Lp Za,htv.but Nv qaJ,hts,zk3 hf0 hf1 Pu,qaJ _ _ np hn5,hP6,Y_.trans qaJ⟩ ?_ ?_⟩
          · rintro i σ H7 hi ⟨v7,tv,ps,rfl,Vg,Ms,qdv,hpl,hn7,hP7,hB7⟩;left;refine⟨⟨_,aX.of Vg⟩,p,n,xs,rfl,hP7,np,hn7,hx2,hx9,hX.nd,fun t x y H8 ht ht8 hx hy hxy hP8 hB8=>?_⟩;left;have hL8:=hB8 _ _ Lp Vg;have hl7:=Ms.1;have kp:dD H8 (upd H8 L (.lst (tv++[.ref t]))):=fun c zs e=>mY e hL8 (by intro z;cases z);have nL:n≠L:=fun z=>by subst z;rw[oG.none Rp X_ hn] at hL0;rw[hn7] at Vg;cases tv with
              | nil=>simp at Vg;rw[Vg] at hx2;simp at hx2
              | cons v tv=>
                obtain⟨e,_,u,rfl,_⟩:=Ms.at (i:=0) rfl;cases xs with
                | nil=>simp at hx2
                | cons x xs=>simp at Vg
            refine⟨_,hL8,zk4 hl7 hpl hi hk,_,ak,ps++[(x,y)],((Ms.but hP7 hB8).keep kp).snoc (kp _ _ ht8),⟨by rw[List.length_append];exact Nat.succ_le_succ (zk5 hpl hi hk),?_⟩,by rw[List.length_append];exact zk6 hpl,by rw[aC nL];exact hB8 _ _ np hn7,hP8.upd Lp.symm,(hB7.trans hB8).new hL0⟩;intro e he
            rcases List.mem_append.mp he with z | z
            ·exact qdv.ok e z
            ·simp at z;subst z;exact⟨hx,hy,hxy⟩
          ·rintro σ H7 ⟨v7,tv,ps,rfl,Vg,Ms,qdv,hpl,hn7,hP7,hB7⟩;left;exact hN _ _ ⟨_,_,L,tv,ps,rfl,hL0,Vg,Ms,qdv,zk7 hpl,hn7,hP7,hB7⟩
        · intro N2 hN2;refine dI.of (fun h=>?_) (fun h=>?_)
          · left;obtain⟨lo,hlo,lo1⟩:∃lo:Nat,(if kd=3 then (1:Int) else 0)=lo∧lo≤1:=by
              split
              ·exact⟨1,rfl,Nat.le_refl _⟩
              ·exact⟨0,rfl,by decide⟩
            simp only[hlo];have s20:=of_eq_true Gw;refine⟨_,.inl (aX.of qf4),⟨qk2,zlt lo1 (by decide),zlt (by rw[List.length_map,hzl];exact hx9) (by decide)⟩,fun D hD=>cmR (fun i σ H5=>(∃o,σ=[o,some (.ref rw)])∧∃tvs qs,H5 D=some (.lst tvs)∧bL H5 tvs qs∧qs.length=i∧(∀e∈qs,e.1∈xs∧e.2∈xs∧e.1≠e.2)∧Same H4 H5) ⟨⟨_,rfl⟩,[],[],ak,⟨rfl,by simp⟩,rfl,by simp,au hD⟩ ?_ ?_⟩
            · rintro i σ H5 hi ⟨⟨o,rfl⟩,tvs,qs,Es,GJ,hql,hqs,sm⟩;have hk:lo+i<zs.length:=by simp at hi;exact qk4 hi
              obtain⟨j,vx,hj,ex,ax⟩:=Ws (xs:=zs.map V.str) (k:=lo+i) (by rw[List.length_map,hzl];exact hx2) (by simpa using hk);obtain⟨x,ex',rfl⟩:=pL ex;have ey':zs[lo+i]? = some (zs[lo+i]'hk):=by simp[hk]
              have ay:xK (zs.map V.str) ((lo+i:Nat):Int)=some (.str (zs[lo+i]'hk)):=bD (by rw[List.getElem?_map,ey'];rfl);have c1:((lo+i:Nat):Int)=(lo:Int)+i:=Int.natCast_add ..;rw[c1] at ax ay;have sl:=aX.of (K:=K) (sm _ _ qf4);left;refine⟨_,.inl sl,_,ax,_,.inl sl,_,ay,fun pt hpt=>?_⟩;have Dpt:=aP Es hpt;have hD6:upd H5 pt (.tup [.str x,.str (zs[lo+i]'hk)]) D=some (.lst tvs):=bG Es hpt;have kp:dD (upd H5 pt (.tup [.str x,.str (zs[lo+i]'hk)])) (upd (upd H5 pt (.tup [.str x,.str (zs[lo+i]'hk)])) D (.lst (tvs++[.ref pt]))):=fun c zs e=>mY e hD6 (by intro z;cases z);have hl:=GJ.1;refine⟨_,hD6,by rw[hl,hql];exact zsz (Nat.lt_of_le_of_lt (Nat.le_add_left i lo) hk) (by rw[hzl];exact Nat.le_trans hx9 (by decide)),_,ak,qs++[(x,zs[lo+i]'hk)],((GJ.same (au hpt)).keep kp).snoc (kp _ _ ak),by simp[hql],?_,bA (sm.trans (au hpt)) hD⟩;intro e he
              rcases List.mem_append.mp he with z | z
              ·exact hqs e z
              ·simp at z;subst z;refine⟨hzp.mem_iff.mp (List.mem_of_getElem? ex'),hzp.mem_iff.mp (List.mem_of_getElem? ey'),fun z=>hj ?_⟩;simp only at z;rw[← z] at ey';exact xW qf5 ex' ey'
            · rintro σ H5 ⟨⟨o,rfl⟩,tvs,qs,Es,GJ,hql,hqs,sm⟩;left;simp at hql;have hqm:qs.length≤m:=by rw[hql,hzl];exact Nat.le_trans (Nat.sub_le ..) hxm
              have Nv:oG H5 p:=by
                obtain⟨u1,u2,u3,u4⟩:=T3;exact⟨u1,u2,sm _ _ u3,u4⟩
              exact hN2 _ _ ⟨_,_,D,tvs,qs,rfl,oG.none Yd T3 hD,Es,GJ,⟨Nat.le_trans hqm (Nat.le_trans h9 (by decide)),hqs⟩,hqm,sm _ _ hn4,Nv,Yd.same sm⟩
          ·left;exact hN2 _ _ ⟨_,_,L,[],[],rfl,hL0,Ig,⟨rfl,by simp⟩,⟨by simp,by simp⟩,by simp,hn4,T3,Yd⟩
      ·left;exact hN _ _ ⟨_,_,L,[],[],rfl,oG.none hB3 hP3 hL,ak,⟨rfl,by simp⟩,⟨by simp,by simp⟩,by simp,bG hn3 hL,hP3.upd (hP3.ne hL),hB3.same (au hL)⟩
theorem qf6 {m:Str} {u v:V} (h1:¬m = "names") (h2:¬m = "pairs"):∀p∈([("names",u),("pairs",v)]:List (Str×V)),¬m=p.1:=fun p hp=>by
  simp at hp
  rcases hp with rfl | rfl
  ·exact h1
  ·exact h2
theorem iu.same {C:Addr} {H H':Hp} {o:Addr} {xs:List Str} {ps:List (Str×Str)} (h:iu C H o xs ps) (s:Same H H'):iu C H' o xs ps:=by
  obtain⟨dx,n,m,tv,h1,h2,h3,h4,h5⟩:=h.ex;exact⟨⟨dx,n,m,tv,s _ _ h1,s _ _ h2,s _ _ h3,bL.same h4 s,h5⟩⟩
theorem iu.ins {C:Addr} {H:Hp} {o:Addr} {xs:List Str} {ps:List (Str×Str)} (h:iu C H o xs ps) {m:Str} (h1:¬m = "names") (h2:¬m = "pairs"):∃dx fs,H o=some (.ins C dx fs)∧∀p∈fs,¬m=p.1:=by
  obtain⟨dx,n,mm,tv,e,_⟩:=h.ex;exact⟨dx,_,e,qf6 h1 h2⟩
theorem pF:¬(("ties" : Str) = "names")∧¬(("ties" : Str) = "pairs"):=by decide+kernel
theorem iB:¬(("points" : Str) = "names")∧¬(("points" : Str) = "pairs"):=by decide+kernel
theorem B_:¬(("many" : Str) = "names")∧¬(("many" : Str) = "pairs"):=by decide+kernel
def Et (C:Addr):Sp:=fun vs H Q _=>∃o d xs ps fx,vs=[.ref o,.ref d]∧iu C H o xs ps∧qbf H d fx∧∀l tv H',H l=none→H' l=some (.lst tv)→eU H' tv (aN fx ps 0)→tv.length≤40→Same H H'→Q (.ref l) H'
theorem n_ (T:Txt K mg a):dG P w K mg base mF 2 a.dW a.jV ["web", "fixed"] (Et a.cj):=by
  refine T.jx.tH iM (fun vs H Q E h=>?_) (fun cdv A outer s H vs Q E hr h=>?_)
  ·obtain⟨o,d,xs,ps,fx,rfl,_⟩:=h;rfl
  · obtain⟨o,d,xs,ps,fx,rfl,hw,hfx,q⟩:=h;refine⟨_,(aA (bx (i:=2) iM.nd rfl (Or.inl rfl) (cg aq))
      (aA (iI PassesOwn.never rfl (PI.eqv (Bs (K:=K) rfl rfl T.XM.enumerate (aj (PE.eqv (g8 (aH 0) T.kI T.n6 (pD (K:=K) T) (hr.mono (by decide)) T.nU .nil bF) (h_ _ _ _ _ _ _)) aq)) (uQ _ _)) (PG.eqv (cW (K:=K) (n:=2) rfl rfl (fL.eqv (aQ (aM (i:=3) iM.nd rfl (Or.inl rfl)) (fL.eqv (aQ (PG.eqv (cW (K:=K) (n:=2) rfl rfl (fL.eqv (aQ (aM (i:=4) iM.nd rfl (Or.inl rfl)) (fL.eqv (aQ (aM (i:=5) iM.nd rfl (Or.inl rfl)) (fL.mono cF d8)) (aR _ _))) (aR _ _))) (cX _ _ _)) (fL.mono cF d8)) (aR _ _))) (aR _ _))) (cX _ _ _))
      (aA (cO (aW jD (PE.eqv (K_ (Aj hr) (aH 1) (aH 3) aL ⟨rfl,rfl,rfl,rfl⟩) (Hx _ _ _)) aL (bO _)) (aD (eF (jQ (K:=K) rfl PySem.F.plainAttrs_list PySem.F.slot_list_append PySem.F.type_list_append dH (aH 2) (aj (fM (aj (aH 3) (aj (aH 4) (aj (aH 5) aq)))) aq)))) bH)
      (aD (cO (aW jD (PE.eqv (K_ (Aj hr) (aH 1) (aH 3) aL ⟨rfl,rfl,rfl,rfl⟩) (Hx _ _ _)) aL (bO _)) (aD (eF (jQ (K:=K) rfl PySem.F.plainAttrs_list PySem.F.slot_list_append PySem.F.type_list_append dH (aH 2) (aj (fM (aj (aH 3) (aj (aH 5) (aj (aH 4) aq)))) aq)))) bH))))
      (aD (aZ (aH 2))))),?_⟩
    obtain⟨dx,fs,hi,hno⟩:=hw.ins pF.1 pF.2;obtain⟨_,_,_,_,_,_,_,_,Er⟩:=hw.ex;left;intro L hL;refine⟨_,_,bG hi hL,hno,o,xs,ps,rfl,hw.same (au hL),fun l2 Bg hl2 T_=>?_⟩;have sa:Same H (upd (upd H L (.lst [])) l2 (.lst Bg)):=(au hL).trans (au hl2);have eL:upd (upd H L (.lst [])) l2 (.lst Bg) L=some (.lst []):=bG ak hl2;have e2:upd (upd H L (.lst [])) l2 (.lst Bg) l2=some (.lst Bg):=ak;have Kc:=bL.same T_ (au (o:=HO.lst Bg) hl2);have L2n:L≠l2:=fun z=>by subst z;rw[ak] at hl2;cases hl2
    generalize upd (upd H L (.lst [])) l2 (.lst Bg)=H1 at sa eL e2 Kc ⊢;obtain⟨kvs,hd,hv⟩:=hfx;have dL:d≠L:=aP hd hL;left;refine⟨⟨_,aX.of e2⟩,frE Bg (fun i σ H'=>(∃v3 v4 v5 sv,σ=[some (.ref o),some (.ref d),some (.ref L),v3,v4,v5]∧H' L=some (.lst sv)∧eU H' sv (aN fx (ps.take i) 0)∧sv.length≤2 * i)∧H' l2=some (.lst Bg)∧bL H' Bg ps∧Same H H') ⟨⟨_,_,_,[],rfl,eL,bN.nil,by simp⟩,e2,Kc,sa⟩ (fun i σ H' _ h=>aX.of h.2.1) ?_ ?_⟩
    · rintro i x t σ H2 hi ht ⟨⟨v3,v4,v5,sv,rfl,hL2,hsv,hsl⟩,qf7,htv,s2⟩;have hi2:i<Bg.length:=(List.getElem?_eq_some_iff.mp hi).1;have tl:=htv.1;obtain⟨e,he,tt,rfl,htt⟩:=htv.at hi;rw[Js fx he];unfold zu;left;have st:Same H2 (upd H2 t (.tup [.int i,.ref tt])):=au ht;refine⟨_,d9.of ak,rfl,_,d9.of (st _ _ htt),rfl,isD (st _ _ (s2 _ _ hd)),_,qfq i (st _ _ (s2 _ _ hd)),?_⟩;have tL:L≠t:=aP hL2 ht;have Mt:=st _ _ hL2;have GK:=st _ _ qf7;have Kc:=bL.same htv st;have s3:=s2.trans st;have qdw:=eU.keep hsv (L2.dD.of st);generalize upd H2 t (.tup [.int i,.ref tt])=H3 at Mt GK Kc s3 qdw ⊢;have s60:60≤sizeLine:=by decide
      have add:∀(H3:Hp) (sv:List V) (S:List kE) (n:Nat) (x y:Str) (b:Addr),H3 L=some (.lst sv)→eU H3 sv S→H3 b=none→H3 l2=some (.lst Bg)→bL H3 Bg ps→Same H H3→
          (upd (upd H3 b (.tup [.int n,.str x,.str y])) L (.lst (sv++[.ref b])) L=some (.lst (sv++[.ref b]))∧eU (upd (upd H3 b (.tup [.int n,.str x,.str y])) L (.lst (sv++[.ref b]))) (sv++[.ref b]) (S++[(n,x,y)]))∧upd (upd H3 b (.tup [.int n,.str x,.str y])) L (.lst (sv++[.ref b])) l2=some (.lst Bg)∧bL (upd (upd H3 b (.tup [.int n,.str x,.str y])) L (.lst (sv++[.ref b]))) Bg ps∧Same H (upd (upd H3 b (.tup [.int n,.str x,.str y])) L (.lst (sv++[.ref b]))):=by
        intro H3 sv S n x y b Mt hsv hb hl2 htv s3;have sb:Same H3 (upd H3 b (.tup [.int n,.str x,.str y])):=au hb;have kp:L2.dD (upd H3 b (.tup [.int n,.str x,.str y])) (upd (upd H3 b (.tup [.int n,.str x,.str y])) L (.lst (sv++[.ref b]))):=L2.dD.set (sb _ _ Mt) (by intro z e;cases e);refine⟨⟨ak,bN.snoc (eU.keep (eU.keep hsv (L2.dD.of sb)) kp) ⟨b,rfl,kp _ _ ak⟩⟩,by rw[aC L2n.symm];exact sb _ _ hl2,(bL.same htv sb).keep kp,bA (s3.trans sb) hL⟩
      rw[hv i,Ld];left;refine C_ (fun σ H4=>(∃sv,σ=[some (.ref o),some (.ref d),some (.ref L),some (.int i),some (.str e.1),some (.str e.2)]∧H4 L=some (.lst sv)∧eU H4 sv (aN fx (ps.take i) 0++if (fx i).getD 0=0 then [(i,e.1,e.2)] else [])∧sv.length≤2 * i+1)∧H4 l2=some (.lst Bg)∧bL H4 Bg ps∧Same H H4) ?_ ?_
      · rintro σ H4 ⟨⟨sv,rfl,Ig,qf8,qdx⟩,Ua,Mu,s4⟩;left;refine⟨isD (s4 _ _ hd),_,qfq i (s4 _ _ hd),?_⟩;rw[hv i,Ld];left;refine dI.of (fun h=>?_) (fun h=>?_)
        · have h':(fx i).getD 1=1:=by simpa using h
          left;refine⟨⟨_,aX.of Ig⟩,fun b hb=>?_⟩;refine⟨_,bG Ig hb,zs1 qdx hi2 tl Er,?_⟩;obtain⟨⟨k1,k2⟩,k3,k4,k5⟩:=add H4 sv _ i e.2 e.1 b Ig qf8 hb Ua Mu s4;refine⟨⟨_,k1,?_,by rw[List.length_append];exact zs2 qdx⟩,k3,k4,k5⟩;rw[if_pos h',← List.append_assoc];exact k2
        · have h':¬(fx i).getD 1=1:=by simpa using h
          left;refine⟨⟨_,Ig,?_,Nat.le_of_succ_le (zs2 qdx)⟩,Ua,Mu,s4⟩;rw[if_neg h',List.append_nil];exact qf8
      · intro N hN;refine dI.of (fun h=>?_) (fun h=>?_)
        · have h':(fx i).getD 0=0:=by simpa using h
          left;refine⟨⟨_,aX.of Mt⟩,fun b hb=>?_⟩;refine⟨_,bG Mt hb,zs1 (Nat.le_succ_of_le hsl) hi2 tl Er,?_⟩;obtain⟨⟨k1,k2⟩,k3,k4,k5⟩:=add H3 sv _ i e.1 e.2 b Mt qdw hb GK Kc s3;refine hN _ _ ⟨⟨_,rfl,k1,?_,by rw[List.length_append];exact Nat.succ_le_succ hsl⟩,k3,k4,k5⟩;rw[if_pos h'];exact k2
        · have h':¬(fx i).getD 0=0:=by simpa using h
          left;refine hN _ _ ⟨⟨_,rfl,Mt,?_,Nat.le_succ_of_le hsl⟩,GK,Kc,s3⟩;rw[if_neg h',List.append_nil];exact qdw
    ·rintro σ H2 ⟨⟨v3,v4,v5,sv,rfl,hL2,hsv,hsl⟩,qf7,htv,s2⟩;left;rw[htv.1,List.take_length] at hsv;have tl:=htv.1;exact q L sv H2 hL hL2 hsv (zs3 hsl tl Er) s2
def GP:Sp:=fun vs H Q _=>∃(start:Str) (l:Addr) (tv:List V) (S:List kE) (xs:List Str),vs=[.str start,.ref l]∧H l=some (.lst tv)∧eU H tv S∧start∈xs∧(∀s∈S,s.2.2∈xs)∧xs.length≤9∧
  ∀(d:Addr) (kvs:List (Key×V)) (R:BR) (H':Hp),H d=none→H' d=some (.dK kvs)→gJ H' kvs R→Nu S start R.length R→qkZ S start R→m7 H kvs→Same H H'→Q (.ref d) H'
theorem vP (T:Txt K mg a):dG P w K mg base mF 1 a.eZ a.lM ["start", "steps"] GP:=by
  refine T.nF.tH dU (fun vs H Q E h=>?_) (fun cdv A outer s H vs Q E hr h=>?_)
  ·obtain⟨start,l,tv,S,xs,rfl,_⟩:=h;rfl
  · obtain⟨start,l,tv,S,xs,rfl,hl,hS,hsx,Ye,h9,q⟩:=h;refine⟨_,(aA (bx (i:=2) dU.nd rfl (Or.inl rfl) (Z7 (Wq (aH 0) (cg aq) Z6) rfl rfl (by simp) (by decide)))
      (aA (bx (i:=3) dU.nd rfl (Or.inl rfl) (cg (aj (aH 0) aq)))
      (aA (bx (i:=4) dU.nd rfl (Or.inl rfl) aL)
      (aA (KH PassesOwn.never (aW zB (aH 4) (aF (bY (K:=K) rfl) rfl T.nm.len PySem.boot_len (aj (aH 3) aq)) (bO _))
      (aA (bx (i:=5) dU.nd rfl (Or.inl rfl) (bW (bZ (K:=K) rfl) (aH 3) (aH 4) (fun _ _=>rfl)))
      (aA (iI PassesOwn.never rfl (PI.eqv (cu (K:=K) rfl (aH 1)) (bU _ _)) (PG.eqv (cW (K:=K) (n:=3) rfl rfl (fL.eqv (aQ (aM (i:=6) dU.nd rfl (Or.inl rfl)) (fL.eqv (aQ (aM (i:=7) dU.nd rfl (Or.inl rfl)) (fL.eqv (aQ (aM (i:=8) dU.nd rfl (Or.inl rfl)) (fL.mono cF d8)) (aR _ _))) (aR _ _))) (aR _ _))) (cX _ _ _))
      (aD (cO (PW.pt (Iu (aW jD (aH 7) (aH 5) (bO _)) (Br (Jv (PC.eqv (Sy (Aj hr) (aH 8) (aH 2)) (Ow _ _)))))) (aA (PS.eqv (Z5 (Aj hr) (aH 2) (aH 8) (dF m5 (PE.eqv (QL (Aj hr) (aH 2) (aH 5) (fun _ _=>rfl)) (Lr _ _)) (cg (aj (aH 6) aq))) rfl) (Xg _ _ _))
      (aD (eF (jQ (K:=K) rfl PySem.F.plainAttrs_list PySem.F.slot_list_append PySem.F.type_list_append dH (aH 3) (aj (aH 8) aq))))) bH)))
      (aD (PS.mono (qb1 (i:=4) dU.nd rfl (Or.inl rfl) aL qam) qc_)))))
      (aD (aZ (aH 2))))))),?_⟩
    simp -dsimp[aB,stC];intro d hd p1 hp1;refine⟨bG ak hp1,[(Sum.inr start,.ref p1)],rfl,by simp,fun rl hrl=>?_⟩;have em:vW [] [((Sum.inr start:Key),V.ref p1)]=[(Sum.inr start,.ref p1)]:=rfl;rw[em] at hrl ⊢;have dp1:d≠p1:=fun z=>by subst z;rw[ak] at hp1;cases hp1
    have Yg:H p1=none:=bQ (au hd) hp1;have sa:Same H (upd (upd (upd H d (.dK [])) p1 (.lst [])) d (.dK [(Sum.inr start,.ref p1)])):=bA ((au hd).trans (au hp1)) hd;have qaK:H rl=none:=bQ sa hrl;have e1:upd (upd (upd H d (.dK [])) p1 (.lst [])) d (.dK [(Sum.inr start,.ref p1)]) d=some (.dK [(Sum.inr start,.ref p1)]):=ak;have e2:upd (upd (upd H d (.dK [])) p1 (.lst [])) d (.dK [(Sum.inr start,.ref p1)]) p1=some (.lst []):=by rw[aC dp1.symm];exact ak
    generalize upd (upd (upd H d (.dK [])) p1 (.lst [])) d (.dK [(Sum.inr start,.ref p1)])=H1 at sa hrl e1 e2 ⊢;have sb:=sa.trans (au (o:=.lst [.str start]) hrl);have dr:d≠rl:=aP e1 hrl;have qf9:m7 H [((Sum.inr start:Key),V.ref p1)]:=by
      intro kv hkv q hq;simp at hkv;subst hkv;cases hq;exact Yg
    refine whB (fun σ H'=>∃(n:Nat) (R:BR) (kvs:List (Key×V)) (o5 o6 o7 o8:Option V),σ=[some (.str start),some (.ref l),some (.ref d),some (.ref rl),some (.int n),o5,o6,o7,o8]∧H' d=some (.dK kvs)∧gJ H' kvs R∧H' rl=some (.lst (R.map fun yw=>.str yw.1))∧Nu S start n R∧zG S start n=R∧m7 H kvs∧n≤R.length∧Same H H')
      (fun σ _=>qft 4 σ)
      ⟨0,[(start,[])],[(Sum.inr start,.ref p1)],none,none,none,none,rfl,bG e1 hrl,⟨rfl,?_⟩,ak,Nu.begin S start,rfl,qf9,by simp,sb⟩ ?_ Ls
    · intro i kv yw h1 h2;have hi:i=0:=by have:=(List.getElem?_eq_some_iff.mp h1).1;simp at this;omega
      subst hi;simp at h1 h2;subst h1 h2;exact⟨rfl,p1,rfl,bG e2 hrl⟩
    · rintro σ H2 ⟨n,R,kvs,o5,o6,o7,o8,rfl,hd2,hW2,hr2,hB,hF,hN,hnR,s2⟩;have hR9:R.length≤9:=by
        have h1:=b_ hB.nd (hB.sub hsx Ye);simp at h1;omega
      simp -dsimp[aB,stC];refine⟨_,.inl (aX.of hr2),dI.of (fun hlt=>?_) (fun hlt=>?_)⟩
      · have hlt':n<R.length:=by simpa using hlt
        simp -dsimp[aB,stC];obtain⟨⟨hh,wh⟩,hR⟩:∃x,R[n]? = some x:=⟨R[n],by simp[hlt']⟩;refine⟨_,.inl (aX.of hr2),.str hh,bD (by rw[List.getElem?_map,hR];rfl),⟨_,aX.of (s2 _ _ hl)⟩,frL tv (fun j σ H'=>∃(R:BR) (kvs:List (Key×V)) (o6 o7 o8:Option V),σ=[some (.str start),some (.ref l),some (.ref d),some (.ref rl),some (.int n),some (.str hh),o6,o7,o8]∧H' d=some (.dK kvs)∧gJ H' kvs R∧H' rl=some (.lst (R.map fun yw=>.str yw.1))∧mH S (S.take j) start n hh wh R∧yj (S.take j) hh wh (zG S start n)=R∧m7 H kvs∧Same H H') ⟨R,kvs,o6,o7,o8,rfl,hd2,hW2,hr2,mH.enter hB hR,hF,hN,s2⟩ (fun j σ H' _ h=>by
          obtain⟨_,_,_,_,_,_,_,_,_,_,_,_,z⟩:=h;exact aX.of (z _ _ hl)) ?_ ?_⟩
        · rintro j x σ H3 hj ⟨R,kvs,o6,o7,o8,rfl,hd3,hW3,hr3,hM,Yh,hN3,s3⟩;obtain⟨⟨sn,so,sg⟩,hs,t,rfl,ht⟩:=hS.at hj;have hR9:R.length≤9:=by
            have h1:=b_ hM.bf.nd (hM.bf.sub hsx Ye);simp at h1;omega
          have hFs:=O1 (S.take j) (sn,so,sg) hh wh (zG S start n);rw[Yh] at hFs;rw[take_one hs];simp -dsimp[aB,stC];refine⟨_,d9.of (s3 _ _ ht),rfl,?_⟩;simp -dsimp[aB,stC]
          by_cases hoh:so=hh
          · subst hoh;refine dI.pos (by simp) ?_;simp -dsimp[aB,stC];refine⟨_,Wt sg hd3,?_⟩;rw[hW3.qkC hM.bf.nd];refine dI.of (fun hg=>?_) (fun hg=>?_)
            · have hg':¬sg∈R.map (·.1):=by simpa using hg
              obtain⟨pw,hpw,qld⟩:=hW3.some hM.bf.nd (List.mem_of_getElem? hM.hr);have hwl:=hM.bf.qfs (List.mem_of_getElem? hM.hr);have s20:=of_eq_true Gw;simp -dsimp[aB,stC];refine⟨.ref pw,?_,fun b hb=>?_⟩
              ·have:=Wt so hd3;rw[hpw] at this;exact this
              refine⟨_,bG qld hb,_,ak,by simp;omega,fun c hc=>?_⟩;have s4:Same H3 (upd (upd H3 b (.lst [.int sn])) c (.lst (wh.map (fun n:Nat=>V.int n)++[.int sn]))):=(au hb).trans (au hc);have ec:upd (upd H3 b (.lst [.int sn])) c (.lst (wh.map (fun n:Nat=>V.int n)++[.int sn])) c=some (.lst (wh.map (fun n:Nat=>V.int n)++[.int sn])):=ak;generalize upd (upd H3 b (.lst [.int sn])) c (.lst (wh.map (fun n:Nat=>V.int n)++[.int sn]))=H4 at s4 ec ⊢;have hd4:=s4 _ _ hd3;have hr4:=s4 _ _ hr3;have hkl:=hW3.len;have epk:putK kvs (Sum.inr sg) (.ref c)=kvs++[(Sum.inr sg,.ref c)]:=Wh _ (hW3.none hg');refine⟨_,qkz sg hd4 (by omega),?_⟩;rw[epk];have Rq:upd H4 d (.dK (kvs++[(Sum.inr sg,.ref c)])) rl=some (.lst (R.map fun yw=>.str yw.1)):=by rw[aC dr.symm];exact hr4
              have ne0:∀w:List Nat,R.map (fun yw=>V.str yw.1)≠w.map (fun n:Nat=>V.int n):=fun w e=>by
                have hst:=hM.bf.st;cases R with
                | nil=>simp at hst
                | cons r R=>
                  cases w with
                  | nil=>simp at e
                  | cons n w=>simp at e
              have kp:∀(p:Addr) (w:List Nat),H4 p=some (.lst (w.map fun n:Nat=>V.int n))→upd (upd H4 d (.dK (kvs++[(Sum.inr sg,.ref c)]))) rl (.lst (R.map (fun yw=>V.str yw.1)++[.str sg])) p=some (.lst (w.map fun n:Nat=>V.int n)):=fun p w e=>by
                have h1:p≠d:=fun z=>by subst z;rw[hd4] at e;cases e
                have h2:p≠rl:=fun z=>by subst z;rw[hr4] at e;exact ne0 w (HO.lst.inj (Option.some.inj e))
                rw[aC h2,aC h1];exact e
              have ec':H4 c=some (.lst ((wh++[sn]).map fun n:Nat=>V.int n)):=by rw[ec];simp
              refine⟨⟨_,aX.of Rq⟩,_,Rq,by simp;omega,R++[(sg,wh++[sn])],_,by rw[aC dr];exact ak,?_,by rw[ak];simp,hM.add (List.mem_of_getElem? hs) hg',hFs.trans (if_pos ⟨rfl,hg'⟩),hN3.snoc (bQ (s3.trans (au hb)) hc),bA (bA (s3.trans s4) hd) qaK⟩;refine gJ.snoc (gJ.keep (H:=H4) (gJ.keep hW3 fun p w e=>s4 _ _ e) kp) (kp _ _ ec')
            · have hg':sg∈R.map (·.1):=by simpa using hg
              simp -dsimp[aB,stC];exact⟨R,kvs,hd3,hW3,hr3,hM.skip fun _=>hg',hFs.trans (if_neg (fun z=>z.2 hg')),hN3,s3⟩
          ·refine dI.neg (by simp[hoh]) ?_;simp -dsimp[aB,stC];exact⟨R,kvs,hd3,hW3,hr3,hM.skip fun z=>absurd z hoh,hFs.trans (if_neg (fun z=>hoh z.1)),hN3,s3⟩
        · rintro σ H3 ⟨R,kvs,o6,o7,o8,rfl,hd3,hW3,hr3,hM,Yh,hN3,s3⟩;have hl3:S.take tv.length=S:=by rw[hS.1,List.take_length]
          rw[hl3] at hM Yh;simp -dsimp[aB,stC];have hlen:=(List.getElem?_eq_some_iff.mp hM.hr).1;refine⟨⟨n+1,by omega,R,kvs,hd3,hW3,hr3,hM.leave,(Tr (by rw[hF];exact hR)).trans Yh,hN3,hlen,s3⟩,?_⟩;simp[qft];omega
      · have hlt':¬n<R.length:=by simpa using hlt
        have en:n=R.length:=by omega
        subst en;simp -dsimp[aB,stC];exact q d kvs R H2 hd hd2 hW2 hB hF hN s2
def Eu (C:Addr):Sp:=fun vs H Q _=>∃(o:Addr) (start:Str) (l:Addr) (tv:List V) (S:List kE) (xs:List Str) (ps:List (Str×Str)),vs=[.ref o,.str start,.ref l]∧iu C H o xs ps∧H l=some (.lst tv)∧eU H tv S∧start∈xs∧(∀s∈S,s.2.2∈xs)∧xs.length≤9∧
  ∀(r:Addr) (H':Hp),H r=none→H' r=some (.lst ((oF S xs start).map V.str))→Same H H'→Q (.ref r) H'
theorem uG (T:Txt K mg a):dG P w K mg base mF 2 a.dX a.jW ["web", "start", "steps"] (Eu a.cj):=by
  refine T.lV.tH uq (fun vs H Q E h=>?_) (fun cdv A outer s H vs Q E hr h=>?_)
  ·obtain⟨o,start,l,tv,S,xs,ps,rfl,_⟩:=h;rfl
  · obtain⟨o,start,l,tv,S,xs,ps,rfl,hw,hl,hS,hsx,Ye,h9,q⟩:=h;refine⟨_,(aA (bx (i:=3) uq.nd rfl (Or.inr rfl) (PE.eqv (aV (vP (K:=K) T) (hr.mono (by decide)) rfl T.rR T.nF.kp T.rQ .nil bF (aj (aH 1) (aj (aH 2) aq))) (aO _ _ _)))
      (aD (aZ (eO rfl rfl (show aY (ao cQ) _ ["web", "start", "steps", "ways"] ["point"] [3] ["point", "ways"] from⟨rfl,by decide+kernel,by decide+kernel,rfl,by decide+kernel,by decide+kernel⟩) rfl (PI.eqv (cu (K:=K) rfl (PE.eqv (g8 (aH 0) T.kI T.jg (jy (K:=K) T) (hr.mono (by decide)) T.je .nil bF) (h_ _ _ _ _ _ _))) (bU _ _)) (fun C s H fp pn=>(aM (i:=0) (show(["point", "ways"]:List Str).Nodup by decide+kernel) rfl (Or.inl rfl))) (fun C s H fp pn=>(lH (Jv (PC.eqv (Wn (Aj hr) (aH 0) (aH 1)) (QX _ _))))) (fun C s H fp pn=>(aH 0)))))),?_⟩
    left;refine⟨start,l,tv,S,xs,rfl,hl,hS,hsx,Ye,h9,fun d kvs R H1 hd hd1 hW hB _ _ s1=>?_⟩;obtain⟨dx,fs,hi,hno⟩:=(hw.same s1).ins iB.1 iB.2;left;refine⟨_,_,hi,hno,o,xs,ps,rfl,hw.same s1,fun l2 hl2=>?_⟩;have s2:Same H1 (upd H1 l2 (.lst (xs.map V.str))):=au hl2;have e2:upd H1 l2 (.lst (xs.map V.str)) l2=some (.lst (xs.map V.str)):=ak;generalize upd H1 l2 (.lst (xs.map V.str))=H2 at s2 e2 ⊢;have hd2:=s2 _ _ hd1;have hW2:=hW.keep fun p w e=>s2 _ _ e;have s20:=of_eq_true Gw;left;refine⟨⟨_,aX.of e2⟩,fun D hD=>Nt (xs.map V.str) (fun i σ H'=>(∃o,σ=[o,some (.ref d)])∧H' D=some (.lst ((oF S (xs.take i) start).map V.str))∧Same H2 H') ⟨⟨_,rfl⟩,ak,au hD⟩ (fun i σ H' _ h=>aX.of (h.2.2 _ _ e2)) ?_ ?_⟩
    · rintro i x σ H3 hi ⟨⟨o',rfl⟩,Vh,s3⟩;obtain⟨y,hy,rfl⟩:=pL hi;have hi2:i<xs.length:=(List.getElem?_eq_some_iff.mp hy).1;left;refine⟨_,Wt y (s3 _ _ hd2),?_⟩;rw[hW2.has hB.nd,WD hy (decide (y∈R.map (·.1))) (by rw[decide_eq_true_eq];exact hB.iff y)];refine dI.of (fun h=>?_) (fun h=>?_)
      ·rw[if_pos h];left;have hfl:=QT (S:=S) (xs:=xs.take i) (x:=start);rw[List.length_take] at hfl;refine⟨_,Vh,by simp;omega,by simp[ak],bA s3 hD⟩
      ·rw[if_neg (by rw[h];exact Bool.false_ne_true),List.append_nil];left;exact⟨Vh,s3⟩
    ·rintro σ H3 ⟨⟨o',rfl⟩,Vh,s3⟩;rw[List.length_map,List.take_length] at Vh;left;exact q D H3 (bQ (s1.trans s2) hD) Vh ((s1.trans s2).trans s3)
theorem Kd {xs:List Str} {ps:List (Str×Str)} {fx:Nat→Option Int} (h:jF xs ps):∀s∈aN fx ps 0,s.2.2∈xs:=by
  intro s hs;obtain⟨j,e,h1,h2⟩:=mj.mp hs;obtain⟨q1,q2,_⟩:=h.ok e (List.mem_of_getElem? h1);obtain⟨_,q | q⟩:=kZ.mp h2
  ·rw[q.2.2];exact q2
  ·rw[q.2.2];exact q1
def Mv (C:Addr):Sp:=fun vs H Q _=>∃(o:Addr) (xs:List Str) (ps:List (Str×Str)),vs=[.ref o]∧iu C H o xs ps∧Gq xs∧jF xs ps∧
  ∀(l:Addr) (rs:List V) (H':Hp),H l=none→H' l=some (.lst rs)→xZ H' rs (Bl (aN (fun _=>none) ps 0) xs xs)→(∀v∈rs,∀b,v = .ref b→H b=none)→Same H H'→Q (.ref l) H'
theorem Mw (T:Txt K mg a):dG P w K mg base mF 3 a.gR a.oW ["web"] (Mv a.cj):=by
  refine T.wz.tH oR (fun vs H Q E h=>?_) (fun cdv A outer s H vs Q E hr h=>?_)
  ·obtain⟨o,xs,ps,rfl,_⟩:=h;rfl
  · obtain⟨o,xs,ps,rfl,hw,hX,hTs,q⟩:=h;refine⟨_,(aA (bx (i:=1) oR.nd rfl (Or.inl rfl) (PE.eqv (aV (n_ (K:=K) T) (hr.mono (by decide)) rfl T.lU T.jx.kp T.lR .nil bF (aj (aH 0) (aj CW aq))) (aO _ _ _)))
      (aA (bx (i:=2) oR.nd rfl (Or.inl rfl) (cg aq))
      (aA (iI PassesOwn.never rfl (PI.eqv (cu (K:=K) rfl (PE.eqv (g8 (aH 0) T.kI T.jg (jy (K:=K) T) (hr.mono (by decide)) T.je .nil bF) (h_ _ _ _ _ _ _))) (bU _ _)) (aM (i:=3) oR.nd rfl (Or.inr rfl))
      (aD (cO (d7 (cG (aF (zF rfl) rfl T.XM.any zm (aj (eO rfl rfl (show aY (ao fY) _ ["web", "steps", "told", "point"] ["cluster"] [3] ["cluster", "point"] from⟨rfl,by decide+kernel,by decide+kernel,rfl,by decide+kernel,by decide+kernel⟩) rfl (PI.eqv (cu (K:=K) rfl (aH 2)) (bU _ _)) (fun C s H fp pn=>(aM (i:=0) (show(["cluster", "point"]:List Str).Nodup by decide+kernel) rfl (Or.inl rfl))) (fun C s H fp pn=>fP) (fun C s H fp pn=>(eG (zE (K:=K) rfl) (aH 1) (aH 0) rfl))) aq)))) (aD (eF (jQ (K:=K) rfl PySem.F.plainAttrs_list PySem.F.slot_list_append PySem.F.type_list_append dH (aH 2) (aj (PE.eqv (aV (uG (K:=K) T) (hr.mono (by decide)) rfl T.pX T.lV.kp T.pW .nil bF (aj (aH 0) (aj (aH 3) (aj (aH 1) aq)))) (aO _ _ _)) aq)))) bH)))
      (aD (aZ (aH 2)))))),?_⟩
    have Ye:=Kd (fx:=fun _=>none) hTs;simp -dsimp[aB,stC,-Bool.exists_bool,-List.map_take,-Prod.forall,-Prod.exists];intro d hd;refine⟨o,d,xs,ps,fun _=>none,rfl,hw.same (au hd),Dd ak,fun l tv H1 hl0 hl1 hS _ s1'=>?_⟩;have s1:=(au hd).trans s1';have qn9:=bQ (au hd) hl0;simp -dsimp[aB,stC,-Bool.exists_bool,-List.map_take,-Prod.forall,-Prod.exists];intro L hL;obtain⟨dx,fs,hi,hno⟩:=(hw.same (s1.trans (au (o:=HO.lst []) hL))).ins iB.1 iB.2;refine⟨_,_,hi,hno,o,xs,ps,rfl,hw.same (s1.trans (au hL)),fun l2 hl2=>?_⟩;have s2:Same H1 (upd (upd H1 L (.lst [])) l2 (.lst (xs.map V.str))):=(au hL).trans (au hl2);have e2:upd (upd H1 L (.lst [])) l2 (.lst (xs.map V.str)) l2=some (.lst (xs.map V.str)):=ak;have eL:upd (upd H1 L (.lst [])) l2 (.lst (xs.map V.str)) L=some (.lst []):=bG ak hl2;have l2L:l2≠L:=fun z=>by subst z;rw[ak] at hl2;cases hl2
    generalize upd (upd H1 L (.lst [])) l2 (.lst (xs.map V.str))=H2 at s2 e2 eL ⊢;have hL0:=bQ s1 hL;have s20:=of_eq_true Gw;have l9:=hX.len;simp -dsimp[aB,stC,-Bool.exists_bool,-List.map_take,-Prod.forall,-Prod.exists];refine⟨⟨_,aX.of e2⟩,frL (xs.map V.str) (fun i σ H'=>(∃v3 rs,σ=[some (.ref o),some (.ref l),some (.ref L),v3]∧H' L=some (.lst rs)∧xZ H' rs (Bl (aN (fun _=>none) ps 0) xs (xs.take i))∧∀v∈rs,∀b,v = .ref b→H b=none∧b≠L)∧H' l2=some (.lst (xs.map V.str))∧Same H1 H') ⟨⟨_,[],rfl,eL,bN.nil,by simp⟩,e2,s2⟩ (fun i σ H' _ h=>aX.of h.2.1) ?_ ?_⟩
    · rintro i x σ H3 hi ⟨⟨v3,rs,rfl,Mt,hrs,hfr⟩,GK,s3⟩;obtain⟨y,hy,rfl⟩:=pL hi;have hi2:i<xs.length:=(List.getElem?_eq_some_iff.mp hy).1;have hcl:=Le (S:=aN (fun _=>none) ps 0) (xs:=xs) (xs.take i) [];have qcr:(Bl (aN (fun _=>none) ps 0) xs (xs.take i)).length≤i:=by
        unfold Bl;rw[List.length_take] at hcl;simp at hcl;omega
      have hrl:=hrs.1;rw[S_ hy];generalize hcs:Bl (aN (fun _=>none) ps 0) xs (xs.take i)=cs at hrs qcr hrl ⊢;simp -dsimp[aB,stC,-Bool.exists_bool,-List.map_take,-Prod.forall,-Prod.exists];refine⟨⟨_,aX.of Mt⟩,fun D hD=>Nt rs (fun j σ H'=>(∃o',σ=[o',some (.str y)])∧H' D=some (.lst ((cs.take j).map fun c=>V.bl (decide (y∈c))))∧Same H3 H') ⟨⟨_,rfl⟩,ak,au hD⟩ (fun j σ H' _ h=>aX.of (h.2.2 _ _ Mt)) ?_ ?_⟩
      ·rintro j x σ H4 hj ⟨⟨o',rfl⟩,hD4,s4⟩;obtain⟨c,hc,t,rfl,ht⟩:=hrs.at hj;have hj2:j<cs.length:=(List.getElem?_eq_some_iff.mp hc).1;simp -dsimp[aB,stC,-Bool.exists_bool,-List.map_take,-Prod.forall,-Prod.exists];refine⟨_,.inl (aX.of (s4 _ _ ht)),rfl,List.all_eq_true.mp (cI c),_,hD4,by simp;omega,?_,bA s4 hD⟩;rw[ak,bT,take_one hc];simp
      · rintro σ H4 ⟨⟨o',rfl⟩,hD4,s4⟩;rw[hrl,List.take_length] at hD4;simp -dsimp[aB,stC,-Bool.exists_bool,-List.map_take,-Prod.forall,-Prod.exists];refine⟨_,hD4,_,zp _ _,?_⟩;have ea:(cs.map fun c=>decide (y∈c)).any id=cs.any fun c=>decide (y∈c):=by rw[List.any_map];rfl
        rw[ea];have Ig:=s4 _ _ Mt;refine dI.of (fun h=>?_) (fun h=>?_)
        · have h':(cs.any fun c=>decide (y∈c))=false:=by simpa using h
          have ef:gH (aN (fun _=>none) ps 0) xs cs y=cs++[oF (aN (fun _=>none) ps 0) xs y]:=by unfold gH;rw[if_neg (by rw[h'];exact Bool.false_ne_true)]
          rw[ef];have hl4:=s4 _ _ (s3 _ _ hl1);have hS4:=eU.keep hS (L2.dD.of (s3.trans s4));simp -dsimp[aB,stC,-Bool.exists_bool,-List.map_take,-Prod.forall,-Prod.exists];refine⟨⟨_,aX.of Ig⟩,o,y,l,tv,aN (fun _=>none) ps 0,xs,ps,rfl,hw.same ((s1.trans s3).trans s4),hl4,hS4,List.mem_of_getElem? hy,Ye,l9.2,fun r H5 hr0 Rq s5=>?_⟩;have Za:=s5 _ _ Ig;have rL:r≠L:=fun z=>by subst z;rw[Ig] at hr0;cases hr0
          have s6:Same H1 (upd H5 L (.lst (rs++[.ref r]))):=bA ((s3.trans s4).trans s5) hL;have l2n:l2≠L:=l2L;simp -dsimp[aB,stC,-Bool.exists_bool,-List.map_take,-Prod.forall,-Prod.exists];refine⟨_,Za,by omega,⟨_,ak,?_,?_⟩,by rw[aC l2n];exact s5 _ _ (s4 _ _ GK),s6⟩
          ·have kp:∀v c,v∈rs→Wz H3 v c→Wz (upd H5 L (.lst (rs++[.ref r]))) v c:=fun v c hv ⟨t,e,ht⟩=>⟨t,e,by rw[aC (hfr v hv t e).2];exact s5 _ _ (s4 _ _ ht)⟩;refine bN.snoc ⟨hrs.1,fun j v c h1 h2=>kp v c (List.mem_of_getElem? h1) (hrs.2 j v c h1 h2)⟩ ⟨r,rfl,by rw[aC rL];exact Rq⟩
          · intro v hv b e
            rcases List.mem_append.mp hv with z | z
            ·exact hfr v z b e
            ·simp at z;rw[z] at e;cases e;exact⟨bQ ((s1.trans s3).trans s4) hr0,rL⟩
        · have h':(cs.any fun c=>decide (y∈c))=true:=by simpa using h
          have ef:gH (aN (fun _=>none) ps 0) xs cs y=cs:=by unfold gH;rw[if_pos h']
          rw[ef];simp -dsimp[aB,stC,-Bool.exists_bool,-List.map_take,-Prod.forall,-Prod.exists];exact⟨⟨rs,Ig,hrs.same s4,hfr⟩,s4 _ _ GK,s3.trans s4⟩
    ·rintro σ H3 ⟨⟨v3,rs,rfl,Mt,hrs,hfr⟩,GK,s3⟩;rw[List.length_map,List.take_length] at hrs;simp -dsimp[aB,stC,-Bool.exists_bool,-List.map_take,-Prod.forall,-Prod.exists];exact q L rs H3 hL0 Mt hrs (fun v hv b e=>(hfr v hv b e).1) (s1.trans s3)
def qaL (C:Addr):Sp:=fun vs H Q _=>∃(o:Addr) (xs:List Str) (ps:List (Str×Str)),vs=[.ref o]∧iu C H o xs ps∧Gq xs∧jF xs ps∧
  ∀(l:Addr) (rs:List V) (H':Hp),H l=none→H' l=some (.lst rs)→∀(zs:List (Addr×Nat×List Str)),bN zy H' rs zs→zs.map (·.2)=fO ps xs→(zs.map (·.1)).Nodup→(∀z∈zs,H z.1=none∧z.1≠l)→Same H H'→Q (.ref l) H'
theorem qaM (T:Txt K mg a):dG P w K mg base mF 3 a.rE a.BJ ["web"] (qaL a.cj):=by
  refine T.O_.tH rB (fun vs H Q E h=>?_) (fun cdv A outer s H vs Q E hr h=>?_)
  ·obtain⟨o,xs,ps,rfl,_⟩:=h;rfl
  · obtain⟨o,xs,ps,rfl,hw,hX,hTs,q⟩:=h;refine⟨_,(aA (bx (i:=1) rB.nd rfl (Or.inl rfl) (PE.eqv (aV (n_ (K:=K) T) (hr.mono (by decide)) rfl T.lU T.jx.kp T.lR .nil bF (aj (aH 0) (aj CW aq))) (aO _ _ _)))
      (aA (bx (i:=2) rB.nd rfl (Or.inl rfl) (cg aq))
      (aA (iI PassesOwn.never rfl (PI.eqv (Bs (K:=K) rfl rfl T.XM.enumerate (aj (PE.eqv (g8 (aH 0) T.kI T.n6 (pD (K:=K) T) (hr.mono (by decide)) T.nU .nil bF) (h_ _ _ _ _ _ _)) aq)) (uQ _ _)) (PG.eqv (cW (K:=K) (n:=2) rfl rfl (fL.eqv (aQ (aM (i:=3) rB.nd rfl (Or.inr rfl)) (fL.eqv (aQ (PG.eqv (cW (K:=K) (n:=2) rfl rfl (fL.eqv (aQ (aM (i:=4) rB.nd rfl (Or.inl rfl)) (fL.eqv (aQ (aM (i:=5) rB.nd rfl (Or.inl rfl)) (fL.mono cF d8)) (aR _ _))) (aR _ _))) (cX _ _ _)) (fL.mono cF d8)) (aR _ _))) (aR _ _))) (cX _ _ _))
      (aA (bx (i:=6) rB.nd rfl (Or.inl rfl) (PE.eqv (aV (uG (K:=K) T) (hr.mono (by decide)) rfl T.pX T.lV.kp T.pW .nil bF (aj (aH 0) (aj (aH 5) (aj (eO rfl rfl (show aY (ao pQ) _ ["web", "steps", "told", "number", "first", "second", "lot"] ["step"] [3] ["step", "number"] from⟨rfl,by decide+kernel,by decide+kernel,rfl,by decide+kernel,by decide+kernel⟩) rfl (PI.eqv (cu (K:=K) rfl (aH 1)) (bU _ _)) (fun C s H fp pn=>(aM (i:=0) (show(["step", "number"]:List Str).Nodup by decide+kernel) rfl (Or.inl rfl))) (fun C s H fp pn=>(lH (aW nP (bW (bZ (K:=K) rfl) (aH 0) aL (fun _ _=>rfl)) (aH 1) (bO _)))) (fun C s H fp pn=>(aH 0))) aq)))) (aO _ _ _)))
      (aD (cO (aW (m6 (K:=K) rfl) (aH 4) (aH 6) rfl) (aD (eF (jQ (K:=K) rfl PySem.F.plainAttrs_list PySem.F.slot_list_append PySem.F.type_list_append dH (aH 2) (aj (fM (aj (aH 3) (aj (aH 6) aq))) aq)))) bH))))
      (aD (aZ (aH 2)))))),?_⟩
    have Ye:=Kd (fx:=fun _=>none) hTs;have s50:50≤sizeLine:=by decide
    have l9:=hX.len;left;intro d hd;refine⟨o,d,xs,ps,fun _=>none,rfl,hw.same (au hd),Dd ak,fun l tv H1 hl0 hl1 hS qnJ s1'=>?_⟩;have s1:=(au hd).trans s1';left;intro L hL;obtain⟨dx,fs,hi,hno⟩:=(hw.same (s1.trans (au (o:=HO.lst []) hL))).ins pF.1 pF.2;refine⟨_,_,hi,hno,o,xs,ps,rfl,hw.same (s1.trans (au hL)),fun l2 Bg hl2 T_=>?_⟩;have s2:Same H1 (upd (upd H1 L (.lst [])) l2 (.lst Bg)):=(au hL).trans (au hl2);have e2:upd (upd H1 L (.lst [])) l2 (.lst Bg) l2=some (.lst Bg):=ak;have eL:upd (upd H1 L (.lst [])) l2 (.lst Bg) L=some (.lst []):=bG ak hl2;have l2L:l2≠L:=fun z=>by subst z;rw[ak] at hl2;cases hl2
    have Kc:=bL.same T_ (au (o:=HO.lst Bg) hl2);generalize upd (upd H1 L (.lst [])) l2 (.lst Bg)=H2 at s2 e2 eL Kc ⊢;have hL0:=bQ s1 hL;left;refine⟨⟨_,aX.of e2⟩,frE Bg (fun i σ H'=>(∃o3 o4 o5 o6 rs zs,σ=[some (.ref o),some (.ref l),some (.ref L),o3,o4,o5,o6]∧H' L=some (.lst rs)∧bN zy H' rs zs∧zs.map (·.2)=k_ (jR ps xs) (ps.take i) 0∧(zs.map (·.1)).Nodup∧∀z∈zs,H z.1=none∧z.1≠L)∧H' l2=some (.lst Bg)∧bL H' Bg ps∧Same H1 H') ⟨⟨_,_,_,_,[],[],rfl,eL,bN.nil,rfl,by simp,by simp⟩,e2,Kc,s2⟩ (fun i σ H' _ h=>aX.of h.2.1) ?_ ?_⟩
    · rintro i x t σ H3 hi ht ⟨⟨o3,o4,o5,o6,rs,zs,rfl,Mt,hrs,hzs,hzn,hfr⟩,GK,htv,s3⟩;obtain⟨e,he,tt,rfl,htt⟩:=htv.at hi;have hem:=List.mem_of_getElem? he;obtain⟨q1,q2,q3⟩:=hTs.ok e hem;have hi2:i<ps.length:=(List.getElem?_eq_some_iff.mp he).1;have hcl:(k_ (jR ps xs) (ps.take i) 0).length≤20:=by
        have h1:=Df (Tc ps xs) (ps.take i) 0;rw[List.length_take] at h1;have:=hTs.len;omega
      have hrl:rs.length=(k_ (jR ps xs) (ps.take i) 0).length:=by rw[hrs.1,← hzs,List.length_map]
      have st:Same H3 (upd H3 t (.tup [.int i,.ref tt])):=au ht;rw[Ht _ he];generalize hcs:k_ (jR ps xs) (ps.take i) 0=cs at hzs hcl hrl ⊢;left;refine⟨_,d9.of ak,rfl,_,d9.of (st _ _ htt),rfl,?_⟩;have Ig:=st _ _ Mt;have Ua:=st _ _ GK;have Mu:=bL.same htv st;have s4:=s3.trans st;have qdy:=zy.same hrs st;generalize upd H3 t (.tup [.int i,.ref tt])=H4 at Ig Ua Mu s4 qdy ⊢;have hl4:=s4 _ _ hl1;have hS4:=eU.keep hS (L2.dD.of s4);refine⟨⟨_,aX.of hl4⟩,fun D hD=>Nt tv (fun j σ H'=>(∃o',σ=[o',some (.int i)])∧(∃fv,H' D=some (.lst fv)∧fv.length≤j∧eU H' fv ((((aN (fun _=>none) ps 0)).take j).filter (Li i)))∧Same H4 H') ⟨⟨_,rfl⟩,⟨[],ak,by simp,bN.nil⟩,au hD⟩ (fun j σ H' _ h=>aX.of (h.2.2 _ _ hl4)) ?_ ?_⟩
      · rintro j x σ H5 hj ⟨⟨o',rfl⟩,⟨fv,Es,hfl,hfv⟩,s5⟩;obtain⟨⟨sn,so,sg⟩,hs,t5,rfl,ht5⟩:=hS4.at hj;have hj2:j<tv.length:=(List.getElem?_eq_some_iff.mp hj).1;rw[take_one hs,List.filter_append];left;refine⟨_,.inr (d9.of (s5 _ _ ht5)),_,bD (j:=0) rfl,?_⟩;left
        by_cases hsi:sn=i
        · refine⟨false,by simp[hsi],dI.neg rfl ?_⟩;have ef : [((sn,so,sg):kE)].filter (Li i)=[]:=by simp[Li,hsi]
          rw[ef,List.append_nil];left;exact⟨⟨fv,Es,by omega,hfv⟩,s5⟩
        · refine⟨true,?_,dI.pos rfl ?_⟩
          ·simp;omega
          have ef : [((sn,so,sg):kE)].filter (Li i)=[(sn,so,sg)]:=by simp[Li,hsi]
          rw[ef];left;have kp:L2.dD H5 (upd H5 D (.lst (fv++[.ref t5]))):=L2.dD.set Es (by intro z e;cases e);exact⟨_,Es,by omega,⟨_,ak,by simp;omega,bN.snoc (eU.keep hfv kp) ⟨t5,rfl,kp _ _ (s5 _ _ ht5)⟩⟩,bA s5 hD⟩
      · rintro σ H5 ⟨⟨o',rfl⟩,⟨fv,Es,hfl,hfv⟩,s5⟩;rw[hS.1,List.take_length] at hfv;left;refine⟨o,e.2,D,fv,_,xs,ps,rfl,hw.same ((s1.trans s4).trans s5),Es,hfv,q2,fun s hs=>Ye s ((List.mem_filter.mp hs).1),l9.2,fun r H6 hr0 hr6 s6=>?_⟩;have qf_:H6 r=some (.lst ((nO ps xs i e.2).map V.str)):=hr6;left;refine⟨_,.inl (aX.of qf_),rfl,List.all_eq_true.mp (cI _),?_⟩;rw[bT];have hL6:=s6 _ _ (s5 _ _ Ig);have sH5:Same H H5:=(s1.trans s4).trans s5;have rH:H r=none:=bQ sH5 hr0;have rL:r≠L:=fun z=>by subst z;rw[s5 _ _ Ig] at hr0;cases hr0
        have qga:=zy.same (zy.same qdy s5) s6;refine⟨!decide (e.1∈nO ps xs i e.2),by simp,dI.of (fun h=>?_) (fun h=>?_)⟩
        · have h':¬e.1∈nO ps xs i e.2:=by simpa using h
          have eb:jR ps xs e i=[(i,nO ps xs i e.2)]:=by unfold jR;rw[if_neg h']
          rw[eb];left;refine⟨⟨_,aX.of hL6⟩,fun t7 ht7=>?_⟩;have s7:Same H6 (upd H6 t7 (.tup [.int i,.ref r])):=au ht7;have Vg:=s7 _ _ hL6;have e7:upd H6 t7 (.tup [.int i,.ref r]) t7=some (.tup [.int i,.ref r]):=ak;have hr7:=s7 _ _ qf_;have qdz:=zy.same qga s7;have t7H:H t7=none:=bQ (sH5.trans s6) ht7;have s27:=(s4.trans s5).trans (s6.trans s7);have qgb:=s7 _ _ (s6 _ _ (s5 _ _ Ua));have Ms:=bL.same Mu ((s5.trans s6).trans s7);generalize upd H6 t7 (.tup [.int i,.ref r])=H7 at s7 Vg e7 hr7 qdz s27 qgb Ms ⊢;have kt:L2.dD H7 (upd H7 L (.lst (rs++[.ref t7]))):=L2.dD.set Vg (by intro z e;cases e);have rzs:¬r∈zs.map (·.1):=fun z=>by
            obtain⟨y,hy,e0⟩:=List.mem_map.mp z;have:=zy.there (zy.same qdy s5) y hy;rw[e0,hr0] at this;cases this
          refine⟨_,Vg,by omega,⟨_,ak,zs++[(r,i,nO ps xs i e.2)],?_,by simp[hzs],?_,?_⟩,by rw[aC l2L];exact qgb,Ms.keep kt,bA s27 hL⟩
          ·refine bN.snoc ⟨qdz.1,fun j v z h1 h2=>?_⟩ ⟨t7,rfl,kt _ _ e7,by rw[aC rL];exact hr7⟩;obtain⟨t',z1,z2,z3⟩:=qdz.2 j v z h1 h2;exact⟨t',z1,kt _ _ z2,by rw[aC (hfr z (List.mem_of_getElem? h2)).2];exact z3⟩
          ·rw[List.map_append,List.nodup_append];refine⟨hzn,by simp,?_⟩;intro x hx y hy e0;simp at hy;subst hy;exact rzs (e0▸hx)
          · intro z hz
            rcases List.mem_append.mp hz with y | y
            ·exact hfr z y
            ·simp at y;subst y;exact⟨rH,rL⟩
        · have h':e.1∈nO ps xs i e.2:=by simpa using h
          have eb:jR ps xs e i=[]:=by unfold jR;rw[if_pos h']
          rw[eb,List.append_nil];left;exact⟨⟨rs,hL6,zs,qga,hzs,hzn,hfr⟩,s6 _ _ (s5 _ _ Ua),bL.same Mu (s5.trans s6),(s4.trans s5).trans s6⟩
    ·rintro σ H3 ⟨⟨o3,o4,o5,o6,rs,zs,rfl,Mt,hrs,hzs,hzn,hfr⟩,GK,htv,s3⟩;rw[htv.1,List.take_length] at hzs;left;exact q L rs H3 hL0 Mt zs hrs hzs hzn hfr (s1.trans s3)
def Rr (H:Hp) (e C:Addr) (fs:List (Str×V)):Prop:=∃dx,dx≠e∧H e=some (fH e C (some dx))∧H dx=some (jm dx fs)
def Yi (C:Addr) (f:Str):Sp:=fun vs H Q _=>∃(e l:Addr) (xs:List V),vs=[.ref e,.ref l]∧H e=some (fH e C none)∧H l=some (.lst xs)∧
  ∀(b:Addr) (H':Hp),H b=none→H' b=some (.lst xs)→Rr H' e C [(f,.ref b)]→But e H H'→Q .non H'
theorem Mx {H:Hp} {e l C:Addr} {xs:List V} {f:Str} {Q:VK} {K:W.Frag} (he:H e=some (fH e C none)) (hl:H l=some (.lst xs)) (q:∀(b:Addr) (H':Hp),H b=none→H' b=some (.lst xs)→Rr H' e C [(f,.ref b)]→But e H H'→Q .non H') :
    (∃x,H e=some (fH e C x))∧∃ys,(aX K H l ys∨d9 K H l ys)∧∀(l:Addr),H l=none→upd H l (.lst ys) e=some (fH e C none)∧∀dx,upd H l (.lst ys) dx=none→Q .non (upd (upd (upd H l (.lst ys)) dx (jm dx [(f,.ref l)])) e (fH e C (some dx))):=by
  refine⟨⟨_,he⟩,xs,.inl (aX.of hl),fun b hb=>?_⟩;have s1:Same H (upd H b (.lst xs)):=au hb;have e1:upd H b (.lst xs) b=some (.lst xs):=ak;generalize upd H b (.lst xs)=H1 at s1 e1 ⊢;refine⟨s1 _ _ he,fun dx hdx=>?_⟩;have ne:dx≠e:=fun z=>by rw[z,s1 _ _ he] at hdx;cases hdx
  have be:b≠e:=fun z=>by rw[z,he] at hb;cases hb
  have bd:b≠dx:=fun z=>by rw[← z,e1] at hdx;cases hdx
  refine q b _ hb (by rw[aC be,aC bd];exact e1) ⟨dx,ne,ak,by rw[aC ne];exact ak⟩ fun c o hc z=>?_;rw[aC hc,aC (fun y=>by rw[← y,s1 _ _ z] at hdx;cases hdx)];exact s1 _ _ z
theorem Mz {H:Hp} {e l C:Addr} {xs:List V} {f g:Str} {y:V} {Q:VK} {K:W.Frag} (fg:g≠f) (he:H e=some (fH e C none)) (hl:H l=some (.lst xs)) (q:∀(b:Addr) (H':Hp),H b=none→H' b=some (.lst xs)→Rr H' e C [(f,y),(g,.ref b)]→But e H H'→Q .non H') :
    (∃x,H e=some (fH e C x))∧H e=some (fH e C none)∧∀dx,H dx=none→∃ys,(aX K (upd (upd H dx (jm dx [(f,y)])) e (fH e C (some dx))) l ys∨d9 K (upd (upd H dx (jm dx [(f,y)])) e (fH e C (some dx))) l ys)∧
      ∀(l:Addr),upd (upd H dx (jm dx [(f,y)])) e (fH e C (some dx)) l=none→∃d2,upd (upd (upd H dx (jm dx [(f,y)])) e (fH e C (some dx))) l (.lst ys) e=some (fH e C (some d2))∧∃fs,upd (upd (upd H dx (jm dx [(f,y)])) e (fH e C (some dx))) l (.lst ys) d2=some (jm d2 fs)∧fs.length<1000∧
        Q .non (upd (upd (upd (upd H dx (jm dx [(f,y)])) e (fH e C (some dx))) l (.lst ys)) d2 (jm d2 (kO g (.ref l) fs))):=by
  refine⟨⟨_,he⟩,he,fun dx hdx=>?_⟩;have ne:dx≠e:=fun z=>by rw[z,he] at hdx;cases hdx
  have le:l≠e:=fun z=>by rw[z,he] at hl;cases hl
  have ld:l≠dx:=fun z=>by rw[z,hdx] at hl;cases hl
  have e1:upd (upd H dx (jm dx [(f,y)])) e (fH e C (some dx)) e=some (fH e C (some dx)):=ak;have d1:upd (upd H dx (jm dx [(f,y)])) e (fH e C (some dx)) dx=some (jm dx [(f,y)]):=by rw[aC ne];exact ak
  have b1:But e H (upd (upd H dx (jm dx [(f,y)])) e (fH e C (some dx))):=fun c o hc z=>by
    rw[aC hc,aC (fun y=>by rw[y,hdx] at z;cases z)];exact z
  generalize upd (upd H dx (jm dx [(f,y)])) e (fH e C (some dx))=H1 at e1 d1 b1 ⊢;refine⟨xs,.inl (aX.of (b1 _ _ le hl)),fun b hb=>?_⟩;have s2:Same H1 (upd H1 b (.lst xs)):=au hb;have e2:upd H1 b (.lst xs) b=some (.lst xs):=ak;generalize upd H1 b (.lst xs)=H2 at s2 e2 ⊢;refine⟨dx,s2 _ _ e1,_,s2 _ _ d1,by show(1:Nat)<1000;decide,?_⟩;have bd:b≠dx:=fun z=>by rw[z,d1] at hb;cases hb
  have be:b≠e:=fun z=>by rw[z,e1] at hb;cases hb
  have hb0:H b=none:=by
    cases z:H b with
    | none=>rfl
    | some o=>rw[b1 _ _ be z] at hb;cases hb
  have ep:kO g (.ref b) [(f,y)]=[(f,y),(g,.ref b)]:=by
    show(if f=g then _ else _)=_
    rw[if_neg (fun z=>fg z.symm)];rfl
  rw[ep];refine q b _ hb0 (by rw[aC bd];exact e2) ⟨dx,ne,by rw[aC (Ne.symm ne)];exact s2 _ _ e1,ak⟩ fun c o hc z=>?_;rw[aC (fun y=>by rw[y,hdx] at z;cases z)];exact s2 _ _ (b1 _ _ hc z)
def Yj (C:Addr) (f g:Str):Sp:=fun vs H Q _=>∃(e l:Addr) (y:V) (xs:List V),vs=[.ref e,y,.ref l]∧H e=some (fH e C none)∧H l=some (.lst xs)∧
  ∀(b:Addr) (H':Hp),H b=none→H' b=some (.lst xs)→Rr H' e C [(f,y),(g,.ref b)]→But e H H'→Q .non H'
theorem Ew (T:Txt K mg a):dG P w K mg base mF 1 a.cT a.jX ["self", "lot"] (Yi a.bw "lot"):=by
  refine T.vG.tH Dv (fun vs H Q E h=>?_) (fun cdv A outer s H vs Q E hr h=>?_)
  ·obtain⟨e,l,xs,rfl,_⟩:=h;rfl
  · obtain⟨e,l,xs,rfl,he,hl,q⟩:=h;refine⟨_,(aA (eF (Q_ T.qP T.ini rfl T.su (aj (aH 0) (aj gM aq))))
      (aD (qbu T.Ie T.gB (aH 0) (eE (um (K:=K) rfl) rfl T.nm.list boot_list (aj (aH 1) aq)) rfl))),?_⟩
    simp -dsimp[aB,stC];exact Mx he hl q
theorem Ey (T:Txt K mg a):dG P w K mg base mF 1 a.cU a.jY ["self", "tie", "lot"] (Yj a.bh "tie" "lot"):=by
  refine T.vI.tH Dw (fun vs H Q E h=>?_) (fun cdv A outer s H vs Q E hr h=>?_)
  ·obtain⟨e,l,y,xs,rfl,_⟩:=h;rfl
  · obtain⟨e,l,y,xs,rfl,he,hl,q⟩:=h;refine⟨_,(aA (eF (Q_ T.qQ T.ini rfl T.su (aj (aH 0) (aj gM aq))))
      (aA (qbu T.zN T.gC (aH 0) (aH 1) rfl)
      (aD (qfT T.zN T.gD (aH 0) (eE (um (K:=K) rfl) rfl T.nm.list boot_list (aj (aH 2) aq)) rfl)))),?_⟩
    simp -dsimp[aB,stC];exact Mz (by decide) he hl q
def nG (ps:List (Str×Str)) (xs:List Str):List (List Str):=Bl (aN (fun _=>none) ps 0) xs xs
def Bm (C Pa Ba:Addr):Sp:=fun vs H Q E=>∃(o:Addr) (xs:List Str) (ps:List (Str×Str)),vs=[.ref o]∧iu C H o xs ps∧Gq xs∧jF xs ps∧
  ((nG ps xs).length≤1→fO ps xs=[]→∀H',Same H H'→Q .non H')∧
  (∀c r,nG ps xs=c::r→r≠[]→∀(dx cc:Addr) (H':Hp),H cc=none→H' dx=some (jm dx [("lot",.ref cc)])→H' cc=some (.lst (c.map V.str))→Same H H'→E (.ref Pa) (some dx) H')∧
  ((nG ps xs).length≤1→∀k lot rest,fO ps xs=(k,lot)::rest→∀(dx c:Addr) (H':Hp),H c=none→H' dx=some (jm dx [("tie",.int (k:Nat)),("lot",.ref c)])→H' c=some (.lst (lot.map V.str))→Same H H'→E (.ref Ba) (some dx) H')
theorem Bo (T:Txt K mg a):dG P w K mg base (Vd P w) 5 a.dg a.jz ["web"] (Bm a.cj a.bw a.bh):=by
  refine T.nW.qfP ig (fun vs H Q E h=>?_) (fun cdv A outer s H vs Q E hr h=>?_)
  ·obtain⟨o,xs,ps,rfl,_⟩:=h;rfl
  · obtain⟨o,xs,ps,rfl,hw,hX,hTs,q1,q2,q3⟩:=h;refine⟨_,(aA (bx (i:=1) ig.nd rfl (Or.inl rfl) (PE.eqv (aV (Mw (K:=K) T) (hr.mono (by decide)) rfl T.DK T.wz.kp T.DG .nil bF (aj (aH 0) aq)) (aO _ _ _)))
      (aA (cO (aW vY (aF (bY (K:=K) rfl) rfl T.nm.len PySem.boot_len (aj (aH 1) aq)) aL (bO _)) (aD (HN (E:=E) JH rfl rfl T.qP (Ew (K:=K) T) (hr.mono (by decide)) rfl T.yK T.vH (aj (bW (bZ (K:=K) rfl) (aH 1) aL (fun _ _=>rfl)) aq))) bH)
      (aA (bx (i:=2) ig.nd rfl (Or.inl rfl) (PE.eqv (aV (qaM (K:=K) T) (hr.mono (by decide)) rfl T.XS T.O_.kp T.XR .nil bF (aj (aH 0) aq)) (aO _ _ _)))
      (aD (cO (aW vY (aF (bY (K:=K) rfl) rfl T.nm.len PySem.boot_len (aj (aH 2) aq)) aL (bO _)) (aA (pJ (bW (bZ (K:=K) rfl) (aH 2) aL (fun _ _=>rfl)) (PG.eqv (cW (K:=K) (n:=2) rfl rfl (fL.eqv (aQ (aM (i:=3) ig.nd rfl (Or.inl rfl)) (fL.eqv (aQ (aM (i:=4) ig.nd rfl (Or.inl rfl)) (fL.mono cF d8)) (aR _ _))) (aR _ _))) (cX _ _ _)))
      (aD (HN (E:=E) JH rfl rfl T.qQ (Ey (K:=K) T) (hr.mono (by decide)) rfl T.yL T.vJ (aj (aH 3) (aj (aH 4) aq))))) bH))))),?_⟩
    simp -dsimp[aB,stC];refine⟨o,xs,ps,rfl,hw,hX,hTs,fun l1 rs1 H1 hl1 e1 hls hnw s1=>?_⟩;have hcl:rs1.length=(nG ps xs).length:=hls.1;simp -dsimp[aB,stC];refine⟨_,.inl (aX.of e1),dI.of (fun h=>?_) (fun h=>?_)⟩
    · have hpos:=of_decide_eq_true h;obtain⟨c,r,hcr⟩:∃c r,nG ps xs=c::r:=by
        cases hc:nG ps xs with
        | nil=>rw[hc] at hcl;simp at hcl;rw[hcl] at hpos;simp at hpos
        | cons c r=>exact⟨c,r,rfl⟩
      have hr0:r≠[]:=fun z=>by rw[hcr,z] at hcl;simp at hcl;rw[hcl] at hpos;simp at hpos
      obtain⟨v,hv⟩:∃v,rs1[0]? = some v:=⟨_,List.getElem?_eq_getElem (by rw[hcl,hcr];simp)⟩;obtain⟨c',hc',t,rfl,ht⟩:=hls.at hv;have:c'=c:=by
        have h2:(nG ps xs)[0]? = some c':=hc';rw[hcr] at h2;simpa using h2.symm
      subst this;simp -dsimp[aB,stC];refine⟨_,.inl (aX.of e1),_,bD (j:=0) hv,?_⟩;intro e5 he5;have s5:Same H1 (upd H1 e5 (fH e5 a.bw none)):=au he5;have x5:upd H1 e5 (fH e5 a.bw none) e5=some (fH e5 a.bw none):=ak;have hc5:=s5 _ _ ht;have e50:H e5=none:=bQ s1 he5;have S5:=s1.trans s5;generalize upd H1 e5 (fH e5 a.bw none)=H5 at s5 x5 hc5 S5 ⊢;refine⟨e5,t,_,rfl,x5,hc5,fun cc H6 hc0 ec hbe hB=>⟨rfl,?_⟩⟩;obtain⟨dx,dxe,hx5,hdx⟩:=hbe;have ce:cc≠e5:=fun z=>by rw[z,x5] at hc0;cases hc0
      refine⟨_,hx5,q2 _ _ hcr hr0 dx cc _ (bQ S5 hc0) (vZ dxe hdx) (vZ ce ec) fun b' u e=>?_⟩;have be:b'≠e5:=fun z=>by rw[z,e50] at e;cases e
      exact vZ be (hB b' u be (S5 _ _ e))
    · have h1:(nG ps xs).length≤1:=by
        have h0:=of_decide_eq_false h;omega
      simp -dsimp[aB,stC];refine⟨o,xs,ps,rfl,hw.same s1,hX,hTs,fun l rs H2 hl0 e2 zs hzs Yk qf5 hzn s2=>?_⟩;have S2:=s1.trans s2;simp -dsimp[aB,stC];refine⟨_,.inl (aX.of e2),dI.of (fun h=>?_) (fun h=>?_)⟩
      · have hpos:=of_decide_eq_true h;cases rs with
        | nil=>simp at hpos
        | cons v rs=>
        cases zs with
        | nil=>have:=hzs.1;simp at this
        | cons z zs=>
        obtain⟨t,rfl,ht,hc⟩:=hzs.2 0 v z rfl rfl;have hz0:=(hzn z List.mem_cons_self).1;rw[List.map_cons] at Yk;simp -dsimp[aB,stC];refine⟨_,.inl (aX.of e2),_,bD (j:=0) rfl,?_⟩;simp -dsimp[aB,stC];refine⟨_,d9.of ht,rfl,?_⟩;simp -dsimp[aB,stC];intro e5 he5;have s5:Same H2 (upd H2 e5 (fH e5 a.bh none)):=au he5;have x5:upd H2 e5 (fH e5 a.bh none) e5=some (fH e5 a.bh none):=ak;have hc5:=s5 _ _ hc;have e50:H e5=none:=bQ S2 he5;have S5:=S2.trans s5;generalize upd H2 e5 (fH e5 a.bh none)=H5 at s5 x5 hc5 S5 ⊢;refine⟨e5,z.1,.int z.2.1,_,rfl,x5,hc5,fun c H6 hc0 ec hbe hB=>⟨rfl,?_⟩⟩;obtain⟨dx,dxe,hx,hdx⟩:=hbe;have ce:c≠e5:=fun z=>by rw[z,x5] at hc0;cases hc0
        refine⟨_,hx,q3 h1 z.2.1 z.2.2 _ Yk.symm dx c _ (bQ S5 hc0) (vZ dxe hdx) (vZ ce ec) fun b' u e=>?_⟩;have be:b'≠e5:=fun z=>by rw[z,e50] at e;cases e
        exact vZ be (hB b' u be (S5 _ _ e))
      · have h0:=of_decide_eq_false h;cases zs with
        | cons z zs=>have:=hzs.1;simp at this;omega
        | nil=>
          simp -dsimp[aB,stC];exact q1 h1 Yk.symm _ S2
def aU (ks:List Nat):List V:=ks.map fun k=>V.int (k:Nat)
def tK (ps:List (Str×Str)) (here:Str) (k:Nat):Option Str:=match ps[k]? with
  | some e=>if here=e.1 then some e.2 else if here=e.2 then some e.1 else none
  | none=>none
def bJ (ps:List (Str×Str)):Str→List Nat→List Str
  | _,[]=>[]
  | h,k::ks=>match tK ps h k with
    | some y=>y::bJ ps y ks
    | none=>[]
theorem oh {ps:List (Str×Str)} {h:Str} {k:Nat} {ks:List Nat}:bJ ps h (k::ks)=match tK ps h k with
    | some y=>y::bJ ps y ks
    | none=>[]:=rfl
def Bp (C:Addr):Sp:=fun vs H Q _=>∃(o l:Addr) (start:Str) (xs:List Str) (ps:List (Str×Str)) (ks:List Nat),vs=[.ref o,.str start,.ref l]∧iu C H o xs ps∧jF xs ps∧Sq H l (aU ks)∧(∀k∈ks,k<ps.length)∧ks.length≤20∧
  ∀(r:Addr) (H':Hp),H r=none→H' r=some (.lst ((bJ ps start ks).map V.str))→Same H H'→Q (.ref r) H'
theorem mO (T:Txt K mg a):dG P w K mg base mF 2 a.dh a.jA ["web", "start", "numbers"] (Bp a.cj):=by
  refine T.iT.tH dB (fun vs H Q E h=>?_) (fun cdv A outer s H vs Q E hr h=>?_)
  ·obtain⟨o,l,start,xs,ps,ks,rfl,_⟩:=h;rfl
  · obtain⟨o,l,start,xs,ps,ks,rfl,hw,hTs,hl,hks,Er,q⟩:=h;refine⟨_,(aA (bx (i:=3) dB.nd rfl (Or.inl rfl) (PE.eqv (g8 (aH 0) T.kI T.n6 (pD (K:=K) T) (hr.mono (by decide)) T.nU .nil bF) (h_ _ _ _ _ _ _)))
      (aA (bx (i:=4) dB.nd rfl (Or.inl rfl) (cg aq))
      (aA (bx (i:=5) dB.nd rfl (Or.inl rfl) (aH 1))
      (aA (iI PassesOwn.never rfl (PI.eqv (oN (K:=K) rfl (aH 2)) (mq _ _)) (aM (i:=6) dB.nd rfl (Or.inl rfl))
      (aA (pJ (bW (bZ (K:=K) rfl) (aH 3) (aH 6) (fun _ _=>rfl)) (PG.eqv (cW (K:=K) (n:=2) rfl rfl (fL.eqv (aQ (aM (i:=7) dB.nd rfl (Or.inl rfl)) (fL.eqv (aQ (aM (i:=8) dB.nd rfl (Or.inl rfl)) (fL.mono cF d8)) (aR _ _))) (aR _ _))) (cX _ _ _)))
      (aA (cO (PW.pt (Iu (aW nP (aH 5) (aH 7) (bO _)) (Br (aW nP (aH 5) (aH 8) (bO _))))) (aD (aZ (aH 4))) bH)
      (aA (bx (i:=5) dB.nd rfl (Or.inl rfl) (Cm (aW jD (aH 5) (aH 7) (bO _)) (aH 8) (aH 7)))
      (aD (eF (jQ (K:=K) rfl PySem.F.plainAttrs_list PySem.F.slot_list_append PySem.F.type_list_append dH (aH 4) (aj (aH 5) aq))))))))
      (aD (aZ (aH 4))))))),?_⟩
    have Ke:200≤sizeLine:=by decide
    obtain⟨bq,hq⟩:=hl.b;obtain⟨dx,fs,hi,hno⟩:=hw.ins pF.1 pF.2;left;refine⟨_,_,hi,hno,o,xs,ps,rfl,hw,fun tl tv htl htv=>?_⟩;have s1:Same H (upd H tl (.lst tv)):=au htl;have e1:upd H tl (.lst tv) tl=some (.lst tv):=ak;have MF:=htv.same s1;generalize upd H tl (.lst tv)=H1 at s1 e1 MF ⊢;left;intro pl hpl;have s2:Same H1 (upd H1 pl (.lst [])):=au hpl;have e2:upd H1 pl (.lst []) pl=some (.lst (([]:List Str).map V.str)):=ak;generalize upd H1 pl (.lst [])=H2 at s2 e2 ⊢;have S2:=s1.trans s2;have pl0:H pl=none:=bQ s1 hpl;have qle:tl≠pl:=fun z=>by rw[z,hpl] at e1;cases e1
    refine⟨bq,⟨_,hq K H2 S2⟩,frQ (aU ks) (fun i σ H'=>(∃here o6 o7 o8 jP,σ=[some (.ref o),some (.str start),some (.ref l),some (.ref tl),some (.ref pl),some (.str here),o6,o7,o8]∧H' pl=some (.lst (jP.map V.str))∧jP.length=i∧bJ ps start ks=jP++bJ ps here (ks.drop i))∧H' tl=some (.lst tv)∧Same H H') ⟨⟨_,_,_,_,[],rfl,e2,rfl,rfl⟩,s2 _ _ e1,S2⟩ (fun i σ H' _ h=>hq K H' h.2.2) ?_ ?_⟩
    · rintro i v σ H3 hiv ⟨⟨here,o6,o7,o8,jP,rfl,e3,qgc,hpt⟩,et3,s3⟩;obtain⟨k,hk,rfl⟩:∃k,ks[i]? = some k∧v = .int (k:Nat):=by
        unfold aU at hiv;rw[List.getElem?_map] at hiv;obtain⟨k,hk,rfl⟩:=Option.map_eq_some_iff.mp hiv;exact⟨k,hk,rfl⟩
      have hi2:=(List.getElem?_eq_some_iff.mp hk).1;have hdr:ks.drop i=k::ks.drop (i+1):=by
        rw[List.drop_eq_getElem_cons hi2];congr 1;exact(List.getElem?_eq_some_iff.mp hk).2
      have hkl:=hks k (List.mem_of_getElem? hk);obtain⟨e,he⟩:∃e,ps[k]? = some e:=⟨_,List.getElem?_eq_getElem hkl⟩;obtain⟨w,hw'⟩:∃w,tv[k]? = some w:=⟨_,List.getElem?_eq_getElem (by rw[htv.1];exact hkl)⟩;obtain⟨t,rfl,ht⟩:=htv.2 k w e hw' he;rw[hdr,oh] at hpt;have hnx:tK ps here k=if here=e.1 then some e.2 else if here=e.2 then some e.1 else none:=by unfold tK;rw[he]
      rw[hnx] at hpt;left;refine⟨_,.inl (aX.of et3),_,bD hw',?_⟩;left;refine⟨_,d9.of (s3 _ _ ht),rfl,?_⟩;have fin:∀y:Str,bJ ps start ks=jP++y::bJ ps y (ks.drop (i+1))→upd H3 pl (.lst (jP.map V.str++[.str y])) pl=some (.lst ((jP++[y]).map V.str))∧(jP++[y]).length=i+1∧bJ ps start ks=(jP++[y])++bJ ps y (ks.drop (i+1))∧upd H3 pl (.lst (jP.map V.str++[.str y])) tl=some (.lst tv)∧Same H (upd H3 pl (.lst (jP.map V.str++[.str y]))):=fun y hy=>⟨by rw[ak];simp,by simp[qgc],by rw[hy];simp,by rw[aC qle];exact et3,bA s3 pl0⟩;have hsz:(jP.map V.str).length<sizeLine:=by rw[List.length_map];omega
      left
      by_cases h1:here=e.1
      ·refine⟨false,by simp[h1],dI.neg rfl ?_⟩;rw[if_pos h1] at hpt;obtain⟨f1,f2,f3,f4,f5⟩:=fin _ hpt;left;rw[decide_eq_true h1];left;exact⟨⟨_,aX.of e3⟩,_,e3,hsz,⟨_,f1,f2,f3⟩,f4,f5⟩
      · refine⟨true,by simp[h1],dI.pos rfl ?_⟩;rw[if_neg h1] at hpt;left
        by_cases h2:here=e.2
        ·refine⟨false,by simp[h2],dI.neg rfl ?_⟩;rw[if_pos h2] at hpt;obtain⟨f1,f2,f3,f4,f5⟩:=fin _ hpt;left;rw[decide_eq_false h1];left;exact⟨⟨_,aX.of e3⟩,_,e3,hsz,⟨_,f1,f2,f3⟩,f4,f5⟩
        ·refine⟨true,by simp[h2],dI.pos rfl ?_⟩;rw[if_neg h2] at hpt;left;exact q pl H3 pl0 (by rw[hpt];simpa using e3) s3
    · rintro σ H3 ⟨⟨here,o6,o7,o8,jP,rfl,e3,qgc,hpt⟩,et3,s3⟩;have hd:ks.drop (aU ks).length=[]:=by unfold aU;simp
      rw[hd] at hpt;have qlf:bJ ps start ks=jP:=by rw[hpt];simp[bJ]
      left;exact q pl H3 pl0 (by rw[qlf];exact e3) s3
def Zb (ms:List Str) (k:Nat) (s:kE):Bool:=decide (s.1≠k) && !decide (s.2.1∈ms)
def Vi (ps:List (Str×Str)) (ms:List Str) (k:Nat):List kE:=(aN (fun _=>none) ps 0).filter (Zb ms k)
def inR (R:BR) (y:Str):Bool:=decide (y∈R.map (·.1))
def MJ (C:Addr):Sp:=fun vs H Q _=>∃(o m:Addr) (k:Nat) (g:Str) (xs ms:List Str) (ps:List (Str×Str)),vs=[.ref o,.ref m,.str g,.int k]∧iu C H o xs ps∧Gq xs∧jF xs ps∧H m=some (.lst (ms.map V.str))∧ms.length≤9∧g∈xs∧(∃z∈ms,RT (g_ (Vi ps ms k)) g z)∧
  ∀(r:Addr) (w:List Nat) (vs:List Str) (z:Str) (H':Hp),H r=none→H' r=some (.lst (aU w))→nM (Vi ps ms k) g w vs z→vs.Nodup→z∈ms→w.length≤9→Same H H'→Q (.ref r) H'
theorem MK (T:Txt K mg a):dG P w K mg base mF 3 a.gW a.pq ["web", "met", "point", "number"] (MJ a.cj):=by
  refine T.wC.tH oU (fun vs H Q E h=>?_) (fun cdv A outer s H vs Q E hr h=>?_)
  ·obtain⟨o,m,k,g,xs,ms,ps,rfl,_⟩:=h;rfl
  · obtain⟨o,m,k,g,xs,ms,ps,rfl,hw,hX,hTs,hm,h9,hg,hz,q⟩:=h;refine⟨_,(aA (jC (i:=4) oU.nd rfl rfl rfl rfl (show aY (ao fJ) _ ["web", "met", "point", "number", "steps", "ways", "ends"] ["step"] [3,1] ["step", "number", "met"] from⟨rfl,by decide+kernel,by decide+kernel,rfl,by decide+kernel,by decide+kernel⟩) rfl (PI.eqv (cu (K:=K) rfl (PE.eqv (aV (n_ (K:=K) T) (hr.mono (by decide)) rfl T.lU T.jx.kp T.lR .nil bF (aj (aH 0) (aj CW aq))) (aO _ _ _))) (bU _ _)) (fun C s H fp pn=>(aM (i:=0) (show(["step", "number", "met"]:List Str).Nodup by decide+kernel) rfl (Or.inl rfl))) (fun C s H fp pn=>(lH (PW.pt (Iu (aW nP (bW (bZ (K:=K) rfl) (aH 0) aL (fun _ _=>rfl)) (aH 1) (bO _)) (Br (aW (m6 (K:=K) rfl) (bW (bZ (K:=K) rfl) (aH 0) aL (fun _ _=>rfl)) (aH 2) rfl)))))) (fun C s H fp pn=>(aH 0)))
      (aA (bx (i:=5) oU.nd rfl (Or.inr rfl) (PE.eqv (aV (vP (K:=K) T) (hr.mono (by decide)) rfl T.rR T.nF.kp T.rQ .nil bF (aj (aH 2) (aj (aH 4) aq))) (aO _ _ _)))
      (aA (jC (i:=6) oU.nd rfl rfl rfl rfl (show aY (ao fJ) _ ["web", "met", "point", "number", "steps", "ways", "ends"] ["end"] [5] ["end", "ways"] from⟨rfl,by decide+kernel,by decide+kernel,rfl,by decide+kernel,by decide+kernel⟩) rfl (PI.eqv (cu (K:=K) rfl (aH 1)) (bU _ _)) (fun C s H fp pn=>(aM (i:=0) (show(["end", "ways"]:List Str).Nodup by decide+kernel) rfl (Or.inl rfl))) (fun C s H fp pn=>(lH (Jv (PC.eqv (Wn (Aj hr) (aH 0) (aH 1)) (QX _ _))))) (fun C s H fp pn=>(aH 0)))
      (aD (aZ (PE.eqv (QL (Aj hr) (aH 5) (bW (bZ (K:=K) rfl) (aH 6) aL (fun _ _=>rfl)) (fun _ _=>rfl)) (Lr _ _))))))),?_⟩
    have Ke:200≤sizeLine:=by decide
    right;intro d hd;have s1:Same H (upd H d (.dK [])):=au hd;have hf1:=Dd (ak (H:=H) (a:=d) (o:=.dK []));generalize upd H d (.dK [])=H1 at s1 hf1 ⊢;refine⟨o,d,xs,ps,fun _=>none,rfl,hw.same s1,hf1,fun l tv H2 hl0 hl2 hS h40 s2=>?_⟩;have S2:=s1.trans s2;have hm2:=S2 _ _ hm;right;refine⟨⟨_,aX.of hl2⟩,fun D hD=>Nt tv (fun i σ H'=>(∃o',σ=[o',some (.int (k:Nat)),some (.ref m)])∧(∃sv,H' D=some (.lst sv)∧eU H' sv (((aN (fun _=>none) ps 0).take i).filter (Zb ms k))∧sv.length≤i)∧Same H2 H') ⟨⟨_,rfl⟩,⟨[],ak,bN.nil,by simp⟩,au hD⟩ (fun i σ H' _ h=>aX.of (h.2.2 _ _ hl2)) ?_ ?_⟩
    · rintro i v σ H3 hi ⟨⟨o',rfl⟩,⟨sv,Vh,hsv,hsl⟩,s3⟩;have hi2:=(List.getElem?_eq_some_iff.mp hi).1;obtain⟨st,hst⟩:∃st,(aN (fun _=>none) ps 0)[i]? = some st:=⟨_,List.getElem?_eq_getElem (by rw[← hS.1];exact hi2)⟩;obtain⟨t,rfl,ht⟩:=hS.2 i v st hi hst;have ht3:=s3 _ _ ht;have hm3:=s3 _ _ hm2;rw[take_one hst,List.filter_append];right;refine⟨_,.inr (d9.of ht3),_,bD (j:=0) rfl,?_⟩;right
      by_cases hk:st.1=k
      · refine⟨false,by simp[hk],dI.neg rfl ?_⟩;right;have e0:([st].filter (Zb ms k))=[]:=by simp[Zb,hk]
        exact⟨⟨sv,Vh,by rw[e0,List.append_nil];exact hsv,by omega⟩,s3⟩
      · refine⟨true,by simp;omega,dI.pos rfl ?_⟩;right;refine⟨_,.inr (d9.of ht3),_,bD (j:=1) rfl,_,.inl (aX.of hm3),rfl,List.all_eq_true.mp (cI _),?_⟩;rw[bT]
        by_cases hin:st.2.1∈ms
        · refine⟨false,by simp[hin],dI.neg rfl ?_⟩;right;have e0:([st].filter (Zb ms k))=[]:=by simp[Zb,hin]
          exact⟨⟨sv,Vh,by rw[e0,List.append_nil];exact hsv,by omega⟩,s3⟩
        · refine⟨true,by simp[hin],dI.pos rfl ?_⟩;right;have e0:([st].filter (Zb ms k))=[st]:=by simp[Zb,hin,hk]
          have kp:dD H3 (upd H3 D (.lst (sv++[.ref t]))):=fun c zs e=>mY e Vh (by intro z;cases z);refine⟨_,Vh,by omega,⟨_,ak,?_,by simp;omega⟩,bA s3 hD⟩;rw[e0];exact bN.snoc (eU.keep hsv kp) ⟨t,rfl,kp _ _ ht3⟩
    · rintro σ H3 ⟨⟨o',rfl⟩,⟨sv,Vh,hsv,hsl⟩,s3⟩;rw[hS.1,List.take_length] at hsv;have S3:=S2.trans s3;have Ye:∀st∈Vi ps ms k,st.2.2∈xs:=fun st hst=>Kd (fx:=fun _=>none) hTs st (List.mem_filter.mp hst).1;right;refine⟨g,D,sv,Vi ps ms k,xs,rfl,Vh,hsv,hg,Ye,hX.len.2,fun dw kvs R H4 hdw edw hW hB hF hN s4=>?_⟩;have S4:=S3.trans s4;have hm4:=S4 _ _ hm;right;refine⟨⟨_,aX.of hm4⟩,fun D2 hD2=>Nt (ms.map V.str) (fun i σ H'=>(∃o',σ=[o',some (.ref dw)])∧H' D2=some (.lst (((ms.take i).filter (inR R)).map V.str))∧Same H4 H') ⟨⟨_,rfl⟩,ak,au hD2⟩ (fun i σ H' _ h=>aX.of (h.2.2 _ _ hm4)) ?_ ?_⟩
      · rintro i v σ H5 hi ⟨⟨o',rfl⟩,Es,s5⟩;obtain⟨y,hy,rfl⟩:=pL hi;have hi2:=(List.getElem?_eq_some_iff.mp hy).1;have fl:((ms.take i).filter (inR R)).length≤i:=Nat.le_trans (List.length_filter_le _ _) (by rw[List.length_take];omega);rw[take_one hy,List.filter_append];have hhas:=hW.has hB.nd y;right;refine⟨_,Wt y (s5 _ _ edw),?_⟩;rw[hhas];refine dI.of (fun h=>?_) (fun h=>?_)
        · have h:=of_decide_eq_true h;right;refine⟨_,Es,by rw[List.length_map];omega,?_,bA s5 hD2⟩;rw[ak];have e0:([y].filter (inR R))=[y]:=by rw[List.filter_cons,if_pos (show inR R y=true from decide_eq_true h)];rfl
          rw[e0];simp
        · have h:=of_decide_eq_false h;right;refine⟨?_,s5⟩;have e0:([y].filter (inR R))=[]:=by rw[List.filter_cons,if_neg (by rw[show inR R y=false from decide_eq_false h];decide)];rfl
          rw[e0];simpa using Es
      · rintro σ H5 ⟨⟨o',rfl⟩,Es,s5⟩;rw[List.length_map,List.take_length] at Es;obtain⟨z,rest,hzr,hzm,hzR⟩:∃z rest,(ms.filter (inR R))=z::rest∧z∈ms∧z∈R.map (·.1):=by
          obtain⟨z,hz1,hz2⟩:=hz;have hzR:=(hB.iff z).mpr hz2;have hmem:z∈ms.filter (inR R):=List.mem_filter.mpr ⟨hz1,decide_eq_true hzR⟩;cases hf:(ms.filter (inR R)) with
          | nil=>rw[hf] at hmem;cases hmem
          | cons z' rest=>
            have:=List.mem_filter.mp (show z'∈ms.filter (inR R) by rw[hf];exact List.mem_cons_self);exact⟨z',rest,rfl,this.1,of_decide_eq_true this.2⟩
        rw[hzr] at Es;obtain⟨⟨z',w'⟩,hzw,hz'⟩:=List.mem_map.mp hzR;obtain rfl:z'=z:=hz';obtain⟨p,hp1,hp2⟩:=hW.some hB.nd hzw;obtain⟨vs,hpv,hvn,_⟩:=hB.pth _ _ hzw;have hwl:=hB.qfs hzw;have hRl:=b_ hB.nd (hB.sub hg Ye);have x9:=hX.len.2;rw[List.length_map] at hRl;right;refine⟨_,.inl (aX.of Es),_,bD (j:=0) rfl,_,(by rw[← hp1];exact Wt z' (s5 _ _ edw)),?_⟩;exact q p w' vs z' H5 (bQ S3 (hN.at hp1)) (s5 _ _ hp2) hpv hvn hzm (by omega) (S4.trans s5)
structure NxE (ps:List (Str×Str)) (ms:List Str) (lf_:List Nat) (start:Str) (k:Nat) (w:List Nat):Prop where
  sm:start∈ms
  kl:k∈lf_
  ex:∃goal vs z,tK ps start k=some goal∧nM (Vi ps ms k) goal w vs z∧vs.Nodup∧z∈ms
  wl:w.length≤9
def touch (ps:List (Str×Str)) (ms:List Str) (k:Nat):Bool:=match ps[k]? with
  | some e=>decide (e.1∈ms) || decide (e.2∈ms)
  | none=>false
theorem yP {ps:List (Str×Str)} {ms:List Str} {k:Nat} {e:Str×Str} (h:ps[k]? = some e):touch ps ms k=(decide (e.1∈ms) || decide (e.2∈ms)):=by unfold touch;rw[h]
def MN (C:Addr):Sp:=fun vs H Q _=>∃(o m lf:Addr) (xs ms:List Str) (ps:List (Str×Str)) (lf_:List Nat),vs=[.ref o,.ref m,.ref lf]∧iu C H o xs ps∧Gq xs∧jF xs ps∧H m=some (.lst (ms.map V.str))∧ms.length≤9∧H lf=some (.lst (aU lf_))∧lf_.length≤20∧(∀k∈lf_,k<ps.length)∧(∃k∈lf_,touch ps ms k=true)∧
  (∀k e,k∈lf_→ps[k]? = some e→(e.1∈ms→∃z∈ms,RT (g_ (Vi ps ms k)) e.2 z)∧(e.2∈ms→∃z∈ms,RT (g_ (Vi ps ms k)) e.1 z))∧
  ∀(t r:Addr) (start:Str) (k:Nat) (w:List Nat) (H':Hp),H t=none→H r=none→H' t=some (.tup [.str start,.ref r])→H' r=some (.lst (aU (k::w)))→NxE ps ms lf_ start k w→Same H H'→Q (.ref t) H'
theorem MP (T:Txt K mg a):dG P w K mg base mF 4 a.gY a.pA ["web", "met", "left"] (MN a.cj):=by
  refine T.wD.tH iQ (fun vs H Q E h=>?_) (fun cdv A outer s H vs Q E hr h=>?_)
  ·obtain⟨o,m,lf,xs,ms,ps,lf_,rfl,_⟩:=h;rfl
  · obtain⟨o,m,lf,xs,ms,ps,lf_,rfl,hw,hX,hTs,hm,h9,hlf,Er,hkl,hto,hbk,q⟩:=h;refine⟨_,(aA (bx (i:=3) iQ.nd rfl (Or.inr rfl) (PE.eqv (g8 (aH 0) T.kI T.n6 (pD (K:=K) T) (hr.mono (by decide)) T.nU .nil bF) (h_ _ _ _ _ _ _)))
      (aA (jC (i:=4) iQ.nd rfl rfl rfl rfl (show aY (ao gb) _ ["web", "met", "left", "ties", "ready", "first", "second", "start", "goal"] ["number"] [1,3] ["number", "met", "ties"] from⟨rfl,by decide+kernel,by decide+kernel,rfl,by decide+kernel,by decide+kernel⟩) rfl (PI.eqv (cu (K:=K) rfl (aH 2)) (bU _ _)) (fun C s H fp pn=>(aM (i:=0) (show(["number", "met", "ties"]:List Str).Nodup by decide+kernel) rfl (Or.inl rfl))) (fun C s H fp pn=>(lH (PW.pt (jj (aW (zE (K:=K) rfl) (bW (bZ (K:=K) rfl) (bW (bZ (K:=K) rfl) (aH 2) (aH 0) (fun _ _=>rfl)) aL (fun _ _=>rfl)) (aH 1) rfl) (iC (aW (zE (K:=K) rfl) (bW (bZ (K:=K) rfl) (bW (bZ (K:=K) rfl) (aH 2) (aH 0) (fun _ _=>rfl)) aL (fun _ _=>rfl)) (aH 1) rfl)))))) (fun C s H fp pn=>(aH 0)))
      (aA (pJ (bW (bZ (K:=K) rfl) (aH 3) (bW (bZ (K:=K) rfl) (aH 4) aL (fun _ _=>rfl)) (fun _ _=>rfl)) (PG.eqv (cW (K:=K) (n:=2) rfl rfl (fL.eqv (aQ (aM (i:=5) iQ.nd rfl (Or.inl rfl)) (fL.eqv (aQ (aM (i:=6) iQ.nd rfl (Or.inl rfl)) (fL.mono cF d8)) (aR _ _))) (aR _ _))) (cX _ _ _)))
      (aA (pJ (Cm (aW (zE (K:=K) rfl) (aH 5) (aH 1) rfl) (fM (aj (aH 5) (aj (aH 6) aq))) (fM (aj (aH 6) (aj (aH 5) aq)))) (PG.eqv (cW (K:=K) (n:=2) rfl rfl (fL.eqv (aQ (aM (i:=7) iQ.nd rfl (Or.inl rfl)) (fL.eqv (aQ (aM (i:=8) iQ.nd rfl (Or.inl rfl)) (fL.mono cF d8)) (aR _ _))) (aR _ _))) (cX _ _ _)))
      (aD (aZ (fM (aj (aH 7) (aj (dF m5 (cg (aj (bW (bZ (K:=K) rfl) (aH 4) aL (fun _ _=>rfl)) aq)) (PE.eqv (aV (MK (K:=K) T) (hr.mono (by decide)) rfl T.Eb T.wC.kp T.Ea .nil bF (aj (aH 0) (aj (aH 1) (aj (aH 8) (aj (bW (bZ (K:=K) rfl) (aH 4) aL (fun _ _=>rfl)) aq))))) (aO _ _ _))) aq))))))))),?_⟩
    have Ke:200≤sizeLine:=by decide
    obtain⟨dx,fs,hi,hno⟩:=hw.ins pF.1 pF.2;left;refine⟨_,_,hi,hno,o,xs,ps,rfl,hw,fun tl tv htl htv=>?_⟩;have s1:Same H (upd H tl (.lst tv)):=au htl;have e1:upd H tl (.lst tv) tl=some (.lst tv):=ak;have MF:=htv.same s1;generalize upd H tl (.lst tv)=H1 at s1 e1 MF ⊢;have at1:∀{k:Nat} {e:Str×Str} {H':Hp},Same H1 H'→ps[k]? = some e→∃t,tv[k]? = some (.ref t)∧H' t=some (.tup [.str e.1,.str e.2]):=fun {k e H'} s he=>by
      obtain⟨w,hw'⟩:∃w,tv[k]? = some w:=⟨_,List.getElem?_eq_getElem (by rw[htv.1];exact(List.getElem?_eq_some_iff.mp he).1)⟩;obtain⟨t,rfl,ht⟩:=MF.2 k w e hw' he;exact⟨t,hw',s _ _ ht⟩
    have hm1:=s1 _ _ hm;have qgd:=s1 _ _ hlf;left;refine⟨⟨_,aX.of qgd⟩,fun D hD=>Nt (aU lf_) (fun i σ H'=>(∃o',σ=[o',some (.ref m),some (.ref tl)])∧H' D=some (.lst (aU ((lf_.take i).filter (touch ps ms))))∧Same H1 H') ⟨⟨_,rfl⟩,ak,au hD⟩ (fun i σ H' _ h=>aX.of (h.2.2 _ _ qgd)) ?_ ?_⟩
    · rintro i v σ H2 hiv ⟨⟨o',rfl⟩,hD2,s2⟩;obtain⟨k,hk,rfl⟩:∃k,lf_[i]? = some k∧v = .int (k:Nat):=by
        unfold aU at hiv;rw[List.getElem?_map] at hiv;obtain⟨k,hk,rfl⟩:=Option.map_eq_some_iff.mp hiv;exact⟨k,hk,rfl⟩
      have hi2:=(List.getElem?_eq_some_iff.mp hk).1;have qlg:=hkl k (List.mem_of_getElem? hk);obtain⟨e,he⟩:∃e,ps[k]? = some e:=⟨_,List.getElem?_eq_getElem qlg⟩;obtain⟨t,qaN,ht⟩:=at1 s2 he;have hte:=yP (ms:=ms) he;have hm2:=s2 _ _ hm1;have et2:=s2 _ _ e1;have fl:((lf_.take i).filter (touch ps ms)).length≤i:=Nat.le_trans (List.length_filter_le _ _) (by rw[List.length_take];omega);rw[take_one hk,List.filter_append];left;refine⟨_,.inl (aX.of et2),_,bD qaN,?_⟩;left;refine⟨_,.inr (d9.of ht),_,bD (j:=0) rfl,_,.inl (aX.of hm2),rfl,List.all_eq_true.mp (cI _),?_⟩;rw[bT];have add:touch ps ms k=true→upd H2 D (.lst (aU ((lf_.take i).filter (touch ps ms))++[.int (k:Nat)])) D=some (.lst (aU ((lf_.take i).filter (touch ps ms)++[k].filter (touch ps ms)))):=fun h=>by
        rw[ak,List.filter_cons,if_pos h];simp[aU]
      have non:touch ps ms k=false→H2 D=some (.lst (aU ((lf_.take i).filter (touch ps ms)++[k].filter (touch ps ms)))):=fun h=>by
        rw[List.filter_cons,if_neg (by rw[h];decide)];simpa using hD2
      have hsz:(aU ((lf_.take i).filter (touch ps ms))).length<sizeLine:=by simp[aU];omega
      by_cases h1:e.1∈ms
      ·refine dI.pos (decide_eq_true h1) ?_;left;exact⟨_,hD2,hsz,add (by rw[hte,decide_eq_true h1];rfl),bA s2 hD⟩
      · refine dI.neg (decide_eq_false h1) ?_;left;refine⟨_,.inl (aX.of et2),_,bD qaN,?_⟩;left;refine⟨_,.inr (d9.of ht),_,bD (j:=1) rfl,_,.inl (aX.of hm2),rfl,List.all_eq_true.mp (cI _),?_⟩;rw[bT]
        by_cases h2:e.2∈ms
        ·refine dI.pos (decide_eq_true h2) ?_;left;exact⟨_,hD2,hsz,add (by rw[hte,decide_eq_true h2];simp),bA s2 hD⟩
        ·refine dI.neg (decide_eq_false h2) ?_;left;exact⟨non (by rw[hte,decide_eq_false h1,decide_eq_false h2];rfl),s2⟩
    · rintro σ H2 ⟨⟨o',rfl⟩,hD2,s2⟩;have nl:(aU lf_).length=lf_.length:=by simp[aU]
      rw[nl,List.take_length] at hD2;obtain⟨k,rest,hkr,hkm,hkt⟩:∃k rest,lf_.filter (touch ps ms)=k::rest∧k∈lf_∧touch ps ms k=true:=by
        obtain⟨k,h1,h2⟩:=hto;have hmem:k∈lf_.filter (touch ps ms):=List.mem_filter.mpr ⟨h1,h2⟩;cases hf:lf_.filter (touch ps ms) with
        | nil=>rw[hf] at hmem;cases hmem
        | cons k' rest=>
          have:=List.mem_filter.mp (show k'∈lf_.filter (touch ps ms) by rw[hf];exact List.mem_cons_self);exact⟨k',rest,rfl,this.1,this.2⟩
      rw[hkr] at hD2;obtain⟨e,he⟩:∃e,ps[k]? = some e:=⟨_,List.getElem?_eq_getElem (hkl k hkm)⟩;obtain⟨t,qaN,ht⟩:=at1 s2 he;obtain⟨b1,b2⟩:=hbk k e hkm he;obtain⟨m1,m2,mne⟩:=hTs.ok e (List.mem_of_getElem? he);have hte:=yP (ms:=ms) he;have S2:=s1.trans s2;have hm2:=s2 _ _ hm1;have et2:=s2 _ _ e1;left;refine⟨_,.inl (aX.of hD2),_,bD (j:=0) rfl,?_⟩;left;refine⟨_,.inl (aX.of et2),_,bD qaN,?_⟩;left;refine⟨_,d9.of ht,rfl,?_⟩;left;refine⟨_,.inl (aX.of hm2),rfl,List.all_eq_true.mp (cI _),?_⟩;rw[bT]
      by_cases h1:e.1∈ms
      ·refine dI.pos (decide_eq_true h1) ?_;left;intro pt hpt;have s3:Same H2 (upd H2 pt (.tup [.str e.1,.str e.2])):=au hpt;have e3:upd H2 pt (.tup [.str e.1,.str e.2]) pt=some (.tup [.str e.1,.str e.2]):=ak;generalize upd H2 pt (.tup [.str e.1,.str e.2])=H3 at s3 e3 ⊢;refine⟨_,d9.of e3,rfl,?_⟩;left;refine⟨_,.inl (aX.of (s3 _ _ hD2)),_,bD (j:=0) rfl,fun p4 Yl=>?_⟩;have s4:Same H3 (upd H3 p4 (.lst [.int (k:Nat)])):=au Yl;have e4:upd H3 p4 (.lst [.int (k:Nat)]) p4=some (.lst [.int (k:Nat)]):=ak;generalize upd H3 p4 (.lst [.int (k:Nat)])=H4 at s4 e4 ⊢;have S4:=(S2.trans s3).trans s4;refine⟨_,.inl (aX.of (s4 _ _ (s3 _ _ hD2))),_,bD (j:=0) rfl,?_⟩;refine⟨o,m,k,_,xs,ms,ps,rfl,hw.same S4,hX,hTs,S4 _ _ hm,h9,m2,b1 h1,fun r5 w5 vs5 z5 H5 Rq e5 hpv hvn hzm hwl s5=>?_⟩;left;refine⟨_,s5 _ _ e4,_,e5,by simp[aU];omega,fun p6 hp6=>?_⟩;have ek : [V.int (k:Nat)]++aU w5=aU (k::w5):=rfl;rw[ek];have s6:Same H5 (upd H5 p6 (.lst (aU (k::w5)))):=au hp6;have e6:upd H5 p6 (.lst (aU (k::w5))) p6=some (.lst (aU (k::w5))):=ak;generalize upd H5 p6 (.lst (aU (k::w5)))=H6 at s6 e6 ⊢;have S5:=S4.trans s5;have S6:=S5.trans s6;intro p7 hp7;exact q p7 p6 _ k w5 _ (bQ S6 hp7) (bQ S5 hp6) ak (bG e6 hp7) ⟨h1,hkm,⟨_,vs5,z5,(by unfold tK;rw[he];simp),hpv,hvn,hzm⟩,hwl⟩ (S6.trans (au hp7))
      · refine dI.neg (decide_eq_false h1) ?_;have h2:e.2∈ms:=by
          rw[hte,decide_eq_false h1] at hkt;simpa using hkt
        left;intro pt hpt;have s3:Same H2 (upd H2 pt (.tup [.str e.2,.str e.1])):=au hpt;have e3:upd H2 pt (.tup [.str e.2,.str e.1]) pt=some (.tup [.str e.2,.str e.1]):=ak;generalize upd H2 pt (.tup [.str e.2,.str e.1])=H3 at s3 e3 ⊢;refine⟨_,d9.of e3,rfl,?_⟩;left;refine⟨_,.inl (aX.of (s3 _ _ hD2)),_,bD (j:=0) rfl,fun p4 Yl=>?_⟩;have s4:Same H3 (upd H3 p4 (.lst [.int (k:Nat)])):=au Yl;have e4:upd H3 p4 (.lst [.int (k:Nat)]) p4=some (.lst [.int (k:Nat)]):=ak;generalize upd H3 p4 (.lst [.int (k:Nat)])=H4 at s4 e4 ⊢;have S4:=(S2.trans s3).trans s4;refine⟨_,.inl (aX.of (s4 _ _ (s3 _ _ hD2))),_,bD (j:=0) rfl,?_⟩;refine⟨o,m,k,_,xs,ms,ps,rfl,hw.same S4,hX,hTs,S4 _ _ hm,h9,m1,b2 h2,fun r5 w5 vs5 z5 H5 Rq e5 hpv hvn hzm hwl s5=>?_⟩;left;refine⟨_,s5 _ _ e4,_,e5,by simp[aU];omega,fun p6 hp6=>?_⟩;have ek : [V.int (k:Nat)]++aU w5=aU (k::w5):=rfl;rw[ek];have s6:Same H5 (upd H5 p6 (.lst (aU (k::w5)))):=au hp6;have e6:upd H5 p6 (.lst (aU (k::w5))) p6=some (.lst (aU (k::w5))):=ak;generalize upd H5 p6 (.lst (aU (k::w5)))=H6 at s6 e6 ⊢;have S5:=S4.trans s5;have S6:=S5.trans s6;intro p7 hp7;exact q p7 p6 _ k w5 _ (bQ S6 hp7) (bQ S5 hp6) ak (bG e6 hp7) ⟨h2,hkm,⟨_,vs5,z5,(by unfold tK;rw[he];simp[mne.symm]),hpv,hvn,hzm⟩,hwl⟩ (S6.trans (au hp7))
theorem M4 {f:Str×Str→Nat→List (Nat×List Str)}:∀{ps:List (Str×Str)} {k:Nat},k_ f ps k=[]→∀(j:Nat) e,ps[j]? = some e→f e (k+j)=[]
  | [],k,_,j,e,h=>by simp at h
  | d::ps,k,h,j,e,he=>by
    rw[k_,List.append_eq_nil_iff] at h;cases j with
    | zero=>simp at he;subst he;exact h.1
    | succ j=>
      have:=M4 h.2 j e (by simpa using he)
      rwa [show k+(j+1)=k+1+j by omega]
theorem Ym {ps:List (Str×Str)} {xs:List Str} (h:fO ps xs=[]):∀(j:Nat) e,ps[j]? = some e→RT (fX (fun i=>i≠j) ps) e.1 e.2:=fun j e he=>by
  have h1:=M4 h j e he;rw[Nat.zero_add] at h1;unfold jR at h1;split at h1
  ·rename_i h2;exact((Hu.mp h2).2).symm fun _ _ z=>z.symm
  ·cases h1
theorem pZ {ps:List (Str×Str)} {n:Nat} {a b:Str}:(n,a,b)∈aN (fun _=>none) ps 0↔∃e,ps[n]? = some e∧((a=e.1∧b=e.2)∨(a=e.2∧b=e.1)):=by
  rw[qaE];simp
theorem qdA {ps:List (Str×Str)}:∀a b,g_ (aN (fun _=>none) ps 0) a b→g_ (aN (fun _=>none) ps 0) b a:=fun a b ⟨n,h⟩=>by
  obtain⟨e,he,h⟩:=pZ.mp h;exact⟨n,pZ.mpr ⟨e,he,h.elim (fun z=>.inr ⟨z.2,z.1⟩) fun z=>.inl ⟨z.2,z.1⟩⟩⟩
theorem M5 {S:List kE} {xs:List Str}:∀(ys:List Str) (acc:List (List Str)) (c:List Str),c∈acc→c∈ys.foldl (gH S xs) acc
  | [],acc,c,h=>h
  | y::ys,acc,c,h=>by
    refine M5 ys _ c ?_;unfold gH;split
    ·exact h
    ·exact List.mem_append_left _ h
theorem Ez {S:List kE} {xs:List Str}:∀(ys:List Str) (acc:List (List Str)) (y:Str),y∈ys→y∈xs→∃c∈ys.foldl (gH S xs) acc,y∈c
  | [],acc,y,h,_=>by cases h
  | x::ys,acc,y,h,hx=>by
    rcases List.mem_cons.mp h with rfl | h
    · obtain⟨c,hc,hy⟩:∃c∈gH S xs acc y,y∈c:=by
        unfold gH;split
        ·rename_i h2;obtain⟨c,h1,h2⟩:=List.any_eq_true.mp h2;exact⟨c,h1,of_decide_eq_true h2⟩
        ·exact⟨oF S xs y,by simp,Bt.mpr ⟨hx,.refl _⟩⟩
      exact⟨c,M5 ys _ c hc,hy⟩
    ·exact Ez ys _ y h hx
theorem Yn {ps:List (Str×Str)} {xs:List Str} (h:(nG ps xs).length≤1):∀x∈xs,∀y∈xs,RT (g_ (aN (fun _=>none) ps 0)) x y:=fun x hx y hy=>by
  unfold nG Bl at h;obtain⟨c,hc,h1⟩:=Ez (S:=aN (fun _=>none) ps 0) (xs:=xs) xs [] x hx hx;obtain⟨d,hd,h2⟩:=Ez (S:=aN (fun _=>none) ps 0) (xs:=xs) xs [] y hy hy;have hm:=Lg (S:=aN (fun _=>none) ps 0) (xs:=xs) xs [] (by simp) (fun z hz=>hz);generalize xs.foldl (gH (aN (fun _=>none) ps 0) xs) []=cs at h hc hd hm;have hcd:c=d:=by
    match cs,h,hc,hd with
    | [z],_,hc,hd=>
      rw[List.mem_singleton] at hc hd;rw[hc,hd]
  subst hcd;obtain⟨x0,_,rfl⟩:=hm c hc;exact((Bt.mp h1).2.symm qdA).trans (Bt.mp h2).2
structure EI (ps:List (Str×Str)) (xs ms:List Str) (lf_:List Nat):Prop where
  ne:∃x,x∈ms
  sub:∀x∈ms,x∈xs
  nd:ms.Nodup
  lt:∀k∈lf_,k<ps.length
  us:∀k e,ps[k]? = some e→k∉lf_→e.1∈ms∧e.2∈ms
theorem EI.full {ps:List (Str×Str)} {xs ms:List Str} {lf_:List Nat} (h:EI ps xs ms lf_) (con:∀x∈xs,∀y∈xs,RT (g_ (aN (fun _=>none) ps 0)) x y) (hno:∀k∈lf_,touch ps ms k=false):∀x∈xs,x∈ms:=fun x hx=>by
  obtain⟨x0,hx0⟩:=h.ne;refine RT.closed (P:=fun y=>y∈ms) (fun p q hs hp=>?_) hx0 (con x0 (h.sub _ hx0) x hx);obtain⟨n,hn⟩:=hs;obtain⟨e,he,hn⟩:=pZ.mp hn
  by_cases hl:n∈lf_
  · have:=hno n hl;rw[yP he] at this;simp at this
    rcases hn with⟨rfl,rfl⟩ | ⟨rfl,rfl⟩
    ·exact absurd hp this.1
    ·exact absurd hp this.2
  · have:=h.us n e he hl
    rcases hn with⟨rfl,rfl⟩ | ⟨rfl,rfl⟩
    ·exact this.2
    ·exact this.1
theorem EI.touch {ps:List (Str×Str)} {xs ms:List Str} {lf_:List Nat} (h:EI ps xs ms lf_) (hTs:jF xs ps) (con:∀x∈xs,∀y∈xs,RT (g_ (aN (fun _=>none) ps 0)) x y) (hl:lf_≠[]):∃k∈lf_,touch ps ms k=true:=by
  apply Classical.byContradiction;intro hno;have hno':∀k∈lf_,TJ.touch ps ms k=false:=fun k hk=>by
    cases ht:TJ.touch ps ms k with
    | false=>rfl
    | true=>exact absurd ⟨k,hk,ht⟩ hno
  have hf:=h.full con hno';obtain⟨k,r,rfl⟩:∃k r,lf_=k::r:=by
    cases lf_ with
    | nil=>exact absurd rfl hl
    | cons k r=>exact⟨k,r,rfl⟩
  obtain⟨e,he⟩:∃e,ps[k]? = some e:=⟨_,List.getElem?_eq_getElem (h.lt k List.mem_cons_self)⟩;have:=hno' k List.mem_cons_self;rw[yP he] at this;simp at this;exact this.1 (hf _ (hTs.ok e (List.mem_of_getElem? he)).1)
theorem M6 {ps:List (Str×Str)} {ms:List Str} {k:Nat} {g y:Str} (h:RT (fX (fun i=>i≠k) ps) g y) (hy:y∈ms):∃z∈ms,RT (g_ (Vi ps ms k)) g z:=by
  have key:∀y,RT (fX (fun i=>i≠k) ps) g y→(∃z∈ms,RT (g_ (Vi ps ms k)) g z)∨RT (g_ (Vi ps ms k)) g y:=by
    intro y h
    induction h with
    | refl=>exact .inr (.refl _)
    | @tail b c _ st ih=>
      rcases ih with ih | ih
      ·exact .inl ih
      · by_cases hb:b∈ms
        ·exact .inl ⟨b,hb,ih⟩
        · obtain⟨n,hn,he⟩:=st;refine .inr (.tail ih ⟨n,List.mem_filter.mpr ⟨pZ.mpr ?_,by simp[Zb,hn,hb]⟩⟩)
          rcases he with he | he
          ·exact⟨_,he,.inl ⟨rfl,rfl⟩⟩
          ·exact⟨_,he,.inr ⟨rfl,rfl⟩⟩
  rcases key y h with h | h
  ·exact h
  ·exact⟨y,hy,h⟩
theorem Ub {ps:List (Str×Str)} {xs:List Str} (hTs:jF xs ps) {n:Nat} {b c:Str} (h:(n,b,c)∈aN (fun _=>none) ps 0):tK ps b n=some c:=by
  obtain⟨e,he,h⟩:=pZ.mp h;have hne:=(hTs.ok e (List.mem_of_getElem? he)).2.2;unfold tK;rw[he]
  rcases h with⟨rfl,rfl⟩ | ⟨rfl,rfl⟩
  ·simp
  ·simp[hne.symm]
theorem Yo {ps:List (Str×Str)} {xs ms:List Str} (hTs:jF xs ps) {k:Nat} {a b:Str} {w:List Nat} {vs:List Str} (h:nM (Vi ps ms k) a w vs b):∀ks,bJ ps a (w++ks)=vs.tail++bJ ps b ks:=by
  induction h with
  | nil=>intro ks;rfl
  | @snoc w vs b c n hp hs ih=>
    intro ks;have hl:=hp.len;rw[List.append_assoc,ih];show vs.tail++bJ ps b (n::ks)=_;rw[oh,Ub hTs (List.mem_filter.mp hs).1];cases vs with
    | nil=>simp at hl
    | cons v vs=>simp
theorem qaO {ps:List (Str×Str)} {xs ms:List Str} (hTs:jF xs ps) {k:Nat} {start goal z:Str} {w:List Nat} {vs:List Str} (hg:tK ps start k=some goal) (h:nM (Vi ps ms k) goal w vs z):bJ ps start (k::w)=vs:=by
  rw[oh,hg];have h1:=Yo hTs h [];rw[List.append_nil] at h1;obtain⟨l1,l2,_⟩:=h.at
  show goal::bJ ps goal w=vs;rw[h1];cases vs with
  | nil=>simp at l2
  | cons v vs=>
    simp at l2;subst l2;simp[bJ]
structure Ih (ps:List (Str×Str)) (ms:List Str) (gone:List Nat) (e:Str×List Nat):Prop where
  sm:e.1∈ms
  ne:e.2≠[]
  nd:e.2.Nodup
  lt:∀k∈e.2,k<ps.length
  fr:∀k∈e.2,k∉gone
  ln:(bJ ps e.1 e.2).length=e.2.length
  en:∃z,(bJ ps e.1 e.2).getLast? = some z∧z∈ms
  pn:(bJ ps e.1 e.2).dropLast.Nodup
  pf:∀p∈(bJ ps e.1 e.2).dropLast,p∉ms
inductive sy (ps:List (Str×Str)) (Ca:List Str):List (Str×List Nat)→List Str→List Nat→Prop where
  | nil:sy ps Ca [] Ca []
  | snoc {row:List (Str×List Nat)} {ms:List Str} {gone:List Nat} {e:Str×List Nat}:sy ps Ca row ms gone→Ih ps ms gone e→sy ps Ca (row++[e]) (ms++(bJ ps e.1 e.2).dropLast) (gone++e.2)
theorem qaP {ms:List Str} {w:List Nat} {vs:List Str} {S:List kE} {a z:Str} (h:nM S a w vs z) (hz:z∈ms):∀v∈vs,v∈ms++vs.dropLast:=fun v hv=>by
  obtain⟨l1,_,l3,_⟩:=h.at
  have hne:vs≠[]:=fun z=>by rw[z] at l1;simp at l1
  have e:vs=vs.dropLast++[vs.getLast hne]:=(List.dropLast_concat_getLast hne).symm;have hl:vs.getLast hne=z:=by
    have:vs.getLast? = some z:=by rw[List.getLast?_eq_getElem?,l1];exact l3
    rw[List.getLast?_eq_some_getLast hne] at this;exact Option.some.inj this
  rw[e,hl] at hv
  rcases List.mem_append.mp hv with hv | hv
  ·exact List.mem_append_right _ hv
  ·rw[List.mem_singleton] at hv;rw[hv];exact List.mem_append_left _ hz
theorem EI.next {ps:List (Str×Str)} {xs ms:List Str} {lf_ gone:List Nat} {start:Str} {k:Nat} {w:List Nat} (h:EI ps xs ms lf_) (hTs:jF xs ps) (hlg:∀j∈lf_,j∉gone) (x:NxE ps ms lf_ start k w) :
    Ih ps ms gone (start,k::w)∧EI ps xs (ms++(bJ ps start (k::w)).dropLast) (lf_.filter fun j=>!decide (j∈k::w)):=by
  obtain⟨goal,vs,z,hg,hp,hvn,hz⟩:=x.ex;have Yp:=qaO hTs hg hp;obtain⟨l1,l2,l3,l4⟩:=hp.at
  have hst:∀(i:Nat) n,w[i]? = some n→∃u v,vs[i]? = some u∧vs[i+1]? = some v∧(n,u,v)∈aN (fun _=>none) ps 0∧n≠k∧u∉ms:=fun i n hn=>by
    obtain⟨u,v,h1,h2,h3⟩:=l4 i n hn;obtain⟨h4,h5⟩:=List.mem_filter.mp h3;simp[Zb] at h5;exact⟨u,v,h1,h2,h4,h5.1,h5.2⟩
  have wl:∀n∈w,n∈lf_∧n≠k:=fun n hn=>by
    obtain⟨i,hi,rfl⟩:=List.mem_iff_getElem.mp hn;obtain⟨u,v,h1,h2,h3,h4,h5⟩:=hst i _ (List.getElem?_eq_getElem hi);refine⟨Classical.byContradiction fun hnl=>?_,h4⟩;obtain⟨e,he,h6⟩:=pZ.mp h3;have:=h.us _ e he hnl
    rcases h6 with⟨rfl,_⟩ | ⟨rfl,_⟩
    ·exact h5 this.1
    ·exact h5 this.2
  have vin:∀v∈vs,v∈xs:=fun v hv=>by
    obtain⟨i,hi,rfl⟩:=List.mem_iff_getElem.mp hv;cases i with
    | zero=>
      have e0:vs[0]=goal:=by rw[List.getElem?_eq_getElem hi] at l2;exact Option.some.inj l2
      rw[e0];unfold tK at hg;cases hk:ps[k]? with
      | none=>rw[hk] at hg;cases hg
      | some e=>
        rw[hk] at hg;obtain⟨m1,m2,_⟩:=hTs.ok e (List.mem_of_getElem? hk);simp only at hg;split at hg
        ·cases hg;exact m2
        · split at hg
          ·cases hg;exact m1
          ·cases hg
    | succ i=>
      obtain⟨u,v,_,h2,h3,_⟩:=hst i _ (List.getElem?_eq_getElem (by omega));rw[List.getElem?_eq_getElem hi] at h2;cases h2;obtain⟨e,he,h6⟩:=pZ.mp h3;obtain⟨m1,m2,_⟩:=hTs.ok e (List.mem_of_getElem? he)
      rcases h6 with⟨_,h7⟩ | ⟨_,h7⟩
      ·rw[h7];exact m2
      ·rw[h7];exact m1
  have wnd:w.Nodup:=by
    unfold List.Nodup;rw[List.pairwise_iff_getElem];intro i j hi hj hij e;obtain⟨u,v,h1,h2,h3,_⟩:=hst i _ (List.getElem?_eq_getElem hi);obtain⟨u',v',g1,g2,g3,_⟩:=hst j _ (List.getElem?_eq_getElem hj);obtain⟨d,hd,h4⟩:=pZ.mp h3;rw[e] at hd;obtain⟨d',hd',g4⟩:=pZ.mp g3;rw[hd] at hd';cases hd';have inj:∀{i j:Nat} {y:Str},vs[i]? = some y→vs[j]? = some y→i=j:=fun h1 h2=>xW hvn h1 h2
    rcases h4 with⟨a1,a2⟩ | ⟨a1,a2⟩ <;> rcases g4 with⟨b1,b2⟩ | ⟨b1,b2⟩
    ·have:=inj (a1▸h1) (b1▸g1);omega
    ·have:=inj (a1▸h1) (b2▸g2);omega
    ·have:=inj (a1▸h1) (b2▸g2);omega
    ·have:=inj (a1▸h1) (b1▸g1);omega
  have dn:∀p∈vs.dropLast,p∉ms:=fun p hp'=>by
    obtain⟨i,hi,rfl⟩:=List.mem_iff_getElem.mp hp';rw[List.length_dropLast] at hi;obtain⟨u,v,h1,_,_,_,h5⟩:=hst i _ (List.getElem?_eq_getElem (by omega));rw[List.getElem_dropLast];rw[List.getElem?_eq_getElem (by omega)] at h1;cases h1;exact h5
  have dnd:vs.dropLast.Nodup:=hvn.sublist (List.dropLast_sublist _);have kw:(k::w).Nodup:=List.nodup_cons.mpr ⟨fun z=>(wl k z).2 rfl,wnd⟩;have Ip:∀j∈k::w,j∈lf_:=fun j hj=>by
    rcases List.mem_cons.mp hj with rfl | hj
    ·exact x.kl
    ·exact(wl j hj).1
  have qdB:=qaP hp hz;refine⟨⟨x.sm,by simp,kw,fun j hj=>h.lt j (Ip j hj),fun j hj=>hlg j (Ip j hj),by rw[Yp];simp[l1],⟨z,by rw[Yp,List.getLast?_eq_getElem?,l1];exact l3,hz⟩,by rw[Yp];exact dnd,by rw[Yp];exact dn⟩,?_⟩;rw[Yp];refine⟨⟨start,List.mem_append_left _ x.sm⟩,fun y hy=>?_,?_,fun j hj=>h.lt j (List.mem_filter.mp hj).1,fun j e he hj=>?_⟩
  · rcases List.mem_append.mp hy with hy | hy
    ·exact h.sub y hy
    ·exact vin y (List.dropLast_subset _ hy)
  ·exact List.nodup_append.mpr ⟨h.nd,dnd,fun a ha b hb z=>dn b hb (z▸ha)⟩
  · by_cases hjl:j∈lf_
    · have hjk:j∈k::w:=by
        apply Classical.byContradiction;intro hn;exact hj (List.mem_filter.mpr ⟨hjl,by simpa using hn⟩)
      rcases List.mem_cons.mp hjk with rfl | hjw
      · have hgv:goal∈ms++vs.dropLast:=qdB goal (List.mem_of_getElem? l2);have hsm:start∈ms++vs.dropLast:=List.mem_append_left _ x.sm;unfold tK at hg;rw[he] at hg;simp only at hg;split at hg
        ·rename_i h1;cases hg;exact⟨h1▸hsm,hgv⟩
        · split at hg
          ·rename_i h2;cases hg;exact⟨hgv,h2▸hsm⟩
          ·cases hg
      · obtain⟨i,hi,rfl⟩:=List.mem_iff_getElem.mp hjw;obtain⟨u,v,h1,h2,h3,_⟩:=hst i _ (List.getElem?_eq_getElem hi);obtain⟨d,hd,h4⟩:=pZ.mp h3;rw[he] at hd;cases hd;have hu:=qdB u (List.mem_of_getElem? h1);have hv:=qdB v (List.mem_of_getElem? h2)
        rcases h4 with⟨rfl,rfl⟩ | ⟨rfl,rfl⟩
        ·exact⟨hu,hv⟩
        ·exact⟨hv,hu⟩
    ·have:=h.us j e he hjl;exact⟨List.mem_append_left _ this.1,List.mem_append_left _ this.2⟩
def qaQ (C:Addr):Sp:=fun vs H Q _=>∃o xs ps,vs=[.ref o]∧iu C H o xs ps∧Q (.int ps.length) H
theorem uH (T:Txt K mg a):dG P w K mg base mF 1 a.gw a.o_ ["self"] (qaQ a.cj):=by
  refine T.D_.tH L_ (fun vs H Q E h=>?_) (fun cdv A outer s H vs Q E hr h=>?_)
  ·obtain⟨o,xs,ps,rfl,_⟩:=h;rfl
  ·obtain⟨o,xs,ps,rfl,⟨dx,n,m,tv,h1,h2,h3,h4,h5⟩,q⟩:=h;refine⟨_,(aD (aZ (aF (bY (K:=K) rfl) rfl T.nm.len PySem.boot_len (aj (PE.eqv (Jm (K:=K) rfl (aH 0) rfl) (JC _ _ _)) aq)))),?_⟩;left;refine⟨_,_,_,h1,T.kI,T.BZ,_,rfl,_,.inr (d9.of h3),?_⟩;rw[h4.1];exact q
theorem Yq {K:W.Frag} {g:Int→Int→V} {i:Nat} {x:V}:∀(σ:St) (H:Hp) (Q Q':Bool→Hp→Prop),(∀(b:Bool) (H1:Hp),Q b H1→Q' b H1)→
    uh (Y6 (WM g) (tCB (Dh K) (G7 (fVar i) N6)) (tC x)) σ H Q→uh (Y6 (WM g) (tCB (Dh K) (G7 (fVar i) N6)) (tC x)) σ H Q':=by
  intro σ H Q Q' f h;refine getSt.imp (fun v h=>isRef.imp (fun p h=>?_) h) h;obtain⟨ys,h1,h2⟩:=h;refine⟨ys,h1,?_⟩;obtain⟨n,rfl,h3⟩:=isInt.out (x:=x) h2;exact tG.imp (fun b h=>f _ _ h) h3
def qdC (σ:List (Option V)) (H:Hp):Nat:=match σ[2]? with
  | some (some (V.ref t))=>(match H t with
    | some (.lst vs)=>vs.length
    | _=>0)
  | _=>0
theorem Rt {o0 o1:Option V} {t:Addr} {r:List (Option V)} {H:Hp} {vs:List V} (h:H t=some (.lst vs)):qdC (o0::o1::some (.ref t)::r) H=vs.length:=by
  unfold qdC;simp only[List.getElem?_cons_succ,List.getElem?_cons_zero,h]
def oH (H0:Hp) (rl:Addr) (H:Hp) (v:V) (e:Str×List Nat):Prop:=∃t r,v = .ref t∧H t=some (.tup [.str e.1,.ref r])∧H r=some (.lst (aU e.2))∧H0 r=none∧r≠rl
theorem oH.same {H0 H H':Hp} {rl:Addr} (s:Same H H'):∀v e,oH H0 rl H v e→oH H0 rl H' v e:=fun v e ⟨t,r,h1,h2,h3,h4⟩=>⟨t,r,h1,s _ _ h2,s _ _ h3,h4⟩
theorem qaR {n j:Nat} {d:Nat}:HT.jJ n d (some (j:Int))=min j n:=by
  simp[HT.jJ];intro h;omega
theorem Kf {xs:List V} {j:Nat}:tY xs none (some (j:Int))=xs.take j:=by
  unfold tY;rw[qaR];simp[HT.jJ,List.take_eq_take_iff]
theorem ou {xs:List V}:tY xs none (some (-1))=xs.dropLast:=by
  unfold tY;have h1:HT.jJ xs.length xs.length (some (-1))=xs.length - 1:=by
    simp[HT.jJ];omega
  have h2:HT.jJ xs.length 0 none=0:=by simp[HT.jJ]
  rw[h1,h2,List.drop_zero,Nat.sub_zero,List.dropLast_eq_take]
theorem M7 (x:Int) (xs:List Int):inV (.int x) (xs.map V.int)=decide (x∈xs):=by
  unfold inV
  induction xs with
  | nil=>rfl
  | cons y ys ih=>
    rw[List.map_cons,List.any_cons,ih]
    by_cases h:x=y
    ·subst h;simp[R7]
    ·simp[R7,h,Ne.symm h]
theorem EY (xs:List Int):(xs.map V.int).all jK=true:=by
  rw[List.all_eq_true];intro v hv;obtain⟨x,_,rfl⟩:=List.mem_map.mp hv;rfl
def qaS (C Pa Ba:Addr):Sp:=fun vs H Q E=>∃(o:Addr) (xs:List Str) (ps:List (Str×Str)),vs=[.ref o]∧iu C H o xs ps∧Gq xs∧jF xs ps∧
  ((nG ps xs).length≤1→fO ps xs=[]→∀(rl:Addr) (tr:List V) (row:List (Str×List Nat)) (ms:List Str) (gone:List Nat) (H':Hp),H rl=none→H' rl=some (.lst tr)→bN (oH H rl) H' tr row→sy ps (xs.take 1) row ms gone→EI ps xs ms []→(∀x∈xs,x∈ms)→gone.Nodup→gone.length=ps.length→tr.length≤20→Same H H'→Q (.ref rl) H')∧
  (∀c r,nG ps xs=c::r→r≠[]→∀(dx cc:Addr) (H':Hp),H cc=none→H' dx=some (jm dx [("lot",.ref cc)])→H' cc=some (.lst (c.map V.str))→Same H H'→E (.ref Pa) (some dx) H')∧
  ((nG ps xs).length≤1→∀k lot rest,fO ps xs=(k,lot)::rest→∀(dx c:Addr) (H':Hp),H c=none→H' dx=some (jm dx [("tie",.int (k:Nat)),("lot",.ref c)])→H' c=some (.lst (lot.map V.str))→Same H H'→E (.ref Ba) (some dx) H')
theorem Ru (T:Txt K mg a):dG P w K mg base (Vd P w) 6 a.rJ a.BK ["web"] (qaS a.cj a.bw a.bh):=by
  refine T.JZ.qfP oV (fun vs H Q E h=>?_) (fun cdv A outer s H vs Q E hr h=>?_)
  ·obtain⟨o,xs,ps,rfl,_⟩:=h;rfl
  · obtain⟨o,xs,ps,rfl,hw,hX,hTs,q1,q2,q3⟩:=h;refine⟨_,(aA (eF (PE.eqv (aV (Bo (K:=K) T) (hr.mono (by decide)) rfl T.ux T.nW.kp T.uw .nil (JH.passes rfl) (aj (aH 0) aq)) (aO _ _ _)))
      (aA (bx (i:=1) oV.nd rfl (Or.inl rfl) (jo (yh (K:=K) rfl) (PE.eqv (g8 (aH 0) T.kI T.jg (jy (K:=K) T) (hr.mono (by decide)) T.je .nil bF) (h_ _ _ _ _ _ _)) lF (PO.eqv (lG aL) (jt _))))
      (aA (bx (i:=2) oV.nd rfl (Or.inl rfl) (JG rfl rfl T.nm.list rfl T.nm.range (aj (PE.eqv (g8 (aH 0) T.kI T.rZ (uH (K:=K) T) (hr.mono (by decide)) T.rY .nil bF) (h_ _ _ _ _ _ _)) aq)))
      (aA (bx (i:=3) oV.nd rfl (Or.inl rfl) (cg aq))
      (aA (KH PassesOwn.leaving (aW vY (aF (bY (K:=K) rfl) rfl T.nm.len PySem.boot_len (aj (aH 2) aq)) aL (bO _))
      (aA (pJ (PE.eqv (aV (MP (K:=K) T) (hr.mono (by decide)) rfl T.Ed T.wD.kp T.Ec .nil bF (aj (aH 0) (aj (aH 1) (aj (aH 2) aq)))) (aO _ _ _)) (PG.eqv (cW (K:=K) (n:=2) rfl rfl (fL.eqv (aQ (aM (i:=4) oV.nd rfl (Or.inl rfl)) (fL.eqv (aQ (aM (i:=5) oV.nd rfl (Or.inr rfl)) (fL.mono cF d8)) (aR _ _))) (aR _ _))) (cX _ _ _)))
      (aA (eF (jQ (K:=K) rfl PySem.F.plainAttrs_list PySem.F.slot_list_append PySem.F.type_list_append dH (aH 3) (aj (fM (aj (aH 4) (aj (aH 5) aq))) aq)))
      (aA (bx (i:=1) oV.nd rfl (Or.inl rfl) (dF m5 (aH 1) (jo (yh (K:=K) rfl) (PE.eqv (aV (mO (K:=K) T) (hr.mono (by decide)) rfl T.j9 T.iT.kp T.j8 .nil bF (aj (aH 0) (aj (aH 4) (aj (aH 5) aq)))) (aO _ _ _)) lF (PO.eqv (lG (tW jT aL)) (jt _)))))
      (aD (jC (i:=2) oV.nd rfl rfl rfl rfl (show aY (ao pR) _ ["web", "met", "left", "row", "start", "numbers"] ["number"] [5] ["number", "numbers"] from⟨rfl,by decide+kernel,by decide+kernel,rfl,by decide+kernel,by decide+kernel⟩) rfl (PI.eqv (cu (K:=K) rfl (aH 2)) (bU _ _)) (fun C s H fp pn=>(aM (i:=0) (show(["number", "numbers"]:List Str).Nodup by decide+kernel) rfl (Or.inl rfl))) (fun C s H fp pn=>(lH (aW (m6 (K:=K) rfl) (aH 0) (aH 1) rfl))) (fun C s H fp pn=>(aH 0))))))))
      (aD (aZ (aH 3)))))))),?_⟩
    have Ke:200≤sizeLine:=by decide
    have Er:=hTs.len;have x9:=hX.len;left;refine⟨o,xs,ps,rfl,hw,hX,hTs,fun hcl hb H1 s1=>?_,fun c r hcr hr0 dx cc H1 hc hdx ec s1=>q2 c r hcr hr0 dx cc H1 hc hdx ec s1,fun hcl k lot rest hb dx c H1 hc hdx ec s1=>q3 hcl k lot rest hb dx c H1 hc hdx ec s1⟩;have con:=Yn hcl;have qge:=Ym hb;obtain⟨dx,fs,hi,hno⟩:=(hw.same s1).ins iB.1 iB.2;left;refine⟨_,_,hi,hno,o,xs,ps,rfl,hw.same s1,fun pl hpl=>?_⟩;have s2:Same H1 (upd H1 pl (.lst (xs.map V.str))):=au hpl;have e2:upd H1 pl (.lst (xs.map V.str)) pl=some (.lst (xs.map V.str)):=ak;generalize upd H1 pl (.lst (xs.map V.str))=H2 at s2 e2 ⊢;have S2:=s1.trans s2;refine⟨_,aX.of e2,fun m0 hm0=>?_⟩;rw[show(1:Int)=((1:Nat):Int) from rfl,Kf,← List.map_take];have s3:Same H2 (upd H2 m0 (.lst ((xs.take 1).map V.str))):=au hm0;have e3:upd H2 m0 (.lst ((xs.take 1).map V.str)) m0=some (.lst ((xs.take 1).map V.str)):=ak;generalize upd H2 m0 (.lst ((xs.take 1).map V.str))=H3 at s3 e3 ⊢;have S3:=S2.trans s3;obtain⟨dx',fs',hi',hno'⟩:=(hw.same S3).ins (m:= "many") (by decide+kernel) (by decide+kernel);left;refine⟨_,_,hi',hno',o,xs,ps,rfl,hw.same S3,?_⟩;left;refine⟨by omega,fun lf0 qlh=>?_⟩;have s4:Same H3 (upd H3 lf0 (.lst ((List.range ps.length).map fun i=>V.int (i:Nat)))):=au qlh;have e4:upd H3 lf0 (.lst ((List.range ps.length).map fun i=>V.int (i:Nat))) lf0=some (.lst (aU (List.range ps.length))):=ak;generalize upd H3 lf0 (.lst ((List.range ps.length).map fun i=>V.int (i:Nat)))=H4 at s4 e4 ⊢;have S4:=S3.trans s4;intro rl hrl;have s5:Same H4 (upd H4 rl (.lst [])):=au hrl;have e5:upd H4 rl (.lst []) rl=some (.lst []):=ak;have m0r:m0≠rl:=fun z=>by have:=s4 _ _ e3;rw[z,hrl] at this;cases this
    have lfr:lf0≠rl:=fun z=>by rw[z,hrl] at e4;cases e4
    generalize upd H4 rl (.lst [])=H5 at s5 e5 ⊢;have S5:=S4.trans s5;have rl0:H rl=none:=bQ S4 hrl;have x1:=hX.len.1;have qli:EI ps xs (xs.take 1) (List.range ps.length):=by
      refine⟨?_,fun x hx=>List.mem_of_mem_take hx,hX.nd.sublist (List.take_sublist _ _),fun k hk=>List.mem_range.mp hk,fun k e he hk=>absurd (List.mem_range.mpr (List.getElem?_eq_some_iff.mp he).1) hk⟩;cases hxs:xs with
      | nil=>rw[hxs] at x1;simp at x1
      | cons x r=>exact⟨x,by simp⟩
    refine whB (fun σ H'=>∃(m lf:Addr) (ms:List Str) (lf_ gone:List Nat) (tr:List V) (row:List (Str×List Nat)) (o4 o5:Option V),σ=[some (.ref o),some (.ref m),some (.ref lf),some (.ref rl),o4,o5]∧H' m=some (.lst (ms.map V.str))∧H' lf=some (.lst (aU lf_))∧m≠rl∧lf≠rl∧EI ps xs ms lf_∧sy ps (xs.take 1) row ms gone∧gone.Nodup∧(∀j,j∈lf_↔j<ps.length∧j∉gone)∧(∀j∈gone,j<ps.length)∧
        H' rl=some (.lst tr)∧bN (oH H rl) H' tr row∧tr.length+lf_.length≤ps.length∧Same H H') qdC
      ⟨m0,lf0,xs.take 1,List.range ps.length,[],[],[],none,none,rfl,s5 _ _ (s4 _ _ e3),s5 _ _ e4,m0r,lfr,qli,.nil,by simp,fun j=>by simp,by simp,e5,bN.nil,by simp,S5⟩ ?_ Yq
    rintro σ H6 ⟨m,lf,ms,lf_,gone,tr,row,o4,o5,rfl,em,elf,mr,qlj,M8,qbF,gnd,hlg,glt,erl,htr,hln,S6⟩;have nl:(aU lf_).length=lf_.length:=by simp[aU]
    rw[Rt elf];left;refine⟨_,.inl (aX.of elf),dI.of (fun h=>?_) (fun h=>?_)⟩
    · have hpos:=of_decide_eq_true h;rw[nl] at hpos;have hne:lf_≠[]:=fun z=>by rw[z] at hpos;simp at hpos
      have ms9:ms.length≤9:=Nat.le_trans (b_ M8.nd M8.sub) hX.len.2;left;refine⟨o,m,lf,xs,ms,ps,lf_,rfl,hw.same S6,hX,hTs,em,ms9,elf,by omega,M8.lt,M8.touch hTs con hne,fun k e hk he=>⟨fun h1=>M6 ((qge k e he).symm fun _ _ ⟨j,a,b⟩=>⟨j,a,b.symm⟩) h1,fun h2=>M6 (qge k e he) h2⟩,fun t r start k w H7 ht hr et er hNx s7=>?_⟩;obtain⟨Uc,Ud⟩:=M8.next hTs (gone:=gone) (fun j hj=>((hlg j).mp hj).2) hNx;have S7:=S6.trans s7;left;refine⟨_,d9.of et,rfl,?_⟩;have rrl:r≠rl:=fun z=>by rw[z,erl] at hr;cases hr
      have trl:=htr.1;have kwl:(k::w).length≤10:=by have:=hNx.wl;simp;omega
      left;refine⟨⟨_,aX.of (s7 _ _ erl)⟩,fun p8 hp8=>?_⟩;have s8:Same H7 (upd H7 p8 (.tup [.str start,.ref r])):=au hp8;have e8:upd H7 p8 (.tup [.str start,.ref r]) p8=some (.tup [.str start,.ref r]):=ak;generalize upd H7 p8 (.tup [.str start,.ref r])=H8 at s8 e8 ⊢;have s68:=s7.trans s8;have qgf:=s68 _ _ erl;refine⟨_,qgf,by omega,?_⟩;have e9:upd H8 rl (.lst (tr++[.ref p8])) rl=some (.lst (tr++[.ref p8])):=ak;have k9:∀b u,b≠rl→H8 b=some u→upd H8 rl (.lst (tr++[.ref p8])) b=some u:=fun b u hb e=>by rw[aC hb];exact e
      have S9:Same H (upd H8 rl (.lst (tr++[.ref p8]))):=bA (S7.trans s8) rl0;generalize upd H8 rl (.lst (tr++[.ref p8]))=H9 at e9 k9 S9 ⊢;have nt:∀{b:Addr} {us:List V},H8 b=some (.tup us)→b≠rl:=fun e z=>by rw[z,qgf] at e;cases e
      have qlk:bN (oH H rl) H9 (tr++[.ref p8]) (row++[(start,k::w)]):=bN.snoc (bN.keep htr fun v e ⟨t,r,h1,h2,h3,h4,h5⟩=>⟨t,r,h1,k9 _ _ (nt (s68 _ _ h2)) (s68 _ _ h2),k9 _ _ h5 (s68 _ _ h3),h4,h5⟩) ⟨p8,r,rfl,k9 _ _ (nt e8) e8,k9 _ _ rrl (s8 _ _ er),bQ S6 hr,rrl⟩;have er9:=k9 _ _ rrl (s8 _ _ er);have em9:=k9 _ _ mr (s68 _ _ em);have qll:=k9 _ _ qlj (s68 _ _ elf);refine⟨o,r,start,xs,ps,k::w,rfl,hw.same S9,hTs,.inl er9,Uc.lt,by omega,fun rp Nx hrp erp Du=>?_⟩;left;refine⟨_,aX.of erp,fun Rv E_=>?_⟩;rw[ou];have Zc:((bJ ps start (k::w)).map V.str).dropLast=((bJ ps start (k::w)).dropLast).map V.str:=by rw[List.map_dropLast]
      rw[Zc];have Rf:Same Nx (upd Nx Rv (.lst (((bJ ps start (k::w)).dropLast).map V.str))):=au E_;have e11:upd Nx Rv (.lst (((bJ ps start (k::w)).dropLast).map V.str)) Rv=some (.lst (((bJ ps start (k::w)).dropLast).map V.str)):=ak;generalize upd Nx Rv (.lst (((bJ ps start (k::w)).dropLast).map V.str))=Vj at Rf e11 ⊢;have Fb:=Du.trans Rf;have hpl:(bJ ps start (k::w)).dropLast.length≤10:=by rw[List.length_dropLast,Uc.ln];simp only;omega
      refine⟨_,Fb _ _ em9,_,e11,by rw[List.length_map,List.length_map];omega,fun m2 hm2=>?_⟩;rw[← List.map_append];have s12:Same Vj (upd Vj m2 (.lst ((ms++(bJ ps start (k::w)).dropLast).map V.str))):=au hm2;have e12:upd Vj m2 (.lst ((ms++(bJ ps start (k::w)).dropLast).map V.str)) m2=some (.lst ((ms++(bJ ps start (k::w)).dropLast).map V.str)):=ak;have m2r:m2≠rl:=fun z=>by have:=Fb _ _ e9;rw[z] at hm2;rw[hm2] at this;cases this
      generalize upd Vj m2 (.lst ((ms++(bJ ps start (k::w)).dropLast).map V.str))=H12 at s12 e12 ⊢;have qaT:=Fb.trans s12;have qbG:=qaT _ _ qll;have qlm:=qaT _ _ er9;have nKw:aU (k::w)=((k::w).map fun n:Nat=>(n:Int)).map V.int:=by unfold aU;rw[List.map_map];rfl
      refine⟨⟨_,aX.of qbG⟩,fun D hD=>Nt (aU lf_) (fun i σ H'=>(∃o',σ=[o',some (.ref r)])∧H' D=some (.lst (aU ((lf_.take i).filter fun j=>!decide (j∈k::w))))∧Same H12 H') ⟨⟨_,rfl⟩,ak,au hD⟩ (fun i σ H' _ h=>aX.of (h.2.2 _ _ qbG)) ?_ ?_⟩
      · rintro i v σ H13 hiv ⟨⟨o',rfl⟩,M9,s13⟩;obtain⟨j,hj,rfl⟩:∃j,lf_[i]? = some j∧v = .int (j:Nat):=by
          unfold aU at hiv;rw[List.getElem?_map] at hiv;obtain⟨j,hj,rfl⟩:=Option.map_eq_some_iff.mp hiv;exact⟨j,hj,rfl⟩
        have hi2:=(List.getElem?_eq_some_iff.mp hj).1;have qdD:=s13 _ _ qlm;rw[nKw] at qdD;rw[take_one hj,List.filter_append];have fl:((lf_.take i).filter fun j=>!decide (j∈k::w)).length≤i:=Nat.le_trans (List.length_filter_le _ _) (by rw[List.length_take];omega);have hiff:decide ((j:Int)∈(k::w).map fun n:Nat=>(n:Int))=decide (j∈k::w):=by
          rw[decide_eq_decide];constructor
          · intro h;obtain⟨n,h1,h2⟩:=List.mem_map.mp h;have:n=j:=by omega
            exact this▸h1
          ·exact fun h=>List.mem_map.mpr ⟨j,h,rfl⟩
        generalize hG:((lf_.take i).filter fun j=>!decide (j∈k::w))=g0 at M9 fl ⊢;generalize hK:k::w=kw at qdD hiff ⊢;left;refine⟨_,.inl (aX.of qdD),rfl,List.all_eq_true.mp (EY _),?_⟩;rw[M7,hiff]
        by_cases hin:j∈kw
        ·refine⟨false,by simp[hin],dI.neg rfl ?_⟩;left;refine⟨?_,s13⟩;simpa [hin] using M9
        ·refine⟨true,by simp[hin],dI.pos rfl ?_⟩;left;refine⟨_,M9,by simp[aU];omega,?_,bA s13 hD⟩;rw[ak];simp[hin,aU]
      · rintro σ H13 ⟨⟨o',rfl⟩,M9,s13⟩;rw[nl,List.take_length] at M9;have qdE:=qaT.trans s13;have Dr:D≠rl:=fun z=>by have:=qaT _ _ e9;rw[z] at hD;rw[hD] at this;cases this
        have hlt:(lf_.filter fun j=>!decide (j∈k::w)).length<lf_.length:=List.length_filter_lt_length_iff_exists.mpr ⟨k,hNx.kl,by simp⟩;have qdF:∀j,j∈(lf_.filter fun j=>!decide (j∈k::w))↔j<ps.length∧j∉gone++(k::w):=fun j=>by
          rw[List.mem_filter,hlg j,List.mem_append,not_or];constructor
          ·exact fun h=>⟨h.1.1,h.1.2,by simpa using h.2⟩
          ·exact fun h=>⟨⟨h.1,h.2.1⟩,by simpa using h.2.2⟩
        have qgg:∀j∈gone++(k::w),j<ps.length:=fun j hj=>by
          rcases List.mem_append.mp hj with hj | hj
          ·exact glt j hj
          ·exact Uc.lt j hj
        have qdG:(gone++(k::w)).Nodup:=List.nodup_append.mpr ⟨gnd,Uc.nd,fun a ha b hb z=>Uc.fr b hb (z▸ha)⟩;have hE':sy ps (xs.take 1) (row++[(start,k::w)]) (ms++(bJ ps start (k::w)).dropLast) (gone++(k::w)):=.snoc qbF Uc;have qbH:bN (oH H rl) H13 (tr++[.ref p8]) (row++[(start,k::w)]):=bN.keep qlk (oH.same qdE);generalize (lf_.filter fun j=>!decide (j∈k::w))=left' at Ud M9 hlt qdF;generalize ms++(bJ ps start (k::w)).dropLast=ms' at Ud e12 hE';generalize gone++(k::w)=Yr at qdF qgg qdG hE';generalize row++[(start,k::w)]=qdH at hE' qbH;have nl':(aU left').length=left'.length:=by simp[aU]
        left;refine⟨⟨ms',s13 _ _ e12,left',M9,m2r,Dr,Ud,Yr,tr++[.ref p8],qdH,hE',qdG,qdF,qgg,qdE _ _ e9,qbH,by simp;omega,S9.trans qdE⟩,?_⟩;rw[Rt M9,nl,nl'];exact hlt
    · have h0:=of_decide_eq_false h;rw[nl] at h0;have hl0:lf_=[]:=List.eq_nil_of_length_eq_zero (by omega);subst hl0;left;have yQ:=M8.full con (by simp);have Ys:gone.length=ps.length:=by
        have h1:=b_ gnd (xs:=List.range ps.length) fun j hj=>List.mem_range.mpr (glt j hj);have h2:=b_ (List.nodup_range (n:=ps.length)) (xs:=gone) fun j hj=>by
          apply Classical.byContradiction;intro hn;have:=(hlg j).mpr ⟨List.mem_range.mp hj,hn⟩;cases this
        rw[List.length_range] at h1 h2;omega
      exact q1 hcl hb rl tr row ms gone H6 rl0 erl htr qbF M8 yQ gnd Ys (by omega) S6
end TJ
namespace L2
open PySem PySem.Spec PyProof.Rows
section
variable {prog:Program} {w:World} {A:Around} {E:Value→Shared→Prop} {s:Shared}
theorem Ii {it t:Addr} {items:Array Value} (hne:t≠it):∀(n i:Nat) (s:Shared) (Q:List Value→Shared→Prop),s.heap.IsListIter it t i→s.heap.IsList t items→i+n≤items.size→
    (∀h',h'.IsListIter it t (i+n)→Heap.SameBut it s.heap h'→Q ((items.toList.drop i).take n) {s with heap:=h'})→wpAny (model prog w) A (draw (.ref it) n) Q E s
  | 0,i,s,Q,hit,_,_,hQ=>by
    show wpAny _ _ (pure []) Q E s;exact wpAny_pure (by simpa using hQ s.heap hit (Heap.SameBut.refl ..))
  | n+1,i,s,Q,hit,ht,hle,hQ=>by
    have hlt:i<items.size:=by omega
    show wpAny _ _ (pyNext (.ref it) >>= _) Q E s;refine wpAny_bind (wpAny_pyNext_list_item hit ht (x:=items[i]) (by simp[hlt]) fun h₁ hit₁ hs₁=>?_);refine wpAny_bind (wpAny_holding (Ii hne n (i+1) _ _ hit₁ (ht.extBut hs₁.extBut hne) (by omega) fun h₂ hit₂ hs₂=>wpAny_pure ?_));have hd:items.toList.drop i=items[i]::items.toList.drop (i+1):=by simp[List.drop_eq_getElem_cons,hlt]
    have:=hQ h₂ (by rw[show i+(n+1)=i+1+n by omega];exact hit₂) (hs₁.trans hs₂);rw[hd,List.take_succ_cons] at this;exact this
theorem zO {t:Addr} {items:Array Value} {Q:List Value→Shared→Prop} (hh:A.handled=none) (ht:s.heap.IsList t items)
    (hQ:∀h',Heap.ExtBut s.heap.objs.size s.heap h'→Q items.toList {s with heap:=h'}):wpAny (model prog w) A (unpackItems (.ref t) items.size none) Q E s:=by
  have hlt:t≠s.heap.objs.size:=by obtain⟨o,ho,_⟩:=ht;exact Nat.ne_of_lt (Heap.lt_size ho)
  unfold unpackItems;refine wpAny_bind ?_
  · unfold notIterableAtAll;refine wpAny_bind (wpAny_specialOf ht.typeIs PySem.F.slot_list_iter.lookup ?_);refine wpAny_pure ?_;simp only[Bool.false_eq_true,if_false];refine wpAny_bind (wpAny_holding (wpAny_pyIter_list ht ?_));refine wpAny_bind (wpAny_holding (Ii hlt items.size 0 _ _ ⟨_,Heap.get?_push_size _ rfl,rfl,rfl⟩ (ht.push _) (by omega) fun h₁ hit₁ hs₁=>?_));have hall:List.take items.size (List.drop 0 items.toList)=items.toList:=by
      rw[List.drop_zero];exact List.take_of_length_le (by simp)
    rw[hall];rw[if_neg (by simp)];have ht₁:h₁.IsList t items:=(ht.push _).extBut hs₁.extBut hlt;refine wpAny_bind (wpAny_holding (wpAny_pyNext_list_end hh hit₁ ht₁ (by simp) fun h₂ he₂=>?_));simp only[Option.isSome_none,Bool.false_eq_true,if_false];refine wpAny_pure (hQ h₂ fun b o hb e=>he₂ b o hb (hs₁.extBut b o hb (Heap.get?_push_of_some _ e)))
theorem yR {env:Env} {elts:List Expr} {x1} {pos:Pos} {t:Addr} {items:Array Value} {Q:Unit→Shared→Prop} (hh:A.handled=none) (ht:s.heap.IsList t items)
    (hn:(assignEach elts env).length=items.size) (hstar:(assignEach elts env).findIdx? (·.1)=none)
    (h:∀h',Heap.ExtBut s.heap.objs.size s.heap h'→wpAny (model prog w) A (assignInOrder ((assignEach elts env).map (·.2)) items.toList) Q E {s with heap:=h'}) :
    wpAny (model prog w) A (assign (.Tuple elts x1 pos) env (.ref t)) Q E s:=by
  rw[assign_Tuple];refine wpAny_bind (wpAny_standAt ?_);unfold unpack;rw[hn,hstar];exact wpAny_bind (wpAny_holding (zO hh ht h))
end
section
variable {X:Cx}
def qbI (K:W.Frag) (n:Nat) (t:Cp):TG:=fun v σ H Q=>isRef v fun a=>∃xs,(aX K H a xs∨d9 K H a xs)∧xs.length=n∧t xs σ H Q
@[simp ↓] theorem qaU (K:W.Frag) (n:Nat) (t:Cp) v σ H Q:qbI K n t v σ H Q=(isRef v fun a=>∃xs,(aX K H a xs∨d9 K H a xs)∧xs.length=n∧t xs σ H Q):=rfl
theorem Rw {K:W.Frag} (hK:X.K=K) {es:List Expr} {k:Nat} {pos:Pos} {t:Cp} {n:Nat} (hc:X.calm=true) (h:fL X es t)
    (hn:(assignEach es X.env).length=n:=by rfl) (hst:(assignEach es X.env).findIdx? (·.1)=none:=by rfl):PG X (.Tuple es k pos) (qbI K n t):=by
  subst hK;intro p_ s σ H v u Q I r hw;rw[qaU] at hw;obtain⟨a,rfl,xs,hq,hl,hw⟩:=isRef.out hw;cases r
  rcases hq with hq | hq
  ·obtain⟨its,rv,ht,hz⟩:=I.list hq;refine yR (I.ok.hd hc) ht.isList (by simp[hn,← hl,rv.length]) hst fun h' hx=>?_;have I1:Inv X p_ σ H {s with heap:=h'}:=I.kept (t':=s.toks) fun b o e=>hx b o (Nat.ne_of_lt (Heap.lt_size e)) e;exact h p_ _ σ H xs _ Q I1 (by simpa using rv) hw
  ·obtain⟨its,rv,ht,hz⟩:=I.tuple hq;refine assign_Tuple_tuple (I.ok.hd hc) ht (by simp[hn,← hl,rv.length]) hst fun h' hx=>?_;have I1:Inv X p_ σ H {s with heap:=h'}:=I.kept (t':=s.toks) fun b o e=>hx b o (Nat.ne_of_lt (Heap.lt_size e)) e;exact h p_ _ σ H xs _ Q I1 (by simpa using rv) hw
end
end L2
namespace TJ
open PySem L2
variable {P:Program} {w:World} {K:W.Frag} {mg:Str→Option Value} {base:Heap} {a:Adr}
def M_:Sp:=fun vs H Q _=>∃n:Int,vs=[.int n]∧Q (.bl true) H
theorem Nb (T:Txt K mg a):dG P w K mg base mF 1 a.gU a.oX ["thing"] M_:=by
  refine T.wA.tH LC (fun vs H Q E h=>?_) (fun cdv A outer s H vs Q E hr h=>?_)
  ·obtain⟨n,rfl,_⟩:=h;rfl
  ·obtain⟨n,rfl,q⟩:=h;refine⟨_,(aD (aZ (jU (aF (nQ (K:=K) rfl) rfl T.nm.isinstance boot_isinstance (aj (aH 0) (aj (iG (v:=.ty "int") rfl T.nm.int zc rfl) aq))) (nH (Bu (aF (nQ (K:=K) rfl) rfl T.nm.isinstance boot_isinstance (aj (aH 0) (aj (iG (v:=.ty "bool") rfl T.XM.bool CG rfl) aq)))))))),?_⟩;left;refine⟨_,.int _,_,Ar K,dI.pos rfl ?_⟩;left;refine⟨_,.int _,_,xY K,?_⟩;exact q
def Kg (C:Addr):Sp:=fun vs H Q _=>∃(o:Addr) (n:Nat) (xs:List Str) (ps:List (Str×Str)),vs=[.ref o,.int n]∧iu C H o xs ps∧n<ps.length∧Q (.bl true) H
theorem Kh (T:Txt K mg a):dG P w K mg base mF 2 a.fV a.ni ["web", "thing"] (Kg a.cj):=by
  refine T.ur.tH JR (fun vs H Q E h=>?_) (fun cdv A outer s H vs Q E hr h=>?_)
  ·obtain⟨o,n,xs,ps,rfl,_⟩:=h;rfl
  ·obtain⟨o,n,xs,ps,rfl,hw,hn,q⟩:=h;refine⟨_,(aD (aZ (jU (PE.eqv (aV (Nb (K:=K) T) (hr.mono (by decide)) rfl T.DP T.wA.kp T.DN .nil bF (aj (aH 1) aq)) (aO _ _ _)) (nH (Tf Dg zB aL (aH 1) (PE.eqv (g8 (aH 0) T.kI T.rZ (uH (K:=K) T) (hr.mono (by decide)) T.rY .nil bF) (h_ _ _ _ _ _ _))))))),?_⟩;obtain⟨dx,fs,hi,hno⟩:=hw.ins B_.1 B_.2;left;refine⟨n,rfl,?_⟩;left;refine⟨_,_,hi,hno,o,xs,ps,rfl,hw,?_⟩;left;rw[decide_eq_true hn];exact q
theorem Fd:∀xs:List Int,keysOf (xs.map V.int)=xs.map Sum.inl
  | []=>rfl
  | x::xs=>by
    show Sum.inl x::keysOf (xs.map V.int)=_;rw[Fd xs];rfl
theorem qdI {xs:List Int} (h:xs.Nodup):(Gp (fun i=>(keysOf (xs.map V.int))[i]?.getD (Sum.inl 0)) (xs.map V.int).length).length=xs.length:=by
  rw[Fd,List.length_map];refine(Oh _ xs.length fun i j hi hj e=>?_).1;simp[hi,hj] at e;exact(List.getElem_inj h).mp e
theorem Yt {xs:List Int} {i:Nat} {x:V} (h:(xs.map V.int)[i]? = some x):∃z,xs[i]? = some z∧x = .int z:=by
  rw[List.getElem?_map] at h;cases e:xs[i]? with
  | none=>rw[e] at h;cases h
  | some z=>
    rw[e] at h;exact⟨z,rfl,(Option.some.inj h).symm⟩
structure Nrs (n:Nat) (ks:List Int):Prop where
  ok:∀k∈ks,0≤k∧k<n
  nd:ks.Nodup
  len:ks.length≤20
def Fe (C:Addr):Sp:=fun vs H Q _=>∃(o t:Addr) (xs:List Str) (ps:List (Str×Str)) (ks:List Int),vs=[.ref o,.ref t]∧iu C H o xs ps∧Sq H t (ks.map V.int)∧Nrs ps.length ks∧∀H',Same H H'→Q (.bl true) H'
theorem Fg (T:Txt K mg a):dG P w K mg base mF 3 a.dZ a.j4 ["web", "thing"] (Fe a.cj):=by
  refine T.pY.tH Dy (fun vs H Q E h=>?_) (fun cdv A outer s H vs Q E hr h=>?_)
  ·obtain⟨o,t,xs,ps,ks,rfl,_⟩:=h;rfl
  · obtain⟨o,t,xs,ps,ks,rfl,hw,ht,hk,q⟩:=h;refine⟨_,(aA (cO (PW.pt (jj (d7 (cG (PE.eqv (aV (lD (K:=K) T) (hr.mono (by decide)) rfl T.lC T.jN.kp T.lB .nil bF (aj (aH 1) aq)) (aO _ _ _)))) (iC (d7 (cG (aF (jM rfl) rfl T.nm.all jL (aj (eO rfl rfl (show aY (ao cR) _ ["web", "thing"] ["one"] [0] ["one", "web"] from⟨rfl,by decide+kernel,by decide+kernel,rfl,by decide+kernel,by decide+kernel⟩) rfl (PI.eqv (oN (K:=K) rfl (aH 1)) (mq _ _)) (fun C s H fp pn=>(aM (i:=0) (show(["one", "web"]:List Str).Nodup by decide+kernel) rfl (Or.inl rfl))) (fun C s H fp pn=>fP) (fun C s H fp pn=>(PE.eqv (aV (Kh (K:=K) T) (hr.mono (by decide)) rfl T.Az T.ur.kp T.Ay .nil bF (aj (aH 1) (aj (aH 0) aq))) (aO _ _ _)))) aq))))))) (aD (aZ gF)) bH)
      (aD (aZ (eG jD (aF uO rfl T.nm.len PySem.boot_len (aj (eE (uN rfl) rfl T.nm.set uM (aj (aH 1) aq)) aq)) (aF (bY (K:=K) rfl) rfl T.nm.len PySem.boot_len (aj (aH 1) aq)) (bO _))))),?_⟩
    left;refine⟨t,_,rfl,ht,fun H1 s1=>?_⟩;have ht1:=ht.same s1;obtain⟨b,hb⟩:=ht1.b;left;refine⟨b,⟨_,hb K H1 (Same.refl _)⟩,fun D hD=>cmQ (ks.map V.int) (fun i σ H'=>(∃o',σ=[o',some (.ref o)])∧Same H1 H'∧H' D=some (.lst (List.replicate i (.bl true)))) ⟨⟨none,rfl⟩,au hD,ak⟩ (fun i σ' H' _ h=>hb K H' h.2.1) ?_ ?_⟩
    ·rintro i x σ H2 hi ⟨⟨o',rfl⟩,s2,hD2⟩;obtain⟨k,hki,rfl⟩:=Yt hi;have hi2:i<ks.length:=(List.getElem?_eq_some_iff.mp hki).1;have hk2:=hk.ok k (List.mem_of_getElem? hki);left;refine⟨o,k.toNat,xs,ps,by rw[Int.toNat_of_nonneg hk2.1],hw.same (s1.trans s2),by omega,?_⟩;left;refine⟨_,hD2,by rw[List.length_replicate];exact zsz hi2 hk.len,bA s2 hD,?_⟩;rw[ak,← List.replicate_succ']
    ·rintro σ H2 ⟨⟨o',rfl⟩,s2,hD2⟩;have Ro:=ht1.same s2;left;refine⟨_,hD2,_,jO _,?_⟩;rw[show(List.replicate (ks.map V.int).length true).all id=true by simp];left;have l20:=hk.len;refine⟨_,Ro.q,by simp[isKey],by simp;unfold scanBound;omega,fun t3 ht3=>⟨_,ak,_,(Ro.same (au ht3)).q,?_⟩⟩;rw[decide_eq_true (by rw[qdI hk.nd];simp)];exact q _ (s1.trans (s2.trans (au ht3)))
theorem Fi (ks:List Nat):aU ks=(ks.map fun n:Nat=>(n:Int)).map V.int:=by unfold aU;rw[List.map_map];rfl
theorem qdJ {ks:List Nat} {m:Nat} (hl:∀k∈ks,k<m) (nd:ks.Nodup) (Er:ks.length≤20):Nrs m (ks.map fun n:Nat=>(n:Int)):=
  ⟨fun k hk=>by
    obtain⟨n,h1,rfl⟩:=List.mem_map.mp hk;have:=hl n h1;omega,List.Pairwise.map _ (fun x y h z=>h (by omega)) nd,by rw[List.length_map];exact Er⟩
theorem Rx (j:Nat) (ks:List Nat):inV (.int (j:Nat)) (aU ks)=decide (j∈ks):=by
  rw[Fi,M7,decide_eq_decide];constructor
  · intro h;obtain⟨n,h1,h2⟩:=List.mem_map.mp h;have:n=j:=by omega
    exact this▸h1
  ·exact fun h=>List.mem_map.mpr ⟨j,h,rfl⟩
theorem Ij (ks:List Nat):∀z∈aU ks,jK z=true:=by rw[Fi];exact List.all_eq_true.mp (EY _)
theorem wH:∀n,oK (List.replicate n (.bl false)) (List.replicate n false)
  | 0=>rfl
  | n+1=>⟨false,_,rfl,rfl,wH n⟩
theorem Cu {xs:List V} {v:V} (h:xs.getLast? = some v):xK xs (-1)=some v:=by
  have hl:0<xs.length:=by
    cases xs with
    | nil=>simp at h
    | cons x xs=>simp
  rw[List.getLast?_eq_getElem?] at h;unfold xK QB;rw[if_neg (by omega),if_pos (by omega)];have e:((-1:Int)+xs.length).toNat=xs.length - 1:=by omega
  show xs[((-1:Int)+xs.length).toNat]? = _;rw[e];exact h
def Ue (C:Addr):Sp:=fun vs H Q _=>∃(o t m g r:Addr) (start:Str) (ks gone:List Nat) (xs ms:List Str) (ps:List (Str×Str)),vs=[.ref o,.ref t,.ref m,.ref g]∧iu C H o xs ps∧Gq xs∧jF xs ps∧Sq H t [.str start,.ref r]∧Sq H r (aU ks)∧H m=some (.lst (ms.map V.str))∧(∀x∈ms,x∈xs)∧H g=some (.lst (aU gone))∧Ih ps ms gone (start,ks)∧ks.length≤20∧
  ∀H',Same H H'→Q (.bl true) H'
theorem Ug (T:Txt K mg a):dG P w K mg base mF 4 a.j6 a.uV ["web", "thing", "met", "gone"] (Ue a.cj):=by
  refine T.Ef.tH qL (fun vs H Q E h=>?_) (fun cdv A outer s H vs Q E hr h=>?_)
  ·obtain⟨o,t,m,g,r,start,ks,gone,xs,ms,ps,rfl,_⟩:=h;rfl
  · obtain⟨o,t,m,g,r,start,ks,gone,xs,ms,ps,rfl,hw,hX,hTs,ht,hr0,hm,hms,hg,hE,Er,q⟩:=h;refine⟨_,(aA (cO (PW.pt (jj (d7 (cG (PE.eqv (aV (lD (K:=K) T) (hr.mono (by decide)) rfl T.lC T.jN.kp T.lB .nil bF (aj (aH 1) aq)) (aO _ _ _)))) (iC (aW nP (aF (bY (K:=K) rfl) rfl T.nm.len PySem.boot_len (aj (aH 1) aq)) aL (bO _))))) (aD (aZ gF)) bH)
      (aA (pJ (aH 1) (Rw (K:=K) (n:=2) rfl rfl (fL.eqv (aQ (aM (i:=4) qL.nd rfl (Or.inl rfl)) (fL.eqv (aQ (aM (i:=5) qL.nd rfl (Or.inl rfl)) (fL.mono cF d8)) (aR _ _))) (aR _ _))))
      (aA (cO (PW.pt (jj (d7 (cG (PE.eqv (aV (wF (K:=K) T) (hr.mono (by decide)) rfl T.uY T.qM.kp T.uX .nil bF (aj (aH 4) aq)) (aO _ _ _)))) (iC (aW (m6 (K:=K) rfl) (aH 4) (aH 2) rfl)))) (aD (aZ gF)) bH)
      (aA (cO (PW.pt (jj (d7 (cG (PE.eqv (aV (Fg (K:=K) T) (hr.mono (by decide)) rfl T.vL T.pY.kp T.vK .nil bF (aj (aH 0) (aj (aH 5) aq))) (aO _ _ _)))) (jj (aW jD (aF (bY (K:=K) rfl) rfl T.nm.len PySem.boot_len (aj (aH 5) aq)) aL (bO _)) (iC (cG (aF (zF rfl) rfl T.XM.any zm (aj (eO rfl rfl (show aY (ao iJ) _ ["web", "thing", "met", "gone", "start", "numbers", "points", "between"] ["number"] [3] ["number", "gone"] from⟨rfl,by decide+kernel,by decide+kernel,rfl,by decide+kernel,by decide+kernel⟩) rfl (PI.eqv (oN (K:=K) rfl (aH 5)) (mq _ _)) (fun C s H fp pn=>(aM (i:=0) (show(["number", "gone"]:List Str).Nodup by decide+kernel) rfl (Or.inl rfl))) (fun C s H fp pn=>fP) (fun C s H fp pn=>(eG (zE (K:=K) rfl) (aH 0) (aH 1) rfl))) aq))))))) (aD (aZ gF)) bH)
      (aA (bx (i:=6) qL.nd rfl (Or.inl rfl) (PE.eqv (aV (mO (K:=K) T) (hr.mono (by decide)) rfl T.j9 T.iT.kp T.j8 .nil bF (aj (aH 0) (aj (aH 4) (aj (aH 5) aq)))) (aO _ _ _)))
      (aA (cO (PW.pt (jj (aW zB (aF (bY (K:=K) rfl) rfl T.nm.len PySem.boot_len (aj (aH 6) aq)) (aF (bY (K:=K) rfl) rfl T.nm.len PySem.boot_len (aj (aH 5) aq)) (bO _)) (iC (aW (m6 (K:=K) rfl) (bW (bZ (K:=K) rfl) (aH 6) (tW jT aL) (fun _ _=>rfl)) (aH 2) rfl)))) (aD (aZ gF)) bH)
      (aA (bx (i:=7) qL.nd rfl (Or.inl rfl) (jo (yh (K:=K) rfl) (aH 6) lF (PO.eqv (lG (tW jT aL)) (jt _))))
      (aD (aZ (jU (eG jD (aF uO rfl T.nm.len PySem.boot_len (aj (eE (uN rfl) rfl T.nm.set uM (aj (aH 7) aq)) aq)) (aF (bY (K:=K) rfl) rfl T.nm.len PySem.boot_len (aj (aH 7) aq)) (bO _)) (nH (Bu (aF (zF rfl) rfl T.XM.any zm (aj (eO rfl rfl (show aY (ao iJ) _ ["web", "thing", "met", "gone", "start", "numbers", "points", "between"] ["point"] [2] ["point", "met"] from⟨rfl,by decide+kernel,by decide+kernel,rfl,by decide+kernel,by decide+kernel⟩) rfl (PI.eqv (cu (K:=K) rfl (aH 7)) (bU _ _)) (fun C s H fp pn=>(aM (i:=0) (show(["point", "met"]:List Str).Nodup by decide+kernel) rfl (Or.inl rfl))) (fun C s H fp pn=>fP) (fun C s H fp pn=>(eG (zE (K:=K) rfl) (aH 0) (aH 1) rfl))) aq)))))))))))))),?_⟩
    have Ke:200≤sizeLine:=by decide
    have hsx:=hX.nm start (hms _ hE.sm);obtain⟨z,hz1,hz2⟩:=hE.en;have hln:=hE.ln;have qdK:ks.length≠0:=fun h=>hE.ne (List.eq_nil_of_length_eq_zero h);left;refine⟨t,_,rfl,ht,fun H1 s1=>?_⟩;have ht1:=ht.same s1;left;refine⟨_,ht1.q,?_⟩;left;refine⟨_,ht1.q,rfl,?_⟩;left;refine⟨start,rfl,wG hsx,fun H2 s2=>?_⟩;rw[hsx];have S2:=s1.trans s2;left;refine⟨_,.inl (aX.of (S2 _ _ hm)),rfl,List.all_eq_true.mp (cI _),false,?_,dI.neg rfl ?_⟩
    ·rw[bT,decide_eq_true hE.sm];rfl
    left;refine⟨o,r,xs,ps,ks.map fun n:Nat=>(n:Int),rfl,hw.same S2,?_,qdJ hE.lt hE.nd Er,fun H3 s3=>?_⟩
    ·rw[← Fi];exact hr0.same S2
    have S3:=S2.trans s3;have hr3:=hr0.same S3;have nl:(aU ks).length=ks.length:=by simp[aU]
    left;refine⟨_,hr3.q,?_⟩;refine dI.neg (decide_eq_false fun h=>qdK (by rw[← nl,h];rfl)) ?_;obtain⟨bq,hq⟩:=hr3.b;have hg3:=S3 _ _ hg;left;refine⟨bq,⟨_,hq K H3 (Same.refl _)⟩,fun D hD=>cmQ (aU ks) (fun i σ H'=>(∃o',σ=[o',some (.ref g)])∧Same H3 H'∧H' D=some (.lst (List.replicate i (.bl false)))) ⟨⟨_,rfl⟩,au hD,ak⟩ (fun i σ' H' _ h=>hq K H' h.2.1) ?_ ?_⟩
    · rintro i v σ H4 hiv ⟨⟨o',rfl⟩,s4,hD4⟩;obtain⟨k,hk,rfl⟩:∃k,ks[i]? = some k∧v = .int (k:Nat):=by
        unfold aU at hiv;rw[List.getElem?_map] at hiv;obtain⟨k,hk,rfl⟩:=Option.map_eq_some_iff.mp hiv;exact⟨k,hk,rfl⟩
      have hi2:=(List.getElem?_eq_some_iff.mp hk).1;have hnk:=hE.fr k (List.mem_of_getElem? hk);left;refine⟨_,.inl (aX.of (s4 _ _ hg3)),rfl,Ij _,?_⟩;rw[Rx,decide_eq_false hnk];refine⟨_,hD4,by rw[List.length_replicate];omega,bA s4 hD,?_⟩;rw[ak,← List.replicate_succ']
    · rintro σ H4 ⟨⟨o',rfl⟩,s4,hD4⟩;have S4:=S3.trans s4;left;refine⟨_,hD4,_,wH _,dI.neg (by simp) ?_⟩;left;refine⟨o,r,start,xs,ps,ks,rfl,hw.same S4,hTs,hr0.same S4,hE.lt,Er,fun rp H5 hrp erp s5=>?_⟩;have S5:=S4.trans s5;have qln:((bJ ps start ks).map V.str).length=ks.length:=by rw[List.length_map];exact hln
      left;refine⟨_,.inl (aX.of erp),_,(hr0.same S5).q,?_⟩;refine dI.neg (decide_eq_false (by rw[qln,nl];omega)) ?_;have qgh:xK ((bJ ps start ks).map V.str) (-1)=some (.str z):=Cu (by rw[List.getLast?_map,hz1];rfl);left;refine⟨_,.inl (aX.of erp),_,qgh,_,.inl (aX.of (S5 _ _ hm)),rfl,List.all_eq_true.mp (cI _),false,?_,dI.neg rfl ?_⟩
      ·rw[bT,decide_eq_true hz2];rfl
      left;refine⟨_,aX.of erp,fun p6 hp6=>?_⟩;rw[ou];have Zc:((bJ ps start ks).map V.str).dropLast=((bJ ps start ks).dropLast).map V.str:=by rw[List.map_dropLast]
      rw[Zc];have hbn:=hE.pn;have hbf:=hE.pf;have bl:(bJ ps start ks).dropLast.length≤20:=by rw[List.length_dropLast,hln];simp only;omega
      generalize (bJ ps start ks).dropLast=bt at hbn hbf bl ⊢;have s6:Same H5 (upd H5 p6 (.lst (bt.map V.str))):=au hp6;have e6:upd H5 p6 (.lst (bt.map V.str)) p6=some (.lst (bt.map V.str)):=ak;generalize upd H5 p6 (.lst (bt.map V.str))=H6 at s6 e6 ⊢;have S6:=S5.trans s6;refine⟨_,.inl (aX.of e6),by simp[isKey],by simp;unfold scanBound;omega,fun t7 ht7=>⟨_,ak,_,.inl (aX.of (bG e6 ht7)),?_⟩⟩;rw[decide_eq_true (by rw[Pr hbn];simp)];refine dI.pos rfl ?_;generalize hH7:upd H6 t7 _=H7;have s7:Same H6 H7:=by rw[← hH7];exact au ht7
      have e7:=s7 _ _ e6;have hm7:=s7 _ _ (S6 _ _ hm);have S7:=S6.trans s7;left;refine⟨⟨_,aX.of e7⟩,fun D2 hD2=>Nt (bt.map V.str) (fun i σ H'=>(∃o',σ=[o',some (.ref m)])∧Same H7 H'∧H' D2=some (.lst (List.replicate i (.bl false)))) ⟨⟨_,rfl⟩,au hD2,ak⟩ (fun i σ' H' _ h=>aX.of (h.2.1 _ _ e7)) ?_ ?_⟩
      ·rintro i v σ H8 hiv ⟨⟨o',rfl⟩,s8,hD8⟩;obtain⟨y,hy,rfl⟩:=pL hiv;have hi2:=(List.getElem?_eq_some_iff.mp hy).1;have hny:=hbf y (List.mem_of_getElem? hy);left;refine⟨_,.inl (aX.of (s8 _ _ hm7)),rfl,List.all_eq_true.mp (cI _),?_⟩;rw[bT,decide_eq_false hny];refine⟨_,hD8,by rw[List.length_replicate];omega,bA s8 hD2,?_⟩;rw[ak,← List.replicate_succ']
      ·rintro σ H8 ⟨⟨o',rfl⟩,s8,hD8⟩;left;refine⟨_,hD8,_,wH _,?_⟩;rw[show(List.replicate (bt.map V.str).length false).any id=false by simp];exact q _ (S7.trans s8)
def GQ (ps:List (Str×Str)) (Ca:List Str) (row:List (Str×List Nat)):List Str:=row.foldl (fun ms e=>ms++(bJ ps e.1 e.2).dropLast) Ca
def zP (row:List (Str×List Nat)):List Nat:=row.foldl (fun g e=>g++e.2) []
theorem yS (ps:List (Str×Str)) (Ca:List Str) (row:List (Str×List Nat)) (e:Str×List Nat):GQ ps Ca (row++[e])=GQ ps Ca row++(bJ ps e.1 e.2).dropLast:=by simp[GQ]
theorem yU (row:List (Str×List Nat)) (e:Str×List Nat):zP (row++[e])=zP row++e.2:=by simp[zP]
theorem sy.at {ps:List (Str×Str)} {Ca ms:List Str} {row:List (Str×List Nat)} {gone:List Nat} (h:sy ps Ca row ms gone):ms=GQ ps Ca row∧gone=zP row∧(∀i,sy ps Ca (row.take i) (GQ ps Ca (row.take i)) (zP (row.take i)))∧∀(i:Nat) e,row[i]? = some e→Ih ps (GQ ps Ca (row.take i)) (zP (row.take i)) e:=by
  induction h with
  | nil=>exact⟨rfl,rfl,fun i=>by simp[GQ,zP];exact .nil,fun i e h=>by simp at h⟩
  | @snoc row ms gone e hs he ih=>
    obtain⟨h1,h2,h3,h4⟩:=ih;subst h1 h2;have full:=h3 row.length;rw[List.take_length] at full;refine⟨(yS ..).symm,(yU ..).symm,fun i=>?_,fun i d hd=>?_⟩
    · by_cases hi:i≤row.length
      ·rw[List.take_append_of_le_length hi];exact h3 i
      ·rw[List.take_of_length_le (by simp;omega),yS,yU];exact .snoc full he
    · by_cases hi:i<row.length
      ·rw[List.getElem?_append_left hi] at hd;rw[List.take_append_of_le_length (by omega)];exact h4 i d hd
      · have hi2:i=row.length:=by
          have:=(List.getElem?_eq_some_iff.mp hd).1;simp at this;omega
        subst hi2;simp at hd;subst hd;rw[List.take_append_of_le_length (Nat.le_refl _),List.take_length];exact he
theorem sy.nd {ps:List (Str×Str)} {Ca ms:List Str} {row:List (Str×List Nat)} {gone:List Nat} (h:sy ps Ca row ms gone) (h0:Ca.Nodup):ms.Nodup∧gone.Nodup∧∀j∈gone,j<ps.length:=by
  induction h with
  | nil=>exact⟨h0,by simp,by simp⟩
  | @snoc row ms gone e hs he ih=>
    obtain⟨h1,h2,h3⟩:=ih;refine⟨List.nodup_append.mpr ⟨h1,he.pn,fun a ha b hb z=>he.pf b hb (z▸ha)⟩,List.nodup_append.mpr ⟨h2,he.nd,fun a ha b hb z=>he.fr b hb (z▸ha)⟩,fun j hj=>?_⟩
    rcases List.mem_append.mp hj with hj | hj
    ·exact h3 j hj
    ·exact he.lt j hj
theorem Yu {ps:List (Str×Str)} {xs:List Str} (hTs:jF xs ps):∀(ks:List Nat) (h:Str),∀p∈bJ ps h ks,p∈xs
  | [],h,p,hp=>by cases hp
  | k::ks,h,p,hp=>by
    rw[oh] at hp;cases hn:tK ps h k with
    | none=>rw[hn] at hp;cases hp
    | some y=>
      rw[hn] at hp
      rcases List.mem_cons.mp hp with rfl | hp
      · unfold tK at hn;cases hk:ps[k]? with
        | none=>rw[hk] at hn;cases hn
        | some e=>
          rw[hk] at hn;obtain⟨m1,m2,_⟩:=hTs.ok e (List.mem_of_getElem? hk);simp only at hn;split at hn
          ·cases hn;exact m2
          · split at hn
            ·cases hn;exact m1
            ·cases hn
      ·exact Yu hTs ks y p hp
theorem sy.in {ps:List (Str×Str)} {xs Ca ms:List Str} {row:List (Str×List Nat)} {gone:List Nat} (h:sy ps Ca row ms gone) (hTs:jF xs ps) (h0:∀x∈Ca,x∈xs):∀x∈ms,x∈xs:=by
  induction h with
  | nil=>exact h0
  | @snoc row ms gone e hs he ih=>
    intro x hx
    rcases List.mem_append.mp hx with hx | hx
    ·exact ih x hx
    ·exact Yu hTs _ _ x (List.dropLast_subset _ hx)
def qgi (H:Hp) (v:V) (e:Str×List Nat):Prop:=∃t r,v = .ref t∧Sq H t [.str e.1,.ref r]∧Sq H r (aU e.2)
def GR (C:Addr):Sp:=fun vs H Q _=>∃(o th:Addr) (tv:List V) (row:List (Str×List Nat)) (xs ms:List Str) (gone:List Nat) (ps:List (Str×Str)),vs=[.ref o,.ref th]∧iu C H o xs ps∧Gq xs∧jF xs ps∧Sq H th tv∧bN qgi H tv row∧sy ps (xs.take 1) row ms gone∧
  ∀H',Same H H'→Q (.bl (decide (ms.length=xs.length) && decide (gone.length=ps.length))) H'
theorem lX (T:Txt K mg a):dG P w K mg base mF 5 a.fu a.lQ ["web", "thing"] (GR a.cj):=by
  refine T.jf.tH fG (fun vs H Q E h=>?_) (fun cdv A outer s H vs Q E hr h=>?_)
  ·obtain⟨o,th,tv,row,xs,ms,gone,ps,rfl,_⟩:=h;rfl
  · obtain⟨o,th,tv,row,xs,ms,gone,ps,rfl,hw,hX,hTs,hth,hrow,hE,q⟩:=h;refine⟨_,(aA (cO (d7 (cG (PE.eqv (aV (lD (K:=K) T) (hr.mono (by decide)) rfl T.lC T.jN.kp T.lB .nil bF (aj (aH 1) aq)) (aO _ _ _)))) (aD (aZ gF)) bH)
      (aA (bx (i:=2) fG.nd rfl (Or.inl rfl) (jo (yh (K:=K) rfl) (PE.eqv (g8 (aH 0) T.kI T.jg (jy (K:=K) T) (hr.mono (by decide)) T.je .nil bF) (h_ _ _ _ _ _ _)) lF (PO.eqv (lG aL) (jt _))))
      (aA (bx (i:=3) fG.nd rfl (Or.inl rfl) (cg aq))
      (aA (iI PassesOwn.never rfl (PI.eqv (oN (K:=K) rfl (aH 1)) (mq _ _)) (aM (i:=4) fG.nd rfl (Or.inl rfl))
      (aA (cO (d7 (cG (PE.eqv (aV (Ug (K:=K) T) (hr.mono (by decide)) rfl T.Mh T.Ef.kp T.Mg .nil bF (aj (aH 0) (aj (aH 4) (aj (aH 2) (aj (aH 3) aq))))) (aO _ _ _)))) (aD (aZ gF)) bH)
      (aA (pJ (aH 4) (Rw (K:=K) (n:=2) rfl rfl (fL.eqv (aQ (aM (i:=5) fG.nd rfl (Or.inl rfl)) (fL.eqv (aQ (aM (i:=6) fG.nd rfl (Or.inl rfl)) (fL.mono cF d8)) (aR _ _))) (aR _ _))))
      (aA (bx (i:=2) fG.nd rfl (Or.inl rfl) (dF m5 (aH 2) (jo (yh (K:=K) rfl) (PE.eqv (aV (mO (K:=K) T) (hr.mono (by decide)) rfl T.j9 T.iT.kp T.j8 .nil bF (aj (aH 0) (aj (aH 5) (aj (aH 6) aq)))) (aO _ _ _)) lF (PO.eqv (lG (tW jT aL)) (jt _)))))
      (aD (bx (i:=3) fG.nd rfl (Or.inl rfl) (dF m5 (aH 3) (eE (um (K:=K) rfl) rfl T.nm.list boot_list (aj (aH 6) aq)))))))))
      (aD (aZ (jU (eG jD (aF (bY (K:=K) rfl) rfl T.nm.len PySem.boot_len (aj (aH 2) aq)) (aF (bY (K:=K) rfl) rfl T.nm.len PySem.boot_len (aj (PE.eqv (g8 (aH 0) T.kI T.jg (jy (K:=K) T) (hr.mono (by decide)) T.je .nil bF) (h_ _ _ _ _ _ _)) aq)) (bO _)) (nH (eG jD (aF (bY (K:=K) rfl) rfl T.nm.len PySem.boot_len (aj (aH 3) aq)) (PE.eqv (g8 (aH 0) T.kI T.rZ (uH (K:=K) T) (hr.mono (by decide)) T.rY .nil bF) (h_ _ _ _ _ _ _)) (bO _)))))))))),?_⟩
    have Ke:200≤sizeLine:=by decide
    have Er:=hTs.len;obtain⟨rfl,rfl,hpre,qdL⟩:=hE.at
    have bnd:∀i,(GQ ps (xs.take 1) (row.take i)).length≤9∧(zP (row.take i)).length≤20∧∀x∈GQ ps (xs.take 1) (row.take i),x∈xs:=fun i=>by
      obtain⟨n1,n2,n3⟩:=(hpre i).nd (hX.nd.sublist (List.take_sublist _ _));have hin:=(hpre i).in hTs fun x hx=>List.mem_of_mem_take hx;have l1:=b_ n1 hin;have l2:=b_ n2 (xs:=List.range ps.length) fun j hj=>List.mem_range.mpr (n3 j hj);rw[List.length_range] at l2;exact⟨Nat.le_trans l1 hX.len.2,by omega,hin⟩
    left;refine⟨th,_,rfl,hth,fun H1 s1=>?_⟩;obtain⟨dx,fs,hi,hno⟩:=(hw.same s1).ins iB.1 iB.2;left;refine⟨_,_,hi,hno,o,xs,ps,rfl,hw.same s1,fun pl hpl=>?_⟩;have s2:Same H1 (upd H1 pl (.lst (xs.map V.str))):=au hpl;have e2:upd H1 pl (.lst (xs.map V.str)) pl=some (.lst (xs.map V.str)):=ak;generalize upd H1 pl (.lst (xs.map V.str))=H2 at s2 e2 ⊢;have S2:=s1.trans s2;refine⟨_,aX.of e2,fun m0 hm0=>?_⟩;have ct:tY (xs.map V.str) none (some 1)=(xs.take 1).map V.str:=by
      rw[show(1:Int)=((1:Nat):Int) from rfl,Kf,← List.map_take]
    rw[ct];have s3:Same H2 (upd H2 m0 (.lst ((xs.take 1).map V.str))):=au hm0;have e3:upd H2 m0 (.lst ((xs.take 1).map V.str)) m0=some (.lst ((xs.take 1).map V.str)):=ak;generalize upd H2 m0 (.lst ((xs.take 1).map V.str))=H3 at s3 e3 ⊢;have S3:=S2.trans s3;obtain⟨bq,hq⟩:=hth.b;left;intro g0 hg0;have s4:Same H3 (upd H3 g0 (.lst [])):=au hg0;have e4:upd H3 g0 (.lst []) g0=some (.lst (aU [])):=ak;generalize upd H3 g0 (.lst [])=H4 at s4 e4 ⊢;have S4:=S3.trans s4;refine⟨bq,⟨_,hq K H4 S4⟩,frQ tv (fun i σ H'=>(∃m g o4 o5 o6,σ=[some (.ref o),some (.ref th),some (.ref m),some (.ref g),o4,o5,o6]∧H' m=some (.lst ((GQ ps (xs.take 1) (row.take i)).map V.str))∧H' g=some (.lst (aU (zP (row.take i)))))∧Same H H') ⟨⟨m0,g0,_,_,_,rfl,s4 _ _ e3,e4⟩,S4⟩ (fun i σ H' _ h=>hq K H' h.2) ?_ ?_⟩
    · rintro i v σ H5 hiv ⟨⟨m,g,o4,o5,o6,rfl,em,eg⟩,S5⟩;have hi2:=(List.getElem?_eq_some_iff.mp hiv).1;obtain⟨e,he⟩:∃e,row[i]? = some e:=⟨_,List.getElem?_eq_getElem (by rw[← hrow.1];exact hi2)⟩;obtain⟨t,r,rfl,ht,hr0⟩:=hrow.2 i v e hiv he;have Cd:=qdL i e he;obtain⟨b1,b2,b3⟩:=bnd i;have qaV:e.2.length≤20:=by
        have l2:=b_ Cd.nd (xs:=List.range ps.length) fun j hj=>List.mem_range.mpr (Cd.lt j hj);rw[List.length_range] at l2;omega
      have ms':GQ ps (xs.take 1) (row.take (i+1))=GQ ps (xs.take 1) (row.take i)++(bJ ps e.1 e.2).dropLast:=by rw[take_one he,yS]
      have go':zP (row.take (i+1))=zP (row.take i)++e.2:=by rw[take_one he,yU]
      have hdl:(bJ ps e.1 e.2).dropLast.length≤20:=by rw[List.length_dropLast,Cd.ln];omega
      have ht5:=ht.same S5;have Rq:=hr0.same S5;rw[ms',go'];generalize GQ ps (xs.take 1) (row.take i)=msi at em Cd b1 b3 ⊢;generalize zP (row.take i)=Zd at eg Cd b2 ⊢;left;refine⟨o,t,m,g,r,e.1,e.2,Zd,xs,msi,ps,rfl,hw.same S5,hX,hTs,ht5,Rq,em,b3,eg,Cd,qaV,fun H6 s6=>?_⟩;have S6:=S5.trans s6;left;refine⟨_,(ht5.same s6).q,rfl,?_⟩;left;refine⟨o,r,e.1,xs,ps,e.2,rfl,hw.same S6,hTs,hr0.same S6,Cd.lt,qaV,fun rp H7 hrp erp s7=>?_⟩;left;refine⟨_,aX.of erp,fun p8 hp8=>?_⟩;rw[ou];have Zc:((bJ ps e.1 e.2).map V.str).dropLast=((bJ ps e.1 e.2).dropLast).map V.str:=by rw[List.map_dropLast]
      rw[Zc];generalize (bJ ps e.1 e.2).dropLast=bt at hdl ⊢;have s8:Same H7 (upd H7 p8 (.lst (bt.map V.str))):=au hp8;have e8:upd H7 p8 (.lst (bt.map V.str)) p8=some (.lst (bt.map V.str)):=ak;generalize upd H7 p8 (.lst (bt.map V.str))=H8 at s8 e8 ⊢;have s58:=(s6.trans s7).trans s8;refine⟨_,s58 _ _ em,_,e8,by rw[List.length_map,List.length_map];omega,fun p9 hp9=>?_⟩;rw[← List.map_append];have s9:Same H8 (upd H8 p9 (.lst ((msi++bt).map V.str))):=au hp9;have e9:upd H8 p9 (.lst ((msi++bt).map V.str)) p9=some (.lst ((msi++bt).map V.str)):=ak;generalize upd H8 p9 (.lst ((msi++bt).map V.str))=H9 at s9 e9 ⊢;have s59:=s58.trans s9;refine⟨_,(Rq.same s59).q,fun Ze Yg=>?_⟩;have Du:Same H9 (upd H9 Ze (.lst (aU e.2))):=au Yg;have e10:upd H9 Ze (.lst (aU e.2)) Ze=some (.lst (aU e.2)):=ak;generalize upd H9 Ze (.lst (aU e.2))=Nx at Du e10 ⊢;have qgj:=s59.trans Du;refine⟨_,qgj _ _ eg,_,e10,by simp[aU];omega,fun Rv E_=>?_⟩;have eN:aU Zd++aU e.2=aU (Zd++e.2):=by simp[aU]
      rw[eN];exact⟨⟨bG (Du _ _ e9) E_,ak⟩,(S5.trans qgj).trans (au E_)⟩
    · rintro σ H5 ⟨⟨m,g,o4,o5,o6,rfl,em,eg⟩,S5⟩;rw[hrow.1,List.take_length] at em eg;obtain⟨dx',fs',hi',hno'⟩:=(hw.same S5).ins iB.1 iB.2;left;refine⟨_,.inl (aX.of em),_,_,hi',hno',o,xs,ps,rfl,hw.same S5,fun pl2 qlo=>?_⟩;have s6:Same H5 (upd H5 pl2 (.lst (xs.map V.str))):=au qlo;have e6:upd H5 pl2 (.lst (xs.map V.str)) pl2=some (.lst (xs.map V.str)):=ak;generalize upd H5 pl2 (.lst (xs.map V.str))=H6 at s6 e6 ⊢;have S6:=S5.trans s6;obtain⟨dx2,fs2,hi2',qlp⟩:=(hw.same S6).ins B_.1 B_.2;left;refine⟨_,.inl (aX.of e6),?_⟩;have q6:=q _ S6
      by_cases hl:(GQ ps (xs.take 1) row).length=xs.length
      · refine dI.pos (decide_eq_true (by rw[hl,List.length_map])) ?_;rw[decide_eq_true hl] at q6;left;refine⟨_,.inl (aX.of (s6 _ _ eg)),_,_,hi2',qlp,o,xs,ps,rfl,hw.same S6,?_⟩;have nl:(aU (zP row)).length=(zP row).length:=by simp[aU]
        left;rw[nl];have ec:decide (((zP row).length:Int)=(ps.length:Int))=decide ((zP row).length=ps.length):=by rw[decide_eq_decide];omega
        rw[ec];simpa using q6
      ·refine dI.neg (decide_eq_false fun z=>hl (by rw[List.length_map] at z;exact Int.ofNat_inj.mp z)) ?_;rw[decide_eq_false hl] at q6;simpa using q6
def pG (h:Str) (jP:List Str) (j:Nat):Str:=match j with
  | 0=>h
  | j+1=>(jP[j]?).getD h
theorem Nf {ps:List (Str×Str)}:∀(ks:List Nat) (h:Str),(bJ ps h ks).length=ks.length→∀(j k:Nat),ks[j]? = some k→∃y,(bJ ps h ks)[j]? = some y∧tK ps (pG h (bJ ps h ks) j) k=some y
  | [],h,_,j,k,hk=>by simp at hk
  | k0::ks,h,hl,j,k,hk=>by
    rw[oh] at hl ⊢;cases hn:tK ps h k0 with
    | none=>rw[hn] at hl;simp at hl
    | some y=>
      rw[hn] at hl;simp only[List.length_cons,Nat.add_right_cancel_iff] at hl;cases j with
      | zero=>
        simp at hk;subst hk;exact⟨y,by simp,hn⟩
      | succ j=>
        simp at hk;obtain⟨z,h1,h2⟩:=Nf ks y hl j k hk;refine⟨z,by simpa using h1,?_⟩;have e:pG h (y::bJ ps y ks) (j+1)=pG y (bJ ps y ks) j:=by
          cases j with
          | zero=>simp[pG]
          | succ j=>
            have hj:j<(bJ ps y ks).length:=by
              have:=(List.getElem?_eq_some_iff.mp hk).1;omega
            simp[pG,hj]
        show tK ps (pG h (y::bJ ps y ks) (j+1)) k=some z;rw[e];exact h2
theorem Ih.all {ps:List (Str×Str)} {ms:List Str} {gone:List Nat} {e:Str×List Nat} (h:Ih ps ms gone e):(bJ ps e.1 e.2).Nodup∧∃z,(bJ ps e.1 e.2)=(bJ ps e.1 e.2).dropLast++[z]∧z∈ms:=by
  obtain⟨z,h1,h2⟩:=h.en;have hne:bJ ps e.1 e.2≠[]:=fun w=>by rw[w] at h1;simp at h1
  have hz:(bJ ps e.1 e.2).getLast hne=z:=by
    rw[List.getLast?_eq_some_getLast hne] at h1;exact Option.some.inj h1
  have e1:bJ ps e.1 e.2=(bJ ps e.1 e.2).dropLast++[z]:=by
    rw[← hz];exact(List.dropLast_concat_getLast hne).symm
  refine⟨?_,z,e1,h2⟩;rw[e1];refine List.nodup_append.mpr ⟨h.pn,by simp,fun a ha b hb w=>?_⟩;rw[List.mem_singleton] at hb;subst hb;exact h.pf a ha (w▸h2)
theorem Fj {h y:Str} {jP:List Str} {j:Nat} (hy:jP[j]? = some y):pG h jP (j+1)=y:=by
  show(jP[j]?).getD h=y;rw[hy];rfl
theorem Yv {h:Str} {jP:List Str} {j:Nat} (nd:jP.Nodup) (hj:j≤jP.length):pG h jP j∉(jP.take j).dropLast:=by
  cases j with
  | zero=>simp
  | succ j=>
    have hl:j<jP.length:=by omega
    have hy:jP[j]? = some jP[j]:=List.getElem?_eq_getElem hl;rw[Fj hy,take_one hy,List.dropLast_concat];intro hm;have h2:(jP.take j++[jP[j]]).Nodup:=by rw[← take_one hy];exact nd.sublist (List.take_sublist _ _)
    exact(List.nodup_append.mp h2).2.2 _ hm _ (by simp) rfl
def neS (h x:Str):Bool:=decide (x≠h)
def qgk (H:Hp) (v:V) (e:Str×List Nat):Prop:=∃t r,v = .ref t∧H t=some (.tup [.str e.1,.ref r])∧H r=some (.lst (aU e.2))
def Uh:Sp:=fun vs H Q _=>∃(wt n l rl:Addr) (tv tr:List V) (row:List (Str×List Nat)) (xs ms:List Str) (gone:List Nat) (ps:List (Str×Str)),vs=[.ref wt,.ref rl]∧H wt=some (.tup [.ref n,.ref l])∧H n=some (.lst (xs.map V.str))∧H l=some (.lst tv)∧bL H tv ps∧Gq xs∧jF xs ps∧H rl=some (.lst tr)∧bN qgk H tr row∧sy ps (xs.take 1) row ms gone∧
  ∀H',Same H H'→Q (.bl (decide (ms.length=xs.length) && decide (gone.length=ps.length))) H'
theorem Ik (T:Txt K mg a):dG P w K mg base mF 1 a.j7 a.uW ["_law_web_here", "_law_row"] Uh:=by
  refine T.yI.tH iz (fun vs H Q E h=>?_) (fun cdv A outer s H vs Q E hr h=>?_)
  ·obtain⟨wt,n,l,rl,tv,tr,row,xs,ms,gone,ps,rfl,_⟩:=h;rfl
  · obtain⟨wt,n,l,rl,tv,tr,row,xs,ms,gone,ps,rfl,hwt,hn,hl,htv,hX,hTs,hrl,hrow,hE,q⟩:=h;refine⟨_,(aA (bx (i:=2) iz.nd rfl (Or.inr rfl) (jo (yh (K:=K) rfl) (bW (bZ (K:=K) rfl) (aH 0) aL (fun _ _=>rfl)) lF (PO.eqv (lG aL) (jt _))))
      (aA (bx (i:=3) iz.nd rfl (Or.inl rfl) (cg aq))
      (aA (iI PassesOwn.never rfl (PI.eqv (cu (K:=K) rfl (aH 1)) (bU _ _)) (PG.eqv (cW (K:=K) (n:=2) rfl rfl (fL.eqv (aQ (aM (i:=4) iz.nd rfl (Or.inl rfl)) (fL.eqv (aQ (aM (i:=5) iz.nd rfl (Or.inl rfl)) (fL.mono cF d8)) (aR _ _))) (aR _ _))) (cX _ _ _))
      (aA (bx (i:=6) iz.nd rfl (Or.inr rfl) (aH 4))
      (aA (bx (i:=7) iz.nd rfl (Or.inl rfl) (cg aq))
      (aA (cO (PW.pt (jj (aW (m6 (K:=K) rfl) (aH 6) (aH 2) rfl) (iC (aW jD (aF (bY (K:=K) rfl) rfl T.nm.len PySem.boot_len (aj (aH 5) aq)) aL (bO _))))) (aD (aZ gF)) bH)
      (aA (iI PassesOwn.never rfl (PI.eqv (cu (K:=K) rfl (aH 5)) (bU _ _)) (aM (i:=8) iz.nd rfl (Or.inl rfl))
      (aA (cO (PW.pt (jj (aW (zE (K:=K) rfl) (aH 8) (aH 3) rfl) (jj (aW (m6 (K:=K) rfl) (aH 6) (bW (bZ (K:=K) rfl) (bW (bZ (K:=K) rfl) (aH 0) aL (fun _ _=>rfl)) (aH 8) (fun _ _=>rfl)) rfl) (iC (aW (zE (K:=K) rfl) (aH 6) (jo (yh (K:=K) rfl) (aH 7) lF (PO.eqv (lG (tW jT aL)) (jt _))) rfl))))) (aD (aZ gF)) bH)
      (aA (eF (jQ (K:=K) rfl PySem.F.plainAttrs_list PySem.F.slot_list_append PySem.F.type_list_append dH (aH 3) (aj (aH 8) aq)))
      (aA (bx (i:=6) iz.nd rfl (Or.inr rfl) (bW (bZ (K:=K) rfl) (eO rfl rfl (show aY (ao iK) _ ["_law_web_here", "_law_row", "_law_met", "_law_used", "_law_start", "_law_numbers", "_law_here", "_law_inner", "_law_k"] ["_law_one"] [6] ["_law_one", "_law_here"] from⟨rfl,by decide+kernel,by decide+kernel,rfl,by decide+kernel,by decide+kernel⟩) rfl (ZW (K:=K) rfl (bW (bZ (K:=K) rfl) (bW (bZ (K:=K) rfl) (aH 0) aL (fun _ _=>rfl)) (aH 8) (fun _ _=>rfl))) (fun C s H fp pn=>(aM (i:=0) (show(["_law_one", "_law_here"]:List Str).Nodup by decide+kernel) rfl (Or.inl rfl))) (fun C s H fp pn=>(lH (aW nP (aH 0) (aH 1) (bO _)))) (fun C s H fp pn=>(aH 0))) aL (fun _ _=>rfl)))
      (aD (eF (jQ (K:=K) rfl PySem.F.plainAttrs_list PySem.F.slot_list_append PySem.F.type_list_append dH (aH 7) (aj (aH 6) aq))))))))
      (aA (cO (PW.pt (jj (aW (m6 (K:=K) rfl) (aH 6) (aH 2) rfl) (jj (aW (Ox (K:=K) rfl hr.units) (eO rfl rfl (show aY (ao iK) _ ["_law_web_here", "_law_row", "_law_met", "_law_used", "_law_start", "_law_numbers", "_law_here", "_law_inner", "_law_k"] ["_law_name"] [2] ["_law_name", "_law_met"] from⟨rfl,by decide+kernel,by decide+kernel,rfl,by decide+kernel,by decide+kernel⟩) rfl (PI.eqv (cu (K:=K) rfl (jo (yh (K:=K) rfl) (aH 7) lF (PO.eqv (lG (tW jT aL)) (jt _)))) (bU _ _)) (fun C s H fp pn=>(aM (i:=0) (show(["_law_name", "_law_met"]:List Str).Nodup by decide+kernel) rfl (Or.inl rfl))) (fun C s H fp pn=>(lH (aW (zE (K:=K) rfl) (aH 0) (aH 1) rfl))) (fun C s H fp pn=>(aH 0))) (cg aq) (bO _)) (iC (aW zB (aF uO rfl T.nm.len PySem.boot_len (aj (eE (uN rfl) rfl T.nm.set uM (aj (aH 7) aq)) aq)) (aF (bY (K:=K) rfl) rfl T.nm.len PySem.boot_len (aj (aH 7) aq)) (bO _)))))) (aD (aZ gF)) bH)
      (aD (bx (i:=2) iz.nd rfl (Or.inr rfl) (dF m5 (aH 2) (jo (yh (K:=K) rfl) (aH 7) lF (PO.eqv (lG (tW jT aL)) (jt _))))))))))))
      (aD (aZ (jU (eG jD (aF (bY (K:=K) rfl) rfl T.nm.len PySem.boot_len (aj (aH 2) aq)) (aF (bY (K:=K) rfl) rfl T.nm.len PySem.boot_len (aj (bW (bZ (K:=K) rfl) (aH 0) aL (fun _ _=>rfl)) aq)) (bO _)) (nH (eG jD (aF (bY (K:=K) rfl) rfl T.nm.len PySem.boot_len (aj (aH 3) aq)) (aF (bY (K:=K) rfl) rfl T.nm.len PySem.boot_len (aj (bW (bZ (K:=K) rfl) (aH 0) aL (fun _ _=>rfl)) aq)) (bO _))))))))),?_⟩
    have Ke:200≤sizeLine:=by decide
    have Er:=hTs.len;obtain⟨rfl,rfl,hpre,qdL⟩:=hE.at
    have bnd:∀i,(GQ ps (xs.take 1) (row.take i)).length≤9∧(zP (row.take i)).length≤20∧∀x∈GQ ps (xs.take 1) (row.take i),x∈xs:=fun i=>by
      obtain⟨n1,n2,n3⟩:=(hpre i).nd (hX.nd.sublist (List.take_sublist _ _));have hin:=(hpre i).in hTs fun x hx=>List.mem_of_mem_take hx;have l1:=b_ n1 hin;have l2:=b_ n2 (xs:=List.range ps.length) fun j hj=>List.mem_range.mpr (n3 j hj);rw[List.length_range] at l2;exact⟨Nat.le_trans l1 hX.len.2,by omega,hin⟩
    right;refine⟨_,.inr (d9.of hwt),_,bD (j:=0) rfl,?_⟩;right;refine⟨_,aX.of hn,fun m0 hm0=>?_⟩;have ct:tY (xs.map V.str) none (some 1)=(xs.take 1).map V.str:=by
      rw[show(1:Int)=((1:Nat):Int) from rfl,Kf,← List.map_take]
    rw[ct];have s3:Same H (upd H m0 (.lst ((xs.take 1).map V.str))):=au hm0;have e3:upd H m0 (.lst ((xs.take 1).map V.str)) m0=some (.lst ((xs.take 1).map V.str)):=ak;generalize upd H m0 (.lst ((xs.take 1).map V.str))=H3 at s3 e3 ⊢;intro u0 hu0;have s4:Same H3 (upd H3 u0 (.lst [])):=au hu0;have e4:upd H3 u0 (.lst []) u0=some (.lst (aU [])):=ak;generalize upd H3 u0 (.lst [])=H4 at s4 e4 ⊢;have S4:=s3.trans s4;have u00:H u0=none:=bQ s3 hu0;have hl4:=S4 _ _ hl;have qdM:=S4 _ _ hwt;have hn4:=S4 _ _ hn;have qgl:=S4 _ _ hrl;have Mu:=htv.same S4;have rlu:rl≠u0:=fun z=>by rw[z,u00] at hrl;cases hrl
    have wtu:wt≠u0:=fun z=>by rw[z,u00] at hwt;cases hwt
    have lu:l≠u0:=fun z=>by rw[z,u00] at hl;cases hl
    have nu:n≠u0:=fun z=>by rw[z,u00] at hn;cases hn
    have mu0:m0≠u0:=fun z=>by rw[z,hu0] at e3;cases e3
    refine⟨⟨_,aX.of qgl⟩,frL tr (fun i σ H'=>(∃m o4 o5 o6 o7 o8,σ=[some (.ref wt),some (.ref rl),some (.ref m),some (.ref u0),o4,o5,o6,o7,o8]∧m≠u0∧H' m=some (.lst ((GQ ps (xs.take 1) (row.take i)).map V.str)))∧H' u0=some (.lst (aU (zP (row.take i))))∧(∀b u,b≠u0→H4 b=some u→H' b=some u)) ⟨⟨m0,_,_,_,_,_,rfl,mu0,s4 _ _ e3⟩,e4,fun b u _ e=>e⟩ (fun i σ H' _ h=>aX.of (h.2.2 _ _ rlu qgl)) ?_ ?_⟩
    · rintro i v σ H5 hiv ⟨⟨m,o4,o5,o6,o7,o8,rfl,mu,em⟩,eu,k5⟩;have hi2:=(List.getElem?_eq_some_iff.mp hiv).1;obtain⟨e,he⟩:∃e,row[i]? = some e:=⟨_,List.getElem?_eq_getElem (by rw[← hrow.1];exact hi2)⟩;obtain⟨t,r,rfl,ht,hr0⟩:=hrow.2 i v e hiv he;have Cd:=qdL i e he;obtain⟨b1,b2,b3⟩:=bnd i;obtain⟨pnd,z,hpz,hzm⟩:=Cd.all;have hstep:=Nf e.2 e.1 Cd.ln;have qaV:e.2.length≤20:=by
        have l2:=b_ Cd.nd (xs:=List.range ps.length) fun j hj=>List.mem_range.mpr (Cd.lt j hj);rw[List.length_range] at l2;omega
      have ms':GQ ps (xs.take 1) (row.take (i+1))=GQ ps (xs.take 1) (row.take i)++(bJ ps e.1 e.2).dropLast:=by rw[take_one he,yS]
      have go':zP (row.take (i+1))=zP (row.take i)++e.2:=by rw[take_one he,yU]
      have tu:t≠u0:=fun z=>by rw[z,u00] at ht;cases ht
      have ru:r≠u0:=fun z=>by rw[z,u00] at hr0;cases hr0
      have ht5:=k5 _ _ tu (S4 _ _ ht);have Rq:=k5 _ _ ru (S4 _ _ hr0);have qdK:aU e.2≠[]:=fun h=>Cd.ne (by unfold aU at h;exact List.map_eq_nil_iff.mp h);rw[ms',go'];have hln:=Cd.ln;generalize GQ ps (xs.take 1) (row.take i)=msi at em Cd b1 b3 hzm ⊢;generalize zP (row.take i)=Zd at eu Cd b2 ⊢;have hfr:=Cd.fr;have hpf:=Cd.pf;have hsm:=Cd.sm;have hlt:=Cd.lt;have hnd:=Cd.nd;generalize bJ ps e.1 e.2=jP at pnd hpz hstep hln hpf ⊢;right;refine⟨_,d9.of ht5,rfl,?_⟩;right;intro il hil;have s6:Same H5 (upd H5 il (.lst [])):=au hil;have e6:upd H5 il (.lst []) il=some (.lst ((jP.take 0).map V.str)):=ak;have ilu:il≠u0:=fun z=>by rw[z,eu] at hil;cases hil
      generalize upd H5 il (.lst [])=H6 at s6 e6 ⊢;refine⟨_,.inl (aX.of (s6 _ _ em)),rfl,List.all_eq_true.mp (cI _),false,?_,dI.neg rfl ?_⟩
      ·rw[bT,decide_eq_true hsm];rfl
      right;refine⟨_,.inl (aX.of (s6 _ _ Rq)),dI.neg (by simp[qdK]) ?_⟩;right;have k6:∀{b:Addr} {u:HO},H4 b=some u→b≠u0→H6 b=some u∧b≠il:=fun {b u} e hb=>⟨s6 _ _ (k5 _ _ hb e),fun z=>by have:=k5 _ _ hb e;rw[z,hil] at this;cases this⟩;have mil:m≠il:=fun z=>by rw[z,hil] at em;cases em
      have ril:r≠il:=fun z=>by rw[z,hil] at Rq;cases Rq
      have em6:=s6 _ _ em;have hr6:=s6 _ _ Rq;have qn_:jP.length≤20:=by rw[hln];exact qaV
      refine⟨⟨_,aX.of hr6⟩,frL (aU e.2) (fun j σ H'=>(∃o8,σ=[some (.ref wt),some (.ref rl),some (.ref m),some (.ref u0),some (.str e.1),some (.ref r),some (.str (pG e.1 jP j)),some (.ref il),o8])∧H' il=some (.lst ((jP.take j).map V.str))∧H' u0=some (.lst (aU (Zd++e.2.take j)))∧(∀b u,b≠u0→b≠il→H6 b=some u→H' b=some u)) ⟨⟨_,rfl⟩,e6,by rw[List.take_zero,List.append_nil];exact s6 _ _ eu,fun b u _ _ e=>e⟩ (fun j σ H' _ h=>aX.of (h.2.2.2 _ _ ru ril hr6)) ?_ ?_⟩
      · rintro j v σ H7 hjv ⟨⟨o8,rfl⟩,e7,eu7,k7⟩;obtain⟨k,hk,rfl⟩:∃k,e.2[j]? = some k∧v = .int (k:Nat):=by
          unfold aU at hjv;rw[List.getElem?_map] at hjv;obtain⟨k,hk,rfl⟩:=Option.map_eq_some_iff.mp hjv;exact⟨k,hk,rfl⟩
        have hj2:=(List.getElem?_eq_some_iff.mp hk).1;have hkm:=List.mem_of_getElem? hk;obtain⟨y,hy,hnx⟩:=hstep j k hk;obtain⟨d,hd⟩:∃d,ps[k]? = some d:=⟨_,List.getElem?_eq_getElem (hlt k hkm)⟩;obtain⟨_,_,dne⟩:=hTs.ok d (List.mem_of_getElem? hd);have hdy:(pG e.1 jP j=d.1∧y=d.2)∨(pG e.1 jP j=d.2∧y=d.1):=by
          unfold tK at hnx;rw[hd] at hnx;simp only at hnx;split at hnx
          ·rename_i h1;cases hnx;exact .inl ⟨h1,rfl⟩
          · split at hnx
            ·rename_i h2;cases hnx;exact .inr ⟨h2,rfl⟩
            ·cases hnx
        obtain⟨w',hw'⟩:∃w',tv[k]? = some w':=⟨_,List.getElem?_eq_getElem (by rw[htv.1];exact hlt k hkm)⟩;obtain⟨td,rfl,htd⟩:=Mu.2 k w' d hw' hd;have tdu:td≠u0:=fun z=>by rw[z,e4] at htd;cases htd
        have at7:∀{b:Addr} {u:HO},H4 b=some u→b≠u0→H7 b=some u:=fun e hb=>k7 _ _ hb (k6 e hb).2 (k6 e hb).1;have wt7:=at7 qdM wtu;have l7:=at7 hl4 lu;have td7:=at7 htd tdu;have hnk:k∉Zd++e.2.take j:=fun z=>by
          rcases List.mem_append.mp z with z | z
          ·exact hfr k hkm z
          · have h2:(e.2.take j++[k]).Nodup:=by rw[← take_one hk];exact hnd.sublist (List.take_sublist _ _)
            exact(List.nodup_append.mp h2).2.2 k z k (by simp) rfl
        have hhn:=Yv (h:=e.1) (j:=j) pnd (by rw[hln];omega);have hty:jP.take (j+1)=jP.take j++[y]:=take_one hy;have htk:Zd++e.2.take (j+1)=(Zd++e.2.take j)++[k]:=by rw[take_one hk,List.append_assoc]
        have hha:pG e.1 jP (j+1)=y:=Fj hy;rw[hty,htk,hha];have gl:(Zd++e.2.take j).length≤40:=by rw[List.length_append,List.length_take];omega
        generalize pG e.1 jP j=hr at hdy hhn ⊢;have tkl:(jP.take j).length≤20:=by rw[List.length_take];omega
        generalize jP.take j=ptj at e7 hhn tkl ⊢;generalize Zd++e.2.take j=gj at eu7 hnk gl ⊢;right;refine⟨_,.inl (aX.of eu7),rfl,Ij _,?_⟩;rw[Rx,decide_eq_false hnk];refine dI.neg rfl ?_;right;refine⟨_,.inr (d9.of wt7),_,bD (j:=1) rfl,?_⟩;right;refine⟨_,.inl (aX.of l7),_,bD hw',?_⟩;right;have qlq:hr∈[d.1,d.2]:=by rcases hdy with⟨h1,_⟩ | ⟨h1,_⟩ <;> simp[h1]
        refine⟨[d.1,d.2].map V.str,.inr (d9.of td7),rfl,List.all_eq_true.mp (cI _),false,?_,dI.neg rfl ?_⟩
        ·rw[bT,decide_eq_true qlq];rfl
        right;refine⟨_,aX.of e7,fun p8 hp8=>?_⟩;rw[ou];have Zc:(ptj.map V.str).dropLast=(ptj.dropLast).map V.str:=by rw[List.map_dropLast]
        rw[Zc];have s8:Same H7 (upd H7 p8 (.lst (ptj.dropLast.map V.str))):=au hp8;have e8:upd H7 p8 (.lst (ptj.dropLast.map V.str)) p8=some (.lst (ptj.dropLast.map V.str)):=ak;generalize upd H7 p8 (.lst (ptj.dropLast.map V.str))=H8 at s8 e8 ⊢;refine⟨_,.inl (aX.of e8),rfl,List.all_eq_true.mp (cI _),?_⟩;rw[bT,decide_eq_false hhn];refine dI.neg rfl ?_;have eu8:=s8 _ _ eu7;right;refine⟨⟨_,aX.of eu8⟩,_,eu8,by simp[aU];omega,?_⟩;have eN:aU gj++[V.int (k:Nat)]=aU (gj++[k]):=by simp[aU]
        rw[eN];have e9:upd H8 u0 (.lst (aU (gj++[k]))) u0=some (.lst (aU (gj++[k]))):=ak;have k9:∀b u,b≠u0→H8 b=some u→upd H8 u0 (.lst (aU (gj++[k]))) b=some u:=fun b u hb e=>by rw[aC hb];exact e
        generalize upd H8 u0 (.lst (aU (gj++[k])))=H9 at e9 k9 ⊢;have wt9:=k9 _ _ wtu (s8 _ _ wt7);have l9:=k9 _ _ lu (s8 _ _ l7);have td9:=k9 _ _ tdu (s8 _ _ td7);have e79:=k9 _ _ ilu (s8 _ _ e7);refine⟨_,.inr (d9.of wt9),_,bD (j:=1) rfl,?_⟩;right;refine⟨_,.inl (aX.of l9),_,bD hw',?_⟩;right;have two : [d.1,d.2].filter (neS hr)=[y]:=by
          rcases hdy with⟨h1,h2⟩ | ⟨h1,h2⟩
          ·simp[neS,h1,h2,dne.symm]
          ·simp[neS,h1,h2,dne]
        refine⟨⟨_,d9.of td9⟩,fun D hD=>cmT ([d.1,d.2].map V.str) (fun i σ H'=>(∃o',σ=[o',some (.str hr)])∧H' D=some (.lst ((([d.1,d.2].take i).filter (neS hr)).map V.str))∧Same H9 H') ⟨⟨_,rfl⟩,ak,au hD⟩ (fun i σ H' _ h=>d9.of (h.2.2 _ _ td9)) ?_ ?_⟩
        · rintro i2 v2 σ Nx qdN ⟨⟨o',rfl⟩,Yw,Du⟩;obtain⟨x2,hx2,rfl⟩:=pL qdN;have fl:(([d.1,d.2].take i2).filter (neS hr)).length≤2:=Nat.le_trans (List.length_filter_le _ _) (by rw[List.length_take];simp;omega);rw[take_one hx2,List.filter_append];right
          by_cases hxe:x2=hr
          · refine⟨false,by simp[hxe],dI.neg rfl ?_⟩;have e0 : [x2].filter (neS hr)=[]:=by simp[neS,hxe]
            rw[e0];right;refine⟨?_,Du⟩;simpa using Yw
          · refine⟨true,by simp[hxe],dI.pos rfl ?_⟩;have e0 : [x2].filter (neS hr)=[x2]:=by simp[neS,hxe]
            rw[e0];right;refine⟨_,Yw,by rw[List.length_map];omega,?_,bA Du hD⟩;rw[ak]
        ·rintro σ Nx ⟨⟨o',rfl⟩,Yw,Du⟩;have h2l:([d.1,d.2].map V.str).length=2:=rfl;rw[h2l,show[d.1,d.2].take 2=[d.1,d.2] from rfl,two] at Yw;have Yx:=Du _ _ e79;right;refine⟨_,.inl (aX.of Yw),_,bD (j:=0) rfl,?_⟩;right;refine⟨⟨_,aX.of Yx⟩,_,Yx,by rw[List.length_map];omega,?_⟩;exact⟨ak,by rw[aC ilu.symm];exact Du _ _ e9,fun b u hb1 hb2 e=>by rw[aC hb2];exact Du _ _ (k9 _ _ hb1 (s8 _ _ (k7 b u hb1 hb2 e)))⟩
      · rintro σ H7 ⟨⟨o8,rfl⟩,e7,eu7,k7⟩;have nle:(aU e.2).length=e.2.length:=by simp[aU]
        have hzl:pG e.1 jP (aU e.2).length=z:=by
          have h1:jP.length=jP.dropLast.length+1:=by
            have:=congrArg List.length hpz;simpa using this
          have h2:jP[jP.dropLast.length]? = some z:=by
            rw[hpz];simp
          rw[nle,← hln,h1];exact Fj h2
        rw[hzl];rw[nle,← hln,List.take_length] at e7;rw[nle,List.take_length] at eu7;have em7:=k7 _ _ mu mil em6;have qoa:jP.dropLast.length≤20:=by rw[List.length_dropLast];omega
        right;refine⟨_,.inl (aX.of em7),rfl,List.all_eq_true.mp (cI _),false,?_,dI.neg rfl ?_⟩
        ·rw[bT,decide_eq_true hzm];rfl
        right;refine⟨_,aX.of e7,fun p8 hp8=>?_⟩;rw[ou];have Zc:(jP.map V.str).dropLast=(jP.dropLast).map V.str:=by rw[List.map_dropLast]
        rw[Zc];have s8:Same H7 (upd H7 p8 (.lst (jP.dropLast.map V.str))):=au hp8;have e8:upd H7 p8 (.lst (jP.dropLast.map V.str)) p8=some (.lst (jP.dropLast.map V.str)):=ak;generalize upd H7 p8 (.lst (jP.dropLast.map V.str))=H8 at s8 e8 ⊢;refine⟨⟨_,aX.of e8⟩,fun D hD=>Nt (jP.dropLast.map V.str) (fun i σ H'=>(∃o',σ=[o',some (.ref m)])∧H' D=some (.lst [])∧Same H8 H') ⟨⟨_,rfl⟩,ak,au hD⟩ (fun i σ H' _ h=>aX.of (h.2.2 _ _ e8)) ?_ ?_⟩
        ·rintro i2 v2 σ H9 qdN ⟨⟨o',rfl⟩,hD9,s9⟩;obtain⟨x2,hx2,rfl⟩:=pL qdN;have hnx:=hpf x2 (List.mem_of_getElem? hx2);right;refine⟨_,.inl (aX.of (s9 _ _ (s8 _ _ em7))),rfl,List.all_eq_true.mp (cI _),?_⟩;rw[bT,decide_eq_false hnx];refine dI.neg rfl ?_;right;exact⟨hD9,s9⟩
        · rintro σ H9 ⟨⟨o',rfl⟩,hD9,s9⟩;right;intro Ze Yg;have Du:Same H9 (upd H9 Ze (.lst [])):=au Yg;have e10:upd H9 Ze (.lst []) Ze=some (.lst []):=ak;generalize upd H9 Ze (.lst [])=Nx at Du e10 ⊢;refine⟨.list [],⟨D,_,rfl,aX.of (Du _ _ hD9),rfl⟩,.list [],⟨Ze,_,rfl,aX.of e10,rfl⟩,rfl,rfl,by decide,false,rfl,dI.neg rfl ?_⟩;have qaW:=(s8.trans s9).trans Du;have Yx:=qaW _ _ e7;have qob:=qaW _ _ eu7;have qoc:=qaW _ _ em7;right;refine⟨_,.inl (aX.of Yx),by simp[isKey],by simp;unfold scanBound;omega,fun Rv E_=>⟨_,ak,_,.inl (aX.of (bG Yx E_)),?_⟩⟩;refine dI.neg (decide_eq_false (by rw[Pr pnd];simp)) ?_;generalize qlr:upd Nx Rv _=Vj;have Rf:Same Nx Vj:=by rw[← qlr];exact au E_
          have qgm:=qaW.trans Rf;have e11:=qgm _ _ e7;right;refine⟨_,aX.of e11,fun p12 qls=>?_⟩;rw[ou,Zc];have s12:Same Vj (upd Vj p12 (.lst (jP.dropLast.map V.str))):=au qls;have e12:upd Vj p12 (.lst (jP.dropLast.map V.str)) p12=some (.lst (jP.dropLast.map V.str)):=ak;generalize upd Vj p12 (.lst (jP.dropLast.map V.str))=H12 at s12 e12 ⊢;have qdO:=qgm.trans s12;refine⟨_,qdO _ _ em7,_,e12,by rw[List.length_map,List.length_map];omega,fun p13 qaX=>?_⟩;rw[← List.map_append];have qgn:=qdO _ _ eu7;have qlt:p13≠u0:=fun z=>by rw[z,qgn] at qaX;cases qaX
          exact⟨⟨qlt,ak⟩,bG qgn qaX,fun b u hb e=>bG (qdO _ _ (k7 _ _ hb (k6 e hb).2 (k6 e hb).1)) qaX⟩
    · rintro σ H5 ⟨⟨m,o4,o5,o6,o7,o8,rfl,mu,em⟩,eu,k5⟩;rw[hrow.1,List.take_length] at em eu;have q5:=q H5 fun b u e=>k5 _ _ (fun z=>by rw[z,u00] at e;cases e) (S4 _ _ e);have nl:(aU (zP row)).length=(zP row).length:=by simp[aU]
      right;refine⟨_,.inl (aX.of em),_,.inr (d9.of (k5 _ _ wtu qdM)),_,bD (j:=0) rfl,?_⟩;right;refine⟨_,.inl (aX.of (k5 _ _ nu hn4)),?_⟩
      by_cases hlen:(GQ ps (xs.take 1) row).length=xs.length
      · refine dI.pos (decide_eq_true (by rw[List.length_map,hlen])) ?_;rw[decide_eq_true hlen] at q5;right;refine⟨_,.inl (aX.of eu),_,.inr (d9.of (k5 _ _ wtu qdM)),_,bD (j:=1) rfl,?_⟩;right;refine⟨_,.inl (aX.of (k5 _ _ lu hl4)),?_⟩;have ec:decide (((zP row).length:Int)=(ps.length:Int))=decide ((zP row).length=ps.length):=by rw[decide_eq_decide];omega
        rw[nl,htv.1,ec];simpa using q5
      ·refine dI.neg (decide_eq_false fun z=>hlen (by rw[List.length_map] at z;exact Int.ofNat_inj.mp z)) ?_;rw[decide_eq_false hlen] at q5;simpa using q5
def qaY:Sp:=fun vs H Q _=>∃(t n l:Addr) (start:Str) (gone:V) (xs:List Str) (tv:List V) (ps:List (Str×Str)) (Pb:Nat→Bool),vs=[.ref t,.str start,gone]∧H t=some (.tup [.ref n,.ref l])∧H n=some (.lst (xs.map V.str))∧H l=some (.lst tv)∧bL H tv ps∧xs.length≤9∧ps.length≤20∧
  (∀(k:Nat) (H:Hp) (Q:VK),Q (.bl (Pb k)) H→fNe (.int k) gone H Q)∧∀(r:Addr) (H':Hp),H r=none→H' r=some (.lst ((xs.filter fun y=>decide (y∈dz Pb ps start xs.length)).map V.str))→Same H H'→Q (.ref r) H'
theorem Ry (T:Txt K mg a):dG P w K mg base mF 1 a.rN a.BP ["_law_web_here", "_law_start", "_law_gone"] qaY:=by
  refine T.J3.tH rD (fun vs H Q E h=>?_) (fun cdv A outer s H vs Q E hr h=>?_)
  ·obtain⟨t,n,l,start,gone,xs,tv,ps,Pb,rfl,_⟩:=h;rfl
  · obtain⟨t,n,l,start,gone,xs,tv,ps,Pb,rfl,ht,hn,hl,htv,h9,Er,hP,q⟩:=h;refine⟨_,(aA (bx (i:=3) rD.nd rfl (Or.inr rfl) (cg (aj (aH 1) aq)))
      (aA (iI PassesOwn.never rfl (PI.eqv (cu (K:=K) rfl (bW (bZ (K:=K) rfl) (aH 0) aL (fun _ _=>rfl))) (bU _ _)) (aM (i:=4) rD.nd rfl (Or.inl rfl))
      (aD (iI PassesOwn.never rfl (PI.eqv (Bs (K:=K) rfl rfl T.XM.enumerate (aj (bW (bZ (K:=K) rfl) (aH 0) aL (fun _ _=>rfl)) aq)) (uQ _ _)) (PG.eqv (cW (K:=K) (n:=2) rfl rfl (fL.eqv (aQ (aM (i:=5) rD.nd rfl (Or.inl rfl)) (fL.eqv (aQ (PG.eqv (cW (K:=K) (n:=2) rfl rfl (fL.eqv (aQ (aM (i:=6) rD.nd rfl (Or.inl rfl)) (fL.eqv (aQ (aM (i:=7) rD.nd rfl (Or.inl rfl)) (fL.mono cF d8)) (aR _ _))) (aR _ _))) (cX _ _ _)) (fL.mono cF d8)) (aR _ _))) (aR _ _))) (cX _ _ _))
      (aD (cO (PW.pt (Iu (aW nP (aH 5) (aH 2) (bO _)) (Br (aW nP (eG (zE (K:=K) rfl) (aH 6) (aH 3) rfl) (eG (zE (K:=K) rfl) (aH 7) (aH 3) rfl) (bO _))))) (aD (bx (i:=3) rD.nd rfl (Or.inr rfl) (dF m5 (aH 3) (cg (aj (aH 6) (aj (aH 7) aq)))))) bH)))))
      (aD (aZ (eO rfl rfl (show aY (ao pU) _ ["_law_web_here", "_law_start", "_law_gone", "_law_found", "_law_turn", "_law_k", "_law_a", "_law_b"] ["_law_name"] [3] ["_law_name", "_law_found"] from⟨rfl,by decide+kernel,by decide+kernel,rfl,by decide+kernel,by decide+kernel⟩) rfl (PI.eqv (cu (K:=K) rfl (bW (bZ (K:=K) rfl) (aH 0) aL (fun _ _=>rfl))) (bU _ _)) (fun C s H fp pn=>(aM (i:=0) (show(["_law_name", "_law_found"]:List Str).Nodup by decide+kernel) rfl (Or.inl rfl))) (fun C s H fp pn=>(lH (aW (zE (K:=K) rfl) (aH 0) (aH 1) rfl))) (fun C s H fp pn=>(aH 0))))))),?_⟩
    have qnK:1000≤sizeLine:=by decide
    have hlen:∀i,i≤9→∀j,(gG Pb (ps.take j) 0 (dz Pb ps start i)).length≤500:=fun i hi j=>by
      have h1:=Hs (P:=Pb) (ps:=ps) (start:=start) i;have h2:=zx (P:=Pb) (l:=ps.take j) (k:=0) (found:=dz Pb ps start i);have h3:i * (2 * ps.length)≤9 * (2 * 20):=Nat.mul_le_mul hi (by omega);rw[List.length_take] at h2;omega
    right;intro F0 hF0;have s0:Same H (upd H F0 (.lst [.str start])):=au hF0;refine⟨_,.inr (d9.of (s0 _ _ ht)),_,bD (j:=0) rfl,⟨_,aX.of (s0 _ _ hn)⟩,frL (xs.map V.str) (fun i σ H'=>(∃F o4 o5 o6 o7,σ=[some (.ref t),some (.str start),some gone,some (.ref F),o4,o5,o6,o7]∧H' F=some (.lst ((dz Pb ps start i).map V.str)))∧Same H H') ⟨⟨F0,_,_,_,_,rfl,ak⟩,s0⟩ (fun i σ H' _ h=>aX.of (h.2 _ _ hn)) ?_ ?_⟩
    · rintro i x σ H1 hi ⟨⟨F,o4,o5,o6,o7,rfl,hF⟩,s1⟩;have hi2:i<xs.length:=by have:=(List.getElem?_eq_some_iff.mp hi).1;simpa using this
      right;refine⟨_,.inr (d9.of (s1 _ _ ht)),_,bD (j:=1) rfl,⟨_,aX.of (s1 _ _ hl)⟩,frE tv (fun j σ H'=>(∃F o4 o5 o6 o7,σ=[some (.ref t),some (.str start),some gone,some (.ref F),o4,o5,o6,o7]∧H' F=some (.lst ((gG Pb (ps.take j) 0 (dz Pb ps start i)).map V.str)))∧Same H H') ⟨⟨F,_,_,_,_,rfl,hF⟩,s1⟩ (fun j σ H' _ h=>aX.of (h.2 _ _ hl)) ?_ ?_⟩
      · rintro j x t2 σ H2 hj Ro ⟨⟨F,o4,o5,o6,o7,rfl,hF⟩,s2⟩;obtain⟨e,he,tt,rfl,htt⟩:=htv.at hj;have s3:Same H2 (upd H2 t2 (.tup [.int j,.ref tt])):=au Ro;rw[Ot Pb he];have hl5:=hlen i (by omega) j;generalize gG Pb (ps.take j) 0 (dz Pb ps start i)=fo at hF hl5 ⊢;right;refine⟨_,d9.of ak,rfl,_,d9.of (s3 _ _ (s2 _ _ htt)),rfl,?_⟩;right;refine hP j _ _ ?_;right;have Yh:=s3 _ _ hF;have s4:=s2.trans s3;generalize upd H2 t2 (.tup [.int j,.ref tt])=H3 at Yh s4 ⊢;refine dI.of (fun hPj=>?_) (fun hPj=>?_)
        · rw[if_pos hPj];right;refine⟨_,.inl (aX.of Yh),rfl,List.all_eq_true.mp (cI _),_,.inl (aX.of Yh),rfl,List.all_eq_true.mp (cI _),?_⟩;rw[bT,bT]
          by_cases hif:e.1∈fo↔e.2∈fo
          · refine⟨false,by simp[hif],dI.neg rfl ?_⟩;have ea:qI fo e=fo:=by unfold qI;rw[if_pos hif]
            rw[ea];right;exact⟨Yh,s4⟩
          · refine⟨true,by simp;exact fun z=>hif z,dI.pos rfl ?_⟩;have ea:qI fo e=fo++[e.1,e.2]:=by unfold qI;rw[if_neg hif]
            rw[ea];right;intro b hb;refine⟨_,bG Yh hb,_,ak,by simp;omega,fun c hc=>⟨by simp[ak],(s4.trans (au hb)).trans (au hc)⟩⟩
        ·rw[if_neg (by rw[hPj];exact Bool.false_ne_true)];right;exact⟨Yh,s4⟩
      ·rintro σ H2 ⟨⟨F,o4,o5,o6,o7,rfl,hF⟩,s2⟩;rw[htv.1,List.take_length] at hF;right;exact⟨hF,s2⟩
    · rintro σ H1 ⟨⟨F,o4,o5,o6,o7,rfl,hF⟩,s1⟩;rw[List.length_map] at hF;right;refine⟨_,.inr (d9.of (s1 _ _ ht)),_,bD (j:=0) rfl,⟨_,aX.of (s1 _ _ hn)⟩,fun D hD=>Nt (xs.map V.str) (fun i σ H'=>(∃o,σ=[o,some (.ref F)])∧H' D=some (.lst (((xs.take i).filter fun y=>decide (y∈dz Pb ps start xs.length)).map V.str))∧Same H1 H') ⟨⟨_,rfl⟩,ak,au hD⟩ (fun i σ H' _ h=>aX.of (h.2.2 _ _ (s1 _ _ hn))) ?_ ?_⟩
      · rintro i x σ H2 hi ⟨⟨o,rfl⟩,hD2,s2⟩;obtain⟨y,hy,rfl⟩:=pL hi;have hi2:i<xs.length:=(List.getElem?_eq_some_iff.mp hy).1;right;refine⟨_,.inl (aX.of (s2 _ _ hF)),rfl,List.all_eq_true.mp (cI _),?_⟩;rw[bT,take_one hy,List.filter_append];refine dI.of (fun h=>?_) (fun h=>?_)
        ·have h':y∈dz Pb ps start xs.length:=of_decide_eq_true h;have hfl:((xs.take i).filter fun y=>decide (y∈dz Pb ps start xs.length)).length≤(xs.take i).length:=List.length_filter_le _ _;rw[List.length_take] at hfl;right;refine⟨_,hD2,by simp;omega,?_,bA s2 hD⟩;rw[ak];simp[h']
        ·have h':¬y∈dz Pb ps start xs.length:=of_decide_eq_false h;right;refine⟨?_,s2⟩;rw[hD2];simp[h']
      ·rintro σ H2 ⟨⟨o,rfl⟩,hD2,s2⟩;rw[List.length_map,List.take_length] at hD2;right;exact q D H2 (bQ s1 hD) hD2 (s1.trans s2)
def Ng (fl:Addr) (H:Hp) (v:V) (z:Nat×List Str):Prop:=∃t c,v = .ref t∧H t=some (.tup [.str "barred",.int (z.1:Nat),.ref c])∧H c=some (.lst (z.2.map V.str))∧c≠fl
theorem Ng.same {fl:Addr} {H H':Hp} (s:Same H H'):∀v z,Ng fl H v z→Ng fl H' v z:=fun v z ⟨t,c,h1,h2,h3,h4⟩=>⟨t,c,h1,s _ _ h2,s _ _ h3,h4⟩
def Fl:Sp:=fun vs H Q _=>∃(t n l:Addr) (x0:Str) (xs:List Str) (tv:List V) (ps:List (Str×Str)),vs=[.ref t]∧H t=some (.tup [.ref n,.ref l])∧H n=some (.lst (xs.map V.str))∧H l=some (.lst tv)∧bL H tv ps∧Gq xs∧jF xs ps∧xs[0]? = some x0∧
  ((oF (aN (fun _=>none) ps 0) xs x0).length<xs.length→∀(r d c:Addr) (H':Hp),H r=none→H' r=some (.lst [.ref d])→H' d=some (.tup [.str "parted",.ref c])→H' c=some (.lst ((oF (aN (fun _=>none) ps 0) xs x0).map V.str))→Same H H'→Q (.ref r) H')∧
  (¬(oF (aN (fun _=>none) ps 0) xs x0).length<xs.length→∀(r:Addr) (rs:List V) (H':Hp),H r=none→H' r=some (.lst rs)→bN (Ng r) H' rs (fO ps xs)→Same H H'→Q (.ref r) H')
theorem Px (T:Txt K mg a):dG P w K mg base mF 2 a.jc a.rO ["_law_web_here"] Fl:=by
  refine T.zM.tH jE (fun vs H Q E h=>?_) (fun cdv A outer s H vs Q E hr h=>?_)
  ·obtain⟨t,n,l,x0,xs,tv,ps,rfl,_⟩:=h;rfl
  · obtain⟨t,n,l,x0,xs,tv,ps,rfl,ht,hn,hl,htv,hX,hTs,hx0,q1,q2⟩:=h;refine⟨_,(aA (bx (i:=1) jE.nd rfl (Or.inl rfl) (PE.eqv (aV (Ry (K:=K) T) (hr.mono (by decide)) rfl T.Pk T.J3.kp T.Pj .nil bF (aj (aH 0) (aj (bW (bZ (K:=K) rfl) (bW (bZ (K:=K) rfl) (aH 0) aL (fun _ _=>rfl)) aL (fun _ _=>rfl)) (aj qbT aq)))) (aO _ _ _)))
      (aA (cO (aW zB (aF (bY (K:=K) rfl) rfl T.nm.len PySem.boot_len (aj (aH 1) aq)) (aF (bY (K:=K) rfl) rfl T.nm.len PySem.boot_len (aj (bW (bZ (K:=K) rfl) (aH 0) aL (fun _ _=>rfl)) aq)) (bO _)) (aD (aZ (cg (aj (fM (aj gM (aj (aH 1) aq))) aq)))) bH)
      (aA (bx (i:=2) jE.nd rfl (Or.inl rfl) (cg aq))
      (aA (iI PassesOwn.never rfl (PI.eqv (Bs (K:=K) rfl rfl T.XM.enumerate (aj (bW (bZ (K:=K) rfl) (aH 0) aL (fun _ _=>rfl)) aq)) (uQ _ _)) (PG.eqv (cW (K:=K) (n:=2) rfl rfl (fL.eqv (aQ (aM (i:=3) jE.nd rfl (Or.inl rfl)) (fL.eqv (aQ (PG.eqv (cW (K:=K) (n:=2) rfl rfl (fL.eqv (aQ (aM (i:=4) jE.nd rfl (Or.inl rfl)) (fL.eqv (aQ (aM (i:=5) jE.nd rfl (Or.inl rfl)) (fL.mono cF d8)) (aR _ _))) (aR _ _))) (cX _ _ _)) (fL.mono cF d8)) (aR _ _))) (aR _ _))) (cX _ _ _))
      (aA (bx (i:=6) jE.nd rfl (Or.inl rfl) (PE.eqv (aV (Ry (K:=K) T) (hr.mono (by decide)) rfl T.Pk T.J3.kp T.Pj .nil bF (aj (aH 0) (aj (aH 5) (aj (aH 3) aq)))) (aO _ _ _)))
      (aD (cO (aW (m6 (K:=K) rfl) (aH 4) (aH 6) rfl) (aD (eF (jQ (K:=K) rfl PySem.F.plainAttrs_list PySem.F.slot_list_append PySem.F.type_list_append dH (aH 2) (aj (fM (aj gM (aj (aH 3) (aj (aH 6) aq)))) aq)))) bH))))
      (aD (aZ (aH 2))))))),?_⟩
    have Ke:200≤sizeLine:=by decide
    have Er:=hTs.len;right;refine⟨_,.inr (d9.of ht),_,bD (j:=0) rfl,?_⟩;right;refine⟨_,.inl (aX.of hn),.str x0,bD (by rw[List.getElem?_map,hx0];rfl),?_⟩;have hps:∀e∈ps,e.1∈xs∧e.2∈xs:=fun e he=>⟨(hTs.ok e he).1,(hTs.ok e he).2.1⟩;have qlu:=List.mem_of_getElem? hx0;refine⟨t,n,l,x0,.non,xs,tv,ps,fun _=>true,rfl,ht,hn,hl,htv,hX.len.2,Er,fun k H Q h=>⟨rfl,true,by simp,h⟩,fun f H1 hf ef s1=>?_⟩;rw[WK qlu hps] at ef;right;refine⟨_,.inl (aX.of ef),_,.inr (d9.of (s1 _ _ ht)),_,bD (j:=0) rfl,?_⟩;right;refine⟨_,.inl (aX.of (s1 _ _ hn)),?_⟩
    by_cases hlt:(oF (aN (fun _=>none) ps 0) xs x0).length<xs.length
    ·refine dI.pos (decide_eq_true (by rw[List.length_map];exact hlt)) ?_;right;intro p2 hp2 p3 hp3;exact q1 hlt p3 p2 f _ (bQ (s1.trans (au hp2)) hp3) ak (bG ak hp3) (bG (bG ef hp2) hp3) ((s1.trans (au hp2)).trans (au hp3))
    · refine dI.neg (decide_eq_false (by rw[List.length_map];exact hlt)) ?_;right;intro fl hfl;have s2:Same H1 (upd H1 fl (.lst [])):=au hfl;have e2:upd H1 fl (.lst []) fl=some (.lst []):=ak;generalize upd H1 fl (.lst [])=H2 at s2 e2 ⊢;have S2:=s1.trans s2;have fl0:H fl=none:=bQ s1 hfl;have lfl:l≠fl:=fun z=>by rw[z,fl0] at hl;cases hl
      refine⟨_,.inr (d9.of (S2 _ _ ht)),_,bD (j:=1) rfl,?_⟩;right;have hbl:∀j,(k_ (jR ps xs) (ps.take j) 0).length≤20:=fun j=>by
        have h1:=Df (f:=jR ps xs) (fun e k=>by unfold jR;split <;> simp) (ps.take j) 0;rw[List.length_take] at h1;omega
      refine⟨⟨_,aX.of (S2 _ _ hl)⟩,frE tv (fun j σ H'=>(∃o3 o4 o5 o6 rs,σ=[some (.ref t),some (.ref f),some (.ref fl),o3,o4,o5,o6]∧H' fl=some (.lst rs)∧bN (Ng fl) H' rs (k_ (jR ps xs) (ps.take j) 0))∧Same H H') ⟨⟨_,_,_,_,[],rfl,e2,bN.nil⟩,S2⟩ (fun j σ H' _ h=>aX.of (h.2 _ _ hl)) ?_ ?_⟩
      · rintro j x t2 σ H3 hj Ro ⟨⟨o3,o4,o5,o6,rs,rfl,efl,hrs⟩,S3⟩;obtain⟨e,he,tt,rfl,htt⟩:=htv.at hj;have s4:Same H3 (upd H3 t2 (.tup [.int j,.ref tt])):=au Ro;have e4:upd H3 t2 (.tup [.int j,.ref tt]) t2=some (.tup [.int j,.ref tt]):=ak;generalize upd H3 t2 (.tup [.int j,.ref tt])=H4 at s4 e4 ⊢;have S4:=S3.trans s4;rw[Ht _ he];have hl5:=hbl j;have hrl:=hrs.1;generalize k_ (jR ps xs) (ps.take j) 0=bs at hrs hl5 hrl ⊢;obtain⟨m1,m2⟩:=hps e (List.mem_of_getElem? he);right;refine⟨_,d9.of e4,rfl,_,d9.of (S4 _ _ htt),rfl,?_⟩;right;refine⟨t,n,l,e.2,.int j,xs,tv,ps,fun i=>decide (i≠j),rfl,S4 _ _ ht,S4 _ _ hn,S4 _ _ hl,htv.same S4,hX.len.2,Er,fun k H Q h=>?_,fun lt H5 qdP elt s5=>?_⟩
        · rw[qfv];refine⟨decide (k≠j),?_,h⟩
          by_cases hkj:k=j
          ·simp[hkj]
          · have:¬(k:Int)=(j:Int):=by omega
            simp[hkj,this]
        · rw[WL m2 hps] at elt;have S5:=S4.trans s5;have qdQ:=s5 _ _ (s4 _ _ efl);have hb:jR ps xs e j=if e.1∈nO ps xs j e.2 then [] else [(j,nO ps xs j e.2)]:=rfl
          right;refine⟨_,.inl (aX.of elt),rfl,List.all_eq_true.mp (cI _),?_⟩;rw[bT]
          by_cases hin:e.1∈nO ps xs j e.2
          ·refine⟨false,by simp[hin],dI.neg rfl ?_⟩;rw[hb,if_pos hin,List.append_nil];right;exact⟨⟨rs,qdQ,bN.keep hrs (Ng.same (s4.trans s5))⟩,S5⟩
          · refine⟨true,by simp[hin],dI.pos rfl ?_⟩;rw[hb,if_neg hin];right;refine⟨⟨_,aX.of qdQ⟩,fun p6 hp6=>?_⟩;have s6:Same H5 (upd H5 p6 (.tup [.str "barred",.int (j:Nat),.ref lt])):=au hp6;have e6:upd H5 p6 (.tup [.str "barred",.int (j:Nat),.ref lt]) p6=some (.tup [.str "barred",.int (j:Nat),.ref lt]):=ak;have qdR:=s6 _ _ qdQ;have qlv:=s6 _ _ elt;have s36:=(s4.trans s5).trans s6;have ltf:lt≠fl:=fun z=>by rw[z] at qdP;rw[s4 _ _ efl] at qdP;cases qdP
            refine⟨_,qdR,by omega,⟨_,ak,bN.snoc (bN.keep hrs fun v z ⟨t',c',h1,h2,h3,h4⟩=>⟨t',c',h1,mY (s36 _ _ h2) qdR (by intro z;cases z),by rw[aC h4];exact s36 _ _ h3,h4⟩) ⟨p6,lt,rfl,mY e6 qdR (by intro z;cases z),by rw[aC ltf];exact qlv,ltf⟩⟩,bA (S5.trans s6) fl0⟩
      ·rintro σ H3 ⟨⟨o3,o4,o5,o6,rs,rfl,efl,hrs⟩,S3⟩;rw[htv.1,List.take_length] at hrs;right;exact q2 hlt fl rs H3 fl0 efl hrs S3
@[simp ↓] theorem qjV (K:W.Frag) (xs:List V) (H:Hp) (Q:VK):qbw K xs H Q=(ar2 xs fun x y=>isRef x fun a=>∃C od b,H a=some (uo a C od)∧JK K C∧O5 K C y=some b∧Q (.bl b) H):=rfl
def Py (Pa Ba:Addr):Addr→Sp:=fun e vs H Q _=>∃(C:Addr) (od:Option Addr) (wd:Str),vs=[.ref e]∧(C=Pa∧wd=Str.ofString "parted" ∨C=Ba∧wd=Str.ofString "barred")∧H e=some (uo e C od)∧∀(l:Addr) (H':Hp),H l=none→H' l=some (.lst [.str wd])→Same H H'→Q (.ref l) H'
theorem Fo (T:Txt K mg a):Q7 P w K mg base 1 a.i_ a.rM ["_law_e"] (Py a.bw a.bh):=by
  refine T.uZ.qk6 nR (fun e vs H Q E h=>?_) (fun e cdv A outer s H vs Q hr h=>?_)
  ·obtain⟨C,od,wd,rfl,_⟩:=h;rfl
  · obtain⟨C,od,wd,rfl,hC,he,q⟩:=h;refine⟨_,(aA (bx (i:=1) nR.nd rfl (Or.inl rfl) (cg (aj (aF (vD (K:=K) rfl) rfl T.nm.isinstance boot_isinstance (aj (aH 0) (aj (iU (v:=.ref a.fB) rfl T.Rm rfl) aq))) (aj (aF (vD (K:=K) rfl) rfl T.nm.isinstance boot_isinstance (aj (aH 0) (aj (iU (v:=.ref a.dj) rfl T.Mi rfl) aq))) (aj (aF (vD (K:=K) rfl) rfl T.nm.isinstance boot_isinstance (aj (aH 0) (aj (iU (v:=.ref a.bR) rfl T.Bf rfl) aq))) (aj (aF (vD (K:=K) rfl) rfl T.nm.isinstance boot_isinstance (aj (aH 0) (aj (iU (v:=.ref a.fC) rfl T.Rn rfl) aq))) aq))))))
      (aA (bx (i:=1) nR.nd rfl (Or.inl rfl) (dF m5 (aH 1) (cg (aj (aF (vD (K:=K) rfl) rfl T.nm.isinstance boot_isinstance (aj (aH 0) (aj (iU (v:=.ref a.cB) rfl T.H_ rfl) aq))) (aj (aF (vD (K:=K) rfl) rfl T.nm.isinstance boot_isinstance (aj (aH 0) (aj (iU (v:=.ref a.bK) rfl T.yJ rfl) aq))) (aj (aF (vD (K:=K) rfl) rfl T.nm.isinstance boot_isinstance (aj (aH 0) (aj (iU (v:=.ref a.bw) rfl T.yK rfl) aq))) (aj (aF (vD (K:=K) rfl) rfl T.nm.isinstance boot_isinstance (aj (aH 0) (aj (iU (v:=.ref a.bh) rfl T.yL rfl) aq))) aq)))))))
      (aA (bx (i:=1) nR.nd rfl (Or.inl rfl) (dF m5 (aH 1) (cg (aj (aF (vD (K:=K) rfl) rfl T.nm.isinstance boot_isinstance (aj (aH 0) (aj (iU (v:=.ref a.cC) rfl T.Ia rfl) aq))) (aj (Bu (aF (vD (K:=K) rfl) rfl T.nm.isinstance boot_isinstance (aj (aH 0) (aj (iG (v:=.ty "ValueError") rfl T.ji qau rfl) aq)))) aq)))))
      (aA (bx (i:=2) nR.nd rfl (Or.inl rfl) (cg (aj gM (aj gM (aj gM (aj gM (aj gM (aj gM (aj gM (aj gM (aj gM (aj gM aq))))))))))))
      (aD (aZ (Xx rfl rfl (show aY (ao iy) _ ["_law_e", "_law_found", "_law_words"] ["_law_word", "_law_told_here"] [] ["_law_word", "_law_told_here"] from⟨rfl,by decide+kernel,by decide+kernel,rfl,by decide+kernel,by decide+kernel⟩) rfl (qat (K:=K) rfl rfl T.nm.zip (aj (aH 2) (aj (aH 1) aq))) (fun C s H fp pn=>(qar (K:=K) (n:=2) rfl rfl (fL.eqv (aQ (aM (i:=0) (show(["_law_word", "_law_told_here"]:List Str).Nodup by decide+kernel) rfl (Or.inl rfl)) (fL.eqv (aQ (aM (i:=1) (show(["_law_word", "_law_told_here"]:List Str).Nodup by decide+kernel) rfl (Or.inl rfl)) (fL.mono cF d8)) (aR _ _))) (aR _ _)))) (fun C s H fp pn=>(lH (cG (aH 1)))) (fun C s H fp pn=>(aH 0))))))))),?_⟩
    have GX:JK K C:=by
      rcases hC with⟨rfl,_⟩ | ⟨rfl,_⟩
      ·exact T.jh.ask T.Em T.En
      ·exact T.gK.ask T.Em T.En
    have xcC:XC K C a.aG:=by
      rcases hC with⟨rfl,_⟩ | ⟨rfl,_⟩
      ·exact T.jh
      ·exact T.gK
    have ndB:=(List.nodup_cons.mp T.nd).1;have Ce:=(List.nodup_cons.mp T.nd).2;have Yy:∀{D:Addr},D∈nC a→D≠a.aG:=fun h z=>ndB (z▸h);have kn:∀{D:Addr},XC K D a.aG→D∈nC a→C≠D→O5 K C (.ref D)=some false:=fun x h hne=>by rw[xcC.kit x (Yy h),decide_eq_false hne]
    have qdS:C≠a.fB:=by
      rcases hC with⟨rfl,_⟩ | ⟨rfl,_⟩ <;> exact fun z=>by
        unfold nC at Ce;rw[z] at Ce;simp at Ce
    have qdT:=kn T.Mj (by simp[nC]) qdS;have qaZ:C≠a.dj:=by
      rcases hC with⟨rfl,_⟩ | ⟨rfl,_⟩ <;> exact fun z=>by
        unfold nC at Ce;rw[z] at Ce;simp at Ce
    have qa0:=kn T.Ib (by simp[nC]) qaZ;have Pz:C≠a.bR:=by
      rcases hC with⟨rfl,_⟩ | ⟨rfl,_⟩ <;> exact fun z=>by
        unfold nC at Ce;rw[z] at Ce;simp at Ce
    have PB:=kn T.yO (by simp[nC]) Pz;have qdU:C≠a.fC:=by
      rcases hC with⟨rfl,_⟩ | ⟨rfl,_⟩ <;> exact fun z=>by
        unfold nC at Ce;rw[z] at Ce;simp at Ce
    have qdV:=kn T.Ml (by simp[nC]) qdU;have Yz:C≠a.cB:=by
      rcases hC with⟨rfl,_⟩ | ⟨rfl,_⟩ <;> exact fun z=>by
        unfold nC at Ce;rw[z] at Ce;simp at Ce
    have YB:=kn T.Ek (by simp[nC]) Yz;have Nh:C≠a.bK:=by
      rcases hC with⟨rfl,_⟩ | ⟨rfl,_⟩ <;> exact fun z=>by
        unfold nC at Ce;rw[z] at Ce;simp at Ce
    have Ni:=kn T.vO (by simp[nC]) Nh;have YC:C≠a.cC:=by
      rcases hC with⟨rfl,_⟩ | ⟨rfl,_⟩ <;> exact fun z=>by
        unfold nC at Ce;rw[z] at Ce;simp at Ce
    have YD:=kn T.El (by simp[nC]) YC;have qgo:a.bh≠a.bw:=fun z=>by
      unfold nC at Ce;rw[z] at Ce;simp at Ce
    obtain⟨bP,bB,kP,kB,hbw⟩:∃bP bB:Bool,O5 K C (.ref a.bw)=some bP∧O5 K C (.ref a.bh)=some bB∧((bP=true∧bB=false∧wd=Str.ofString "parted")∨(bP=false∧bB=true∧wd=Str.ofString "barred")):=by
      rcases hC with⟨rfl,rfl⟩ | ⟨rfl,rfl⟩
      ·exact⟨true,false,by rw[xcC.kit T.jh (Yy (by simp[nC]))];simp,by rw[xcC.kit T.gK (Yy (by simp[nC]))];simp[qgo.symm],.inl ⟨rfl,rfl,rfl⟩⟩
      ·exact⟨false,true,by rw[xcC.kit T.jh (Yy (by simp[nC]))];simp[qgo],by rw[xcC.kit T.gK (Yy (by simp[nC]))];simp,.inr ⟨rfl,rfl,rfl⟩⟩
    have kV:=xcC.qk8;have Ke:200≤sizeLine:=by decide
    right;refine⟨C,⟨_,he⟩,GX,_,qdT,C,⟨_,he⟩,GX,_,qa0,C,⟨_,he⟩,GX,_,PB,C,⟨_,he⟩,GX,_,qdV,fun p1 h1=>?_⟩;have s1:Same H (upd H p1 (.lst [.bl false,.bl false,.bl false,.bl false])):=au h1;have e1:upd H p1 (.lst [.bl false,.bl false,.bl false,.bl false]) p1=some (.lst [.bl false,.bl false,.bl false,.bl false]):=ak;generalize upd H p1 (.lst [.bl false,.bl false,.bl false,.bl false])=H1 at s1 e1 ⊢;have Ve:=s1 _ _ he;refine⟨C,⟨_,Ve⟩,GX,_,YB,C,⟨_,Ve⟩,GX,_,Ni,C,⟨_,Ve⟩,GX,_,kP,C,⟨_,Ve⟩,GX,_,kB,fun p2 h2=>?_⟩;have s2:Same H1 (upd H1 p2 (.lst [.bl false,.bl false,.bl bP,.bl bB])):=au h2;have e2:upd H1 p2 (.lst [.bl false,.bl false,.bl bP,.bl bB]) p2=some (.lst [.bl false,.bl false,.bl bP,.bl bB]):=ak;generalize upd H1 p2 (.lst [.bl false,.bl false,.bl bP,.bl bB])=H2 at s2 e2 ⊢;refine⟨_,s2 _ _ e1,_,e2,by simp,fun p3 h3=>?_⟩;have s3:Same H2 (upd H2 p3 (.lst ([.bl false,.bl false,.bl false,.bl false]++[.bl false,.bl false,.bl bP,.bl bB]))):=au h3;have e3:upd H2 p3 (.lst ([.bl false,.bl false,.bl false,.bl false]++[.bl false,.bl false,.bl bP,.bl bB])) p3=some (.lst ([.bl false,.bl false,.bl false,.bl false]++[.bl false,.bl false,.bl bP,.bl bB])):=ak;generalize upd H2 p3 (.lst ([.bl false,.bl false,.bl false,.bl false]++[.bl false,.bl false,.bl bP,.bl bB]))=H3 at s3 e3 ⊢;have S3:=s1.trans (s2.trans s3);have he3:=S3 _ _ he;refine⟨C,⟨_,he3⟩,GX,_,YD,?_⟩;refine⟨C,⟨_,he3⟩,GX,_,kV,fun p4 h4=>?_⟩;have s4:Same H3 (upd H3 p4 (.lst [.bl false,.bl (!true)])):=au h4;have e4:upd H3 p4 (.lst [.bl false,.bl (!true)]) p4=some (.lst [.bl false,.bl (!true)]):=ak;generalize upd H3 p4 (.lst [.bl false,.bl (!true)])=H4 at s4 e4 ⊢;refine⟨_,s4 _ _ e3,_,e4,by simp,fun p5 h5=>?_⟩;obtain⟨bs,hbs⟩:∃bs:List Bool,bs=[false,false,false,false,false,false,bP,bB,false,false]:=⟨_,rfl⟩;have eb : [V.bl false,.bl false,.bl false,.bl false]++[.bl false,.bl false,.bl bP,.bl bB]++[.bl false,.bl (!true)]=bs.map V.bl:=by rw[hbs];rfl
    rw[eb];have s5:Same H4 (upd H4 p5 (.lst (bs.map V.bl))):=au h5;have e5:upd H4 p5 (.lst (bs.map V.bl)) p5=some (.lst (bs.map V.bl)):=ak;generalize upd H4 p5 (.lst (bs.map V.bl))=H5 at e5 s5 ⊢;obtain⟨ws,hws⟩:∃ws:List Str,ws=[("web" : Str), "text", "numbers", "lot", "point", "pointing", "parted", "barred", "much", "none"]:=⟨_,rfl⟩;have ew : [V.str "web",.str "text",.str "numbers",.str "lot",.str "point",.str "pointing",.str "parted",.str "barred",.str "much",.str "none"]=ws.map V.str:=by rw[hws];rfl
    rw[ew];intro p6 h6;have s6:Same H5 (upd H5 p6 (.lst (ws.map V.str))):=au h6;have e6:upd H5 p6 (.lst (ws.map V.str)) p6=some (.lst (ws.map V.str)):=ak;generalize upd H5 p6 (.lst (ws.map V.str))=H6 at e6 s6 ⊢;have sH6:=S3.trans (s4.trans (s5.trans s6));have l10:ws.length=10:=by rw[hws];rfl
    have lb:bs.length=10:=by rw[hbs];rfl
    refine⟨⟨_,aX.of e6⟩,⟨_,aX.of (s6 _ _ e5)⟩,fun D hD=>qk7 (ws.map V.str) (bs.map V.bl) (fun i σ H'=>(∃o1 o2,σ=[o1,o2])∧H' D=some (.lst (((ws.zip bs).take i).filterMap fun c=>if c.2 then some (V.str c.1) else none))∧Same H6 H') ⟨⟨_,_,rfl⟩,ak,au hD⟩ (by simp[l10,lb]) (fun i σ H' _ h=>⟨⟨aX.of (h.2.2 _ _ e6),aX.of (h.2.2 _ _ (s6 _ _ e5))⟩,_,⟨_,h.2.2 _ _ (sH6 _ _ he)⟩⟩) ?_ ?_⟩
    · rintro i x y t σ H7 hx hy ht ⟨⟨o1,o2,rfl⟩,hD7,s7⟩;rw[List.getElem?_map] at hx hy;obtain⟨z,hz,rfl⟩:=Option.map_eq_some_iff.mp hx;obtain⟨b,hb,rfl⟩:=Option.map_eq_some_iff.mp hy;have hi:i<10:=by rw[← l10];exact(List.getElem?_eq_some_iff.mp hz).1
      have hzb:(ws.zip bs)[i]? = some (z,b):=by rw[List.getElem?_zip_eq_some];exact⟨hz,hb⟩
      have s8:Same H7 (upd H7 t (.tup [.str z,.bl b])):=au ht;refine⟨⟨_,_,s8 _ _ (s7 _ _ (sH6 _ _ he))⟩,?_⟩;refine⟨_,d9.of ak,rfl,?_⟩;right;have hfl:(((ws.zip bs).take i).filterMap fun c=>if c.2 then some (V.str c.1) else none).length≤10:=by
        refine Nat.le_trans (List.length_filterMap_le ..) (Nat.le_trans (List.length_take_le ..) (Nat.le_of_lt hi))
      have h60:60<sizeLine:=by decide
      refine dI.of (fun h=>?_) (fun h=>?_)
      ·subst h;right;refine⟨_,s8 _ _ hD7,by omega,?_,bA (s7.trans s8) hD⟩;rw[ak,take_one hzb,List.filterMap_append];rfl
      ·subst h;refine⟨⟨_,_,rfl⟩,?_,s7.trans s8⟩;rw[s8 _ _ hD7,take_one hzb,List.filterMap_append];simp
    · rintro σ H7 ⟨⟨o1,o2,rfl⟩,hD7,s7⟩;right;have e:(((ws.zip bs).take (ws.map V.str).length).filterMap fun c=>if c.2 then some (V.str c.1) else none)=[V.str wd]:=by
        rcases hbw with⟨h1,h2,h3⟩ | ⟨h1,h2,h3⟩
        ·rw[hws,hbs,h1,h2,h3];rfl
        ·rw[hws,hbs,h1,h2,h3];rfl
      rw[e] at hD7;exact q D H7 (bQ sH6 hD) hD7 (sH6.trans s7)
def Rz (C:Addr):Sp:=fun vs H Q _=>∃(o:Addr) (xs:List Str) (ps:List (Str×Str)),vs=[.ref o]∧iu C H o xs ps∧Gq xs∧jF xs ps∧
  ((nG ps xs).length≤1→fO ps xs=[]→∀(rl:Addr) (tr:List V) (row:List (Str×List Nat)) (ms:List Str) (gone:List Nat) (H0 H':Hp),Same H H0→H0 rl=none→H' rl=some (.lst tr)→bN (oH H0 rl) H' tr row→sy ps (xs.take 1) row ms gone→EI ps xs ms []→(∀x∈xs,x∈ms)→gone.Nodup→gone.length=ps.length→tr.length≤20→Same H0 H'→Q (.ref rl) H')∧
  (∀c r,nG ps xs=c::r→r≠[]→∀(t cc cl:Addr) (H':Hp),H cc=none→H' t=some (.tup [.str "parted",.ref cc,.ref cl])→H' cc=some (.lst (c.map V.str))→H' cl=some (.lst [.str "parted"])→Same H H'→Q (.ref t) H')∧
  ((nG ps xs).length≤1→∀k lot rest,fO ps xs=(k,lot)::rest→∀(t c cl:Addr) (H':Hp),H c=none→H' t=some (.tup [.str "barred",.int (k:Nat),.ref c,.ref cl])→H' c=some (.lst (lot.map V.str))→H' cl=some (.lst [.str "barred"])→Same H H'→Q (.ref t) H')
theorem Kl (T:Txt K mg a):dG P w K mg base mF 7 a.rP a.BW ["_law_web_here"] (Rz a.cj):=by
  refine T.Ej.tH Bx (fun vs H Q E h=>?_) (fun cdv A outer s H vs Q E hr h=>?_)
  ·obtain⟨o,xs,ps,rfl,_⟩:=h;rfl
  · obtain⟨o,xs,ps,rfl,hw,hX,hTs,q1,q2,q3⟩:=h;refine⟨_,(aA (bx (i:=1) Bx.nd rfl (Or.inl rfl) (cg aq))
      (aA (qaD (i:=2) rfl rfl rfl Bx.nd rfl rfl (fun R pn xe hx=>(aD (bx (i:=1) Bx.nd rfl (Or.inl rfl) (Xn hx rfl (Ru (K:=K) T) (hr.mono (by decide)) rfl T.Ph T.JZ.kp T.Pg (aj (aH 0) aq))))) rfl T.yK (Clause.of T.qP T.jh) rfl T.yL (Clause.of T.qQ T.gK) (fun e=>(aD (aZ (fM (aj gM (aj (Dt T.jh.get T.gB (aH 2) rfl) (aj (Ly (Fo (K:=K) T) (hr.mono (by decide)) rfl T.zL T.uZ.kp T.zK (aj (aH 2) aq)) aq))))))) (fun e=>(aD (aZ (fM (aj gM (aj (Dt T.gK.get T.gC (aH 2) rfl) (aj (Dt T.gK.get T.gD (aH 2) rfl) (aj (Ly (Fo (K:=K) T) (hr.mono (by decide)) rfl T.zL T.uZ.kp T.zK (aj (aH 2) aq)) aq)))))))))
      (aD (aZ (aH 1))))),?_⟩
    have neB:a.bh≠a.bw:=fun z=>by
      have:=(List.nodup_cons.mp T.nd).2;unfold nC at this;rw[z] at this;simp at this
    have neP:a.bw≠a.aG:=fun z=>(List.nodup_cons.mp T.nd).1 (by rw[← z];simp[nC]);simp -dsimp[aB,stC];intro fl hfl;have s0:Same H (upd H fl (.lst [])):=au hfl;generalize upd H fl (.lst [])=H0 at s0 ⊢;generalize hR:Lz 2 _ a.bw a.bh _ _ _=R;refine⟨o,xs,ps,rfl,hw.same s0,hX,hTs,fun hcl hb rl tr row ms gone H1 hrl erl htr hE M8 yQ gnd Ys Er s1=>?_,fun c r hcr hr0 dx cc H1 hc hdx ec s1=>⟨_,rfl,?_⟩,fun hcl k lot rest hb dx c H1 hc hdx ec s1=>⟨_,rfl,?_⟩⟩
    ·simp -dsimp[aB,stC];exact q1 hcl hb rl tr row ms gone H0 H1 s0 hrl erl htr hE M8 yQ gnd Ys Er s1
    ·subst hR;refine⟨Ds.ofX T.qP T.jh,.inl ⟨by rw[T.jh.mro];simp,fun e he=>?_⟩⟩;have se:Same H1 (upd H1 e (uo e a.bw (some dx))):=au he;have ee:upd H1 e (uo e a.bw (some dx)) e=some (uo e a.bw (some dx)):=ak;have S:=s1.trans se;have Km:=se _ _ hdx;have ec2:=se _ _ ec;generalize upd H1 e (uo e a.bw (some dx))=H2 at se ee S Km ec2 ⊢;simp -dsimp[aB,stC];refine⟨dx,ee,_,Km,.ref cc,rfl,?_⟩;refine⟨a.bw,some dx,_,rfl,.inl ⟨rfl,rfl⟩,ee,fun cl H3 qlw ecl s3=>?_⟩;simp -dsimp[aB,stC];intro p4 Yl;exact q2 c r hcr hr0 p4 cc cl _ (bQ s0 hc) ak (bG (s3 _ _ ec2) Yl) (bG ecl Yl) ((s0.trans S).trans (s3.trans (au Yl)))
    ·subst hR;refine⟨Ds.ofX T.qQ T.gK,.inr ⟨by rw[T.gK.mro];simp[neB.symm,neP],by rw[T.gK.mro];simp,fun e he=>?_⟩⟩;have se:Same H1 (upd H1 e (uo e a.bh (some dx))):=au he;have ee:upd H1 e (uo e a.bh (some dx)) e=some (uo e a.bh (some dx)):=ak;have S:=s1.trans se;have Km:=se _ _ hdx;have ec2:=se _ _ ec;generalize upd H1 e (uo e a.bh (some dx))=H2 at se ee S Km ec2 ⊢;simp -dsimp[aB,stC];refine⟨dx,ee,_,Km,_,rfl,dx,ee,_,Km,.ref c,rfl,?_⟩;refine⟨a.bh,some dx,_,rfl,.inr ⟨rfl,rfl⟩,ee,fun cl H3 qlw ecl s3=>?_⟩;simp -dsimp[aB,stC];intro p4 Yl;exact q3 hcl k lot rest hb p4 c cl _ (bQ s0 hc) ak (bG (s3 _ _ ec2) Yl) (bG ecl Yl) ((s0.trans S).trans (s3.trans (au Yl)))
theorem qdW {X:Cx} {K:W.Frag} (hK:X.K=K):Zy X (qch K):=by subst hK;exact qci
theorem RB {xs:List V} {v:V} {k:Nat} (hk:0<k) (hl:k≤xs.length) (h:xs[xs.length - k]? = some v):xK xs (-(k:Int))=some v:=by
  unfold xK QB;rw[if_neg (by omega),if_pos (by omega)];have e:(-(k:Int)+xs.length).toNat=xs.length - k:=by omega
  show xs[(-(k:Int)+xs.length).toNat]? = _;rw[e];exact h
def zQ (K:W.Frag):Sp:=fun vs H Q _=>∃(t d c cl:Addr) (wd:Str) (us dv:List V) (cs:List Str) (ds es:List PyData),vs=[.ref t,.ref d]∧H t=some (.tup (.str wd::us++[.ref c,.ref cl]))∧H c=some (.lst (cs.map V.str))∧H cl=some (.lst [.str wd])∧us.length≤1∧PyData.strOk wd=true∧(∀H',Same H H'→mR K H' ds (.str wd::us++[.ref c]))∧H d=some (.lst dv)∧(∀H',Same H H'→mR K H' es dv)∧PyData.tuple ds∈es∧PyData.canLayAll0 es=true∧(PyData.tuple ds).canLay0=true∧(PyData.tuple ds).depth≤32∧PyData.eqv (.tuple ds) (.tuple ds)=true∧
  ∀H',Same H H'→Q (.bl true) H'
theorem qR (T:Txt K mg a):dG P w K mg base mF 1 a.cL a.jd ["_law_told_here", "_law_due"] (zQ K):=by
  refine T.jB.tH zJ (fun vs H Q E h=>?_) (fun cdv A outer s H vs Q E hr h=>?_)
  ·obtain⟨t,d,c,cl,wd,us,dv,cs,ds,es,rfl,_⟩:=h;rfl
  · obtain⟨t,d,c,cl,wd,us,dv,cs,ds,es,rfl,ht,hc,hcl,hul,hwo,hds,hd,hes,hmem,hlay,hlt,hdp,heq,q⟩:=h;refine⟨_,(aA (cO (PW.pt (jj (d7 (cG (aF (nQ (K:=K) rfl) rfl T.nm.isinstance boot_isinstance (aj (aH 0) (aj (iG (v:=.ty "tuple") rfl T.nm.tuple boot_tuple rfl) aq))))) (jj (aW (Ox (K:=K) rfl hr.units) (bW (bZ (K:=K) rfl) (aH 0) (tW jT aL) (fun _ _=>rfl)) (cg (aj (bW (bZ (K:=K) rfl) (aH 0) aL (fun _ _=>rfl)) aq)) (bO _)) (iC (aW (Wu (K:=K) rfl hr.units) (jo (qdW (K:=K) rfl) (aH 0) lF (PO.eqv (lG (tW jT aL)) (jt _))) (aH 1) rfl))))) (aD (aZ gF)) bH)
      (aD (aZ (aF (nQ (K:=K) rfl) rfl T.nm.isinstance boot_isinstance (aj (bW (bZ (K:=K) rfl) (aH 0) (tW jT aL) (fun _ _=>rfl)) (aj (iG (v:=.ty "list") rfl T.nm.list boot_list rfl) aq)))))),?_⟩
    have hll:(V.str wd::us++[V.ref c,V.ref cl]).length=us.length+3:=by simp
    have g1:xK (V.str wd::us++[V.ref c,V.ref cl]) (-1)=some (.ref cl):=Cu (by rw[show V.str wd::us++[V.ref c,V.ref cl]=(V.str wd::us++[V.ref c])++[V.ref cl] by simp];exact List.getLast?_concat ..);have g2:xK (V.str wd::us++[V.ref c,V.ref cl]) (-2)=some (.ref c):=RB (k:=2) (by decide) (by rw[hll];omega) (by rw[hll,show us.length+3 - 2=us.length+1 by omega];simp);have g0:xK (V.str wd::us++[V.ref c,V.ref cl]) 0=some (.str wd):=bD (j:=0) rfl;have ct:tY (V.str wd::us++[V.ref c,V.ref cl]) none (some (-1))=V.str wd::us++[V.ref c]:=by
      rw[ou];have:V.str wd::us++[V.ref c,V.ref cl]=(V.str wd::us++[V.ref c])++[V.ref cl]:=by simp
      rw[this,List.dropLast_concat]
    right;refine⟨_,.tup ht,_,sZ K,dI.neg rfl ?_⟩;right;refine⟨_,.inr (d9.of ht),_,g1,_,.inr (d9.of ht),_,g0,fun p1 hp1=>?_⟩;have s1:Same H (upd H p1 (.lst [.str wd])):=au hp1;have e1:upd H p1 (.lst [.str wd]) p1=some (.lst [.str wd]):=ak;generalize upd H p1 (.lst [.str wd])=H1 at s1 e1 ⊢;refine⟨.list (jr [wd]),⟨cl,_,rfl,aX.of (s1 _ _ hcl),qX [wd]⟩,.list (jr [wd]),⟨p1,_,rfl,aX.of e1,qX [wd]⟩,?_,?_,?_,false,?_,dI.neg rfl ?_⟩
    ·have:=qH [wd] (by simpa using hwo);simp[PyData.canLay0,this]
    ·have:=qH [wd] (by simpa using hwo);simp[PyData.canLay0,this]
    ·have:=uf [wd];simp[PyData.depth];omega
    ·simp[PyData.eqv,yc]
    right;refine⟨_,d9.of (s1 _ _ ht),fun _ h=>?_,fun p2 hp2=>?_⟩
    · have h1:HT.jJ (V.str wd::us++[V.ref c,V.ref cl]).length (V.str wd::us++[V.ref c,V.ref cl]).length (some (-1))=(V.str wd::us++[V.ref c,V.ref cl]).length - 1:=by
        simp[HT.jJ];omega
      rw[h1,hll] at h;omega
    rw[ct];have s2:Same H1 (upd H1 p2 (.tup (V.str wd::us++[V.ref c]))):=au hp2;have e2:upd H1 p2 (.tup (V.str wd::us++[V.ref c])) p2=some (.tup (V.str wd::us++[V.ref c])):=ak;generalize upd H1 p2 (.tup (V.str wd::us++[V.ref c]))=H2 at s2 e2 ⊢;have S2:=s1.trans s2;refine⟨.tuple ds,⟨p2,_,rfl,d9.of e2,?_⟩,es,⟨d,_,rfl,aX.of (S2 _ _ hd),?_⟩,hlt,hlay,hdp,?_⟩
    ·exact hds _ S2
    ·exact hes _ S2
    rw[show(es.any fun y=>y.eqv (.tuple ds))=true from List.any_eq_true.mpr ⟨_,hmem,heq⟩];refine dI.neg rfl ?_;right;refine⟨_,.inr (d9.of (S2 _ _ ht)),_,g2,_,.lst (S2 _ _ hc),_,pP K,?_⟩;exact q _ S2
theorem Nj {S:List kE} {xs:List Str}:∀(ys:List Str) (acc:List (List Str)),∃r,ys.foldl (gH S xs) acc=acc++r
  | [],acc=>⟨[],by simp⟩
  | y::ys,acc=>by
    obtain⟨r,hr⟩:=Nj (S:=S) (xs:=xs) ys (gH S xs acc y);rw[List.foldl_cons,hr];unfold gH;split
    ·exact⟨r,rfl⟩
    ·exact⟨[oF S xs y]++r,by simp⟩
theorem Ui {ps:List (Str×Str)} {xs:List Str} {x0:Str} (h:xs[0]? = some x0):∃r,nG ps xs=oF (aN (fun _=>none) ps 0) xs x0::r:=by
  cases xs with
  | nil=>simp at h
  | cons x ys=>
    simp at h;subst h;unfold nG Bl;rw[List.foldl_cons];have e:gH (aN (fun _=>none) ps 0) (x::ys) [] x=[oF (aN (fun _=>none) ps 0) (x::ys) x]:=by simp[gH]
    rw[e];obtain⟨r,hr⟩:=Nj (S:=aN (fun _=>none) ps 0) (xs:=x::ys) ys [oF (aN (fun _=>none) ps 0) (x::ys) x];exact⟨r,hr⟩
theorem Il {S:List kE} {xs c:List Str}:∀(ys:List Str),(∀y∈ys,y∈c)→ys.foldl (gH S xs) [c]=[c]
  | [],_=>rfl
  | y::ys,h=>by
    rw[List.foldl_cons];have e:gH S xs [c] y=[c]:=by
      unfold gH;rw[if_pos (by simp;exact h y List.mem_cons_self)]
    rw[e];exact Il ys fun z hz=>h z (List.mem_cons_of_mem _ hz)
theorem wI {ps:List (Str×Str)} {xs:List Str} {x0:Str} (h:xs[0]? = some x0):(nG ps xs).length≤1↔¬(oF (aN (fun _=>none) ps 0) xs x0).length<xs.length:=by
  have hx0:=List.mem_of_getElem? h;constructor
  · intro hl hlt;have con:=Yn hl;have:oF (aN (fun _=>none) ps 0) xs x0=xs:=by
      unfold oF;refine List.filter_eq_self.mpr fun y hy=>?_;simp;exact con x0 hx0 y hy
    rw[this] at hlt;omega
  · intro hn;have hall:∀y∈xs,y∈oF (aN (fun _=>none) ps 0) xs x0:=fun y hy=>by
      have hle:(oF (aN (fun _=>none) ps 0) xs x0).length≤xs.length:=QT;have heq:oF (aN (fun _=>none) ps 0) xs x0=xs:=by
        unfold oF at hn hle ⊢;exact List.filter_eq_self.mpr (List.length_filter_eq_length_iff.mp (by omega))
      rw[heq];exact hy
    cases xs with
    | nil=>simp at h
    | cons x ys=>
      simp at h;subst h;unfold nG Bl;rw[List.foldl_cons];have e:gH (aN (fun _=>none) ps 0) (x::ys) [] x=[oF (aN (fun _=>none) ps 0) (x::ys) x]:=by simp[gH]
      rw[e,Il ys fun y hy=>hall y (List.mem_cons_of_mem _ hy)];simp
end TJ
namespace L2
open PySem PySem.Spec PyProof.Rows
section
variable {prog:Program} {w:World} {A:Around} {R:Result→Shared→Prop} {I ax S:Addr}
theorem Fp (hh:A.in1.handled=none) (hne:ax≠I) (hSI:S≠I) (hSa:S≠ax) {h0:Heap} (bs:List Addr) (cs:List (List Value)) (z:List Value) (hl:bs.length=cs.length)
    (hb:∀(i:Nat) b c,bs[i]? = some b→cs[i]? = some c→(∃n,IsL h0 b c.toArray n)∧b≠I∧b≠S)
    (hz:z.length+cs.flatten.length≤sizeLine) (z0:Addr) :
    ∀(k i:Nat) (s:Shared) (p:Addr) (c m:Nat),bs.length - i=k→i≤bs.length→s.heap.IsListIter I ax i→s.heap.IsList ax (bs.map Value.ref).toArray→
    s.heap.get? S=some {cls:=.type "list",dict:=none,data:=.seq #[.ref p] c,slots:=#[]}→IsL s.heap p (z++(cs.take i).flatten).toArray m→p≠I→p≠S→(p=z0∨h0.objs.size≤p)→h0.objs.size≤s.heap.objs.size→
    (∀b o,b≠I→b≠S→h0.get? b=some o→s.heap.get? b=some o)→
    (∀(h':Heap) (tk:Nat) (p':Addr) (m':Nat),(∀b o,b≠I→b≠S→h0.get? b=some o→h'.get? b=some o)→IsL h' p' (z++cs.flatten).toArray m'→p'≠I→p'≠S→(p'=z0∨h0.objs.size≤p')→R (.ok (.ret (.ref p'))) {s with heap:=h',toks:=tk})→
    codeAny (model prog w) A (.builtin "sum.loop" ⟨[.ref I,.ref S,rawInt 2,rawInt 0],[]⟩) R s:=by
  intro k
  induction k with
  | zero=>
    intro i s p c m hk hi hit hax hS hp hpI hpS hp0 hsz keep hR;have hin:i=bs.length:=by omega
    subst hin;rw[hl,List.take_length] at hp;refine codeAny_builtin F.entry_sum_loop ?_;rw[Around.under_plainId F.plain_sum_loop _];show wpAny _ A.in1 (seqItems? (.ref S) >>= _) _ _ s;refine wpAny_bind (wpAny_seqItems hS rfl ?_);show wpAny _ A.in1 (tryCatch (pyNext (.ref I)) _ >>= _) _ _ s;refine wpAny_bind (wpAny_tryCatch (wpAny_pyNext_list_end hh hit hax (by simp) fun h' he'=>?_));exact wpAny_pure (hR h' s.toks p m (fun b o h1 h2 e=>he' b o h1 (keep b o h1 h2 e)) (he' p _ hpI hp) hpI hpS hp0)
  | succ k ih=>
    intro i s p c m hk hi hit hax hS hp hpI hpS hp0 hsz keep hR;have hlt:i<bs.length:=by omega
    have hlt2:i<cs.length:=by omega
    obtain⟨⟨n,hbi⟩,bI,bS⟩:=hb i bs[i] cs[i] (List.getElem?_eq_getElem hlt) (List.getElem?_eq_getElem hlt2);have htk:(cs.take (i+1)).flatten=(cs.take i).flatten++cs[i]:=by rw[← List.take_append_getElem hlt2,List.flatten_append];simp
    have hle:z.length+(cs.take (i+1)).flatten.length≤sizeLine:=by
      have h1:cs.flatten=(cs.take (i+1)).flatten++(cs.drop (i+1)).flatten:=by rw[← List.flatten_append,List.take_append_drop]
      rw[h1,List.length_append] at hz;omega
    refine codeAny_builtin F.entry_sum_loop ?_;rw[Around.under_plainId F.plain_sum_loop _];show wpAny _ A.in1 (seqItems? (.ref S) >>= _) _ _ s;refine wpAny_bind (wpAny_seqItems hS rfl ?_);show wpAny _ A.in1 (tryCatch (pyNext (.ref I)) _ >>= _) _ _ s;refine wpAny_bind (wpAny_tryCatch (wpAny_pyNext_list_item hit hax (x:=.ref bs[i]) (by simp[hlt]) fun h' hit' hs'=>?_));have e0:=hs'.extBut;have hS':=e0 S _ hSI hS;have hp':IsL h' p _ m:=e0 p _ hpI hp;have hb':IsL h' bs[i] cs[i].toArray n:=e0 _ _ bI (keep _ _ bI bS hbi);have hax':h'.IsList ax (bs.map Value.ref).toArray:=hax.extBut e0 hne;show wpAny _ A.in1 ((holding [Value.ref bs[i]] (binaryOp .Add (.ref p) (.ref bs[i]))).attempt >>= _) _ _ _;refine wpAny_bind (wpAny_attempt (wpAny_holding (PySem.P.add_list hp' hb' ?_ (by rw[htk,List.length_append] at hle;simp at hle ⊢;omega))));have qlx:(z++(cs.take i).flatten).toArray++cs[i].toArray=(z++(cs.take (i+1)).flatten).toArray:=by rw[htk];simp
    rw[qlx];show wpAny _ A.in1 (updateSeq S (fun _=>#[.ref h'.objs.size]) >>= _) _ _ _;have hS1:=Heap.get?_push_of_some {cls:=.type "list",data:=.seq (z++(cs.take (i+1)).flatten).toArray} hS';refine wpAny_bind (wpAny_updateSeq hS1 rfl ?_);have hS2:=Heap.get?_update_self (Obj.mapSeq fun _=>#[Value.ref h'.objs.size]) hS1 rfl;refine wpAny_bind (wpAny_letGo ?_);have hlS:S<h'.objs.size:=Heap.lt_size hS';have hlI:I<h'.objs.size:=by obtain⟨o,e,_⟩:=hit';exact Heap.lt_size e
    have pS:h'.objs.size≠S:=(Nat.ne_of_lt hlS).symm;have pI:h'.objs.size≠I:=(Nat.ne_of_lt hlI).symm;have hh0:h0.objs.size≤h'.objs.size:=by rw[hs'.1];exact hsz
    have up:∀{b:Addr} {o:Obj},b≠S→h'.get? b=some o→(((h'.push {cls:=.type "list",data:=.seq (z++(cs.take (i+1)).flatten).toArray}).update S (Obj.mapSeq fun _=>#[Value.ref h'.objs.size])).update S (Obj.mapSeq fun _=>#[Value.ref h'.objs.size])).get? b=some o:=fun {b o} hb e=>(Heap.get?_update_other _ _ (Ne.symm hb)).trans ((Heap.get?_update_other _ _ (Ne.symm hb)).trans (Heap.get?_push_of_some _ e));have qly:IsL (((h'.push {cls:=.type "list",data:=.seq (z++(cs.take (i+1)).flatten).toArray}).update S (Obj.mapSeq fun _=>#[Value.ref h'.objs.size])).update S (Obj.mapSeq fun _=>#[Value.ref h'.objs.size])) h'.objs.size (z++(cs.take (i+1)).flatten).toArray 0:=((IsL.new h' _).update_other pS.symm _).update_other pS.symm _;have hS3:=Heap.get?_update_self (Obj.mapSeq fun _=>#[Value.ref h'.objs.size]) hS2 rfl;refine wpAny_bind (wpAny_updateSeq hS2 rfl (wpAny_pure ⟨plainId_quiet F.plain_sum_loop _,?_⟩));refine ih (i+1) _ h'.objs.size _ 0 (by omega) (by omega) (hit'.at fun o e=>up (Ne.symm hSI) e) (hax'.at fun o e=>up (Ne.symm hSa) e) hS3 qly pI pS (.inr hh0) ?_ (fun b o h1 h2 e=>up h2 (e0 b o h1 (keep b o h1 h2 e))) (fun h'' tk'' p'' m'' k1 k2 k3 k4 k5=>hR h'' tk'' p'' m'' k1 k2 k3 k4 k5);show h0.objs.size≤(((h'.push _).update S _).update S _).objs.size;rw[Heap.size_after_update,Heap.size_after_update,Heap.size_push];exact Nat.le_succ_of_le hh0
end
theorem Uj (a b:Value):argsOk "sum" ⟨[a,b],[]⟩:=by unfold argsOk;kernel_rfl
section
variable {prog:Program} {w:World} {A:Around} {E:Value→Shared→Prop} {s:Shared}
theorem Uk {l z0:Addr} (bs:List Addr) (cs:List (List Value)) (z:List Value) {n:Nat} {Q:Value→Shared→Prop} (hh:A.handled=none) (hL:s.heap.IsList l (bs.map Value.ref).toArray) (hz0:IsL s.heap z0 z.toArray n) (hl:bs.length=cs.length)
    (hb:∀(i:Nat) b c,bs[i]? = some b→cs[i]? = some c→∃n,IsL s.heap b c.toArray n) (hz:z.length+cs.flatten.length≤sizeLine)
    (h:∀(h':Heap) (tk:Nat) (p':Addr) (m':Nat),(∀b o,s.heap.get? b=some o→h'.get? b=some o)→IsL h' p' (z++cs.flatten).toArray m'→(p'=z0∨s.heap.objs.size≤p')→Q (.ref p') {s with heap:=h',toks:=tk}) :
    wpAny (model prog w) A (call (.builtin "sum") [.ref l,.ref z0]) Q E s:=by
  refine call_function_tree F.kind_sum F.plain_sum F.entry_sum (Uj _ _) ?_;unfold Builtin.«sum»;simp only[List.length_cons,List.length_nil];rw[if_neg (by decide)];refine wpAny_bind (wpAny_of_eq (show Builtin.Builtins.bindParams "sum" ["start"] 0 ⟨[.ref z0],[]⟩=pure [some (.ref z0)] from rfl) ?_);have hlt:l<s.heap.objs.size:=by obtain⟨_,e,_⟩:=hL;exact Heap.lt_size e
  have hlz:z0<s.heap.objs.size:=Heap.lt_size hz0;refine wpAny_bind (wpAny_pyIter_list hL ?_);refine wpAny_bind (wpAny_pure ?_);have hz1:=Heap.get?_push_of_some {cls:=.type "list_iterator",data:=.fields #[.ref l,.int 0 0]} hz0;simp only[List.forIn_cons,List.forIn_nil];refine wpAny_bind (wpAny_bind (wpAny_bind (wpAny_isInstance (T:= "list") (b:=false) ⟨_,hz1,rfl⟩ F.sub_list_str ?_)));simp only[Bool.false_eq_true,if_false];refine wpAny_pure (wpAny_bind (wpAny_bind (wpAny_isInstance (T:= "list") (b:=false) ⟨_,hz1,rfl⟩ F.sub_list_bytes ?_)));simp only[Bool.false_eq_true,if_false];refine wpAny_pure (wpAny_bind (wpAny_bind (wpAny_isInstance (T:= "list") (b:=false) ⟨_,hz1,rfl⟩ F.sub_list_bytearray ?_)));simp only[Bool.false_eq_true,if_false];refine wpAny_pure (wpAny_pure ?_);refine wpAny_bind (wpAny_newObj_type ?_);have sz:(s.heap.push {cls:=.type "list_iterator",data:=.fields #[.ref l,.int 0 0]}).objs.size=s.heap.objs.size+1:=Heap.size_push ..;have up:∀{b:Addr} {o:Obj} (o2:Obj),s.heap.get? b=some o→((s.heap.push {cls:=.type "list_iterator",data:=.fields #[.ref l,.int 0 0]}).push o2).get? b=some o:=fun o2 e=>Heap.get?_push_of_some _ (Heap.get?_push_of_some _ e);have nI:∀{b:Addr} {o:Obj},s.heap.get? b=some o→b≠s.heap.objs.size∧b≠(s.heap.push {cls:=.type "list_iterator",data:=.fields #[.ref l,.int 0 0]}).objs.size:=fun {b o} e=>by
    have:=Heap.lt_size e;refine⟨Nat.ne_of_lt this,?_⟩;rw[sz];exact Nat.ne_of_lt (Nat.lt_succ_of_lt this)
  refine wpAny_pure ⟨plainId_quiet F.plain_sum_loop _,?_⟩;refine Fp (h0:=s.heap) (A:=A) hh (Nat.ne_of_lt hlt) (S:=(s.heap.push {cls:=.type "list_iterator",data:=.fields #[.ref l,.int 0 0]}).objs.size) (I:=s.heap.objs.size) (ax:=l) (by rw[sz];exact Nat.succ_ne_self _) (by rw[sz];exact(Nat.ne_of_lt (Nat.lt_succ_of_lt hlt)).symm) bs cs z hl (fun i b c h1 h2=>?_) hz z0 _ 0 _ z0 0 n rfl (Nat.zero_le _) ?_ ?_ (Heap.get?_push_size _ rfl) (by simpa using up _ hz0) (nI hz0).1 (nI hz0).2 (.inl rfl) ?_ (fun b o _ _ e=>up _ e) fun h' tk p' m' k1 k2 k3 k4 k5=>h h' tk p' m' (fun b o e=>k1 b o (nI e).1 (nI e).2 e) k2 k5
  ·obtain⟨n,hn⟩:=hb i b c h1 h2;exact⟨⟨n,hn⟩,nI hn⟩
  ·exact⟨_,Heap.get?_push_of_some _ (Heap.get?_push_size _ rfl),rfl,rfl⟩
  ·exact hL.at fun o e=>up _ e
  ·show s.heap.objs.size≤((s.heap.push _).push _).objs.size;rw[Heap.size_push,Heap.size_push];exact Nat.le_add_right _ 2
end
theorem Nk:∀{bs:List Addr} {us:List Value},Vals (bs.map V.ref) us→us=bs.map Value.ref
  | [],us,h=>h.zero
  | b::bs,us,h=>by
    cases h with
    | cons r h=>
      obtain rfl:=r;rw[Nk h];rfl
theorem Im {X:Cx} {p_:List (Addr×Obj)} {σ:St} {H:Hp} {s:Shared} (I:Inv X p_ σ H s):∀(bs:List Addr) (cs:List (List V)),bs.length=cs.length→(∀(i:Nat) b c,bs[i]? = some b→cs[i]? = some c→H b=some (.lst c))→
    ∃ds:List (List Value),bs.length=ds.length∧Vals cs.flatten ds.flatten∧∀(i:Nat) b d,bs[i]? = some b→ds[i]? = some d→∃n,IsL s.heap b d.toArray n
  | [],[],_,_=>⟨[],rfl,.nil,fun i b d h=>by simp at h⟩
  | [],c::cs,h,_=>by simp at h
  | b::bs,[],h,_=>by simp at h
  | b::bs,c::cs,hl,h=>by
    obtain⟨ds,h1,h2,h3⟩:=Im I bs cs (by simpa using hl) fun i b' c' e1 e2=>h (i+1) b' c' (by simpa using e1) (by simpa using e2);obtain⟨z,its,n,r,_,e⟩:=I.Jd (h 0 b c rfl rfl);refine⟨its::ds,by simpa using h1,by rw[List.flatten_cons,List.flatten_cons];exact r.append h2,fun i b' d e1 e2=>?_⟩;cases i with
    | zero=>
      simp at e1 e2;subst e1 e2;exact⟨n,e⟩
    | succ i=>exact h3 i b' d (by simpa using e1) (by simpa using e2)
section
variable {X:Cx} {K:W.Frag}
def YF (K:W.Frag):List V→Hp→VK→Prop:=fun xs H Q=>ar2 xs fun u v=>isRef u fun l=>isRef v fun z=>∃(bs:List Addr) (cs:List (List V)) (zs:List V),aX K H l (bs.map V.ref)∧H z=some (.lst zs)∧bs.length=cs.length∧(∀(i:Nat) b c,bs[i]? = some b→cs[i]? = some c→H b=some (.lst c))∧zs.length+cs.flatten.length≤sizeLine∧
  ∀p H',H' p=some (.lst (zs++cs.flatten))→Same H H'→Q (.ref p) H'
@[simp ↓] theorem qgp K xs H Q:YF K xs H Q=(ar2 xs fun u v=>isRef u fun l=>isRef v fun z=>∃(bs:List Addr) (cs:List (List V)) (zs:List V),aX K H l (bs.map V.ref)∧H z=some (.lst zs)∧bs.length=cs.length∧(∀(i:Nat) b c,bs[i]? = some b→cs[i]? = some c→H b=some (.lst c))∧zs.length+cs.flatten.length≤sizeLine∧
  ∀p H',H' p=some (.lst (zs++cs.flatten))→Same H H'→Q (.ref p) H'):=rfl
theorem Np (hK:X.K=K) (hc:X.calm=true):cP X (.builtin "sum") (YF K):=by
  subst hK;intro p_ s σ H xs us Q I r h;obtain⟨u,v,rfl,h⟩:=ar2.out h;obtain⟨l,rfl,h⟩:=isRef.out h;obtain⟨z,rfl,bs,cs,zs,hl,hz,hlen,hb,hsz,q⟩:=isRef.out h;obtain⟨u1,u2,rfl,r1,r2⟩:=r.two;obtain rfl:u1=Value.ref l:=r1;obtain rfl:u2=Value.ref z:=r2;obtain⟨its,rv,pl,hz1⟩:=I.list hl;obtain rfl:=Nk rv;obtain⟨_,zi,n,rz,lz,ez⟩:=I.Jd hz;obtain⟨ds,d1,d2,d3⟩:=Im I bs cs hlen hb;have dl:=d2.length;refine Uk bs ds zi (I.ok.hd hc) pl.isList ez d1 d3 (by omega) fun h' tk p' m' kk hp ho=>?_;have I1:Inv X p_ σ H {s with heap:=h',toks:=tk}:=I.kept kk
  rcases ho with rfl | ho
  · have e2:=kk _ _ ez;have e3:zi=zi++ds.flatten:=by
      have:=hp.symm.trans e2;simp at this;have h5:=this.1;rw[List.flatten_eq_nil_iff.mpr h5,List.append_nil]
    have ec:cs.flatten=[]:=by
      have:ds.flatten=[]:=by simpa using e3
      rw[this] at d2;exact(Vals.Zz d2).mp rfl
    exact⟨.ref p',H,I1,rfl,q p' H (by rw[ec,List.append_nil];exact hz) (Same.refl H)⟩
  ·have un:H p'=none:=I.hok.fresh ho;have fpk:mW X p_ H p':=I.Bh ho un;exact⟨.ref p',upd H p' (.lst (zs++cs.flatten)),I1.qdk (Nat.le_trans I.sz ho) fpk ⟨by rw[List.length_append];omega,zi++ds.flatten,m',rz.append d2,hp⟩,rfl,q p' _ ak (au un)⟩
end
section
variable {X:Cx}
def qgq:R2:=fun x y H Q=>match x,y with
  | .bl i,.bl j=>Q (.bl (decide (i=j))) H
  | _,_=>False
def qbJ:R2:=fun x y H Q=>match x,y with
  | .bl i,.bl j=>Q (.bl (!decide (i=j))) H
  | _,_=>False
@[simp ↓] theorem qlz i j H Q:qgq (.bl i) (.bl j) H Q=Q (.bl (decide (i=j))) H:=rfl
@[simp ↓] theorem qjW i j H Q:qbJ (.bl i) (.bl j) H Q=Q (.bl (!decide (i=j))) H:=rfl
theorem qdX:jk X (compareOp .Is) qgq:=by
  intro p_ s σ H x y v u Q I rx ry h
  match x,y,h with
  | .bl i,.bl j,q=>
    cases rx;cases ry;cases i <;> cases j <;> exact wpAny_pure (cD I q rfl)
theorem Ko:jk X (compareOp .IsNot) qbJ:=by
  intro p_ s σ H x y v u Q I rx ry h
  match x,y,h with
  | .bl i,.bl j,q=>
    cases rx;cases ry;cases i <;> cases j <;> exact wpAny_pure (cD I q rfl)
end
end L2
namespace TJ
open PySem L2
variable {P:Program} {w:World} {K:W.Frag} {mg:Str→Option Value} {base:Heap} {a:Adr}
theorem sy.many {ps:List (Str×Str)} {Ca ms:List Str} {row:List (Str×List Nat)} {gone:List Nat} (h:sy ps Ca row ms gone):ms.length+row.length=Ca.length+gone.length:=by
  induction h with
  | nil=>simp
  | @snoc row ms gone e hs he ih=>
    have h1:=he.ln;have h2:0<e.2.length:=List.length_pos_iff.mpr he.ne;simp only[List.length_append,List.length_dropLast,List.length_cons,List.length_nil];omega
theorem YG (row:List (Str×List Nat)):zP row=(row.map (·.2)).flatten:=by
  have h:∀(row:List (Str×List Nat)) (g:List Nat),row.foldl (fun g e=>g++e.2) g=g++(row.map (·.2)).flatten:=fun row=>by
    induction row with
    | nil=>simp
    | cons e row ih=>intro g;simp[ih]
  unfold zP;rw[h];simp
theorem PJ (row:List (Str×List Nat)):(row.map fun e=>aU e.2).flatten=aU (row.map (·.2)).flatten:=by
  induction row with
  | nil=>rfl
  | cons e row ih=>
    simp only[List.map_cons,List.flatten_cons,ih];simp[aU]
theorem oH.refs {H0 H:Hp} {rl:Addr}:∀{tr:List V} {row:List (Str×List Nat)},bN (oH H0 rl) H tr row→∃rs:List Addr,rs.length=row.length∧∀(i:Nat) v e r,tr[i]? = some v→row[i]? = some e→rs[i]? = some r→∃t,v = .ref t∧H t=some (.tup [.str e.1,.ref r])∧H r=some (.lst (aU e.2))∧H0 r=none∧r≠rl
  | [],[],_=>⟨[],rfl,fun i v e r h=>by simp at h⟩
  | [],e::row,h=>by have:=h.1;simp at this
  | v::tr,[],h=>by have:=h.1;simp at this
  | v::tr,e::row,h=>by
    obtain⟨t,r,h1,h2⟩:=h.2 0 v e rfl rfl;obtain⟨rs,hl,hr⟩:=oH.refs (tr:=tr) (row:=row) ⟨by simpa using h.1,fun i v e h1 h2=>h.2 (i+1) v e (by simpa using h1) (by simpa using h2)⟩;refine⟨r::rs,by simp[hl],fun i v' e' r' a b c=>?_⟩;cases i with
    | zero=>
      simp at a b c;subst a b c;exact⟨t,h1,h2⟩
    | succ i=>exact hr i v' e' r' (by simpa using a) (by simpa using b) (by simpa using c)
theorem oH.t {H0 H H':Hp} {rl:Addr} {tr:List V} {row:List (Str×List Nat)} (h:bN (oH H0 rl) H tr row) (s:Same H H'):bN qgk H' tr row:=
  ⟨h.1,fun i v e h1 h2=>by
    obtain⟨t,r,h1,h2,h3,_⟩:=h.2 i v e h1 h2;exact⟨t,r,h1,s _ _ h2,s _ _ h3⟩⟩
theorem oH.s {H0 H H':Hp} {rl:Addr} {tr:List V} {row:List (Str×List Nat)} (h:bN (oH H0 rl) H tr row) (s:Same H H'):bN qgi H' tr row:=
  ⟨h.1,fun i v e h1 h2=>by
    obtain⟨t,r,h1,h2,h3,_⟩:=h.2 i v e h1 h2;exact⟨t,r,h1,.inr (s _ _ h2),.inl (s _ _ h3)⟩⟩
def qlA (C:Addr) (H:Hp) (v:V) (e:Str×List Nat):Prop:=∃t r,v = .ref t∧t≠C∧H t=some (.lst [.str e.1,.ref r])∧H r=some (.tup (aU e.2))
def Kp (C:Addr):Sp:=fun vs H Q _=>∃(o n l rl:Addr) (xs:List Str) (tv tr:List V) (ps:List (Str×Str)) (row:List (Str×List Nat)) (ms:List Str) (gone:List Nat) (H0:Hp),vs=[.ref o,.ref n,.ref l,.ref rl]∧iu C H0 o xs ps∧Gq xs∧jF xs ps∧H0 n=some (.lst (xs.map V.str))∧H0 l=some (.lst tv)∧bL H0 tv ps∧(nG ps xs).length≤1∧fO ps xs=[]∧
  H0 rl=none∧H rl=some (.lst tr)∧bN (oH H0 rl) H tr row∧sy ps (xs.take 1) row ms gone∧EI ps xs ms []∧(∀x∈xs,x∈ms)∧gone.Nodup∧gone.length=ps.length∧tr.length≤20∧Same H0 H∧∀H',Same H0 H'→Q (.bl true) H'
theorem Kq (T:Txt K mg a):dG P w K mg base mF 8 a.fW a.nA ["_law_web_here", "_law_names_here", "_law_ties", "_law_told_here"] (Kp a.cj):=by
  refine T.uy.tH m_ (fun vs H Q E h=>?_) (fun cdv A outer s H vs Q E hr h=>?_)
  ·obtain⟨o,n,l,rl,xs,tv,tr,ps,row,ms,gone,H0,rfl,_⟩:=h;rfl
  · obtain⟨o,n,l,rl,xs,tv,tr,ps,row,ms,gone,H0,rfl,hw,hX,hTs,hn,hl,htv,hcl,hbs,qaK,hrl,htr,hE,M8,yQ,gnd,Ys,Er,S0,q⟩:=h;refine⟨_,(aA (cO (PW.pt (jj (d7 (cG (aF (nQ (K:=K) rfl) rfl T.nm.isinstance boot_isinstance (aj (aH 3) (aj (iG (v:=.ty "list") rfl T.nm.list boot_list rfl) aq))))) (iC (d7 (cG (aF (jM rfl) rfl T.nm.all jL (aj (eO rfl rfl (show aY (ao cH) _ ["_law_web_here", "_law_names_here", "_law_ties", "_law_told_here", "_law_other", "_law_start", "_law_numbers"] ["_law_ear"] [] ["_law_ear"] from⟨rfl,by decide+kernel,by decide+kernel,rfl,by decide+kernel,by decide+kernel⟩) rfl (PI.eqv (cu (K:=K) rfl (aH 3)) (bU _ _)) (fun C s H fp pn=>(aM (i:=0) (show(["_law_ear"]:List Str).Nodup by decide+kernel) rfl (Or.inl rfl))) (fun C s H fp pn=>fP) (fun C s H fp pn=>(jU (aF (nQ (K:=K) rfl) rfl T.nm.isinstance boot_isinstance (aj (aH 0) (aj (iG (v:=.ty "tuple") rfl T.nm.tuple boot_tuple rfl) aq))) (nH (eG jD (aF (bY (K:=K) rfl) rfl T.nm.len PySem.boot_len (aj (aH 0) aq)) aL (bO _)))))) aq))))))) (aD (aZ gF)) bH)
      (aA (cO (d7 (cG (aF (jM rfl) rfl T.nm.all jL (aj (eO rfl rfl (show aY (ao cH) _ ["_law_web_here", "_law_names_here", "_law_ties", "_law_told_here", "_law_other", "_law_start", "_law_numbers"] ["_law_start", "_law_numbers"] [] ["_law_start", "_law_numbers"] from⟨rfl,by decide+kernel,by decide+kernel,rfl,by decide+kernel,by decide+kernel⟩) rfl (PI.eqv (cu (K:=K) rfl (aH 3)) (bU _ _)) (fun C s H fp pn=>(PG.eqv (cW (K:=K) (n:=2) rfl rfl (fL.eqv (aQ (aM (i:=0) (show(["_law_start", "_law_numbers"]:List Str).Nodup by decide+kernel) rfl (Or.inl rfl)) (fL.eqv (aQ (aM (i:=1) (show(["_law_start", "_law_numbers"]:List Str).Nodup by decide+kernel) rfl (Or.inl rfl)) (fL.mono cF d8)) (aR _ _))) (aR _ _))) (cX _ _ _))) (fun C s H fp pn=>fP) (fun C s H fp pn=>(jU (aF (nQ (K:=K) rfl) rfl T.nm.isinstance boot_isinstance (aj (aH 0) (aj (iG (v:=.ty "str") rfl T.nm.str boot_str rfl) aq))) (nH (aF (nQ (K:=K) rfl) rfl T.nm.isinstance boot_isinstance (aj (aH 1) (aj (iG (v:=.ty "list") rfl T.nm.list boot_list rfl) aq))))))) aq)))) (aD (aZ gF)) bH)
      (aA (cO (d7 (cG (aF (jM rfl) rfl T.nm.all jL (aj (eO rfl rfl (show aY (ao cH) _ ["_law_web_here", "_law_names_here", "_law_ties", "_law_told_here", "_law_other", "_law_start", "_law_numbers"] ["_law_k"] [] ["_law_k"] from⟨rfl,by decide+kernel,by decide+kernel,rfl,by decide+kernel,by decide+kernel⟩) rfl (PI.eqv (cu (K:=K) rfl (aF (Np (K:=K) rfl rfl) rfl T.nm3.sum boot_sum (aj (eO rfl rfl (show aY (ao cH) _ ["_law_web_here", "_law_names_here", "_law_ties", "_law_told_here", "_law_other", "_law_start", "_law_numbers"] ["_law_start", "_law_numbers"] [] ["_law_start", "_law_numbers"] from⟨rfl,by decide+kernel,by decide+kernel,rfl,by decide+kernel,by decide+kernel⟩) rfl (PI.eqv (cu (K:=K) rfl (aH 3)) (bU _ _)) (fun C s H fp pn=>(PG.eqv (cW (K:=K) (n:=2) rfl rfl (fL.eqv (aQ (aM (i:=0) (show(["_law_start", "_law_numbers"]:List Str).Nodup by decide+kernel) rfl (Or.inl rfl)) (fL.eqv (aQ (aM (i:=1) (show(["_law_start", "_law_numbers"]:List Str).Nodup by decide+kernel) rfl (Or.inl rfl)) (fL.mono cF d8)) (aR _ _))) (aR _ _))) (cX _ _ _))) (fun C s H fp pn=>fP) (fun C s H fp pn=>(aH 1))) (aj (cg aq) aq)))) (bU _ _)) (fun C s H fp pn=>(aM (i:=0) (show(["_law_k"]:List Str).Nodup by decide+kernel) rfl (Or.inl rfl))) (fun C s H fp pn=>fP) (fun C s H fp pn=>(jU (aF (nQ (K:=K) rfl) rfl T.nm.isinstance boot_isinstance (aj (aH 0) (aj (iG (v:=.ty "int") rfl T.nm.int zc rfl) aq))) (nH (Bu (aF (nQ (K:=K) rfl) rfl T.nm.isinstance boot_isinstance (aj (aH 0) (aj (iG (v:=.ty "bool") rfl T.XM.bool CG rfl) aq)))))))) aq)))) (aD (aZ gF)) bH)
      (aA (cO (PW.pt (jj (d7 (cG (PE.eqv (aV (Ik (K:=K) T) (hr.mono (by decide)) rfl T.Ei T.yI.kp T.Eh .nil bF (aj (fM (aj (aH 1) (aj (aH 2) aq))) (aj (aH 3) aq))) (aO _ _ _)))) (iC (aW nP (aF (bY (K:=K) rfl) rfl T.nm.len PySem.boot_len (aj (aH 3) aq)) (dF yd (dF lK (aF (bY (K:=K) rfl) rfl T.nm.len PySem.boot_len (aj (aH 2) aq)) aL) (aF (bY (K:=K) rfl) rfl T.nm.len PySem.boot_len (aj (aH 1) aq))) (bO _))))) (aD (aZ gF)) bH)
      (aA (bx (i:=4) m_.nd rfl (Or.inl rfl) (eE uT rfl T.nm.tuple boot_tuple (aj (eO rfl rfl (show aY (ao cH) _ ["_law_web_here", "_law_names_here", "_law_ties", "_law_told_here", "_law_other", "_law_start", "_law_numbers"] ["_law_start", "_law_numbers"] [] ["_law_start", "_law_numbers"] from⟨rfl,by decide+kernel,by decide+kernel,rfl,by decide+kernel,by decide+kernel⟩) rfl (PI.eqv (cu (K:=K) rfl (aH 3)) (bU _ _)) (fun C s H fp pn=>(PG.eqv (cW (K:=K) (n:=2) rfl rfl (fL.eqv (aQ (aM (i:=0) (show(["_law_start", "_law_numbers"]:List Str).Nodup by decide+kernel) rfl (Or.inl rfl)) (fL.eqv (aQ (aM (i:=1) (show(["_law_start", "_law_numbers"]:List Str).Nodup by decide+kernel) rfl (Or.inl rfl)) (fL.mono cF d8)) (aR _ _))) (aR _ _))) (cX _ _ _))) (fun C s H fp pn=>fP) (fun C s H fp pn=>(cg (aj (aH 0) (aj (eE uT rfl T.nm.tuple boot_tuple (aj (aH 1) aq)) aq))))) aq)))
      (aA (cO (PW.pt (jj (aW Ko (PE.eqv (aV (lX (K:=K) T) (hr.mono (by decide)) rfl T.kh T.jf.kp T.j_ .nil bF (aj (aH 0) (aj (aH 3) aq))) (aO _ _ _)) gF (bO _)) (iC (aW Ko (PE.eqv (aV (lX (K:=K) T) (hr.mono (by decide)) rfl T.kh T.jf.kp T.j_ .nil bF (aj (aH 0) (aj (aH 4) aq))) (aO _ _ _)) gF (bO _))))) (aD (aZ gF)) bH)
      (aA (iI PassesOwn.never rfl (PI.eqv (cu (K:=K) rfl (aH 3)) (bU _ _)) (PG.eqv (cW (K:=K) (n:=2) rfl rfl (fL.eqv (aQ (aM (i:=5) m_.nd rfl (Or.inl rfl)) (fL.eqv (aQ (aM (i:=6) m_.nd rfl (Or.inl rfl)) (fL.mono cF d8)) (aR _ _))) (aR _ _))) (cX _ _ _))
      (aD (eF (jQ (K:=K) rfl PySem.F.plainAttrs_list PySem.F.slot_list_append PySem.F.type_list_append dH (aH 6) (aj aL aq)))))
      (aA (eF (QM (K:=K) rfl PySem.F.plainAttrs_list PySem.F.slot_list_clear PySem.F.type_list_clear Hz (aH 3)))
      (aD (aZ (PE.eqv (aV (Ik (K:=K) T) (hr.mono (by decide)) rfl T.Ei T.yI.kp T.Eh .nil bF (aj (fM (aj (aH 1) (aj (aH 2) aq))) (aj (PE.eqv (aV (Kl (K:=K) T) (hr.mono (by decide)) rfl T.J_ T.Ej.kp T.J4 .nil bF (aj (aH 0) aq)) (aO _ _ _)) aq))) (aO _ _ _)))))))))))),?_⟩
    have Ke:200≤sizeLine:=by decide
    have qod:=hTs.len;have qa1:ms.length=xs.length:=Nat.le_antisymm (b_ M8.nd M8.sub) (b_ hX.nd yQ);have qbK:=hE.many;have hx1:(xs.take 1).length=1:=by
      have:=hX.len.1;rw[List.length_take];omega
    have htl:=htr.1;obtain⟨rs,qlB,hrs⟩:=oH.refs htr;have ear:∀{k:Nat} {v:V},tr[k]? = some v→∃e r t,row[k]? = some e∧rs[k]? = some r∧v = .ref t∧H t=some (.tup [.str e.1,.ref r])∧H r=some (.lst (aU e.2))∧H0 r=none∧r≠rl:=fun {k v} hk=>by
      have hk2:=(List.getElem?_eq_some_iff.mp hk).1;obtain⟨e,he⟩:∃e,row[k]? = some e:=⟨_,List.getElem?_eq_getElem (by omega)⟩;obtain⟨r,hr⟩:∃r,rs[k]? = some r:=⟨_,List.getElem?_eq_getElem (by omega)⟩;obtain⟨t,h⟩:=hrs k v e r hk he hr;exact⟨e,r,t,he,hr,h⟩
    simp -dsimp[aB,stC,-Bool.exists_bool,-List.map_take];refine⟨_,.lst hrl,_,pP K,dI.neg rfl ?_⟩;simp -dsimp[aB,stC,-Bool.exists_bool,-List.map_take];refine⟨⟨_,aX.of hrl⟩,fun C1 Y9=>Nt tr (fun j σ H'=>(∃o',σ=[o'])∧H' C1=some (.lst (List.replicate j (.bl true)))∧Same H H') ⟨⟨_,rfl⟩,ak,au Y9⟩ (fun j σ H' _ h=>aX.of (h.2.2 _ _ hrl)) ?_ ?_⟩
    ·rintro k v σ H1 hk ⟨⟨o',rfl⟩,eC,s1⟩;have hk2:=(List.getElem?_eq_some_iff.mp hk).1;obtain⟨e,r,t,he,hr0,rfl,ht,_⟩:=ear hk;simp -dsimp[aB,stC,-Bool.exists_bool,-List.map_take];refine⟨_,.tup (s1 _ _ ht),_,sZ K,dI.pos rfl ?_⟩;simp -dsimp[aB,stC,-Bool.exists_bool,-List.map_take];refine⟨_,.inr (d9.of (s1 _ _ ht)),?_⟩;simp -dsimp[aB,stC,-Bool.exists_bool,-List.map_take];exact⟨_,eC,by simp;omega,by rw[ak,List.replicate_succ'],bA s1 Y9⟩
    · rintro σ H1 ⟨⟨o',rfl⟩,eC,s1⟩;simp -dsimp[aB,stC,-Bool.exists_bool,-List.map_take];refine⟨_,eC,_,jO _,?_⟩;rw[show(List.replicate tr.length true).all id=true by simp];refine dI.neg rfl ?_;simp -dsimp[aB,stC,-Bool.exists_bool,-List.map_take];refine⟨⟨_,aX.of (s1 _ _ hrl)⟩,fun C2 hC2=>Nt tr (fun j σ H'=>(∃o1 o2,σ=[o1,o2])∧H' C2=some (.lst (List.replicate j (.bl true)))∧Same H1 H') ⟨⟨_,_,rfl⟩,ak,au hC2⟩ (fun j σ H' _ h=>aX.of (h.2.2 _ _ (s1 _ _ hrl))) ?_ ?_⟩
      ·rintro k v σ H2 hk ⟨⟨o1,o2,rfl⟩,eC2,s2⟩;have hk2:=(List.getElem?_eq_some_iff.mp hk).1;obtain⟨e,r,t,he,hr0,rfl,ht,hr1,_⟩:=ear hk;have S2:=s1.trans s2;simp -dsimp[aB,stC,-Bool.exists_bool,-List.map_take];refine⟨_,d9.of (S2 _ _ ht),rfl,?_⟩;simp -dsimp[aB,stC,-Bool.exists_bool,-List.map_take];refine⟨_,.str _,_,Aq K,dI.pos rfl ?_⟩;simp -dsimp[aB,stC,-Bool.exists_bool,-List.map_take];refine⟨_,.lst (S2 _ _ hr1),_,pP K,?_⟩;exact⟨_,eC2,by simp;omega,by rw[ak,List.replicate_succ'],bA s2 hC2⟩
      · rintro σ H2 ⟨⟨o1,o2,rfl⟩,eC2,s2⟩;have S2:=s1.trans s2;simp -dsimp[aB,stC,-Bool.exists_bool,-List.map_take];refine⟨_,eC2,_,jO _,?_⟩;rw[show(List.replicate tr.length true).all id=true by simp];refine dI.neg rfl ?_;simp -dsimp[aB,stC,-Bool.exists_bool,-List.map_take];refine⟨⟨_,aX.of (S2 _ _ hrl)⟩,fun C3 hC3=>Nt tr (fun j σ H'=>(∃o1 o2,σ=[o1,o2])∧H' C3=some (.lst ((rs.take j).map V.ref))∧Same H2 H') ⟨⟨_,_,rfl⟩,ak,au hC3⟩ (fun j σ H' _ h=>aX.of (h.2.2 _ _ (S2 _ _ hrl))) ?_ ?_⟩
        ·rintro k v σ H3 hk ⟨⟨o1,o2,rfl⟩,eC3,s3⟩;have hk2:=(List.getElem?_eq_some_iff.mp hk).1;obtain⟨e,r,t,he,hr0,rfl,ht,hr1,_⟩:=ear hk;have S3:=S2.trans s3;simp -dsimp[aB,stC,-Bool.exists_bool,-List.map_take];refine⟨_,d9.of (S3 _ _ ht),rfl,?_⟩;simp -dsimp[aB,stC,-Bool.exists_bool,-List.map_take];exact⟨_,eC3,by simp;omega,by rw[ak,take_one hr0];simp,bA s3 hC3⟩
        · rintro σ H3 ⟨⟨o1,o2,rfl⟩,eC3,s3⟩;have S3:=S2.trans s3;have rsl:tr.length=rs.length:=by omega
          rw[rsl,List.take_length] at eC3;simp -dsimp[aB,stC,-Bool.exists_bool,-List.map_take];intro z3 hz3;have s4:Same H3 (upd H3 z3 (.lst [])):=au hz3;have e4:upd H3 z3 (.lst []) z3=some (.lst []):=ak;generalize upd H3 z3 (.lst [])=H4 at s4 e4 ⊢;have S4:=S3.trans s4;obtain⟨_,hgo,_,_⟩:=hE.at
          have qbL:(row.map fun e=>aU e.2).flatten=aU gone:=by rw[PJ,← YG,← hgo]
          have hnl:(aU gone).length=gone.length:=by simp[aU]
          refine⟨rs,aX.of (s4 _ _ eC3),row.map (fun e=>aU e.2),[],e4,by rw[List.length_map];exact qlB,fun i b c h1 h2=>?_,by rw[← List.length_flatten,qbL,hnl,List.length_nil];omega,fun p5 H5 e5 s5=>?_⟩
          ·rw[List.getElem?_map] at h2;obtain⟨e,he,rfl⟩:=Option.map_eq_some_iff.mp h2;have hi:=(List.getElem?_eq_some_iff.mp he).1;obtain⟨t,_,_,hr1,_⟩:=hrs i _ e b (List.getElem?_eq_getElem (by omega)) he h1;exact S4 _ _ hr1
          rw[List.nil_append,qbL] at e5;have S5:=S4.trans s5;refine⟨⟨_,aX.of e5⟩,fun C6 hC6=>Nt (aU gone) (fun j σ H'=>(∃o',σ=[o'])∧H' C6=some (.lst (List.replicate j (.bl true)))∧Same H5 H') ⟨⟨_,rfl⟩,ak,au hC6⟩ (fun j σ H' _ h=>aX.of (h.2.2 _ _ e5)) ?_ ?_⟩
          · rintro k v σ H6 hk ⟨⟨o',rfl⟩,eC6,s6⟩;have hk2:=(List.getElem?_eq_some_iff.mp hk).1;obtain⟨g,hg,rfl⟩:∃g,gone[k]? = some g∧v = .int (g:Nat):=by
              unfold aU at hk;rw[List.getElem?_map] at hk;obtain⟨g,hg,rfl⟩:=Option.map_eq_some_iff.mp hk;exact⟨g,hg,rfl⟩
            simp -dsimp[aB,stC,-Bool.exists_bool,-List.map_take];refine⟨_,.int _,_,Ar K,dI.pos rfl ?_⟩;simp -dsimp[aB,stC,-Bool.exists_bool,-List.map_take];refine⟨_,.int _,_,xY K,?_⟩;exact⟨_,eC6,by simp;omega,by rw[ak,List.replicate_succ'];rfl,bA s6 hC6⟩
          · rintro σ H6 ⟨⟨o',rfl⟩,eC6,s6⟩;have S6:=S5.trans s6;simp -dsimp[aB,stC,-Bool.exists_bool,-List.map_take];refine⟨_,eC6,_,jO _,?_⟩;rw[show(List.replicate (aU gone).length true).all id=true by simp];refine dI.neg rfl ?_;simp -dsimp[aB,stC,-Bool.exists_bool,-List.map_take];intro w7 hw7;have s7:Same H6 (upd H6 w7 (.tup [.ref n,.ref l])):=au hw7;have e7:upd H6 w7 (.tup [.ref n,.ref l]) w7=some (.tup [.ref n,.ref l]):=ak;generalize upd H6 w7 (.tup [.ref n,.ref l])=H7 at s7 e7 ⊢;have S7:=S6.trans s7;have T7:=S0.trans S7;refine⟨w7,n,l,rl,tv,tr,row,xs,ms,gone,ps,rfl,e7,T7 _ _ hn,T7 _ _ hl,htv.same T7,hX,hTs,S7 _ _ hrl,oH.t htr S7,hE,fun H8 s8=>?_⟩;rw[decide_eq_true qa1,decide_eq_true Ys];have S8:=S7.trans s8;have T8:=S0.trans S8;simp -dsimp[aB,stC,-Bool.exists_bool,-List.map_take];have hlen:(tr.length:Int)=(tv.length:Int)+1 - ((xs.map V.str).length:Int):=by
              rw[htv.1,List.length_map];omega
            refine⟨_,.inl (aX.of (S8 _ _ hrl)),_,.inl (aX.of (T8 _ _ hl)),_,.inl (aX.of (T8 _ _ hn)),false,by rw[decide_eq_true hlen];rfl,dI.neg rfl ?_⟩;simp -dsimp[aB,stC,-Bool.exists_bool,-List.map_take];refine⟨⟨_,aX.of (S8 _ _ hrl)⟩,fun C9 hC9=>Nt tr (fun j σ H'=>(∃o1 o2,σ=[o1,o2])∧(∃us,H' C9=some (.lst us)∧bN (qlA C9) H' us (row.take j))∧Same H8 H') ⟨⟨_,_,rfl⟩,⟨[],ak,bN.nil⟩,au hC9⟩ (fun j σ H' _ h=>aX.of (h.2.2 _ _ (S8 _ _ hrl))) ?_ ?_⟩
            · rintro k v σ H9 hk ⟨⟨o1,o2,rfl⟩,⟨us,eC9,hus⟩,s9⟩;have hk2:=(List.getElem?_eq_some_iff.mp hk).1;obtain⟨e,r,t,he,hr0,rfl,ht,hr1,_⟩:=ear hk;have S9:=S8.trans s9;have hul:=hus.1;rw[List.length_take] at hul;simp -dsimp[aB,stC,-Bool.exists_bool,-List.map_take];refine⟨_,d9.of (S9 _ _ ht),rfl,?_⟩;simp -dsimp[aB,stC,-Bool.exists_bool,-List.map_take];refine⟨_,.inl (S9 _ _ hr1),fun q10 Nx e10 Du Rv E_=>?_⟩;have Rf:Same Nx (upd Nx Rv (.lst [.str e.1,.ref q10])):=au E_;have e11:upd Nx Rv (.lst [.str e.1,.ref q10]) Rv=some (.lst [.str e.1,.ref q10]):=ak;generalize upd Nx Rv (.lst [.str e.1,.ref q10])=Vj at Rf e11 ⊢;have Fb:=Du.trans Rf;have qdY:=Fb _ _ eC9;have pC:Rv≠C9:=fun z=>by rw[z,Du _ _ eC9] at E_;cases E_
              rw[take_one he];refine⟨_,qdY,by omega,⟨_,ak,bN.snoc (bN.keep hus fun v e ⟨t,r,h1,h2,h3,h4⟩=>⟨t,r,h1,h2,by rw[aC h2];exact Fb _ _ h3,mY (Fb _ _ h4) qdY (by intro z;cases z)⟩) ⟨Rv,q10,rfl,pC,by rw[aC pC];exact e11,mY (Rf _ _ e10) qdY (by intro z;cases z)⟩⟩,bA (s9.trans Fb) hC9⟩
            · rintro σ H9 ⟨⟨o1,o2,rfl⟩,⟨us,eC9,hus⟩,s9⟩;have S9:=S8.trans s9;have T9:=S0.trans S9;rw[htl,List.take_length] at hus;simp -dsimp[aB,stC,-Bool.exists_bool,-List.map_take];refine⟨_,.inl eC9,fun w10 Nx e10 Du=>?_⟩;have S10:=S9.trans Du;have T10:=S0.trans S10;refine⟨o,rl,tr,row,xs,ms,gone,ps,rfl,hw.same T10,hX,hTs,.inl (S10 _ _ hrl),oH.s htr S10,hE,fun Vj Rf=>?_⟩;rw[decide_eq_true qa1,decide_eq_true Ys];have S11:=S10.trans Rf;have T11:=S0.trans S11;simp -dsimp[aB,stC,-Bool.exists_bool,-List.map_take];refine⟨o,w10,us,row,xs,ms,gone,ps,rfl,hw.same T11,hX,hTs,.inr (Rf _ _ e10),?_,hE,fun H12 s12=>?_⟩
              · exact⟨hus.1,fun i v e h1 h2=>by
                  obtain⟨t,r,h3,h4,h5,h6⟩:=hus.2 i v e h1 h2;have Fb:=Du.trans Rf;exact⟨t,r,h3,.inl (Fb _ _ h5),.inr (Fb _ _ h6)⟩⟩
              rw[decide_eq_true qa1,decide_eq_true Ys];have S12:=S11.trans s12;have T12:=S0.trans S12;simp -dsimp[aB,stC,-Bool.exists_bool,-List.map_take];have qa2:∀r∈rs,∃vs,H r=some (.lst vs)∧vs.length≤20∧H0 r=none∧r≠rl:=fun r hr=>by
                obtain⟨i,hi,rfl⟩:=List.mem_iff_getElem.mp hr;obtain⟨t,h1,h2,h3,h4⟩:=hrs i _ _ _ (List.getElem?_eq_getElem (show i<tr.length by omega)) (List.getElem?_eq_getElem (show i<row.length by omega)) (List.getElem?_eq_getElem hi);have Cd:=hE.at.2.2.2 i _ (List.getElem?_eq_getElem (show i<row.length by omega));have l2:=b_ Cd.nd (xs:=List.range ps.length) fun j hj=>List.mem_range.mpr (Cd.lt j hj);rw[List.length_range] at l2;exact⟨_,h3,by simp[aU];omega,h4⟩
              have rln:rl∉rs:=fun hm=>by
                obtain⟨_,_,_,_,h⟩:=qa2 rl hm;exact h rfl
              have S0n:∀{b:Addr} {u:HO},H0 b=some u→b∉rs:=fun {b u} e hm=>by
                obtain⟨_,_,_,h,_⟩:=qa2 b hm;rw[h] at e;cases e
              refine⟨⟨_,aX.of (S12 _ _ hrl)⟩,frL tr (fun j σ H'=>(∃o5 o6,σ=[some (.ref o),some (.ref n),some (.ref l),some (.ref rl),some (.ref w10),o5,o6])∧(∀b u,b∉rs→H12 b=some u→H' b=some u)∧∀r∈rs,∃vs,H' r=some (.lst vs)∧vs.length≤20+j) ⟨⟨_,_,rfl⟩,fun b u _ e=>e,fun r hr=>?_⟩ (fun j σ H' _ h=>aX.of (h.2.1 _ _ rln (S12 _ _ hrl))) ?_ ?_⟩
              ·obtain⟨vs,h1,h2,_⟩:=qa2 r hr;exact⟨vs,S12 _ _ h1,h2⟩
              · rintro j v σ H13 hj ⟨⟨o5,o6,rfl⟩,k13,hvs⟩;have hj2:=(List.getElem?_eq_some_iff.mp hj).1;obtain⟨e,r,t,he,hr0,rfl,ht,hr1,_⟩:=ear hj;have tn:t∉rs:=fun hm=>by
                  obtain⟨vs,h1,_⟩:=qa2 t hm;rw[h1] at ht;cases ht
                have rm:=List.mem_of_getElem? hr0;obtain⟨vs,hv1,hv2⟩:=hvs r rm;simp -dsimp[aB,stC,-Bool.exists_bool,-List.map_take];refine⟨_,d9.of (k13 _ _ tn (S12 _ _ ht)),rfl,?_⟩;simp -dsimp[aB,stC,-Bool.exists_bool,-List.map_take];refine⟨⟨_,aX.of hv1⟩,_,hv1,by omega,fun b u hb e=>?_,fun r' hr'=>?_⟩
                ·rw[aC (fun z=>hb (by rw[z];exact rm))];exact k13 b u hb e
                · by_cases hrr:r'=r
                  ·subst hrr;exact⟨_,ak,by simp;omega⟩
                  ·obtain⟨vs',h1,h2⟩:=hvs r' hr';exact⟨vs',by rw[aC hrr];exact h1,by omega⟩
              · rintro σ H13 ⟨⟨o5,o6,rfl⟩,k13,hvs⟩;simp -dsimp[aB,stC,-Bool.exists_bool,-List.map_take];refine⟨⟨_,aX.of (k13 _ _ rln (S12 _ _ hrl))⟩,⟨_,k13 _ _ rln (S12 _ _ hrl)⟩,?_⟩;have T14:Same H0 (upd H13 rl (.lst [])):=fun b u e=>by
                  rw[aC (fun z=>by rw[z,qaK] at e;cases e)];exact k13 b u (S0n e) (T12 b u e)
                generalize upd H13 rl (.lst [])=H14 at T14 ⊢;intro w15 qlC;have s15:Same H14 (upd H14 w15 (.tup [.ref n,.ref l])):=au qlC;have e15:upd H14 w15 (.tup [.ref n,.ref l]) w15=some (.tup [.ref n,.ref l]):=ak;generalize upd H14 w15 (.tup [.ref n,.ref l])=H15 at s15 e15 ⊢;have T15:=T14.trans s15;refine⟨o,xs,ps,rfl,hw.same T15,hX,hTs,fun _ _ rl' tr' qdH ms' Yr H16 H17 s16 qnL qlD htr' hE' Ud qdZ qdG qlE qd0 s17=>?_,fun c r hc hr=>?_,fun _ k lot rest hb=>?_⟩
                ·have T17:=T15.trans (s16.trans s17);have qgr:ms'.length=xs.length:=Nat.le_antisymm (b_ Ud.nd Ud.sub) (b_ hX.nd qdZ);refine⟨w15,n,l,rl',tv,tr',qdH,xs,ms',Yr,ps,rfl,s17 _ _ (s16 _ _ e15),T17 _ _ hn,T17 _ _ hl,htv.same T17,hX,hTs,qlD,oH.t htr' (Same.refl _),hE',fun H18 s18=>?_⟩;rw[decide_eq_true qgr,decide_eq_true qlE];exact q _ (T17.trans s18)
                ·rw[hc] at hcl;exact absurd (by simpa using hcl) hr
                ·rw[hbs] at hb;cases hb
def Fq (bs:List (Nat×List Str)):List PyData:=bs.map fun b=>.tuple [.str "barred",.int b.1,.list (jr b.2)]
theorem RD:∀bs:List (Nat×List Str),(∀b∈bs,∀x∈b.2,PyData.strOk x=true)→PyData.canLayAll0 (Fq bs)=true
  | [],_=>by simp[Fq,PyData.canLayAll0]
  | c::cs,h=>by
    have h1:=RD cs fun d hd=>h d (List.mem_cons_of_mem _ hd);have h2:=qH c.2 (h c List.mem_cons_self);have h3:PyData.strOk (Str.ofString "barred")=true:=by decide+kernel
    simp[Fq] at h1;simp[Fq,PyData.canLayAll0,PyData.canLay0,h1,h2,h3]
theorem RG:∀bs:List (Nat×List Str),PyData.depthAll (Fq bs)≤3
  | []=>by simp[Fq,PyData.depthAll]
  | c::cs=>by
    have h1:=RG cs;have h2:=uf c.2;simp[Fq] at h1;simp[Fq,PyData.depthAll,PyData.depth];omega
theorem YH {K:W.Frag} {H:Hp} {fl:Addr}:∀{bs:List (Nat×List Str)} {rs:List V},bN (Ng fl) H rs bs→mR K H (Fq bs) rs
  | [],rs,h=>by
    have:=h.1;cases rs with
    | nil=>rfl
    | cons v rs=>cases this
  | c::cs,rs,h=>by
    cases rs with
    | nil=>cases h.1
    | cons v rs=>
      obtain⟨t,l,rfl,ht,hl,_⟩:=h.2 0 v c rfl rfl;exact⟨_,_,rfl,⟨t,_,rfl,d9.of ht,_,_,rfl,rfl,_,_,rfl,rfl,_,_,rfl,⟨l,_,rfl,aX.of hl,qX c.2⟩,rfl⟩,YH (rs:=rs) ⟨by simpa using h.1,fun i v d h1 h2=>h.2 (i+1) v d h1 h2⟩⟩
structure Rfd (C:Addr) (K:W.Frag) (xs:List Str) (ps:List (Str×Str)) (wd:Str) (us:List V) (cs:List Str) (ds es:List PyData):Prop where
  ul:us.length≤1
  wo:PyData.strOk wd=true
  is:∀H c,H c=some (.lst (cs.map V.str))→mR K H ds (.str wd::us++[.ref c])
  lt:(PyData.tuple ds).canLay0=true
  dp:(PyData.tuple ds).depth≤32
  eq:PyData.eqv (.tuple ds) (.tuple ds)=true
  me:PyData.tuple ds∈es
  la:PyData.canLayAll0 es=true
  de:(PyData.list es).depth≤64
  nr:¬(1=xs.length∧0=ps.length)
  tl:∀H o Q E,iu C H o xs ps→(∀(t c cl:Addr) (H':Hp),H c=none→H' t=some (.tup (.str wd::us++[.ref c,.ref cl]))→H' c=some (.lst (cs.map V.str))→H' cl=some (.lst [.str wd])→Same H H'→Q (.ref t) H')→Rz C [.ref o] H Q E
theorem qa3 {S:List kE} {xs:List Str} {x y:Str} (h:y∈oF S xs x):y∈xs:=by
  unfold oF at h;exact(List.mem_filter.mp h).1
theorem PK {C:Addr} {K:W.Frag} {xs:List Str} {ps:List (Str×Str)} {x0:Str} (hX:Gq xs) (hTs:jF xs ps) (hx0:xs[0]? = some x0) (hlt:(oF (aN (fun _=>none) ps 0) xs x0).length<xs.length) :
    Rfd C K xs ps "parted" [] (oF (aN (fun _=>none) ps 0) xs x0) [.str "parted",.list (jr (oF (aN (fun _=>none) ps 0) xs x0))] [.tuple [.str "parted",.list (jr (oF (aN (fun _=>none) ps 0) xs x0))]]:=by
  obtain⟨r,hr⟩:=Ui (ps:=ps) hx0;have hj:=wI (ps:=ps) hx0;have hlay:=qH (oF (aN (fun _=>none) ps 0) xs x0) fun x hx=>Jr (hX.nm x (qa3 hx));have qlF:=uf (oF (aN (fun _=>none) ps 0) xs x0);have hne:0<(oF (aN (fun _=>none) ps 0) xs x0).length:=by
    refine List.length_pos_iff.mpr fun z=>?_;have:x0∈oF (aN (fun _=>none) ps 0) xs x0:=by
      unfold oF;exact List.mem_filter.mpr ⟨List.mem_of_getElem? hx0,by simp;exact .refl _⟩
    rw[z] at this;cases this
  have hwo:PyData.strOk (Str.ofString "parted")=true:=by decide+kernel
  refine⟨by simp,hwo,fun H c hc=>⟨_,_,rfl,rfl,_,_,rfl,⟨c,_,rfl,aX.of hc,qX _⟩,rfl⟩,?_,?_,?_,by simp,?_,?_,fun h=>by omega,fun H o Q E hw q=>?_⟩
  ·simp[PyData.canLay0,PyData.canLayAll0,hlay,hwo]
  ·simp[PyData.depth,PyData.depthAll];omega
  ·simp[PyData.eqv,PyData.eqvAll,yc]
  ·simp[PyData.canLay0,PyData.canLayAll0,hlay,hwo]
  ·simp[PyData.depth,PyData.depthAll];omega
  ·refine⟨o,xs,ps,rfl,hw,hX,hTs,fun hc=>absurd hlt (hj.mp hc),fun c r2 hc hr2 t cc cl H' h0 h1 h2 h3 s=>?_,fun hc=>absurd hlt (hj.mp hc)⟩;rw[hr] at hc;cases hc;exact q t cc cl H' h0 h1 h2 h3 s
theorem PL {C:Addr} {K:W.Frag} {xs:List Str} {ps:List (Str×Str)} {k:Nat} {lot:List Str} {rest:List (Nat×List Str)} (hX:Gq xs) (hTs:jF xs ps) (hcl:(nG ps xs).length≤1) (hb:fO ps xs=(k,lot)::rest) (hin:∀b∈fO ps xs,∀x∈b.2,x∈xs) :
    Rfd C K xs ps "barred" [.int (k:Nat)] lot [.str "barred",.int (k:Nat),.list (jr lot)] (Fq (fO ps xs)):=by
  have hlay:=qH lot fun x hx=>Jr (hX.nm x (hin (k,lot) (by rw[hb];simp) x hx));have qlF:=uf lot;have hwo:PyData.strOk (Str.ofString "barred")=true:=by decide+kernel
  have hdd:=RG (fO ps xs);have hla:=RD (fO ps xs) fun b hb x hx=>Jr (hX.nm x (hin b hb x hx));refine⟨by simp,hwo,fun H c hc=>⟨_,_,rfl,rfl,_,_,rfl,rfl,_,_,rfl,⟨c,_,rfl,aX.of hc,qX _⟩,rfl⟩,?_,?_,?_,?_,hla,?_,fun h=>?_,fun H o Q E hw q=>?_⟩
  ·simp[PyData.canLay0,PyData.canLayAll0,hlay,hwo]
  ·simp[PyData.depth,PyData.depthAll];omega
  ·simp[PyData.eqv,PyData.eqvAll,yc]
  ·rw[hb];simp[Fq]
  ·simp[PyData.depth];omega
  ·have:ps=[]:=List.eq_nil_of_length_eq_zero h.2.symm;subst this;simp[fO,k_] at hb
  · refine⟨o,xs,ps,rfl,hw,hX,hTs,fun _ hn=>?_,fun c r2 hc hr2=>?_,fun _ k2 qoe qnM hb2 t cc cl H' h0 h1 h2 h3 s=>?_⟩
    ·rw[hb] at hn;cases hn
    ·rw[hc] at hcl;exact absurd (by simpa using hcl) hr2
    ·rw[hb] at hb2;cases hb2;exact q t cc cl H' h0 h1 h2 h3 s
def qlG (C:Addr) (K:W.Frag) (xs:List Str) (ps:List (Str×Str)) (H:Hp) (r:Addr):Prop:=
  ((nG ps xs).length≤1∧fO ps xs=[]∧H r=some (.lst []))∨
  ∃wd us cs ds es dv,Rfd C K xs ps wd us cs ds es∧H r=some (.lst dv)∧∀H',Same H H'→mR K H' es dv
theorem qa4 {ps:List (Str×Str)} {xs:List Str}:∀b∈fO ps xs,∀x∈b.2,x∈xs:=fun b hb x hx=>by
  unfold fO at hb;obtain⟨k,e,he,hb⟩:=Lh.mp hb;unfold jR at hb;split at hb
  ·cases hb
  ·rw[List.mem_singleton] at hb;subst hb;exact(Hu.mp hx).1
theorem Nq {C:Addr} {K:W.Frag} {t n l:Addr} {xs:List Str} {tv:List V} {ps:List (Str×Str)} {H:Hp} {Q:VK} {E:XK} (ht:H t=some (.tup [.ref n,.ref l])) (hn:H n=some (.lst (xs.map V.str))) (hl:H l=some (.lst tv)) (htv:bL H tv ps) (hX:Gq xs) (hTs:jF xs ps)
    (q:∀(r:Addr) (H':Hp),H r=none→Same H H'→qlG C K xs ps H' r→Q (.ref r) H'):Fl [.ref t] H Q E:=by
  obtain⟨x0,hx0⟩:∃x0,xs[0]? = some x0:=⟨_,List.getElem?_eq_getElem hX.len.1⟩;refine⟨t,n,l,x0,xs,tv,ps,rfl,ht,hn,hl,htv,hX,hTs,hx0,fun hlt r d c H' hr er ed ec s=>q r H' hr s (.inr ⟨_,_,_,_,_,_,PK hX hTs hx0 hlt,er,fun H2 s2=>?_⟩),fun hlt r rs H' hr er hrs s=>q r H' hr s ?_⟩
  ·exact⟨_,_,rfl,⟨d,_,rfl,d9.of (s2 _ _ ed),_,_,rfl,rfl,_,_,rfl,⟨c,_,rfl,aX.of (s2 _ _ ec),qX _⟩,rfl⟩,rfl⟩
  · have hcl:=(wI (ps:=ps) hx0).mpr hlt;cases hb:fO ps xs with
    | nil=>
      rw[hb] at hrs;have:rs=[]:=List.eq_nil_of_length_eq_zero hrs.1;subst this;exact .inl ⟨hcl,hb,er⟩
    | cons z rest=>
      obtain⟨k,lot⟩:=z;exact .inr ⟨_,_,_,_,_,_,PL hX hTs hcl hb qa4,er,fun H2 s2=>YH (bN.keep hrs (Ng.same s2))⟩
theorem qd1 {wd:Str} {us:List V} {c cl:Addr}:xK (V.str wd::us++[V.ref c,V.ref cl]) (-2)=some (.ref c):=by
  have hll:(V.str wd::us++[V.ref c,V.ref cl]).length=us.length+3:=by simp
  exact RB (k:=2) (by decide) (by rw[hll];omega) (by rw[hll,show us.length+3 - 2=us.length+1 by omega];simp)
theorem qlH (n:Nat):∃m:Nat,(if 2<if 6<(n:Int) then 6 else (n:Int) then if 6<(n:Int) then 6 else (n:Int) else 2)=m∧m≤6:=by
  by_cases h1:6<(n:Int)
  ·rw[if_pos h1];exact⟨6,rfl,by decide⟩
  · rw[if_neg h1]
    by_cases h2:2<(n:Int)
    ·exact⟨n,by rw[if_pos h2],by omega⟩
    ·exact⟨2,by rw[if_neg h2];rfl,by decide⟩
def Kr (K:W.Frag):Sp:=fun vs H Q _=>∃(sc:Addr) (ns:List Int),vs=[.ref sc]∧aX K H sc (ns.map V.int)∧ns.length≤63∧∀H',Q (.bl true) H'
theorem qd2 (T:Txt K mg a):dG P w K mg base mF 9 a.Ax a.JX ["_law_script"] (Kr K):=by
  refine T.qbE.tH wu (fun vs H Q E h=>?_) (fun cdv A outer s H vs Q E hr h=>?_)
  ·obtain⟨sc,ns,rfl,_⟩:=h;rfl
  · obtain⟨sl,ns0,rfl,hS,qnN,q⟩:=h;refine⟨_,(aA (iI PassesOwn.never rfl (PI.eqv (uK rfl T.nm.range (aj (aF (Dj rfl) rfl T.nm.max boot_max (aj aL (aj (aF (OD rfl) rfl T.nm.min boot_min (aj (aF (bY (K:=K) rfl) rfl T.nm.len PySem.boot_len (aj (aH 0) aq)) (aj aL aq))) aq))) aq)) (uP _)) (aM (i:=1) wu.nd rfl (Or.inl rfl))
      (aA (pJ (PE.eqv (aV (qdq (K:=K) T) (hr.mono (by decide)) rfl T.qbD T.X5.kp T.qbC .nil bF (aj (PE.eqv (aV (qdm (K:=K) T) (hr.mono (by decide)) rfl T.qbz T.X3.kp T.qby .nil bF (aj (aH 0) (aj (aH 1) aq))) (aO _ _ _)) (aj aL (aj aL aq)))) (aO _ _ _)) (PG.eqv (cW (K:=K) (n:=2) rfl rfl (fL.eqv (aQ (aM (i:=2) wu.nd rfl (Or.inl rfl)) (fL.eqv (aQ (aM (i:=3) wu.nd rfl (Or.inl rfl)) (fL.mono cF d8)) (aR _ _))) (aR _ _))) (cX _ _ _)))
      (aA (bx (i:=4) wu.nd rfl (Or.inl rfl) (PE.eqv (Iz T.Rk (uF (K:=K) T) (hr.mono (by decide)) rfl T.Rj T.rW .nil bF (aj (aH 2) (aj (aH 3) aq))) (Di _ _ _ _)))
      (aA (bx (i:=5) wu.nd rfl (Or.inl rfl) (PE.eqv (aV (Px (K:=K) T) (hr.mono (by decide)) rfl T.HW T.zM.kp T.HS .nil bF (aj (fM (aj (aH 2) (aj (aH 3) aq))) aq)) (aO _ _ _)))
      (aA (bx (i:=6) wu.nd rfl (Or.inl rfl) (PE.eqv (aV (Kl (K:=K) T) (hr.mono (by decide)) rfl T.J_ T.Ej.kp T.J4 .nil bF (aj (aH 4) aq)) (aO _ _ _)))
      (aD (cO (aW (Ox (K:=K) rfl hr.units) (aH 5) (cg aq) (bO _)) (aA (cO (PW.pt (jj (d7 (cG (PE.eqv (aV (qR (K:=K) T) (hr.mono (by decide)) rfl T.mL T.jB.kp T.mK .nil bF (aj (aH 6) (aj (aH 5) aq))) (aO _ _ _)))) (iC (aW Ko (PE.eqv (aV (lX (K:=K) T) (hr.mono (by decide)) rfl T.kh T.jf.kp T.j_ .nil bF (aj (aH 4) (aj (cg aq) aq))) (aO _ _ _)) gF (bO _))))) (aD (aZ gF)) bH)
      (aA (eF (QM (K:=K) rfl PySem.F.plainAttrs_list PySem.F.slot_list_clear PySem.F.type_list_clear Hz (bW (bZ (K:=K) rfl) (aH 6) (tW jT aL) (fun _ _=>rfl))))
      (aD (cO (d7 (cG (PE.eqv (aV (qR (K:=K) T) (hr.mono (by decide)) rfl T.mL T.jB.kp T.mK .nil bF (aj (PE.eqv (aV (Kl (K:=K) T) (hr.mono (by decide)) rfl T.J_ T.Ej.kp T.J4 .nil bF (aj (aH 4) aq)) (aO _ _ _)) (aj (aH 5) aq))) (aO _ _ _)))) (aD (aZ gF)) bH)))) (aD (cO (d7 (cG (PE.eqv (aV (Kq (K:=K) T) (hr.mono (by decide)) rfl T.Bb T.uy.kp T.A_ .nil bF (aj (aH 4) (aj (aH 2) (aj (aH 3) (aj (aH 6) aq))))) (aO _ _ _)))) (aD (aZ gF)) bH)))))))))
      (aD (aZ (jU (eG (qda (K:=K) rfl hr.units) (PE.eqv (aV (Ru (K:=K) T) (hr.mono (by decide)) rfl T.Ph T.JZ.kp T.Pg .nil qfQ (aj (PE.eqv (Iz T.Rk (uF (K:=K) T) (hr.mono (by decide)) rfl T.Rj T.rW .nil bF (aj (cg (aj gM aq)) (aj (cg aq) aq))) (Di _ _ _ _)) aq)) (aO _ _ _)) (cg aq) (bO _)) (nH (eG qdX (PE.eqv (aV (lX (K:=K) T) (hr.mono (by decide)) rfl T.kh T.jf.kp T.j_ .nil bF (aj (PE.eqv (Iz T.Rk (uF (K:=K) T) (hr.mono (by decide)) rfl T.Rj T.rW .nil bF (aj (cg (aj gM aq)) (aj (cg aq) aq))) (Di _ _ _ _)) (aj (fM aq) aq))) (aO _ _ _)) gF (bO _))))))),?_⟩
    have s60:60≤sizeLine:=by decide
    right;refine⟨_,.inl hS,?_⟩;simp only[List.length_map];obtain⟨m,hm,hm6⟩:=qlH ns0.length;simp only[hm,Int.toNat_natCast];refine⟨by omega,by omega,frR (fun i σ H'=>(∃o1 o2 o3 o4 o5 o6,σ=[some (.ref sl),o1,o2,o3,o4,o5,o6])∧Same H H') ⟨⟨_,_,_,_,_,_,rfl⟩,Same.refl _⟩ ?_ ?_⟩
    · rintro i σ H0 hi ⟨⟨o1,o2,o3,o4,o5,o6,rfl⟩,s0⟩;right;refine⟨sl,ns0,i,rfl,s0.seq hS,by omega,fun p Hp hp0 hPp hBp=>?_⟩;have sp1:Same H0 Hp:=fun b o e=>hBp b o (aP e hp0) e;right;refine⟨p,9,20,rfl,hPp,by decide,by decide,by decide,by decide,fun t n l xs tv ps H1 ht0 hn0 hl0 ht1 hn1 hl1 MF hX hTs _ _ X_ Rp=>?_⟩;have S1:Same H0 H1:=fun b u e=>Rp b u (aP e hp0) (sp1 b u e);have l9:=hX.len;have Er:=hTs.len;right;refine⟨_,d9.of ht1,rfl,?_⟩;right;intro o dx ho hdx qlI;have so:Same H1 (upd (upd H1 dx (.own o)) o (.ins a.cj dx [])):=fun b u e=>by
        rw[aC (aP e ho),aC (aP e hdx)];exact e
      have hpr:pB H1 tv ps:=⟨MF.1,fun i v e h1 h2=>by
        obtain⟨t,rfl,z⟩:=MF.2 i v e h1 h2;exact⟨t,rfl,.inr z⟩⟩
      refine⟨o,dx,n,l,tv,xs,ps,rfl,ak,.inl (so _ _ hl1),hpr.same so,.inl (so _ _ hn1),hX,hTs,fun H2 hW2 hB2=>⟨rfl,?_⟩⟩;have s2:Same H1 H2:=fun b u e=>hB2 b u (aP e ho) (so b u e);have S2:=S1.trans s2;have hn2:=s2 _ _ hn1;have hl2:=s2 _ _ hl1;have T_:=bL.same MF s2;right;intro w3 hw3;have s3:Same H2 (upd H2 w3 (.tup [.ref n,.ref l])):=au hw3;have e3:upd H2 w3 (.tup [.ref n,.ref l]) w3=some (.tup [.ref n,.ref l]):=ak;generalize upd H2 w3 (.tup [.ref n,.ref l])=H3 at s3 e3 ⊢;refine Nq (C:=a.cj) (K:=K) e3 (s3 _ _ hn2) (s3 _ _ hl2) (T_.same s3) hX hTs fun r4 H4 hr4 s4 qlJ=>?_;have s24:=s3.trans s4;have S4:=S2.trans s24
      rcases qlJ with⟨hcl,hbs,er4⟩ | ⟨wd,us,cs,ds,es,dv,hR,er4,hes⟩
      · right;refine⟨o,xs,ps,rfl,hW2.same s24,hX,hTs,fun _ _ rl tr row ms gone H5 H6 s5 qlK hrl htr hE M8 yQ gnd Ys qd0 s6=>?_,fun c r hc hr=>?_,fun _ k lot rest hb=>?_⟩
        ·have s46:=s5.trans s6;right;intro z7 hz7;have s7:Same H6 (upd H6 z7 (.lst [])):=au hz7;have e7:upd H6 z7 (.lst []) z7=some (.lst []):=ak;generalize upd H6 z7 (.lst [])=H7 at s7 e7 ⊢;have s27:=(s24.trans s46).trans s7;have T5:=s24.trans s5;refine⟨.list [],⟨r4,_,rfl,aX.of ((s46.trans s7) _ _ er4),rfl⟩,.list [],⟨z7,_,rfl,aX.of e7,rfl⟩,rfl,rfl,by decide,false,rfl,dI.neg rfl ?_⟩;right;refine⟨o,n,l,rl,xs,tv,tr,ps,row,ms,gone,H5,rfl,hW2.same T5,hX,hTs,T5 _ _ hn2,T5 _ _ hl2,T_.same T5,hcl,hbs,qlK,s7 _ _ hrl,bN.keep htr (oH.same s7),hE,M8,yQ,gnd,Ys,qd0,s6.trans s7,fun H8 s8=>?_⟩;right;exact(s0.trans (S4.trans s5)).trans s8
        ·rw[hc] at hcl;exact absurd (by simpa using hcl) hr
        ·rw[hbs] at hb;cases hb
      · right;refine hR.tl _ o _ _ (hW2.same s24) fun t5 c5 cl5 H5 hc5 et5 ec5 qlL s5=>?_;right;intro z6 hz6;have s6:Same H5 (upd H5 z6 (.lst [])):=au hz6;have e6:upd H5 z6 (.lst []) z6=some (.lst []):=ak;generalize upd H5 z6 (.lst [])=H6 at s6 e6 ⊢;have s46:=s5.trans s6;have hne:es≠[]:=fun z=>by
          have:=hR.me;rw[z] at this;cases this
        have heq:PyData.eqv (.list es) (.list [])=false:=by
          cases es with
          | nil=>exact absurd rfl hne
          | cons d es=>simp[PyData.eqv,PyData.eqvAll]
        refine⟨.list es,⟨r4,_,rfl,aX.of (s46 _ _ er4),hes _ s46⟩,.list [],⟨z6,_,rfl,aX.of e6,rfl⟩,by simp[PyData.canLay0,hR.la],rfl,hR.de,true,by rw[heq];rfl,dI.pos rfl ?_⟩;right;refine⟨t5,r4,c5,cl5,wd,us,dv,cs,ds,es,rfl,s6 _ _ et5,s6 _ _ ec5,s6 _ _ qlL,hR.ul,hR.wo,fun H' s'=>hR.is _ _ (s' _ _ (s6 _ _ ec5)),s46 _ _ er4,fun H' s'=>hes _ (s46.trans s'),hR.me,hR.la,hR.lt,hR.dp,hR.eq,fun H7 s7=>?_⟩;right;intro z8 hz8;have s8:Same H7 (upd H7 z8 (.lst [])):=au hz8;have e8:upd H7 z8 (.lst []) z8=some (.lst []):=ak;generalize upd H7 z8 (.lst [])=H8 at s8 e8 ⊢;have s48:=(s46.trans s7).trans s8;have s28:=s24.trans s48;have hx1:(xs.take 1).length=1:=by
          have:=hX.len.1;rw[List.length_take];omega
        refine⟨o,z8,[],[],xs,xs.take 1,[],ps,rfl,hW2.same s28,hX,hTs,.inl e8,bN.nil,.nil,fun H9 s9=>?_⟩;have hnr:(decide ((xs.take 1).length=xs.length) && decide (([]:List Nat).length=ps.length))=false:=by
          rw[hx1,Bool.and_eq_false_iff]
          by_cases h1:1=xs.length
          ·exact .inr (decide_eq_false fun z=>hR.nr ⟨h1,z⟩)
          ·exact .inl (decide_eq_false h1)
        rw[hnr];have s59:=((s6.trans s7).trans s8).trans s9;have s49:=s48.trans s9;right;refine⟨_,.inr (d9.of (s59 _ _ et5)),.ref c5,qd1,?_⟩;right;refine⟨⟨_,aX.of (s59 _ _ ec5)⟩,⟨_,s59 _ _ ec5⟩,?_⟩;have s4a:=bA (o:=.lst []) s49 hc5;generalize upd H9 c5 (.lst [])=Ha at s4a ⊢;refine hR.tl _ o _ _ (hW2.same (s24.trans s4a)) fun tb cb clb Hb hcb etb ecb qlM sb=>?_;have s4b:=s4a.trans sb;right;refine⟨tb,r4,cb,clb,wd,us,dv,cs,ds,es,rfl,etb,ecb,qlM,hR.ul,hR.wo,fun H' s'=>hR.is _ _ (s' _ _ ecb),s4b _ _ er4,fun H' s'=>hes _ (s4b.trans s'),hR.me,hR.la,hR.lt,hR.dp,hR.eq,fun Hc sc=>?_⟩;right;exact(s0.trans S4).trans (s4b.trans sc)
    · rintro σ H0 ⟨⟨o1,o2,o3,o4,o5,o6,rfl⟩,s0⟩;have mk2:∀{H2:Hp} {o dx:Addr},H2 o=none→H2 dx=none→Same H2 (upd (upd H2 dx (.own o)) o (.ins a.cj dx [])):=fun ho hdx b u e=>by
        rw[aC (aP e ho),aC (aP e hdx)];exact e
      have hX:Gq [(Str.ofString "a")]:=⟨by simp,by decide+kernel,by simp⟩;have hTs:jF [(Str.ofString "a")] []:=⟨by simp,by simp⟩;have hbs:fO [] [(Str.ofString "a")]=[]:=by simp[fO,k_]
      have hcl:(nG [] [(Str.ofString "a")]).length≤1:=by
        refine(wI (ps:=[]) (x0:=Str.ofString "a") rfl).mpr fun h=>?_;have hm:Str.ofString "a" ∈oF (aN (fun _=>none) [] 0) [(Str.ofString "a")] (Str.ofString "a"):=by
          unfold oF;exact List.mem_filter.mpr ⟨List.mem_singleton.mpr rfl,by simp;exact .refl _⟩
        have:=List.length_pos_of_mem hm;simp only[List.length_cons,List.length_nil] at h;omega
      right;intro pa hpa pb hpb o dx ho hdx qlI;have c1:=bG (u:=.lst []) (ak (H:=H0) (a:=pa) (o:=.lst [.str (Str.ofString "a")])) hpb;have c2:=ak (H:=upd H0 pa (.lst [.str (Str.ofString "a")])) (a:=pb) (o:=.lst []);generalize upd (upd H0 pa (.lst [.str (Str.ofString "a")])) pb (.lst [])=H1 at c1 c2 ho hdx ⊢;have so:=mk2 ho hdx;refine⟨o,dx,pa,pb,[],[Str.ofString "a"],[],rfl,ak,.inl (so _ _ c2),bN.nil,.inl (so _ _ c1),hX,hTs,fun H2 hW2 hB2=>⟨rfl,?_⟩⟩;right;refine⟨o,_,_,rfl,hW2,hX,hTs,fun _ _ rl tr row ms gone H3 qaK hrl htr hE M8 yQ gnd Ys qd0 s3=>?_,fun c r hc hr=>?_,fun _ k lot rest hb=>?_⟩
      ·have qa1:ms.length=1:=Nat.le_antisymm (b_ M8.nd M8.sub) (b_ hX.nd yQ);have qbK:=hE.many;have htl:=htr.1;simp only[List.length_take,List.length_cons,List.length_nil] at qbK Ys;have:tr=[]:=List.eq_nil_of_length_eq_zero (by omega);subst this;right;intro z4 hz4;have s4:Same H3 (upd H3 z4 (.lst [])):=au hz4;have e4:upd H3 z4 (.lst []) z4=some (.lst []):=ak;generalize upd H3 z4 (.lst [])=H4 at s4 e4 ⊢;refine⟨.list [],⟨rl,_,rfl,aX.of (s4 _ _ hrl),rfl⟩,.list [],⟨z4,_,rfl,aX.of e4,rfl⟩,rfl,rfl,by decide,dI.pos rfl ?_⟩;right;intro qa hqa qb hqb o2 dx2 ho2 Km qnO;have c1:=bG (u:=.lst []) (ak (H:=H4) (a:=qa) (o:=.lst [.str (Str.ofString "a")])) hqb;have c2:=ak (H:=upd H4 qa (.lst [.str (Str.ofString "a")])) (a:=qb) (o:=.lst []);generalize upd (upd H4 qa (.lst [.str (Str.ofString "a")])) qb (.lst [])=H5 at c1 c2 ho2 Km ⊢;have so:=mk2 ho2 Km;refine⟨o2,dx2,qa,qb,[],[Str.ofString "a"],[],rfl,ak,.inl (so _ _ c2),bN.nil,.inl (so _ _ c1),hX,hTs,fun H6 hW6 Vf=>⟨rfl,?_⟩⟩;right;intro z7 hz7;refine⟨o2,z7,[],[],_,_,[],_,rfl,hW6.same (au hz7),hX,hTs,.inr ak,bN.nil,.nil,fun H8 s8=>?_⟩;right;exact q _
      ·rw[hc] at hcl;exact absurd (by simpa using hcl) hr
      ·rw[hbs] at hb;cases hb
end TJ
namespace TJ
open PySem L2
theorem Zf {α:Type} {n:Nat} (l:List α) (h:l.length=n+1):∃a r,l=a::r:=by
  cases l with
  | nil=>cases h
  | cons a r=>exact⟨a,r,rfl⟩
theorem jG {fd:FuncData} {ps:List Str} (h:∀v0,bindArgs fd {pos:=[v0]}=pure (ps.zip [v0])):∀us:List Value,us.length=1→bindArgs fd {pos:=us}=pure (ps.zip us):=by
  intro us hl;obtain⟨v0,us,rfl⟩:=Zf us hl;replace hl:=Nat.succ.inj hl;obtain rfl:=List.eq_nil_of_length_eq_zero hl;exact h v0
theorem jH {fd:FuncData} {ps:List Str} (h:∀v0 v1,bindArgs fd {pos:=[v0,v1]}=pure (ps.zip [v0,v1])):∀us:List Value,us.length=2→bindArgs fd {pos:=us}=pure (ps.zip us):=by
  intro us hl;obtain⟨v0,us,rfl⟩:=Zf us hl;replace hl:=Nat.succ.inj hl;obtain⟨v1,us,rfl⟩:=Zf us hl;replace hl:=Nat.succ.inj hl;obtain rfl:=List.eq_nil_of_length_eq_zero hl;exact h v0 v1
theorem wJ {fd:FuncData} {ps:List Str} (h:∀v0 v1 v2,bindArgs fd {pos:=[v0,v1,v2]}=pure (ps.zip [v0,v1,v2])):∀us:List Value,us.length=3→bindArgs fd {pos:=us}=pure (ps.zip us):=by
  intro us hl;obtain⟨v0,us,rfl⟩:=Zf us hl;replace hl:=Nat.succ.inj hl;obtain⟨v1,us,rfl⟩:=Zf us hl;replace hl:=Nat.succ.inj hl;obtain⟨v2,us,rfl⟩:=Zf us hl;replace hl:=Nat.succ.inj hl;obtain rfl:=List.eq_nil_of_length_eq_zero hl;exact h v0 v1 v2
theorem PN {fd:FuncData} {ps:List Str} (h:∀v0 v1 v2 v3,bindArgs fd {pos:=[v0,v1,v2,v3]}=pure (ps.zip [v0,v1,v2,v3])):∀us:List Value,us.length=4→bindArgs fd {pos:=us}=pure (ps.zip us):=by
  intro us hl;obtain⟨v0,us,rfl⟩:=Zf us hl;replace hl:=Nat.succ.inj hl;obtain⟨v1,us,rfl⟩:=Zf us hl;replace hl:=Nat.succ.inj hl;obtain⟨v2,us,rfl⟩:=Zf us hl;replace hl:=Nat.succ.inj hl;obtain⟨v3,us,rfl⟩:=Zf us hl;replace hl:=Nat.succ.inj hl;obtain rfl:=List.eq_nil_of_length_eq_zero hl;exact h v0 v1 v2 v3
theorem all_mk {l:W.OpenLaw} {w:World} {K:W.Frag} {h:Heap} {mg:Str→Option Value} {fa cj aG fB dj bR fC cB bK cC bw bh dW eZ dX gR rE cT cU iY gU iZ fj jZ gV gk dY gq gw fV dZ dg dh gW gY rJ j6 fu yu rK nj nq yD yE i_ rN j7 jc rP cL fW Ax:Addr} (X:K.In h) (G:h.Ns mainGlobals mg) (hfa:mg "law" = some (.ref fa))
    {od1 an1 od2 an2 od3 an3 od4 an4 od5 an5 od6 an6 od7 an7 od8 an8 od9 an9 qlN qgs qlO qgt qlP qgu qlQ qgv qlR qgw qlS qgx qlT qgy qlU qgz qlV qgA qlW qgB qlX qgC qlY qgD qlZ qgE ql0 qgF ql1 qgG ql2 qgH ql3 qgI ql4 qgJ ql5 qgK ql6 qgL ql7 qgM ql8 qgN ql9 qgO ql_ qgP qma qgQ qmb qgR qmc qgS qmd qgT qme qgU qmf qgV qmg qgW:Option Addr} {sl1 sl2 sl3 sl4 sl5 sl6 sl7 sl8 sl9 qmh qmi qmj qmk qml qmm qmn qmo qmp qmq qmr qms qmt qmu qmv qmw qmx qmy qmz qmA qmB qmC qmD qmE qmF qmG qmH qmI qmJ qmK qmL:Array (Option Value)} {oc1 kV1 dc1 pm1 cd1 ct1 oc2 kV2 dc2 pm2 cd2 ct2 oc3 kV3 dc3 pm3 cd3 ct3 oc4 kV4 dc4 pm4 cd4 ct4 oc5 kV5 dc5 pm5 cd5 ct5 oc6 kV6 dc6 pm6 cd6 ct6 oc7 kV7 dc7 pm7 cd7 ct7 oc8 kV8 dc8 pm8 cd8 ct8 oc9 kV9 dc9 pm9 cd9 ct9 qmM qgX qgY qgZ qd3 qg0 qmN qg1 qg2 qg3 qd4 qg4 qmO qg5 qg6 qg7 qd5 qg8 qmP qg9 qg_ qha qd6 qhb qmQ qhc qhd qhe qd7 qhf qmR qhg qhh qhi qd8 qhj qmS qhk qhl qhm qd9 qhn qmT qho qhp qhq qd_ qhr qmU qhs qht qhu qea qhv qmV qhw qhx qhy qeb qhz qmW qhA qhB qhC qec qhD qmX qhE qhF qhG qee qhH qmY qhI qhJ qhK qef qhL qmZ qhM qhN qhO qeg qhP qm0 qhQ qhR qhS qeh qhT qm1 qhU qhV qhW qei qhX qm2 qhY qhZ qh0 qej qh1 qm3 qh2 qh3 qh4 qek qh5 qm4 qh6 qh7 qh8 qel qh9 qm5 qh_ qia qib qem qic qm6 qid qie qif qen qig qm7 qih qii qij qeo qik qm8 qil qim qin qep qio qm9 qip qiq qir qeq qis qm_ qit qiu qiv qer qiw qna qix qiy qiz qes qiA qnb qiB qiC qiD qet qiE qnc qiF qiG qiH qeu qiI qnd qiJ qiK qiL qev qiM qne qiN qiO qiP qew qiQ qnf qiR qiS qiT qex qiU:Value} {wK mQ oA sE:Tok}
    {vQ Ft zR sG Fv wL qe wM zT zU:ClassData} {Ul Um:Str} {YJ:Addr} {Uo PX:List Value} {Uq Ur:Bool} {Us:List Str} {P0:Option Bool} {Ut:Option Addr} {Uu Uv Uw Ux Uy:Option Value} {Uz UG:Str} {YK:Addr} {UJ P_:List Value} {UL UW:Bool} {U0:List Str} {Qa:Option Bool} {U3:Option Addr} {U4 U5 U6 U7 U8:Option Value}
    (Qc:W.nsIn K mainGlobals "Web" = some (some (.ref cj)))
    (qg:W.nsIn K mainGlobals "PointError" = some (some (.ref aG)))
    (Fw:W.nsIn K mainGlobals "NoWeb" = some (some (.ref fB)))
    (zV:W.nsIn K mainGlobals "NoText" = some (some (.ref dj)))
    (sH:W.nsIn K mainGlobals "NoNumbers" = some (some (.ref bR)))
    (Fx:W.nsIn K mainGlobals "NoLot" = some (some (.ref fC)))
    (wN:W.nsIn K mainGlobals "NoPoint" = some (some (.ref cB)))
    (qj:W.nsIn K mainGlobals "NoPointing" = some (some (.ref bK)))
    (wO:W.nsIn K mainGlobals "TooMuch" = some (some (.ref cC)))
    (zW:W.nsIn K mainGlobals "Parted" = some (some (.ref bw)))
    (zX:W.nsIn K mainGlobals "Barred" = some (some (.ref bh)))
    (a1:W.nsIn K mainGlobals "steps_along" = some (some (.ref dW)))
    (l1:K.lookup dW=some ⟨oc1,od1,.func (W.fnOf "steps_along" "steps_along" (aK dJ) (aJ dJ) (ao dJ) .none kV1 dc1 pm1 an1 cd1 ct1),sl1⟩) (c1:W.codeIn K cd1 "steps_along" = true) (k1:W.keepIn K (.ref dW)=true)
    (a2:W.nsIn K mainGlobals "ways_along" = some (some (.ref eZ)))
    (l2:K.lookup eZ=some ⟨oc2,od2,.func (W.fnOf "ways_along" "ways_along" (aK eV) (aJ eV) (ao eV) .none kV2 dc2 pm2 an2 cd2 ct2),sl2⟩) (c2:W.codeIn K cd2 "ways_along" = true) (k2:W.keepIn K (.ref eZ)=true)
    (a3:W.nsIn K mainGlobals "found_along" = some (some (.ref dX)))
    (l3:K.lookup dX=some ⟨oc3,od3,.func (W.fnOf "found_along" "found_along" (aK cQ) (aJ cQ) (ao cQ) .none kV3 dc3 pm3 an3 cd3 ct3),sl3⟩) (c3:W.codeIn K cd3 "found_along" = true) (k3:W.keepIn K (.ref dX)=true)
    (a4:W.nsIn K mainGlobals "clusters" = some (some (.ref gR)))
    (l4:K.lookup gR=some ⟨oc4,od4,.func (W.fnOf "clusters" "clusters" (aK fY) (aJ fY) (ao fY) .none kV4 dc4 pm4 an4 cd4 ct4),sl4⟩) (c4:W.codeIn K cd4 "clusters" = true) (k4:W.keepIn K (.ref gR)=true)
    (a5:W.nsIn K mainGlobals "bars" = some (some (.ref rE)))
    (l5:K.lookup rE=some ⟨oc5,od5,.func (W.fnOf "bars" "bars" (aK pQ) (aJ pQ) (ao pQ) .none kV5 dc5 pm5 an5 cd5 ct5),sl5⟩) (c5:W.codeIn K cd5 "bars" = true) (k5:W.keepIn K (.ref rE)=true)
    (a6:W.findIn K (.ref bw) "__init__" = some (some (.ref cT))) (i6:W.isFn K (.ref cT)=true)
    (l6:K.lookup cT=some ⟨oc6,od6,.func (W.fnOf "__init__" "Parted.__init__" (aK dM) (aJ dM) (ao dM) .none kV6 dc6 pm6 an6 cd6 ct6),sl6⟩) (c6:W.codeIn K cd6 "Parted.__init__" = true) (k6:W.keepIn K (.ref cT)=true)
    (a7:W.findIn K (.ref bh) "__init__" = some (some (.ref cU))) (i7:W.isFn K (.ref cU)=true)
    (l7:K.lookup cU=some ⟨oc7,od7,.func (W.fnOf "__init__" "Barred.__init__" (aK dN) (aJ dN) (ao dN) .none kV7 dc7 pm7 an7 cd7 ct7),sl7⟩) (c7:W.codeIn K cd7 "Barred.__init__" = true) (k7:W.keepIn K (.ref cU)=true)
    (a8:W.nsIn K mainGlobals "is_list" = some (some (.ref iY)))
    (l8:K.lookup iY=some ⟨oc8,od8,.func (W.fnOf "is_list" "is_list" (aK iV) (aJ iV) (ao iV) .none kV8 dc8 pm8 an8 cd8 ct8),sl8⟩) (c8:W.codeIn K cd8 "is_list" = true) (k8:W.keepIn K (.ref iY)=true)
    (a9:W.nsIn K mainGlobals "is_whole" = some (some (.ref gU)))
    (l9:K.lookup gU=some ⟨oc9,od9,.func (W.fnOf "is_whole" "is_whole" (aK gO) (aJ gO) (ao gO) .none kV9 dc9 pm9 an9 cd9 ct9),sl9⟩) (c9:W.codeIn K cd9 "is_whole" = true) (k9:W.keepIn K (.ref gU)=true)
    (a10:W.nsIn K mainGlobals "is_name" = some (some (.ref iZ)))
    (l10:K.lookup iZ=some ⟨qmM,qlN,.func (W.fnOf "is_name" "is_name" (aK iw) (aJ iw) (ao iw) .none qgX qgY qgZ qgs qd3 qg0),qmh⟩) (c10:W.codeIn K qd3 "is_name" = true) (k10:W.keepIn K (.ref iZ)=true)
    (a11:W.nsIn K mainGlobals "are_points" = some (some (.ref fj)))
    (l11:K.lookup fj=some ⟨qmN,qlO,.func (W.fnOf "are_points" "are_points" (aK dO) (aJ dO) (ao dO) .none qg1 qg2 qg3 qgt qd4 qg4),qmi⟩) (c11:W.codeIn K qd4 "are_points" = true) (k11:W.keepIn K (.ref fj)=true)
    (a12:W.nsIn K mainGlobals "is_tie" = some (some (.ref jZ)))
    (l12:K.lookup jZ=some ⟨qmO,qlP,.func (W.fnOf "is_tie" "is_tie" (aK jw) (aJ jw) (ao jw) .none qg5 qg6 qg7 qgu qd5 qg8),qmj⟩) (c12:W.codeIn K qd5 "is_tie" = true) (k12:W.keepIn K (.ref jZ)=true)
    (a13:W.nsIn K mainGlobals "are_ties" = some (some (.ref gV)))
    (l13:K.lookup gV=some ⟨qmP,qlQ,.func (W.fnOf "are_ties" "are_ties" (aK fZ) (aJ fZ) (ao fZ) .none qg9 qg_ qha qgv qd6 qhb),qmk⟩) (c13:W.codeIn K qd6 "are_ties" = true) (k13:W.keepIn K (.ref gV)=true)
    (a14:W.findIn K (.ref cj) "__init__" = some (some (.ref gk))) (i14:W.isFn K (.ref gk)=true)
    (l14:K.lookup gk=some ⟨qmQ,qlR,.func (W.fnOf "__init__" "Web.__init__" (aK f9) (aJ f9) (ao f9) .none qhc qhd qhe qgw qd7 qhf),qml⟩) (c14:W.codeIn K qd7 "Web.__init__" = true) (k14:W.keepIn K (.ref gk)=true)
    (a15:W.findIn K (.ref cj) "points" = some (some (.ref dY))) (i15:W.isFn K (.ref dY)=true)
    (l15:K.lookup dY=some ⟨qmR,qlS,.func (W.fnOf "points" "Web.points" (aK eX) (aJ eX) (ao eX) .none qhg qhh qhi qgx qd8 qhj),qmm⟩) (c15:W.codeIn K qd8 "Web.points" = true) (k15:W.keepIn K (.ref dY)=true)
    (a16:W.findIn K (.ref cj) "ties" = some (some (.ref gq))) (i16:W.isFn K (.ref gq)=true)
    (l16:K.lookup gq=some ⟨qmS,qlT,.func (W.fnOf "ties" "Web.ties" (aK gP) (aJ gP) (ao gP) .none qhk qhl qhm qgy qd9 qhn),qmn⟩) (c16:W.codeIn K qd9 "Web.ties" = true) (k16:W.keepIn K (.ref gq)=true)
    (a17:W.findIn K (.ref cj) "many" = some (some (.ref gw))) (i17:W.isFn K (.ref gw)=true)
    (l17:K.lookup gw=some ⟨qmT,qlU,.func (W.fnOf "many" "Web.many" (aK gQ) (aJ gQ) (ao gQ) .none qho qhp qhq qgz qd_ qhr),qmo⟩) (c17:W.codeIn K qd_ "Web.many" = true) (k17:W.keepIn K (.ref gw)=true)
    (a18:W.nsIn K mainGlobals "is_number" = some (some (.ref fV)))
    (l18:K.lookup fV=some ⟨qmU,qlV,.func (W.fnOf "is_number" "is_number" (aK fQ) (aJ fQ) (ao fQ) .none qhs qht qhu qgA qea qhv),qmp⟩) (c18:W.codeIn K qea "is_number" = true) (k18:W.keepIn K (.ref fV)=true)
    (a19:W.nsIn K mainGlobals "are_numbers" = some (some (.ref dZ)))
    (l19:K.lookup dZ=some ⟨qmV,qlW,.func (W.fnOf "are_numbers" "are_numbers" (aK cR) (aJ cR) (ao cR) .none qhw qhx qhy qgB qeb qhz),qmq⟩) (c19:W.codeIn K qeb "are_numbers" = true) (k19:W.keepIn K (.ref dZ)=true)
    (a20:W.nsIn K mainGlobals "sure_of_ears" = some (some (.ref dg)))
    (l20:K.lookup dg=some ⟨qmW,qlX,.func (W.fnOf "sure_of_ears" "sure_of_ears" (aK cY) (aJ cY) (ao cY) .none qhA qhB qhC qgC qec qhD),qmr⟩) (c20:W.codeIn K qec "sure_of_ears" = true) (k20:W.keepIn K (.ref dg)=true)
    (a21:W.nsIn K mainGlobals "points_along" = some (some (.ref dh)))
    (l21:K.lookup dh=some ⟨qmX,qlY,.func (W.fnOf "points_along" "points_along" (aK cZ) (aJ cZ) (ao cZ) .none qhE qhF qhG qgD qee qhH),qms⟩) (c21:W.codeIn K qee "points_along" = true) (k21:W.keepIn K (.ref dh)=true)
    (a22:W.nsIn K mainGlobals "way_back" = some (some (.ref gW)))
    (l22:K.lookup gW=some ⟨qmY,qlZ,.func (W.fnOf "way_back" "way_back" (aK fJ) (aJ fJ) (ao fJ) .none qhI qhJ qhK qgE qef qhL),qmt⟩) (c22:W.codeIn K qef "way_back" = true) (k22:W.keepIn K (.ref gW)=true)
    (a23:W.nsIn K mainGlobals "next_ear" = some (some (.ref gY)))
    (l23:K.lookup gY=some ⟨qmZ,ql0,.func (W.fnOf "next_ear" "next_ear" (aK gb) (aJ gb) (ao gb) .none qhM qhN qhO qgF qeg qhP),qmu⟩) (c23:W.codeIn K qeg "next_ear" = true) (k23:W.keepIn K (.ref gY)=true)
    (a24:W.nsIn K mainGlobals "ears" = some (some (.ref rJ)))
    (l24:K.lookup rJ=some ⟨qm0,ql1,.func (W.fnOf "ears" "ears" (aK pR) (aJ pR) (ao pR) .none qhQ qhR qhS qgG qeh qhT),qmv⟩) (c24:W.codeIn K qeh "ears" = true) (k24:W.keepIn K (.ref rJ)=true)
    (a25:W.nsIn K mainGlobals "is_ear" = some (some (.ref j6)))
    (l25:K.lookup j6=some ⟨qm1,ql2,.func (W.fnOf "is_ear" "is_ear" (aK iJ) (aJ iJ) (ao iJ) .none qhU qhV qhW qgH qei qhX),qmw⟩) (c25:W.codeIn K qei "is_ear" = true) (k25:W.keepIn K (.ref j6)=true)
    (a26:W.nsIn K mainGlobals "reads_ears" = some (some (.ref fu)))
    (l26:K.lookup fu=some ⟨qm2,ql3,.func (W.fnOf "reads_ears" "reads_ears" (aK eY) (aJ eY) (ao eY) .none qhY qhZ qh0 qgI qej qh1),qmx⟩) (c26:W.codeIn K qej "reads_ears" = true) (k26:W.keepIn K (.ref fu)=true)
    (a27:W.nsIn K mainGlobals "_law_pot" = some (some (.ref yu)))
    (l27:K.lookup yu=some ⟨qm3,ql4,.func (W.fnOf "_law_pot" "_law_pot" (aK yq) (aJ yq) (ao yq) .none qh2 qh3 qh4 qgJ qek qh5),qmy⟩) (c27:W.codeIn K qek "_law_pot" = true) (k27:W.keepIn K (.ref yu)=true)
    (a28:W.nsIn K mainGlobals "_law_take" = some (some (.ref rK)))
    (l28:K.lookup rK=some ⟨qm4,ql5,.func (W.fnOf "_law_take" "_law_take" (aK q_) (aJ q_) (ao q_) .none qh6 qh7 qh8 qgK qel qh9),qmz⟩) (c28:W.codeIn K qel "_law_take" = true) (k28:W.keepIn K (.ref rK)=true)
    (a29:W.nsIn K mainGlobals "_law_names" = some (some (.ref nj)))
    (l29:K.lookup nj=some ⟨qm5,ql6,.func (W.fnOf "_law_names" "_law_names" (aK m8) (aJ m8) (ao m8) .none qh_ qia qib qgL qem qic),qmA⟩) (c29:W.codeIn K qem "_law_names" = true) (k29:W.keepIn K (.ref nj)=true)
    (a30:W.nsIn K mainGlobals "_law_mixed" = some (some (.ref nq)))
    (l30:K.lookup nq=some ⟨qm6,ql7,.func (W.fnOf "_law_mixed" "_law_mixed" (aK m9) (aJ m9) (ao m9) .none qid qie qif qgM qen qig),qmB⟩) (c30:W.codeIn K qen "_law_mixed" = true) (k30:W.keepIn K (.ref nq)=true)
    (a31:W.nsIn K mainGlobals "_law_tie" = some (some (.ref yD)))
    (l31:K.lookup yD=some ⟨qm7,ql8,.func (W.fnOf "_law_tie" "_law_tie" (aK yr) (aJ yr) (ao yr) .none qih qii qij qgN qeo qik),qmC⟩) (c31:W.codeIn K qeo "_law_tie" = true) (k31:W.keepIn K (.ref yD)=true)
    (a32:W.nsIn K mainGlobals "_law_web" = some (some (.ref yE)))
    (l32:K.lookup yE=some ⟨qm8,ql9,.func (W.fnOf "_law_web" "_law_web" (aK tD) (aJ tD) (ao tD) .none qil qim qin qgO qep qio),qmD⟩) (c32:W.codeIn K qep "_law_web" = true) (k32:W.keepIn K (.ref yE)=true)
    (a33:W.nsIn K mainGlobals "_law_classes" = some (some (.ref i_)))
    (l33:K.lookup i_=some ⟨qm9,ql_,.func (W.fnOf "_law_classes" "_law_classes" (aK iy) (aJ iy) (ao iy) .none qip qiq qir qgP qeq qis),qmE⟩) (c33:W.codeIn K qeq "_law_classes" = true) (k33:W.keepIn K (.ref i_)=true)
    (a34:W.nsIn K mainGlobals "_law_hang" = some (some (.ref rN)))
    (l34:K.lookup rN=some ⟨qm_,qma,.func (W.fnOf "_law_hang" "_law_hang" (aK pU) (aJ pU) (ao pU) .none qit qiu qiv qgQ qer qiw),qmF⟩) (c34:W.codeIn K qer "_law_hang" = true) (k34:W.keepIn K (.ref rN)=true)
    (a35:W.nsIn K mainGlobals "_law_walked" = some (some (.ref j7)))
    (l35:K.lookup j7=some ⟨qna,qmb,.func (W.fnOf "_law_walked" "_law_walked" (aK iK) (aJ iK) (ao iK) .none qix qiy qiz qgR qes qiA),qmG⟩) (c35:W.codeIn K qes "_law_walked" = true) (k35:W.keepIn K (.ref j7)=true)
    (a36:W.nsIn K mainGlobals "_law_no_ears" = some (some (.ref jc)))
    (l36:K.lookup jc=some ⟨qnb,qmc,.func (W.fnOf "_law_no_ears" "_law_no_ears" (aK iW) (aJ iW) (ao iW) .none qiB qiC qiD qgS qet qiE),qmH⟩) (c36:W.codeIn K qet "_law_no_ears" = true) (k36:W.keepIn K (.ref jc)=true)
    (a37:W.nsIn K mainGlobals "_law_told" = some (some (.ref rP)))
    (l37:K.lookup rP=some ⟨qnc,qmd,.func (W.fnOf "_law_told" "_law_told" (aK rA) (aJ rA) (ao rA) .none qiF qiG qiH qgT qeu qiI),qmI⟩) (c37:W.codeIn K qeu "_law_told" = true) (k37:W.keepIn K (.ref rP)=true)
    (a38:W.nsIn K mainGlobals "_law_refused_right" = some (some (.ref cL)))
    (l38:K.lookup cL=some ⟨qnd,qme,.func (W.fnOf "_law_refused_right" "_law_refused_right" (aK cJ) (aJ cJ) (ao cJ) .none qiJ qiK qiL qgU qev qiM),qmJ⟩) (c38:W.codeIn K qev "_law_refused_right" = true) (k38:W.keepIn K (.ref cL)=true)
    (a39:W.nsIn K mainGlobals "_law_row_right" = some (some (.ref fW)))
    (l39:K.lookup fW=some ⟨qne,qmf,.func (W.fnOf "_law_row_right" "_law_row_right" (aK cH) (aJ cH) (ao cH) .none qiN qiO qiP qgV qew qiQ),qmK⟩) (c39:W.codeIn K qew "_law_row_right" = true) (k39:W.keepIn K (.ref fW)=true)
    (a40:W.nsIn K mainGlobals "law" = some (some (.ref Ax)))
    (l40:K.lookup Ax=some ⟨qnf,qmg,.func (W.fnOf "law" "law" (aK yt) (aJ yt) (ao yt) .none qiR qiS qiT qgW qex qiU),qmL⟩) (c40:W.codeIn K qex "law" = true) (k40:W.keepIn K (.ref Ax)=true)
    (lA:W.nsIn K mainGlobals "LETTERS" = some (some (.str "abcdefghijklmnopqrstuvwxyz" wK)))
    (fK:W.nsIn K mainGlobals "MOST_LETTERS" = some (some (.int 4 mQ)))
    (gA:W.nsIn K mainGlobals "MOST_POINTS" = some (some (.int 9 oA)))
    (iR:W.nsIn K mainGlobals "MOST_TIES" = some (some (.int 20 sE)))
    (Qd:W.plainGet K cj Str.empty=true) (Qe:W.hasDictIn K cj=true) (Qf:W.plainOver K cj=true) (Qg:W.findIn K (.ref cj) "__setattr__" = some (some (.builtin "object.__setattr__"))) (Qh:W.makesIn K cj=true) (Qi:W.keepIn K (.ref cj)=true)
    (Fy:W.findIn K (.ref cj) "names" = some none)
    (Fz:W.findIn K (.ref cj) "pairs" = some none)
    (YL:W.nsIn K mainGlobals "len" = some none)
    (YM:W.nsIn K mainGlobals "max" = some none)
    (YQ:W.nsIn K mainGlobals "min" = some none)
    (YS:W.nsIn K mainGlobals "abs" = some none)
    (FJ:W.nsIn K mainGlobals "divmod" = some none)
    (Ks:W.nsIn K mainGlobals "range" = some none)
    (YT:W.nsIn K mainGlobals "zip" = some none)
    (Qj:W.nsIn K mainGlobals "list" = some none)
    (Ku:W.nsIn K mainGlobals "tuple" = some none)
    (YW:W.nsIn K mainGlobals "int" = some none)
    (YX:W.nsIn K mainGlobals "str" = some none)
    (YZ:W.nsIn K mainGlobals "set" = some none)
    (Y0:W.nsIn K mainGlobals "all" = some none)
    (sI:W.nsIn K mainGlobals "isinstance" = some none)
    (uI:W.nsIn K mainGlobals "enumerate" = some none)
    (Y4:W.nsIn K mainGlobals "any" = some none)
    (Qk:W.nsIn K mainGlobals "dict" = some none)
    (FN:W.nsIn K mainGlobals "sorted" = some none)
    (Ql:W.nsIn K mainGlobals "repr" = some none)
    (Qm:W.nsIn K mainGlobals "bool" = some none)
    (Y5:W.nsIn K mainGlobals "sum" = some none)
    (lY:W.clsIn K aG=some vQ) (lZ:vQ.mro=[.ref aG,.type "ValueError",.type "Exception",.type "BaseException",.type "object"]) (ql:W.typeIn K (.ref aG)=some (.type "type"))
    (FP:W.clsIn K fB=some Ft) (FQ:Ft.mro=[.ref fB,.ref aG,.type "ValueError",.type "Exception",.type "BaseException",.type "object"]) (FT:W.typeIn K (.ref fB)=some (.type "type"))
    (zY:W.clsIn K dj=some zR) (zZ:zR.mro=[.ref dj,.ref aG,.type "ValueError",.type "Exception",.type "BaseException",.type "object"]) (z9:W.typeIn K (.ref dj)=some (.type "type"))
    (sJ:W.clsIn K bR=some sG) (sO:sG.mro=[.ref bR,.ref aG,.type "ValueError",.type "Exception",.type "BaseException",.type "object"]) (sS:W.typeIn K (.ref bR)=some (.type "type"))
    (FW:W.clsIn K fC=some Fv) (FZ:Fv.mro=[.ref fC,.ref aG,.type "ValueError",.type "Exception",.type "BaseException",.type "object"]) (Ga:W.typeIn K (.ref fC)=some (.type "type"))
    (wQ:W.clsIn K cB=some wL) (wR:wL.mro=[.ref cB,.ref aG,.type "ValueError",.type "Exception",.type "BaseException",.type "object"]) (wU:W.typeIn K (.ref cB)=some (.type "type"))
    (qm:W.clsIn K bK=some qe) (qp:qe.mro=[.ref bK,.ref aG,.type "ValueError",.type "Exception",.type "BaseException",.type "object"]) (qt:W.typeIn K (.ref bK)=some (.type "type"))
    (wV:W.clsIn K cC=some wM) (wW:wM.mro=[.ref cC,.ref aG,.type "ValueError",.type "Exception",.type "BaseException",.type "object"]) (wX:W.typeIn K (.ref cC)=some (.type "type"))
    (u5:W.clsIn K bw=some zT) (u6:zT.mro=[.ref bw,.ref aG,.type "ValueError",.type "Exception",.type "BaseException",.type "object"]) (u9:W.typeIn K (.ref bw)=some (.type "type"))
    (u_:W.clsIn K bh=some zU) (vd:zU.mro=[.ref bh,.ref aG,.type "ValueError",.type "Exception",.type "BaseException",.type "object"]) (vf:W.typeIn K (.ref bh)=some (.type "type"))
    (gZ:W.excIn K aG ju "ValueError.__new__" = true)
    (yM:W.excIn K fB ju "ValueError.__new__" = true)
    (uE:W.excIn K dj ju "ValueError.__new__" = true)
    (mC:W.excIn K bR ju "ValueError.__new__" = true)
    (yN:W.excIn K fC ju "ValueError.__new__" = true)
    (qN:W.excIn K cB ju "ValueError.__new__" = true)
    (kj:W.excIn K bK ju "ValueError.__new__" = true)
    (qO:W.excIn K cC ju "ValueError.__new__" = true)
    (qu:W.isClsIn K aG=true) (qey:W.specialIn K (.ref aG) "__getattribute__" = some (some (.builtin "type.__getattribute__"))) (qez:W.readsIn K aG (.type "type")=true) (qeA:W.findCls K (.ref aG) (.type "type") "__init__" = some (.val (.builtin "ValueError.__init__")))
    (Em:W.specialIn K (.builtin "object.__class__") "__get__" = some (some (.builtin "getset_descriptor.__get__"))) (En:W.takesIn K (.builtin "object.__class__")=some true)
    (Qn:JQ [aG,fB,dj,bR,fC,cB,bK,cC,bw,bh]=true)
    (Gb:Ft.hasDict=true) (Gd:W.findIn K (.ref fB) "__getattribute__" = some (some (.builtin "BaseException.__getattribute__"))) (Ge:W.findIn K (.ref fB) "__getattr__" = some none) (Gf:W.findIn K (.ref fB) "__class__" = some (some (.builtin "object.__class__"))) (Gg:W.keepIn K (.ref fB)=true)
    (z_:zR.hasDict=true) (Aa:W.findIn K (.ref dj) "__getattribute__" = some (some (.builtin "BaseException.__getattribute__"))) (Ab:W.findIn K (.ref dj) "__getattr__" = some none) (Ac:W.findIn K (.ref dj) "__class__" = some (some (.builtin "object.__class__"))) (Ad:W.keepIn K (.ref dj)=true)
    (sU:sG.hasDict=true) (sV:W.findIn K (.ref bR) "__getattribute__" = some (some (.builtin "BaseException.__getattribute__"))) (sW:W.findIn K (.ref bR) "__getattr__" = some none) (sX:W.findIn K (.ref bR) "__class__" = some (some (.builtin "object.__class__"))) (sY:W.keepIn K (.ref bR)=true)
    (Gh:Fv.hasDict=true) (Gi:W.findIn K (.ref fC) "__getattribute__" = some (some (.builtin "BaseException.__getattribute__"))) (Gj:W.findIn K (.ref fC) "__getattr__" = some none) (Gk:W.findIn K (.ref fC) "__class__" = some (some (.builtin "object.__class__"))) (Gm:W.keepIn K (.ref fC)=true)
    (wY:wL.hasDict=true) (wZ:W.findIn K (.ref cB) "__getattribute__" = some (some (.builtin "BaseException.__getattribute__"))) (w6:W.findIn K (.ref cB) "__getattr__" = some none) (xg:W.findIn K (.ref cB) "__class__" = some (some (.builtin "object.__class__"))) (xq:W.keepIn K (.ref cB)=true)
    (qw:qe.hasDict=true) (qx:W.findIn K (.ref bK) "__getattribute__" = some (some (.builtin "BaseException.__getattribute__"))) (qy:W.findIn K (.ref bK) "__getattr__" = some none) (qz:W.findIn K (.ref bK) "__class__" = some (some (.builtin "object.__class__"))) (qC:W.keepIn K (.ref bK)=true)
    (xr:wM.hasDict=true) (xu:W.findIn K (.ref cC) "__getattribute__" = some (some (.builtin "BaseException.__getattribute__"))) (xG:W.findIn K (.ref cC) "__getattr__" = some none) (xH:W.findIn K (.ref cC) "__class__" = some (some (.builtin "object.__class__"))) (xJ:W.keepIn K (.ref cC)=true)
    (vg:zT.hasDict=true) (vh:W.findIn K (.ref bw) "__getattribute__" = some (some (.builtin "BaseException.__getattribute__"))) (vm:W.findIn K (.ref bw) "__getattr__" = some none) (vo:W.findIn K (.ref bw) "__class__" = some (some (.builtin "object.__class__"))) (qT:W.keepIn K (.ref bw)=true)
    (vp:zU.hasDict=true) (vq:W.findIn K (.ref bh) "__getattribute__" = some (some (.builtin "BaseException.__getattribute__"))) (vA:W.findIn K (.ref bh) "__getattr__" = some none) (vB:W.findIn K (.ref bh) "__class__" = some (some (.builtin "object.__class__"))) (qU:W.keepIn K (.ref bh)=true)
    (Ae:K.lookup bw=some (excClassObj Ul Um bw YJ Uo [.ref aG,.type "ValueError",.type "Exception",.type "BaseException",.type "object"] Uq Us PX Ur P0 Ut Uu Uv Uw Ux Uy "ValueError.__new__")) (Af:W.findIn K (.ref bw) "__setattr__" = some (some (.builtin "object.__setattr__")))
    (gB:W.findIn K (.ref bw) "lot" = some none)
    (Ag:K.lookup bh=some (excClassObj Uz UG bh YK UJ [.ref aG,.type "ValueError",.type "Exception",.type "BaseException",.type "object"] UL U0 P_ UW Qa U3 U4 U5 U6 U7 U8 "ValueError.__new__")) (Ah:W.findIn K (.ref bh) "__setattr__" = some (some (.builtin "object.__setattr__")))
    (gC:W.findIn K (.ref bh) "tie" = some none)
    (gD:W.findIn K (.ref bh) "lot" = some none)
    (ji:W.nsIn K mainGlobals "ValueError" = some none)
    : ∃fd:FuncData,(∀(s:Shared) (v:Value),BindsTo s fd ⟨[v],[]⟩ [("_law_script",v)])∧∀base:Heap,K.In base→base.Ns mainGlobals mg→dG l.prog w K mg base mF 9 fa fd ["_law_script"] (Kr K):=by
  have e:=hfa.symm.trans (W.mg_of X G a40);cases e;have F1:=bV (st:=dJ) l1 c1 k1;have b1:=F1.binds (ps:=["web", "fixed"]) fun _ _ _ _ _ _=>jH fun _ _=>rfl;have F2:=bV (st:=eV) l2 c2 k2;have b2:=F2.binds (ps:=["start", "steps"]) fun _ _ _ _ _ _=>jH fun _ _=>rfl;have F3:=bV (st:=cQ) l3 c3 k3;have b3:=F3.binds (ps:=["web", "start", "steps"]) fun _ _ _ _ _ _=>wJ fun _ _ _=>rfl;have F4:=bV (st:=fY) l4 c4 k4;have b4:=F4.binds (ps:=["web"]) fun _ _ _ _ _ _=>jG fun _=>rfl;have F5:=bV (st:=pQ) l5 c5 k5;have b5:=F5.binds (ps:=["web"]) fun _ _ _ _ _ _=>jG fun _=>rfl;have F6:=bV (st:=dM) l6 c6 k6;have b6:=F6.binds (ps:=["self", "lot"]) fun _ _ _ _ _ _=>jH fun _ _=>rfl;have F7:=bV (st:=dN) l7 c7 k7;have b7:=F7.binds (ps:=["self", "tie", "lot"]) fun _ _ _ _ _ _=>wJ fun _ _ _=>rfl;have F8:=bV (st:=iV) l8 c8 k8;have b8:=F8.binds (ps:=["thing"]) fun _ _ _ _ _ _=>jG fun _=>rfl;have F9:=bV (st:=gO) l9 c9 k9;have b9:=F9.binds (ps:=["thing"]) fun _ _ _ _ _ _=>jG fun _=>rfl;have F10:=bV (st:=iw) l10 c10 k10;have b10:=F10.binds (ps:=["thing"]) fun _ _ _ _ _ _=>jG fun _=>rfl;have F11:=bV (st:=dO) l11 c11 k11;have b11:=F11.binds (ps:=["thing"]) fun _ _ _ _ _ _=>jG fun _=>rfl;have F12:=bV (st:=jw) l12 c12 k12;have b12:=F12.binds (ps:=["thing", "points"]) fun _ _ _ _ _ _=>jH fun _ _=>rfl;have F13:=bV (st:=fZ) l13 c13 k13;have b13:=F13.binds (ps:=["thing", "points"]) fun _ _ _ _ _ _=>jH fun _ _=>rfl;have F14:=bV (st:=f9) l14 c14 k14;have b14:=F14.binds (ps:=["self", "points", "ties"]) fun _ _ _ _ _ _=>wJ fun _ _ _=>rfl;have F15:=bV (st:=eX) l15 c15 k15;have b15:=F15.binds (ps:=["self"]) fun _ _ _ _ _ _=>jG fun _=>rfl;have F16:=bV (st:=gP) l16 c16 k16;have b16:=F16.binds (ps:=["self"]) fun _ _ _ _ _ _=>jG fun _=>rfl;have F17:=bV (st:=gQ) l17 c17 k17;have b17:=F17.binds (ps:=["self"]) fun _ _ _ _ _ _=>jG fun _=>rfl;have F18:=bV (st:=fQ) l18 c18 k18;have b18:=F18.binds (ps:=["web", "thing"]) fun _ _ _ _ _ _=>jH fun _ _=>rfl;have F19:=bV (st:=cR) l19 c19 k19;have b19:=F19.binds (ps:=["web", "thing"]) fun _ _ _ _ _ _=>jH fun _ _=>rfl;have F20:=bV (st:=cY) l20 c20 k20;have b20:=F20.binds (ps:=["web"]) fun _ _ _ _ _ _=>jG fun _=>rfl;have F21:=bV (st:=cZ) l21 c21 k21;have b21:=F21.binds (ps:=["web", "start", "numbers"]) fun _ _ _ _ _ _=>wJ fun _ _ _=>rfl;have F22:=bV (st:=fJ) l22 c22 k22;have b22:=F22.binds (ps:=["web", "met", "point", "number"]) fun _ _ _ _ _ _=>PN fun _ _ _ _=>rfl;have F23:=bV (st:=gb) l23 c23 k23;have b23:=F23.binds (ps:=["web", "met", "left"]) fun _ _ _ _ _ _=>wJ fun _ _ _=>rfl;have F24:=bV (st:=pR) l24 c24 k24;have b24:=F24.binds (ps:=["web"]) fun _ _ _ _ _ _=>jG fun _=>rfl;have F25:=bV (st:=iJ) l25 c25 k25;have b25:=F25.binds (ps:=["web", "thing", "met", "gone"]) fun _ _ _ _ _ _=>PN fun _ _ _ _=>rfl;have F26:=bV (st:=eY) l26 c26 k26;have b26:=F26.binds (ps:=["web", "thing"]) fun _ _ _ _ _ _=>jH fun _ _=>rfl;have F27:=bV (st:=yq) l27 c27 k27;have b27:=F27.binds (ps:=["_law_script", "_law_k"]) fun _ _ _ _ _ _=>jH fun _ _=>rfl;have F28:=bV (st:=q_) l28 c28 k28;have b28:=F28.binds (ps:=["_law_pot_here", "_law_many"]) fun _ _ _ _ _ _=>jH fun _ _=>rfl;have F29:=bV (st:=m8) l29 c29 k29;have b29:=F29.binds (ps:=["_law_pot_here", "_law_many"]) fun _ _ _ _ _ _=>jH fun _ _=>rfl;have F30:=bV (st:=m9) l30 c30 k30;have b30:=F30.binds (ps:=["_law_pot_here", "_law_things"]) fun _ _ _ _ _ _=>jH fun _ _=>rfl;have F31:=bV (st:=yr) l31 c31 k31;have b31:=F31.binds (ps:=["_law_pot_here", "_law_names_here"]) fun _ _ _ _ _ _=>jH fun _ _=>rfl;have F32:=bV (st:=tD) l32 c32 k32;have b32:=F32.binds (ps:=["_law_pot_here", "_law_points", "_law_most"]) fun _ _ _ _ _ _=>wJ fun _ _ _=>rfl;have F33:=bV (st:=iy) l33 c33 k33;have b33:=F33.binds (ps:=["_law_e"]) fun _ _ _ _ _ _=>jG fun _=>rfl;have F34:=bV (st:=pU) l34 c34 k34;have b34:=F34.binds (ps:=["_law_web_here", "_law_start", "_law_gone"]) fun _ _ _ _ _ _=>wJ fun _ _ _=>rfl;have F35:=bV (st:=iK) l35 c35 k35;have b35:=F35.binds (ps:=["_law_web_here", "_law_row"]) fun _ _ _ _ _ _=>jH fun _ _=>rfl;have F36:=bV (st:=iW) l36 c36 k36;have b36:=F36.binds (ps:=["_law_web_here"]) fun _ _ _ _ _ _=>jG fun _=>rfl;have F37:=bV (st:=rA) l37 c37 k37;have b37:=F37.binds (ps:=["_law_web_here"]) fun _ _ _ _ _ _=>jG fun _=>rfl;have F38:=bV (st:=cJ) l38 c38 k38;have b38:=F38.binds (ps:=["_law_told_here", "_law_due"]) fun _ _ _ _ _ _=>jH fun _ _=>rfl;have F39:=bV (st:=cH) l39 c39 k39;have b39:=F39.binds (ps:=["_law_web_here", "_law_names_here", "_law_ties", "_law_told_here"]) fun _ _ _ _ _ _=>PN fun _ _ _ _=>rfl;have F40:=bV (st:=yt) l40 c40 k40;have b40:=F40.binds (ps:=["_law_script"]) fun _ _ _ _ _ _=>jG fun _=>rfl;have T:Txt K mg {dW:=dW,jV:=W.fnOf "steps_along" "steps_along" (aK dJ) (aJ dJ) (ao dJ) .none kV1 dc1 pm1 an1 cd1 ct1,eZ:=eZ,lM:=W.fnOf "ways_along" "ways_along" (aK eV) (aJ eV) (ao eV) .none kV2 dc2 pm2 an2 cd2 ct2,dX:=dX,jW:=W.fnOf "found_along" "found_along" (aK cQ) (aJ cQ) (ao cQ) .none kV3 dc3 pm3 an3 cd3 ct3,gR:=gR,oW:=W.fnOf "clusters" "clusters" (aK fY) (aJ fY) (ao fY) .none kV4 dc4 pm4 an4 cd4 ct4,rE:=rE,BJ:=W.fnOf "bars" "bars" (aK pQ) (aJ pQ) (ao pQ) .none kV5 dc5 pm5 an5 cd5 ct5,cT:=cT,jX:=W.fnOf "__init__" "Parted.__init__" (aK dM) (aJ dM) (ao dM) .none kV6 dc6 pm6 an6 cd6 ct6,cU:=cU,jY:=W.fnOf "__init__" "Barred.__init__" (aK dN) (aJ dN) (ao dN) .none kV7 dc7 pm7 an7 cd7 ct7,iY:=iY,rF:=W.fnOf "is_list" "is_list" (aK iV) (aJ iV) (ao iV) .none kV8 dc8 pm8 an8 cd8 ct8,gU:=gU,oX:=W.fnOf "is_whole" "is_whole" (aK gO) (aJ gO) (ao gO) .none kV9 dc9 pm9 an9 cd9 ct9,iZ:=iZ,rG:=W.fnOf "is_name" "is_name" (aK iw) (aJ iw) (ao iw) .none qgX qgY qgZ qgs qd3 qg0,fj:=fj,lN:=W.fnOf "are_points" "are_points" (aK dO) (aJ dO) (ao dO) .none qg1 qg2 qg3 qgt qd4 qg4,jZ:=jZ,uU:=W.fnOf "is_tie" "is_tie" (aK jw) (aJ jw) (ao jw) .none qg5 qg6 qg7 qgu qd5 qg8,gV:=gV,oY:=W.fnOf "are_ties" "are_ties" (aK fZ) (aJ fZ) (ao fZ) .none qg9 qg_ qha qgv qd6 qhb,gk:=gk,oZ:=W.fnOf "__init__" "Web.__init__" (aK f9) (aJ f9) (ao f9) .none qhc qhd qhe qgw qd7 qhf,dY:=dY,lO:=W.fnOf "points" "Web.points" (aK eX) (aJ eX) (ao eX) .none qhg qhh qhi qgx qd8 qhj,gq:=gq,o9:=W.fnOf "ties" "Web.ties" (aK gP) (aJ gP) (ao gP) .none qhk qhl qhm qgy qd9 qhn,gw:=gw,o_:=W.fnOf "many" "Web.many" (aK gQ) (aJ gQ) (ao gQ) .none qho qhp qhq qgz qd_ qhr,fV:=fV,ni:=W.fnOf "is_number" "is_number" (aK fQ) (aJ fQ) (ao fQ) .none qhs qht qhu qgA qea qhv,dZ:=dZ,j4:=W.fnOf "are_numbers" "are_numbers" (aK cR) (aJ cR) (ao cR) .none qhw qhx qhy qgB qeb qhz,dg:=dg,jz:=W.fnOf "sure_of_ears" "sure_of_ears" (aK cY) (aJ cY) (ao cY) .none qhA qhB qhC qgC qec qhD,dh:=dh,jA:=W.fnOf "points_along" "points_along" (aK cZ) (aJ cZ) (ao cZ) .none qhE qhF qhG qgD qee qhH,gW:=gW,pq:=W.fnOf "way_back" "way_back" (aK fJ) (aJ fJ) (ao fJ) .none qhI qhJ qhK qgE qef qhL,gY:=gY,pA:=W.fnOf "next_ear" "next_ear" (aK gb) (aJ gb) (ao gb) .none qhM qhN qhO qgF qeg qhP,rJ:=rJ,BK:=W.fnOf "ears" "ears" (aK pR) (aJ pR) (ao pR) .none qhQ qhR qhS qgG qeh qhT,j6:=j6,uV:=W.fnOf "is_ear" "is_ear" (aK iJ) (aJ iJ) (ao iJ) .none qhU qhV qhW qgH qei qhX,fu:=fu,lQ:=W.fnOf "reads_ears" "reads_ears" (aK eY) (aJ eY) (ao eY) .none qhY qhZ qh0 qgI qej qh1,yu:=yu,JT:=W.fnOf "_law_pot" "_law_pot" (aK yq) (aJ yq) (ao yq) .none qh2 qh3 qh4 qgJ qek qh5,rK:=rK,BL:=W.fnOf "_law_take" "_law_take" (aK q_) (aJ q_) (ao q_) .none qh6 qh7 qh8 qgK qel qh9,nj:=nj,yx:=W.fnOf "_law_names" "_law_names" (aK m8) (aJ m8) (ao m8) .none qh_ qia qib qgL qem qic,nq:=nq,yC:=W.fnOf "_law_mixed" "_law_mixed" (aK m9) (aJ m9) (ao m9) .none qid qie qif qgM qen qig,yD:=yD,JV:=W.fnOf "_law_tie" "_law_tie" (aK yr) (aJ yr) (ao yr) .none qih qii qij qgN qeo qik,yE:=yE,JW:=W.fnOf "_law_web" "_law_web" (aK tD) (aJ tD) (ao tD) .none qil qim qin qgO qep qio,i_:=i_,rM:=W.fnOf "_law_classes" "_law_classes" (aK iy) (aJ iy) (ao iy) .none qip qiq qir qgP qeq qis,rN:=rN,BP:=W.fnOf "_law_hang" "_law_hang" (aK pU) (aJ pU) (ao pU) .none qit qiu qiv qgQ qer qiw,j7:=j7,uW:=W.fnOf "_law_walked" "_law_walked" (aK iK) (aJ iK) (ao iK) .none qix qiy qiz qgR qes qiA,jc:=jc,rO:=W.fnOf "_law_no_ears" "_law_no_ears" (aK iW) (aJ iW) (ao iW) .none qiB qiC qiD qgS qet qiE,rP:=rP,BW:=W.fnOf "_law_told" "_law_told" (aK rA) (aJ rA) (ao rA) .none qiF qiG qiH qgT qeu qiI,cL:=cL,jd:=W.fnOf "_law_refused_right" "_law_refused_right" (aK cJ) (aJ cJ) (ao cJ) .none qiJ qiK qiL qgU qev qiM,fW:=fW,nA:=W.fnOf "_law_row_right" "_law_row_right" (aK cH) (aJ cH) (ao cH) .none qiN qiO qiP qgV qew qiQ,Ax:=fa,JX:=W.fnOf "law" "law" (aK yt) (aJ yt) (ao yt) .none qiR qiS qiT qgW qex qiU,lA:=.str "abcdefghijklmnopqrstuvwxyz" wK,fK:=.int 4 mQ,gA:=.int 9 oA,iR:=.int 20 sE,cj:=cj,aG:=aG,fB:=fB,dj:=dj,bR:=bR,fC:=fC,cB:=cB,bK:=bK,cC:=cC,bw:=bw,bh:=bh}:={jx:=F1,lR:=b1,lU:=W.mg_of X G a1,nF:=F2,rQ:=b2,rR:=W.mg_of X G a2,lV:=F3,pW:=b3,pX:=W.mg_of X G a3,wz:=F4,DG:=b4,DK:=W.mg_of X G a4,O_:=F5,XR:=b5,XS:=W.mg_of X G a5,vG:=F6,vH:=b6,vI:=F7,vJ:=b7,jN:=F8,lB:=b8,lC:=W.mg_of X G a8,wA:=F9,DN:=b9,DP:=W.mg_of X G a9,qM:=F10,uX:=b10,uY:=W.mg_of X G a10,rT:=F11,yF:=b11,yG:=W.mg_of X G a11,DQ:=F12,Ma:=b12,Mf:=W.mg_of X G a12,wB:=F13,DR:=b13,DW:=W.mg_of X G a13,DX:=F14,rW:=b14,yH:=F15,je:=b15,jg:=⟨a15,i15,k15⟩,DY:=F16,nU:=b16,n6:=⟨a16,i16,k16⟩,D_:=F17,rY:=b17,rZ:=⟨a17,i17,k17⟩,ur:=F18,Ay:=b18,Az:=W.mg_of X G a18,pY:=F19,vK:=b19,vL:=W.mg_of X G a19,nW:=F20,uw:=b20,ux:=W.mg_of X G a20,iT:=F21,j8:=b21,j9:=W.mg_of X G a21,wC:=F22,Ea:=b22,Eb:=W.mg_of X G a22,wD:=F23,Ec:=b23,Ed:=W.mg_of X G a23,JZ:=F24,Pg:=b24,Ph:=W.mg_of X G a24,Ef:=F25,Mg:=b25,Mh:=W.mg_of X G a25,jf:=F26,j_:=b26,kh:=W.mg_of X G a26,X3:=F27,qby:=b27,qbz:=W.mg_of X G a27,mJ:=F28,nY:=b28,nZ:=W.mg_of X G a28,J0:=F29,Rh:=b29,Ri:=W.mg_of X G a29,BX:=F30,J1:=b30,J2:=W.mg_of X G a30,X4:=F31,qbA:=b31,qbB:=W.mg_of X G a31,X5:=F32,qbC:=b32,qbD:=W.mg_of X G a32,uZ:=F33,zK:=b33,zL:=W.mg_of X G a33,J3:=F34,Pj:=b34,Pk:=W.mg_of X G a34,yI:=F35,Eh:=b35,Ei:=W.mg_of X G a35,zM:=F36,HS:=b36,HW:=W.mg_of X G a36,Ej:=F37,J4:=b37,J_:=W.mg_of X G a37,jB:=F38,mK:=b38,mL:=W.mg_of X G a38,uy:=F39,A_:=b39,Bb:=W.mg_of X G a39,qbE:=F40,qfY:=b40,qfZ:=W.mg_of X G a40,HX:=W.mg_of X G lA,HY:=⟨wK,rfl⟩,uz:=W.mg_of X G fK,uD:=⟨mQ,rfl⟩,vM:=W.mg_of X G gA,vN:=⟨oA,rfl⟩,Bc:=W.mg_of X G iR,Bd:=⟨sE,rfl⟩,Ka:=Fy,BZ:=Fz,Rj:=W.mg_of X G Qc,kI:=⟨Qd,Qe,Qf,Qg⟩,Rk:=⟨Qh,a14,i14,Qi⟩,nm:=⟨W.mg_none_of X G YL,W.mg_none_of X G YM,W.mg_none_of X G YQ,W.mg_none_of X G YS,W.mg_none_of X G FJ,W.mg_none_of X G Ks,W.mg_none_of X G YT,W.mg_none_of X G Qj,W.mg_none_of X G Ku,W.mg_none_of X G YW,W.mg_none_of X G YX,W.mg_none_of X G YZ,W.mg_none_of X G Y0,W.mg_none_of X G sI⟩,XM:=⟨W.mg_none_of X G uI,W.mg_none_of X G Y4,W.mg_none_of X G Qk,W.mg_none_of X G FN,W.mg_none_of X G Ql,W.mg_none_of X G Qm⟩,nm3:=⟨W.mg_none_of X G Y5⟩,su:=W.mg_of X G qg,Rm:=W.mg_of X G Fw,Mi:=W.mg_of X G zV,Bf:=W.mg_of X G sH,Rn:=W.mg_of X G Fx,H_:=W.mg_of X G wN,yJ:=W.mg_of X G qj,Ia:=W.mg_of X G wO,yK:=W.mg_of X G zW,yL:=W.mg_of X G zX,gZ:=gZ,yM:=yM,uE:=uE,mC:=mC,yN:=yN,qN:=qN,kj:=kj,qO:=qO,ib:=qu,tb:=ql,ini:=⟨qey,qez,qeA⟩,Em:=Em,En:=En,nd:=HJ Qn,Mj:=⟨⟨_,FP,FQ,Gb⟩,FT,Gd,Ge,Gf,Gg⟩,Ib:=⟨⟨_,zY,zZ,z_⟩,z9,Aa,Ab,Ac,Ad⟩,yO:=⟨⟨_,sJ,sO,sU⟩,sS,sV,sW,sX,sY⟩,Ml:=⟨⟨_,FW,FZ,Gh⟩,Ga,Gi,Gj,Gk,Gm⟩,Ek:=⟨⟨_,wQ,wR,wY⟩,wU,wZ,w6,xg,xq⟩,vO:=⟨⟨_,qm,qp,qw⟩,qt,qx,qy,qz,qC⟩,El:=⟨⟨_,wV,wW,xr⟩,wX,xu,xG,xH,xJ⟩,jh:=⟨⟨_,u5,u6,vg⟩,u9,vh,vm,vo,qT⟩,gK:=⟨⟨_,u_,vd,vp⟩,vf,vq,vA,vB,qU⟩,qP:=⟨⟨_,_,_,_,_,_,_,_,_,_,_,_,_,_,_,Ae⟩,gZ,⟨_,lY,lZ⟩,a6,beq_iff_eq.mp i6,qT⟩,Ie:=XC.set ⟨⟨_,u5,u6,vg⟩,u9,vh,vm,vo,qT⟩ Af,gB:=gB,qQ:=⟨⟨_,_,_,_,_,_,_,_,_,_,_,_,_,_,_,Ag⟩,gZ,⟨_,lY,lZ⟩,a7,beq_iff_eq.mp i7,qU⟩,zN:=XC.set ⟨⟨_,u_,vd,vp⟩,vf,vq,vA,vB,qU⟩ Ah,gC:=gC,gD:=gD,ji:=W.mg_none_of X G ji};exact⟨_,fun s v=>.of_eq rfl,fun base _ _=>qd2 T⟩
theorem walk {l:W.OpenLaw} {q:Program} {loose:List Str} {XP:(Str→Option Value)→Heap→Prop} {YP:World→Heap→Prop} {d:DefRec} {K:Params→W.Frag} (hn:l.most=some 63) (hdf:d.params.defaults=[])
    (hY:∀(w:World) (h:Heap),YP w h→(K w.params).In h)
    (F:∀(w:World) (mg:Str→Option Value) (fa:Addr) (h:Heap),(K w.params).In h→h.Ns mainGlobals mg→mg d.name=some (.ref fa)→
      ∃fd:FuncData,(∀(s:Shared) (u:Value),BindsTo s fd ⟨[u],[]⟩ [("_law_script",u)])∧∀base:Heap,(K w.params).In base→base.Ns mainGlobals mg→dG l.prog w (K w.params) mg base mF 9 fa fd ["_law_script"] (Kr (K w.params))) :
    W.WalkO q loose XP YP l.row.toRowW d [] (fun f vs=>PySem.call f vs):=
  L2.ZL (n:=63) (k:=9) (x:= "_law_script") (CX:=fun _=>mF) (sp:=fun w=>Kr (K w.params)) hn (by decide) hdf ⟨rfl,by decide,by decide,rfl⟩ hY F (fun _ _ a ns hl _ hS=>⟨a,ns,rfl,hS,hl,fun _=>rfl⟩) fun _ _ _ _ _ z=>z
end TJ
end
set_option Elab.async false
set_option maxRecDepth 100000
set_option maxHeartbeats 4000000
open PySem PySem.W PyProof.Rows
namespace PySem.W.Fast
def tw16001596958904420102:=0
def tw5101677122128653947:=0
def tw14312543659473791277:=0
def tw7083596614490506710:=0
def tw12964517218202363616:=0
def tw14369476467767618874:=0
def tw16378817191312802427:=0
def tw14988657403637796200:=0
def tw7536193600677842256:=0
def tw12640359150772759515:=0
def tw13768931032754297097:=0
def tw15590497836461196711:=0
def tw16746013479321852646:=0
def tw8071919827688262217:=0
def tw9531576408562879239:=0
def tw3856020087982769554:=0
def tw10950867313425594462:=0
def tw3163968384674756765:=0
def tw2186909983603642525:=0
def tw15446620343714026578:=0
def tw14031297797548541851:=0
def tw4614168026223626945:=0
def tw6350478503706031758:=0
def tw17993620953712036780:=0
def tw68958482951414814:=0
def tw5544552079534898335:=0
def tw6254499592516709027:=0
def tw15417395099369037838:=0
def tw2054498284587332870:=0
def tw10508425790764244436:=0
end PySem.W.Fast
set_option maxRecDepth 100000 in
set_option maxHeartbeats 0 in
theorem PySem.Challenge.cw_pointways_k23_whole_ears_told_holds : PySem.Challenge.rw_pointways_k23_whole_ears_told.Holds := by
  w_on;o_law;k_head;(case hw=>w_witness2)
  k_fill
  refine TJ.walk (l:=PySem.Challenge.rw_pointways_k23_whole_ears_told) rfl rfl (fun w h Y=>W.kIn_of Y) ?F
  case F=>
    intro w mg fa h KX G hmg;refine' TJ.all_mk KX G hmg ?Qc ?qg ?Fw ?zV ?sH ?Fx ?wN ?qj ?wO ?zW ?zX ?a1 ?l1 ?c1 ?k1 ?a2 ?l2 ?c2 ?k2 ?a3 ?l3 ?c3 ?k3 ?a4 ?l4 ?c4 ?k4 ?a5 ?l5 ?c5 ?k5 ?a6 ?i6 ?l6 ?c6 ?k6 ?a7 ?i7 ?l7 ?c7 ?k7 ?a8 ?l8 ?c8 ?k8 ?a9 ?l9 ?c9 ?k9 ?a10 ?l10 ?c10 ?k10 ?a11 ?l11 ?c11 ?k11 ?a12 ?l12 ?c12 ?k12 ?a13 ?l13 ?c13 ?k13 ?a14 ?i14 ?l14 ?c14 ?k14 ?a15 ?i15 ?l15 ?c15 ?k15 ?a16 ?i16 ?l16 ?c16 ?k16 ?a17 ?i17 ?l17 ?c17 ?k17 ?a18 ?l18 ?c18 ?k18 ?a19 ?l19 ?c19 ?k19 ?a20 ?l20 ?c20 ?k20 ?a21 ?l21 ?c21 ?k21 ?a22 ?l22 ?c22 ?k22 ?a23 ?l23 ?c23 ?k23 ?a24 ?l24 ?c24 ?k24 ?a25 ?l25 ?c25 ?k25 ?a26 ?l26 ?c26 ?k26 ?a27 ?l27 ?c27 ?k27 ?a28 ?l28 ?c28 ?k28 ?a29 ?l29 ?c29 ?k29 ?a30 ?l30 ?c30 ?k30 ?a31 ?l31 ?c31 ?k31 ?a32 ?l32 ?c32 ?k32 ?a33 ?l33 ?c33 ?k33 ?a34 ?l34 ?c34 ?k34 ?a35 ?l35 ?c35 ?k35 ?a36 ?l36 ?c36 ?k36 ?a37 ?l37 ?c37 ?k37 ?a38 ?l38 ?c38 ?k38 ?a39 ?l39 ?c39 ?k39 ?a40 ?l40 ?c40 ?k40 ?lA ?fK ?gA ?iR ?Qd ?Qe ?Qf ?Qg ?Qh ?Qi ?Fy ?Fz ?YL ?YM ?YQ ?YS ?FJ ?Ks ?YT ?Qj ?Ku ?YW ?YX ?YZ ?Y0 ?sI ?uI ?Y4 ?Qk ?FN ?Ql ?Qm ?Y5 ?lY ?lZ ?ql ?FP ?FQ ?FT ?zY ?zZ ?z9 ?sJ ?sO ?sS ?FW ?FZ ?Ga ?wQ ?wR ?wU ?qm ?qp ?qt ?wV ?wW ?wX ?u5 ?u6 ?u9 ?u_ ?vd ?vf ?gZ ?yM ?uE ?mC ?yN ?qN ?kj ?qO ?qu ?qey ?qez ?qeA ?Em ?En ?Qn ?Gb ?Gd ?Ge ?Gf ?Gg ?z_ ?Aa ?Ab ?Ac ?Ad ?sU ?sV ?sW ?sX ?sY ?Gh ?Gi ?Gj ?Gk ?Gm ?wY ?wZ ?w6 ?xg ?xq ?qw ?qx ?qy ?qz ?qC ?xr ?xu ?xG ?xH ?xJ ?vg ?vh ?vm ?vo ?qT ?vp ?vq ?vA ?vB ?qU ?Ae ?Af ?gB ?Ag ?Ah ?gC ?gD ?ji
    (case Qc=>k_is)
    (case qg=>k_is)
    (case Fw=>k_is)
    (case zV=>k_is)
    (case sH=>k_is)
    (case Fx=>k_is)
    (case wN=>k_is)
    (case qj=>k_is)
    (case wO=>k_is)
    (case zW=>k_is)
    (case zX=>k_is)
    (case a1=>k_is)
    (case l1=>k_is)
    (case c1=>k_is)
    (case k1=>k_is)
    (case a2=>k_is)
    (case l2=>k_is)
    (case c2=>k_is)
    (case k2=>k_is)
    (case a3=>k_is)
    (case l3=>k_is)
    (case c3=>k_is)
    (case k3=>k_is)
    (case a4=>k_is)
    (case l4=>k_is)
    (case c4=>k_is)
    (case k4=>k_is)
    (case a5=>k_is)
    (case l5=>k_is)
    (case c5=>k_is)
    (case k5=>k_is)
    (case a6=>k_is)
    (case i6=>k_is)
    (case l6=>k_is)
    (case c6=>k_is)
    (case k6=>k_is)
    (case a7=>k_is)
    (case i7=>k_is)
    (case l7=>k_is)
    (case c7=>k_is)
    (case k7=>k_is)
    (case a8=>k_is)
    (case l8=>k_is)
    (case c8=>k_is)
    (case k8=>k_is)
    (case a9=>k_is)
    (case l9=>k_is)
    (case c9=>k_is)
    (case k9=>k_is)
    (case a10=>k_is)
    (case l10=>k_is)
    (case c10=>k_is)
    (case k10=>k_is)
    (case a11=>k_is)
    (case l11=>k_is)
    (case c11=>k_is)
    (case k11=>k_is)
    (case a12=>k_is)
    (case l12=>k_is)
    (case c12=>k_is)
    (case k12=>k_is)
    (case a13=>k_is)
    (case l13=>k_is)
    (case c13=>k_is)
    (case k13=>k_is)
    (case a14=>k_is)
    (case i14=>k_is)
    (case l14=>k_is)
    (case c14=>k_is)
    (case k14=>k_is)
    (case a15=>k_is)
    (case i15=>k_is)
    (case l15=>k_is)
    (case c15=>k_is)
    (case k15=>k_is)
    (case a16=>k_is)
    (case i16=>k_is)
    (case l16=>k_is)
    (case c16=>k_is)
    (case k16=>k_is)
    (case a17=>k_is)
    (case i17=>k_is)
    (case l17=>k_is)
    (case c17=>k_is)
    (case k17=>k_is)
    (case a18=>k_is)
    (case l18=>k_is)
    (case c18=>k_is)
    (case k18=>k_is)
    (case a19=>k_is)
    (case l19=>k_is)
    (case c19=>k_is)
    (case k19=>k_is)
    (case a20=>k_is)
    (case l20=>k_is)
    (case c20=>k_is)
    (case k20=>k_is)
    (case a21=>k_is)
    (case l21=>k_is)
    (case c21=>k_is)
    (case k21=>k_is)
    (case a22=>k_is)
    (case l22=>k_is)
    (case c22=>k_is)
    (case k22=>k_is)
    (case a23=>k_is)
    (case l23=>k_is)
    (case c23=>k_is)
    (case k23=>k_is)
    (case a24=>k_is)
    (case l24=>k_is)
    (case c24=>k_is)
    (case k24=>k_is)
    (case a25=>k_is)
    (case l25=>k_is)
    (case c25=>k_is)
    (case k25=>k_is)
    (case a26=>k_is)
    (case l26=>k_is)
    (case c26=>k_is)
    (case k26=>k_is)
    (case a27=>k_is)
    (case l27=>k_is)
    (case c27=>k_is)
    (case k27=>k_is)
    (case a28=>k_is)
    (case l28=>k_is)
    (case c28=>k_is)
    (case k28=>k_is)
    (case a29=>k_is)
    (case l29=>k_is)
    (case c29=>k_is)
    (case k29=>k_is)
    (case a30=>k_is)
    (case l30=>k_is)
    (case c30=>k_is)
    (case k30=>k_is)
    (case a31=>k_is)
    (case l31=>k_is)
    (case c31=>k_is)
    (case k31=>k_is)
    (case a32=>k_is)
    (case l32=>k_is)
    (case c32=>k_is)
    (case k32=>k_is)
    (case a33=>k_is)
    (case l33=>k_is)
    (case c33=>k_is)
    (case k33=>k_is)
    (case a34=>k_is)
    (case l34=>k_is)
    (case c34=>k_is)
    (case k34=>k_is)
    (case a35=>k_is)
    (case l35=>k_is)
    (case c35=>k_is)
    (case k35=>k_is)
    (case a36=>k_is)
    (case l36=>k_is)
    (case c36=>k_is)
    (case k36=>k_is)
    (case a37=>k_is)
    (case l37=>k_is)
    (case c37=>k_is)
    (case k37=>k_is)
    (case a38=>k_is)
    (case l38=>k_is)
    (case c38=>k_is)
    (case k38=>k_is)
    (case a39=>k_is)
    (case l39=>k_is)
    (case c39=>k_is)
    (case k39=>k_is)
    (case a40=>k_is)
    (case l40=>k_is)
    (case c40=>k_is)
    (case k40=>k_is)
    (case lA=>k_is)
    (case fK=>k_is)
    (case gA=>k_is)
    (case iR=>k_is)
    (case Qd=>k_is)
    (case Qe=>k_is)
    (case Qf=>k_is)
    (case Qg=>k_is)
    (case Qh=>k_is)
    (case Qi=>k_is)
    (case Fy=>k_is)
    (case Fz=>k_is)
    (case YL=>k_is)
    (case YM=>k_is)
    (case YQ=>k_is)
    (case YS=>k_is)
    (case FJ=>k_is)
    (case Ks=>k_is)
    (case YT=>k_is)
    (case Qj=>k_is)
    (case Ku=>k_is)
    (case YW=>k_is)
    (case YX=>k_is)
    (case YZ=>k_is)
    (case Y0=>k_is)
    (case sI=>k_is)
    (case uI=>k_is)
    (case Y4=>k_is)
    (case Qk=>k_is)
    (case FN=>k_is)
    (case Ql=>k_is)
    (case Qm=>k_is)
    (case Y5=>k_is)
    (case lY=>k_is)
    (case lZ=>rfl)
    (case ql=>k_is)
    (case FP=>k_is)
    (case FQ=>rfl)
    (case FT=>k_is)
    (case zY=>k_is)
    (case zZ=>rfl)
    (case z9=>k_is)
    (case sJ=>k_is)
    (case sO=>rfl)
    (case sS=>k_is)
    (case FW=>k_is)
    (case FZ=>rfl)
    (case Ga=>k_is)
    (case wQ=>k_is)
    (case wR=>rfl)
    (case wU=>k_is)
    (case qm=>k_is)
    (case qp=>rfl)
    (case qt=>k_is)
    (case wV=>k_is)
    (case wW=>rfl)
    (case wX=>k_is)
    (case u5=>k_is)
    (case u6=>rfl)
    (case u9=>k_is)
    (case u_=>k_is)
    (case vd=>rfl)
    (case vf=>k_is)
    (case gZ=>k_exc)
    (case yM=>k_exc)
    (case uE=>k_exc)
    (case mC=>k_exc)
    (case yN=>k_exc)
    (case qN=>k_exc)
    (case kj=>k_exc)
    (case qO=>k_exc)
    (case qu=>k_is)
    (case qey=>k_is)
    (case qez=>k_is)
    (case qeA=>k_is)
    (case Em=>k_is)
    (case En=>k_is)
    (case Qn=>decide+kernel)
    (case Gb=>rfl)
    (case Gd=>k_is)
    (case Ge=>k_is)
    (case Gf=>k_is)
    (case Gg=>k_is)
    (case z_=>rfl)
    (case Aa=>k_is)
    (case Ab=>k_is)
    (case Ac=>k_is)
    (case Ad=>k_is)
    (case sU=>rfl)
    (case sV=>k_is)
    (case sW=>k_is)
    (case sX=>k_is)
    (case sY=>k_is)
    (case Gh=>rfl)
    (case Gi=>k_is)
    (case Gj=>k_is)
    (case Gk=>k_is)
    (case Gm=>k_is)
    (case wY=>rfl)
    (case wZ=>k_is)
    (case w6=>k_is)
    (case xg=>k_is)
    (case xq=>k_is)
    (case qw=>rfl)
    (case qx=>k_is)
    (case qy=>k_is)
    (case qz=>k_is)
    (case qC=>k_is)
    (case xr=>rfl)
    (case xu=>k_is)
    (case xG=>k_is)
    (case xH=>k_is)
    (case xJ=>k_is)
    (case vg=>rfl)
    (case vh=>k_is)
    (case vm=>k_is)
    (case vo=>k_is)
    (case qT=>k_is)
    (case vp=>rfl)
    (case vq=>k_is)
    (case vA=>k_is)
    (case vB=>k_is)
    (case qU=>k_is)
    (case Ae=>k_is)
    (case Af=>k_is)
    (case gB=>k_is)
    (case Ag=>k_is)
    (case Ah=>k_is)
    (case gC=>k_is)
    (case gD=>k_is)
    (case ji=>k_is)


