import PyProof.Rows.All
import Wide.All
import OpenK.AllK
import Wide.FinOn
import Lean
import PyProof.EqAt
import PyProof.EqKinds
import PyProof.TupleCall
import PyProof.NeData
import PyProof.AttrMissHeap
import PyProof.FactsAll.enumerate_1
import KE.KDictOf
import PyProof.EnumMake
import PyProof.Rows.SumAny
import PyProof.Rows.StrJoin2
import PyProof.Rows.CountFlat
import PyProof.Rows.FoldWordsD
import PyProof.Rows.SeqMore2
import PyProof.Rows.MinMaxN
import PyProof.Rows.StrInSeq3
import PyProof.Rows.ReprR
import PyProof.StrLawsRepr
import PyProof.StrOps2
import PyProof.Rows.SeqMore
import PyProof.DictItems
import KE.KPairComp
import PySem.Challenge.RW_pointways_k41_whole_kept_or_shut_or_barr
set_option genSizeOfSpec false
noncomputable section
set_option Elab.async false
set_option linter.all false
set_option maxRecDepth 100000
namespace L2
open PySem PySem.Spec PyProof.Rows
abbrev Key:=Sum Int Str
def qw:Key→Value→Bool
  | .inl k,v=>Value.isInt k v
  | .inr x,v=>Value.isStrOf x v
def qh7 (w:World):Key→Int
  | .inl k=>hashInt k
  | .inr x=>hashStr w x
theorem cJ:∀{k:Key} {v:Value},qw k v=true→(∃i t,k=Sum.inl i∧v=Value.int i t)∨(∃x t,k=Sum.inr x∧v=Value.str x t)
  | .inl i,v,h=>by
    obtain⟨t,e⟩:=Value.isInt_shape (k:=i) (v:=v) h;exact .inl ⟨i,t,rfl,e⟩
  | .inr x,v,h=>by
    obtain⟨t,e⟩:=Value.isStrOf_shape (x:=x) (v:=v) h;exact .inr ⟨x,t,rfl,e⟩
theorem Dr (i:Int) (t:Tok):qw (.inl i) (.int i t)=true:=by simp[qw,Value.isInt]
theorem Ds (x:Str) (t:Tok):qw (.inr x) (.str x t)=true:=by simp[qw,Value.isStrOf]
theorem qaf (a b:Int):decide ((Sum.inl a:Key)=Sum.inl b)=(a == b):=by
  by_cases e:a=b
  ·subst e;simp
  ·have h:¬(Sum.inl a:Key)=Sum.inl b:=fun q=>e (Sum.inl.inj q);rw[decide_eq_false h];exact(beq_eq_false_iff_ne.mpr e).symm
theorem qag (a b:Str):decide ((Sum.inr a:Key)=Sum.inr b)=decide (a=b):=by
  by_cases e:a=b
  ·subst e;simp
  ·have h:¬(Sum.inr a:Key)=Sum.inr b:=fun q=>e (Sum.inr.inj q);rw[decide_eq_false h,decide_eq_false e]
theorem qah (a:Int) (b:Str):decide ((Sum.inl a:Key)=Sum.inr b)=false:=decide_eq_false (fun q=>nomatch q)
theorem qai (a:Str) (b:Int):decide ((Sum.inr a:Key)=Sum.inl b)=false:=decide_eq_false (fun q=>nomatch q)
def bL (prog:Program) (w:World):PySem.KeyKind prog w Key where
  is:=qw
  hash:=qh7 w
  inj:=fun v a b ha hb=>by
    rcases cJ ha with⟨i,t,rfl,rfl⟩ | ⟨x,t,rfl,rfl⟩
    · rcases cJ hb with⟨j,u,rfl,e⟩ | ⟨y,u,rfl,e⟩
      ·injection e with e1 _;rw[e1]
      ·exact nomatch e
    · rcases cJ hb with⟨j,u,rfl,e⟩ | ⟨y,u,rfl,e⟩
      ·exact nomatch e
      ·injection e with e1 _;rw[e1]
  byValue:=fun k v h=>by
    rcases cJ h with⟨i,t,rfl,rfl⟩ | ⟨x,t,rfl,rfl⟩ <;> rfl
  pyHash:=fun hv h=>by
    rcases cJ hv with⟨i,t,rfl,rfl⟩ | ⟨x,t,rfl,rfl⟩
    ·exact wpAny_pyHash_int h
    ·exact wpAny_pyHash_str h
  eqBool:=fun hu hv h=>by
    rcases cJ hu with⟨i,t,rfl,rfl⟩ | ⟨x,t,rfl,rfl⟩
    · rcases cJ hv with⟨j,u,rfl,rfl⟩ | ⟨y,u,rfl,rfl⟩
      ·rw[qaf] at h;exact wpAny_eqBool_int h
      ·rw[qah] at h;exact SeqAt.EqAt.int_str i t y u _ _ _ _ h
    · rcases cJ hv with⟨j,u,rfl,rfl⟩ | ⟨y,u,rfl,rfl⟩
      ·rw[qai] at h;exact SeqAt.EqAt.str_int x t j u _ _ _ _ h
      ·rw[qag] at h;exact wpAny_eqBool_str h
  «strs»:=fun k x t v h=>by
    rcases cJ h with⟨i,u,rfl,e⟩ | ⟨y,u,rfl,e⟩
    ·exact nomatch e
    ·injection e with e1 _;subst e1;cases v <;> rfl
theorem Kr (prog:Program) (w:World) (k:Key) (v:Value):(bL prog w).is k v=qw k v:=rfl
theorem HW (prog:Program) (w:World) (i:Int) (t:Tok):(bL prog w).is (.inl i) (.int i t)=true:=Dr i t
theorem HX (prog:Program) (w:World) (x:Str) (t:Tok):(bL prog w).is (.inr x) (.str x t)=true:=Ds x t
inductive V where
  | non | bl (b:Bool) | int (i:Int) | str (x:Str) | RB (b:Array UInt8) | flt (b:UInt64) | ref (a:Addr) | ty (n:String)
  deriving DecidableEq
def RelV:V→Value→Prop
  | .non,u=>u=Value.none
  | .bl b,u=>u=Value.bool b
  | .int i,u=>∃t,u=Value.int i t
  | .str x,u=>∃t,u=Value.str x t
  | .RB b,u=>∃t,u=Value.bytes b t
  | .flt b,u=>∃t,u=Value.float b t
  | .ref a,u=>u=Value.ref a
  | .ty n,u=>u=Value.type n
abbrev Vals:List V→List Value→Prop:=Paired RelV
theorem Vals.length {xs:List V} {us:List Value} (r:Vals xs us):xs.length=us.length:=Paired.length r
theorem Vals.get:∀{xs:List V} {us:List Value} {i:Nat} {x:V},Vals xs us→xs[i]? = some x→∃u,us[i]? = some u∧RelV x u
  | _,_,_,_,.nil,e=>by simp at e
  | _,_,0,_,.cons r _,e=>by simp at e;subst e;exact⟨_,rfl,r⟩
  | _,_,i+1,x,.cons _ t,e=>by
    obtain⟨u,h1,h2⟩:=Vals.get (i:=i) (x:=x) t (by simpa using e);exact⟨u,by simpa using h1,h2⟩
theorem Vals.set {x:V} {u:Value} (r:RelV x u):∀{xs:List V} {us:List Value} (i:Nat),Vals xs us→Vals (xs.set i x) (us.set i u)
  | _,_,_,.nil=>.nil
  | _,_,0,.cons _ t=>.cons r t
  | _,_,i+1,.cons q t=>.cons q (Vals.set r i t)
theorem Vals.append:∀{xs ys:List V} {us ws:List Value},Vals xs us→Vals ys ws→Vals (xs++ys) (us++ws)
  | _,_,_,_,.nil,s=>s
  | _,_,_,_,.cons r t,s=>.cons r (Vals.append t s)
theorem Vals.take:∀{xs:List V} {us:List Value} (n:Nat),Vals xs us→Vals (xs.take n) (us.take n)
  | _,_,0,_=>.nil
  | _,_,_+1,.nil=>.nil
  | _,_,n+1,.cons r t=>.cons r (Vals.take n t)
theorem Vals.drop:∀{xs:List V} {us:List Value} (n:Nat),Vals xs us→Vals (xs.drop n) (us.drop n)
  | _,_,0,r=>r
  | _,_,_+1,.nil=>.nil
  | _,_,n+1,.cons _ t=>Vals.drop n t
def lN:Option V→Option Value→Prop
  | some v,some u=>RelV v u
  | none,none=>True
  | _,_=>False
def KV {κ:Type}:List (κ×V)→List (κ×Value)→Prop:=Paired fun(p:κ×V) (q:κ×Value)=>p.1=q.1∧RelV p.2 q.2
def kV:Key→V
  | .inl i=>.int i
  | .inr x=>.str x
inductive HO where
  | lst (xs:List V)
  | tup (xs:List V)
  | dK (kvs:List (Key×V)) | dT (kvs:List (List Key×V))
  | set (S:Int→Bool) (n:Nat)
  | ins (C dx:Addr) (fs:List (Str×V))
  | own (x:Addr)
  | xd (fs:List (Str×V))
  | met (f x:Addr)
  | rng (lo hi:Int)
  | gZ (o:Obj) (u:HO)
  | Zc (ps:Array Value)
  | ext (φ:Heap→Prop)
abbrev Hp:=Addr→Option HO
def upd (H:Hp) (a:Addr) (o:HO):Hp:=fun b=>if b=a then some o else H b
theorem ao {H:Hp} {a:Addr} {o:HO}:upd H a o a=some o:=by unfold upd;rw[if_pos rfl]
theorem aD {H:Hp} {a b:Addr} {o:HO} (h:b≠a):upd H a o b=H b:=by unfold upd;rw[if_neg h]
theorem zR {H:Hp} {a b:Addr} {o u:HO} (h:H a=some o) (h':H b=some u) (d:o≠u):a≠b:=by
  intro e;subst e;rw[h] at h';exact d (Option.some.inj h')
theorem aP {H:Hp} {a b:Addr} {o:HO} (h:H a=some o) (h':H b=none):a≠b:=by
  intro e;subst e;rw[h] at h';cases h'
section
variable (P:Program) (w:World)
def bY (H:Hp) (h:Heap) (a:Addr):HO→Prop
  | .lst xs=>xs.length≤sizeLine∧∃(its:List Value) (n:Nat),Vals xs its∧h.get? a=some {cls:=.type "list",data:=.seq its.toArray n}
  | .tup xs=>xs.length≤sizeLine∧∃its:List Value,Vals xs its∧IsTup h a its.toArray
  | .dK kvs=>kvs.length≤sizeLine∧(a == sysModules)=false∧∃vs,KV kvs vs∧h.DictOf (bL P w) a vs
  | .dT kvs=>kvs.length≤sizeLine∧(a == sysModules)=false∧∃xs:List (List Key×Addr×Value),
      Paired (fun(p:List Key×V) (q:List Key×Addr×Value)=>p.1=q.1∧H q.2.1=some (.tup (p.1.map kV))∧RelV p.2 q.2.2) kvs xs∧
      ∃o es ep,h.get? a=some o∧o.ExactDict∧o.data = .dict es ep∧es.toList=xs.map (entryOfKey (tupleKind (bL P w)))∧(xs.map (·.1)).Nodup
  | .set S n=>h.SetOf (intKind P w) a S n
  | .ins C dx fs=>H dx=some (.own a)∧fs.length≤1000∧dx≠a∧h.get? a=some (W.instObj C dx)∧
      ∃mA,h.Ns1 dx mA∧(∀f,lN (fs.lookup f) (mA f))∧PySem.Within mA (fs.map (·.1))
  | .own _=>∃o,h.get? a=some o
  | .xd fs=>∃mA,h.Ns1 a mA∧∀f,lN (fs.lookup f) (mA f)
  | .rng lo hi=>∃t u v,h.get? a=some {cls:=.type "range",data:=.fields #[.int lo t,.int hi u,.int 1 v]}
  | .gZ o u=>h.get? a=some o∧bY H h a u
  | .Zc ps=>h.get? a=some {cls:=.none,data:=.fields ps}
  | .met f x=>h.get? a=some (W.methodObj (.ref f) (.ref x))
  | .ext φ=>φ h∧(∃o,h.get? a=some o)∧∀h1 h2:Heap,φ h1→(∀o,h1.get? a=some o→h2.get? a=some o)→φ h2
def qx (H:Hp) (h:Heap):Prop:=∀a o,H a=some o→bY P w H h a o
end
section
variable {P:Program} {w:World} {H H':Hp} {h h':Heap} {a:Addr} {o:HO}
theorem bY.lt (x:bY P w H h a o):a<h.objs.size:=by
  cases o with
  | lst xs=>obtain⟨_,_,_,_,e⟩:=x;exact Heap.lt_size e
  | tup xs=>obtain⟨_,_,_,p⟩:=x;exact p.lt
  | dK kvs=>obtain⟨_,_,_,_,o,_,_,e,_⟩:=x;exact Heap.lt_size e
  | dT kvs=>obtain⟨_,_,_,_,o,_,_,e,_⟩:=x;exact Heap.lt_size e
  | set S n=>obtain⟨o,_,_,_,e,_⟩:=x;exact Heap.lt_size e
  | ins C dx fs=>obtain⟨_,_,_,e,_⟩:=x;exact Heap.lt_size e
  | own y=>obtain⟨_,e⟩:=x;exact Heap.lt_size e
  | xd fs=>obtain⟨_,⟨_,_,_,e,_⟩,_⟩:=x;exact Heap.lt_size e
  | rng lo hi=>obtain⟨_,_,_,e⟩:=x;exact Heap.lt_size e
  | gZ ob u=>obtain⟨e,_⟩:=x;exact Heap.lt_size e
  | Zc ps=>exact Heap.lt_size (show h.get? a=some _ from x)
  | met f y=>exact Heap.lt_size (show h.get? a=some _ from x)
  | ext φ=>obtain⟨_,⟨_,e⟩,_⟩:=x;exact Heap.lt_size e
theorem Paired.qaj {α β:Type} {F G:α→β→Prop}:∀{l₁:List α} {l₂:List β},Paired F l₁ l₂→(∀a b,F a b→G a b)→Paired G l₁ l₂
  | _,_,.nil,_=>.nil
  | _,_,.cons r t,f=>.cons (f _ _ r) (Paired.qaj t f)
theorem bY.stay (x:bY P w H h a o) (k:∀b u,(b=a∨H b=some (.own a))→h.get? b=some u→h'.get? b=some u)
    (ho:∀b,H b=some (.own a)→H' b=some (.own a)) (ht:∀b xs,H b=some (.tup xs)→H' b=some (.tup xs)):bY P w H' h' a o:=by
  induction o with
  | lst xs=>obtain⟨z,its,n,r,e⟩:=x;exact⟨z,its,n,r,k _ _ (.inl rfl) e⟩
  | tup xs=>obtain⟨z,its,r,ob,e,c⟩:=x;exact⟨z,its,r,ob,k _ _ (.inl rfl) e,c⟩
  | dK kvs=>obtain⟨z,y,vs,r,ob,es,ep,e,c⟩:=x;exact⟨z,y,vs,r,ob,es,ep,k _ _ (.inl rfl) e,c⟩
  | dT kvs=>
    obtain⟨z,y,xs,r,ob,es,ep,e,c⟩:=x;exact⟨z,y,xs,Paired.qaj r fun p q z=>⟨z.1,ht _ _ z.2.1,z.2.2⟩,ob,es,ep,k _ _ (.inl rfl) e,c⟩
  | set S n=>obtain⟨ob,es,ep,t,e,c⟩:=x;exact⟨ob,es,ep,t,k _ _ (.inl rfl) e,c⟩
  | ins C dx fs=>
    obtain⟨d,z,ne,e,mA,⟨od,es,ep,e2,c⟩,r⟩:=x;exact⟨ho _ d,z,ne,k _ _ (.inl rfl) e,mA,⟨od,es,ep,k _ _ (.inr d) e2,c⟩,r⟩
  | own y=>obtain⟨ob,e⟩:=x;exact⟨ob,k _ _ (.inl rfl) e⟩
  | xd fs=>obtain⟨mA,⟨od,es,ep,e,c⟩,r⟩:=x;exact⟨mA,⟨od,es,ep,k _ _ (.inl rfl) e,c⟩,r⟩
  | rng lo hi=>obtain⟨t,u,v,e⟩:=x;exact⟨t,u,v,k _ _ (.inl rfl) e⟩
  | gZ ob u ih=>obtain⟨e,q⟩:=x;exact⟨k _ _ (.inl rfl) e,ih q⟩
  | Zc ps=>
    have e:h.get? a=some {cls:=.none,data:=.fields ps}:=x;show h'.get? a=some {cls:=.none,data:=.fields ps};exact k a _ (.inl rfl) e
  | met f y=>
    have e:h.get? a=some (W.methodObj (.ref f) (.ref y)):=x;show h'.get? a=some (W.methodObj (.ref f) (.ref y));exact k a _ (.inl rfl) e
  | ext φ=>obtain⟨p,⟨o,e⟩,st⟩:=x;exact⟨st _ _ p fun o q=>k _ _ (.inl rfl) q,⟨o,k _ _ (.inl rfl) e⟩,st⟩
theorem qx.lt (x:qx P w H h) (e:H a=some o):a<h.objs.size:=(x a o e).lt
theorem qx.fresh (x:qx P w H h) (e:h.objs.size≤a):H a=none:=by
  cases q:H a with
  | none=>rfl
  | some u=>exact absurd (Nat.lt_of_lt_of_le (x.lt q) e) (Nat.lt_irrefl _)
theorem qx.kept (x:qx P w H h) (k:∀b u,h.get? b=some u→h'.get? b=some u):qx P w H h':=fun a o e=>
  (x a o e).stay (fun b u _ q=>k b u q) (fun _ q=>q) fun _ _ q=>q
theorem qx.laid (x:qx P w H h) (k:∀b u,h.get? b=some u→h'.get? b=some u) (hp:h.objs.size≤a) (new:bY P w (upd H a o) h' a o):qx P w (upd H a o) h':=fun b u e=>by
  have hn:=x.fresh hp
  by_cases hb:b=a
  ·subst hb;rw[ao] at e;cases e;exact new
  ·rw[aD hb] at e;exact(x b u e).stay (fun c v _ q=>k c v q) (fun c q=>by rw[aD (aP q hn)];exact q) fun c xs q=>by rw[aD (aP q hn)];exact q
end
def Rd (H:Hp) (a:Addr) (u:HO):Prop:=H a=some u∨∃o,H a=some (.gZ o u)
theorem Rd.ok {P:Program} {w:World} {H:Hp} {h:Heap} {a:Addr} {u:HO} (r:Rd H a u) (x:qx P w H h):bY P w H h a u:=by
  rcases r with r | ⟨o,r⟩
  ·exact x a u r
  ·obtain⟨_,q⟩:=x a _ r;exact q
def Mut:Option HO→Prop
  | some (.lst _)=>True
  | some (.dK _)=>True
  | some (.dT _)=>True
  | some (.set _ _)=>True
  | some (.ins _ _ _)=>True
  | some (.ext _)=>True
  | _=>False
section
variable {P:Program} {w:World} {H:Hp} {h h':Heap} {x e:Addr} {o':HO}
theorem qx.write (ok:qx P w H h) (mu:Mut (H x)) (he:e=x∨H e=some (.own x)) (k:∀b u,b≠e→h.get? b=some u→h'.get? b=some u) (heo:∃u,h'.get? e=some u)
    (new:bY P w (upd H x o') h' x o'):qx P w (upd H x o') h':=fun b u q=>by
  have qcI:∀c y,H c=some (.own y)→c≠x:=fun c y r z=>by subst z;rw[r] at mu;exact mu
  have qh8:∀c xs,H c=some (.tup xs)→c≠x:=fun c xs r z=>by subst z;rw[r] at mu;exact mu
  by_cases hb:b=x
  ·subst hb;rw[ao] at q;cases q;exact new
  · rw[aD hb] at q
    by_cases hbe:b=e
    · have q':H b=some (.own x):=by
        rcases he with z | z
        ·exact absurd (hbe.trans z) hb
        ·rw[hbe];exact z
      rw[q] at q';cases q';obtain⟨v,hv⟩:=heo;exact⟨v,by rw[hbe];exact hv⟩
    · refine(ok b u q).stay (fun c v hc r=>k c v ?_ r) (fun c r=>by rw[aD (qcI c b r)];exact r) fun c xs r=>by rw[aD (qh8 c xs r)];exact r
      rcases hc with rfl | hc
      ·exact hbe
      · rintro rfl
        rcases he with z | z
        ·exact qcI c b hc z
        ·rw[hc] at z;cases z;exact hb rfl
end
structure Un (fs ex:List Addr) (H H':Hp) (h h':Heap):Prop where
  keep:∀b o,h.get? b=some o→H b=none→b∉fs→b∉ex→h'.get? b=some o
  slot:∀b o,h.get? b=some o→H b=none→b∈fs→b∉ex→∃sl,h'.get? b=some {o with slots:=sl}
  free:∀b o,h.get? b=some o→H b=none→b∉ex→H' b=none
  there:∀b o,h.get? b=some o→b∉ex→∃o',h'.get? b=some o'
  tups:∀b xs,H b=some (.tup xs)→H' b=some (.tup xs)
  oY:∀b o u,H b=some (.gZ o u)→H' b=some (.gZ o u)
  qK:∀b ps,H b=some (.Zc ps)→∃more,H' b=some (.Zc (ps++more))
section
variable {fs fs' ex ex':List Addr} {H H1 H2:Hp} {h h1 h2 h':Heap} {a x e:Addr} {o:HO}
theorem Un.any (u:Un fs ex H H1 h h1) {b:Addr} {ob:Obj} (q:h.get? b=some ob) (n:H b=none) (hx:b∉ex):∃sl,h1.get? b=some {ob with slots:=sl}:=by
  by_cases hb:b∈fs
  ·exact u.slot b ob q n hb hx
  ·exact⟨ob.slots,u.keep b ob q n hb hx⟩
theorem Un.kept (k:∀b u,h.get? b=some u→h'.get? b=some u):Un fs ex H H h h':=
  ⟨fun b ob q _ _ _=>k b ob q,fun b ob q _ _ _=>⟨ob.slots,k b ob q⟩,fun _ _ _ n _=>n,fun b ob q _=>⟨ob,k b ob q⟩,fun _ _ q=>q,fun _ _ _ q=>q,fun _ ps q=>⟨#[],by rw[q];simp⟩⟩
theorem Un.refl:Un fs ex H H h h:=Un.kept fun _ _ q=>q
theorem Un.laid (k:∀b u,h.get? b=some u→h'.get? b=some u) (hp:h.objs.size≤a) (hn:H a=none):Un fs ex H (upd H a o) h h' where
  keep:=fun b u q _ _ _=>k b u q
  slot:=fun b u q _ _ _=>⟨u.slots,k b u q⟩
  free:=fun b u q n _=>by rw[aD (Nat.ne_of_lt (Nat.lt_of_lt_of_le (Heap.lt_size q) hp))];exact n
  there:=fun b u q _=>⟨u,k b u q⟩
  tups:=fun b xs q=>by rw[aD (aP q hn)];exact q
  oY:=fun b u xs q=>by rw[aD (aP q hn)];exact q
  qK:=fun b ps q=>⟨#[],by rw[aD (aP q hn),q];simp⟩
theorem Un.write (mu:Mut (H x)) (he:e=x∨H e=some (.own x)) (k:∀b u,b≠e→h.get? b=some u→h'.get? b=some u) (heo:∃u,h'.get? e=some u):Un fs ex H (upd H x o) h h':=by
  have hx:∀b,H b=none→b≠x:=fun b n z=>by subst z;rw[n] at mu;exact mu
  have hb:∀b,H b=none→b≠e:=fun b n z=>by
    subst z
    rcases he with r | r
    ·exact hx b n r
    ·rw[n] at r;cases r
  have hm:∀b u,H b=some u→¬Mut (some u)→b≠x:=fun b u q nm z=>by subst z;rw[q] at mu;exact nm mu
  refine⟨fun b u q n _ _=>k b u (hb b n) q,fun b u q n _ _=>⟨u.slots,k b u (hb b n) q⟩,fun b u q n _=>by rw[aD (hx b n)];exact n,fun b u q _=>?_,
    fun b xs q=>by rw[aD (hm b _ q fun z=>z)];exact q,fun b u xs q=>by rw[aD (hm b _ q fun z=>z)];exact q,fun b ps q=>⟨#[],by rw[aD (hm b _ q fun z=>z),q];simp⟩⟩
  by_cases hbe:b=e
  ·subst hbe;exact heo
  ·exact⟨u,k b u hbe q⟩
end
def trk (h:Heap) (H:Hp):List Addr:=(List.range h.objs.size).filter fun a=>(H a).isSome
def Fo (h:Heap) (H:Hp):Heap:=W.hideAll h (trk h H)
theorem Pu (h:Heap) (H:Hp):(Fo h H).objs.size=h.objs.size:=W.hideAll_size _ _
theorem RX {h:Heap} {H:Hp} {b:Addr} {o:Obj} (e:h.get? b=some o) (n:H b=none):(Fo h H).get? b=some o:=
  W.hideAll_get _ e fun hm=>by
    have q:(H b).isSome=true:=(List.mem_filter.mp hm).2;rw[n] at q;simp at q
theorem WR {h:Heap} {H:Hp} {b:Addr} {o:Obj} (e:(Fo h H).get? b=some o):h.get? b=some o∧H b=none:=by
  have e':h.get? b=some o:=W.of_hideAll (trk h H) e;refine⟨e',?_⟩;cases q:H b with
  | none=>rfl
  | some x=>
    have hm:b∈trk h H:=List.mem_filter.mpr ⟨List.mem_range.mpr (Heap.lt_size e'),by simp[q]⟩;have z:(Fo h H).get? b=none:=W.hideAll_none (trk h H) hm;rw[z] at e;cases e
def WT (g h:Heap) (L:Addr):List (Addr×Obj):=(List.range h.objs.size).filterMap fun a=>if a=L∨(g.get? a).isSome=true then none else (h.get? a).map fun o=>(a,o)
def rest (g h:Heap) (L d:Addr):List (Addr×Obj):=(WT g h L).filter fun p=>decide (p.1≠d)
structure Mod (K:W.Frag) (mg:Str→Option Value) (base:Heap):Prop where
  Nr:K.In base
  glob:base.Ns mainGlobals mg
  blt:∃mb,base.Ns builtinsNs mb∧∀x:Str,x≠ "__name__" →mb x=bootBuiltins x
  nolimit:base.NoLimit
set_option genInjectivity false in
structure Cx where
  prog:Program
  w:World
  K:W.Frag
  mg:Str→Option Value
  base:Heap
  A:Around
  N:List Str
  s₀:Shared
  H₀:Hp
  env:Env
  outer:List Env
  stack:List Env
  ex:List Addr
  fn:Str→Bool
  calm:Bool
  pn:List (Addr×Obj)
  xe:Value→Shared→Prop
def frs (l:List Env):List Addr:=l.filterMap (·.frame)
abbrev Cx.fs (X:Cx):List Addr:=frs X.outer
def Vis (sc:Scope) (x:Str):Prop:=sc.names.lookup x=some .local∨sc.names.lookup x=some .cell∨sc.names.lookup x=some .free
def Loc (sc:Scope) (x:Str):Prop:=sc.names.lookup x=some .local∨sc.names.lookup x=some .cell
def Look (env:Env) (h:Heap) (m:Str→Option Value) (x:Str) (u:Value):Prop:=
  (env.kindOf x=some .local∧m x=some u)∨((env.kindOf x=some .cell∨env.kindOf x=some .free)∧∃c,env.cells.lookup x=some c∧h.IsCell c (some u))
structure Cx.Ok (X:Cx):Prop where
  mod:Mod X.K X.mg X.base
  kind:X.env.scope.kind = .function
  glob:X.env.globals=mainGlobals
  blt:X.env.builtins=builtinsNs
  above:X.s₀.heap.objs.size≤X.env.locals
  inj:∀x y c,X.env.cells.lookup x=some c→X.env.cells.lookup y=some c→x=y
  has:∀x,(X.env.kindOf x=some .cell∨X.env.kindOf x=some .free)→∃c,X.env.cells.lookup x=some c
  cab:∀x c,X.fn x=true→X.env.cells.lookup x=some c→X.s₀.heap.objs.size≤c
  hd:X.calm=true→X.A.handled=none
  frames:X.A.frames=some X.stack
  stk:X.stack=X.outer∨(X.stack=X.env::X.outer∧X.env.frame=some X.env.locals)
  exf:∀b∈X.ex,b≠X.env.locals∧∀x c,X.env.cells.lookup x=some c→c≠b
  bs:∀b o,X.base.get? b=some o→X.s₀.heap.get? b=some o∧X.H₀ b=none
  RD:X.base.objs.size≤X.s₀.heap.objs.size
  HY:∀b o,X.base.get? b=some o→b∉X.ex
  H_:∀b∈X.ex,b∉X.fs
  tQ:X.s₀.heap.FunFrames X.base X.outer
  Wy:∀b∈X.fs,X.H₀ b=none
structure Inv (X:Cx) (p_:List (Addr×Obj)) (σ:List (Option V)) (H:Hp) (s:Shared):Prop where
  ok:X.Ok
  os:s.os=X.s₀.os
  bare:AllBare s.gens
  base:Un X.fs X.ex X.H₀ H X.s₀.heap s.heap
  loc:∃m,s.heap.Ns X.env.locals m∧∀(i:Nat) (x:Str) (v:V),X.N[i]? = some x→σ[i]? = some (some v)→Vis X.env.scope x→∃u,RelV v u∧Look X.env s.heap m x u
  cell:∀x c,X.env.cells.lookup x=some c→∃v,s.heap.IsCell c v
  free:H X.env.locals=none
  iU:∀x c,X.env.cells.lookup x=some c→H c=none
  pin:∀p∈X.pn++p_,s.heap.get? p.1=some p.2∧H p.1=none∧p.1≠X.env.locals∧p.1∉X.fs∧∀v,p.2.data≠.cell v
  hok:qx X.prog X.w H s.heap
  len:σ.length=X.N.length
section
variable {X:Cx} {p_:List (Addr×Obj)} {σ:List (Option V)} {H H':Hp} {s:Shared} {h':Heap}
theorem Cx.Ok.qh9 (ok:X.Ok) {b:Addr} {o:Obj} (e:X.base.get? b=some o):b∉X.fs:=fun hb=>by
  have:=(ok.tQ.mem hb).1;rw[e] at this;cases this
theorem Inv.bs (I:Inv X p_ σ H s):∀b o,X.base.get? b=some o→s.heap.get? b=some o∧H b=none:=fun b o e=>
  ⟨I.base.keep b o (I.ok.bs b o e).1 (I.ok.bs b o e).2 (I.ok.qh9 e) (I.ok.HY b o e),I.base.free b o (I.ok.bs b o e).1 (I.ok.bs b o e).2 (I.ok.HY b o e)⟩
theorem Inv.bk (I:Inv X p_ σ H s):∀b o,X.base.get? b=some o→s.heap.get? b=some o:=fun b o e=>(I.bs b o e).1
theorem Inv.mod (I:Inv X p_ σ H s):Mod X.K X.mg X.base:=I.ok.mod
theorem Inv.nq (I:Inv X p_ σ H s):X.K.In s.heap:=I.ok.mod.Nr.keeps I.bk
theorem Inv.lt (I:Inv X p_ σ H s):X.env.locals<s.heap.objs.size:=let ⟨_,hn,_⟩:=I.loc;hn.lt
theorem Inv.sz (I:Inv X p_ σ H s):X.s₀.heap.objs.size≤s.heap.objs.size:=Nat.le_trans I.ok.above (Nat.le_of_lt I.lt)
theorem Inv.qh_ (I:Inv X p_ σ H s) {a:Addr} (h:s.heap.objs.size≤a):a∉X.fs:=fun hb=>by
  obtain⟨_,o,ho,_⟩:=I.ok.tQ.mem hb;exact absurd (Nat.lt_of_lt_of_le (Heap.lt_size ho) (Nat.le_trans I.sz h)) (Nat.lt_irrefl _)
theorem Inv.WW (I:Inv X p_ σ H s):∀x c,X.env.cells.lookup x=some c→c≠X.env.locals:=fun x c e z=>by
  obtain⟨v,o,ho,hd⟩:=I.cell x c e;obtain⟨m,⟨o',es,ep,ho',hd',_⟩,_⟩:=I.loc;rw[z,ho'] at ho;cases ho;rw[hd'] at hd;cases hd
theorem Inv.tQ (I:Inv X p_ σ H s):s.heap.FunFrames X.base X.outer:=by
  have all:∀(l:List Env),(∀b∈frs l,b∈X.fs)→X.s₀.heap.FunFrames X.base l→s.heap.FunFrames X.base l:=by
    intro l
    induction l with
    | nil=>intro _ _;trivial
    | cons env r ih=>
      intro hs hl;obtain⟨hk,⟨L,o,hf,hn,ho,hd⟩,hr⟩:=hl;have hL:L∈X.fs:=hs L (by unfold frs;rw[List.filterMap_cons,hf];exact List.mem_cons_self);obtain⟨sl,e⟩:=I.base.slot L o ho (I.ok.Wy L hL) hL fun z=>I.ok.H_ L z hL;exact⟨hk,⟨L,_,hf,hn,e,hd⟩,ih (fun b hb=>hs b (by unfold frs;rw[List.filterMap_cons,hf];exact List.mem_cons_of_mem _ hb)) hr⟩
  exact all X.outer (fun _ hb=>hb) I.ok.tQ
theorem Inv.stack (I:Inv X p_ σ H s):s.heap.FunFrames X.base X.stack:=by
  rcases I.ok.stk with e | ⟨e,hf⟩
  ·rw[e];exact I.tQ
  ·rw[e];obtain⟨m,hn,_⟩:=I.loc;refine .cons (by rw[I.ok.kind];decide) hf hn ?_ I.tQ;exact Heap.get?_none_of_le (Nat.le_trans I.ok.RD I.ok.above)
theorem Inv.uh (I:Inv X p_ σ H s):∀b∈frs X.stack,b∈X.env.locals::X.fs:=fun b hb=>by
  rcases I.ok.stk with e | ⟨e,hf⟩
  ·rw[e] at hb;exact List.mem_cons_of_mem _ hb
  ·rw[e] at hb;unfold frs at hb;rw[List.filterMap_cons,hf] at hb;exact hb
theorem Inv.yZ (I:Inv X p_ σ H s):∀b∈frs X.stack,H b=none:=fun b hb=>by
  rcases List.mem_cons.mp (I.uh b hb) with e | hb
  ·rw[e];exact I.free
  ·obtain⟨_,o,ho,_⟩:=I.ok.tQ.mem hb;exact I.base.free b o ho (I.ok.Wy b hb) fun z=>I.ok.H_ b z hb
theorem Inv.step {g':Array GenState} {t':Nat} {d':Drawn} {ch:List Addr} (I:Inv X p_ σ H s)
    (hch:∀b∈ch,(b∈X.ex∨X.s₀.heap.objs.size≤b)∧b≠X.env.locals∧(∀x c,X.env.cells.lookup x=some c→c≠b)∧∀p∈X.pn++p_,p.1≠b)
    (keep:∀b o,b≠X.env.locals→b∉X.fs→b∉ch→s.heap.get? b=some o→H b=none→h'.get? b=some o)
    (slot:∀b o,b≠X.env.locals→b∈X.fs→b∉ch→s.heap.get? b=some o→H b=none→∃sl,h'.get? b=some {o with slots:=sl}) (free:∀b o,b∉ch→s.heap.get? b=some o→H b=none→H' b=none)
    (there:∀b o,b∉ch→s.heap.get? b=some o→∃o',h'.get? b=some o')
    (tups:∀b xs,H b=some (.tup xs)→H' b=some (.tup xs)) (oY:∀b o u,H b=some (.gZ o u)→H' b=some (.gZ o u)) (qK:∀b ps,H b=some (.Zc ps)→∃more,H' b=some (.Zc (ps++more)))
    (ns:∀m,s.heap.Ns X.env.locals m→h'.Ns X.env.locals m) (hok:qx X.prog X.w H' h') (hg:AllBare g') :
    Inv X p_ σ H' {s with heap:=h',gens:=g',drawn:=d',toks:=t'}:=by
  have neL:∀b o,X.s₀.heap.get? b=some o→b≠X.env.locals:=fun b o e=>Nat.ne_of_lt (Nat.lt_of_lt_of_le (Heap.lt_size e) I.ok.above);have neC:∀b o,X.s₀.heap.get? b=some o→b∉X.ex→b∉ch:=fun b o e hx hb=>by
    rcases(hch b hb).1 with z | z
    ·exact hx z
    ·exact absurd (Nat.lt_of_lt_of_le (Heap.lt_size e) z) (Nat.lt_irrefl _)
  have cellK:∀x c,X.env.cells.lookup x=some c→∀v,s.heap.IsCell c v→h'.IsCell c v:=fun x c e v ⟨o,ho,hd⟩=>by
    have nch:c∉ch:=fun z=>(hch c z).2.2.1 x c e rfl
    by_cases hc:c∈X.fs
    ·obtain⟨sl,q⟩:=slot c o (I.WW x c e) hc nch ho (I.iU x c e);exact⟨_,q,hd⟩
    ·exact⟨o,keep c o (I.WW x c e) hc nch ho (I.iU x c e),hd⟩
  refine⟨I.ok,I.os,hg,⟨fun b o e n hb hx=>?_,fun b o e n hb hx=>?_,fun b o e n hx=>?_,fun b o e hx=>?_,fun b xs e=>tups b xs (I.base.tups b xs e),fun b o xs e=>oY b o xs (I.base.oY b o xs e),fun b ps e=>?_⟩,?_,fun x c e=>?_,?_,fun x c e=>?_,fun p hp=>?_,hok,I.len⟩
  ·exact keep b o (neL b o e) hb (neC b o e hx) (I.base.keep b o e n hb hx) (I.base.free b o e n hx)
  ·obtain⟨sl,e1⟩:=I.base.slot b o e n hb hx;obtain⟨sl',e2⟩:=slot b _ (neL b o e) hb (neC b o e hx) e1 (I.base.free b o e n hx);exact⟨sl',e2⟩
  ·obtain⟨o',e1⟩:=I.base.there b o e hx;exact free b o' (neC b o e hx) e1 (I.base.free b o e n hx)
  ·obtain⟨o',e1⟩:=I.base.there b o e hx;exact there b o' (neC b o e hx) e1
  ·obtain⟨m1,e1⟩:=I.base.qK b ps e;obtain⟨m2,e2⟩:=qK b _ e1;exact⟨m1++m2,by rw[e2,Array.append_assoc]⟩
  · obtain⟨m,hn,hl⟩:=I.loc;refine⟨m,ns m hn,fun i x v e1 e2 e3=>?_⟩;obtain⟨u,r,l⟩:=hl i x v e1 e2 e3;refine⟨u,r,?_⟩
    rcases l with l | ⟨k,c,e,z⟩
    ·exact .inl l
    ·exact .inr ⟨k,c,e,cellK x c e _ z⟩
  ·obtain⟨v,z⟩:=I.cell x c e;exact⟨v,cellK x c e v z⟩
  ·obtain⟨m,⟨o,_,_,ho,_⟩,_⟩:=I.loc;exact free _ o (fun z=>(hch _ z).2.1 rfl) ho I.free
  ·obtain⟨v,o,ho,hd⟩:=I.cell x c e;exact free c o (fun z=>(hch c z).2.2.1 x c e rfl) ho (I.iU x c e)
  ·obtain⟨e,n,ne,nf,d⟩:=I.pin p hp;have nch:p.1∉ch:=fun z=>(hch p.1 z).2.2.2 p hp rfl;exact⟨keep p.1 p.2 ne nf nch e n,free p.1 p.2 nch e n,ne,nf,d⟩
theorem Inv.un {t':Nat} (I:Inv X p_ σ H s) (u:Un X.fs [] H H' s.heap h') (hok:qx X.prog X.w H' h'):Inv X p_ σ H' {s with heap:=h',toks:=t'}:=by
  obtain⟨m,⟨o,es,ep,ho,r⟩,_⟩:=id I.loc;obtain⟨sl,hL⟩:=u.any ho I.free (by simp);exact I.step (g':=s.gens) (d':=s.drawn) (ch:=[]) (fun _ z=>nomatch z) (fun b o _ hb _ e n=>u.keep b o e n hb (by simp)) (fun b o _ hb _ e n=>u.slot b o e n hb (by simp)) (fun b o _ e n=>u.free b o e n (by simp)) (fun b o _ e=>u.there b o e (by simp)) u.tups u.oY u.qK (fun m' hm=>by
    obtain⟨o',es',ep',ho',r'⟩:=hm;rw[ho] at ho';cases ho';exact⟨_,es',ep',hL,r'⟩) hok I.bare
theorem Inv.call {g':Array GenState} {t':Nat} {d':Drawn} {ch:List Addr} (I:Inv X p_ σ H s) (u:Un (frs X.stack) ch H H' s.heap h') (hok:qx X.prog X.w H' h') (hg:AllBare g')
    (hch:∀b∈ch,(b∈X.ex∨X.s₀.heap.objs.size≤b)∧b≠X.env.locals∧(∀x c,X.env.cells.lookup x=some c→c≠b)∧∀p∈X.pn++p_,p.1≠b) :
    Inv X p_ σ H' {s with heap:=h',gens:=g',drawn:=d',toks:=t'}:=by
  obtain⟨m,⟨o,es,ep,ho,r⟩,_⟩:=id I.loc;obtain⟨sl,hL⟩:=u.any ho I.free fun z=>(hch _ z).2.1 rfl;exact I.step (ch:=ch) hch (fun b o hL hb hc e n=>u.keep b o e n (fun z=>(List.mem_cons.mp (I.uh b z)).elim hL hb) hc) (fun b o _ _ hc e n=>u.any e n hc) (fun b o hc e n=>u.free b o e n hc) (fun b o hc e=>u.there b o e hc) u.tups u.oY u.qK (fun m' hm=>by
    obtain⟨o',es',ep',ho',r'⟩:=hm;rw[ho] at ho';cases ho';exact⟨_,es',ep',hL,r'⟩) hok hg
theorem Inv.turned {t':Nat} {it:Addr} (I:Inv X p_ σ H s) (k:∀b o,b≠it→s.heap.get? b=some o→h'.get? b=some o) (hn:H it=none) (hL:it≠X.env.locals)
    (h1:it∈X.ex∨X.s₀.heap.objs.size≤it) (h2:∀x c,X.env.cells.lookup x=some c→c≠it) (h3:∀p∈X.pn++p_,p.1≠it):Inv X p_ σ H {s with heap:=h',toks:=t'}:=by
  have nit:∀b u,H b=some u→b≠it:=fun b u e z=>by rw[z,hn] at e;cases e
  refine I.step (g':=s.gens) (d':=s.drawn) (ch:=[it]) (fun b hb=>?_) (fun b o _ _ hc e _=>k b o (fun z=>hc (by simp[z])) e) (fun b o _ _ hc e _=>⟨o.slots,k b o (fun z=>hc (by simp[z])) e⟩) (fun _ _ _ _ n=>n)
    (fun b o hc e=>⟨o,k b o (fun z=>hc (by simp[z])) e⟩) (fun _ _ e=>e) (fun _ _ _ e=>e) (fun b ps e=>⟨#[],by rw[e];simp⟩) (fun m hm=>?_) (fun b u e=>?_) I.bare
  · have e:b=it:=by simpa using hb
    subst e;exact⟨h1,hL,h2,h3⟩
  ·obtain⟨o,es,ep,ho,r⟩:=hm;exact⟨o,es,ep,k _ o (Ne.symm hL) ho,r⟩
  · refine(I.hok b u e).stay (fun c v hc q=>k c v ?_ q) (fun _ q=>q) fun _ _ q=>q
    rcases hc with z | z
    ·rw[z];exact nit b u e
    ·exact nit c _ z
theorem Inv.tok (I:Inv X p_ σ H s) (t:Nat):Inv X p_ σ H {s with toks:=t}:=I.un (h':=s.heap) (t':=t) Un.refl I.hok
theorem Inv.kept {t':Nat} (I:Inv X p_ σ H s) (k:∀b u,s.heap.get? b=some u→h'.get? b=some u):Inv X p_ σ H {s with heap:=h',toks:=t'}:=I.un (Un.kept k) (I.hok.kept k)
theorem Inv.laid {a:Addr} {o:HO} {t':Nat} (I:Inv X p_ σ H s) (k:∀b u,s.heap.get? b=some u→h'.get? b=some u) (hp:s.heap.objs.size≤a) (new:bY X.prog X.w (upd H a o) h' a o) :
    Inv X p_ σ (upd H a o) {s with heap:=h',toks:=t'}:=I.un (Un.laid k hp (I.hok.fresh hp)) (I.hok.laid k hp new)
theorem Inv.write {x e:Addr} {o:HO} {t':Nat} (I:Inv X p_ σ H s) (mu:Mut (H x)) (he:e=x∨H e=some (.own x)) (k:∀b u,b≠e→s.heap.get? b=some u→h'.get? b=some u) (heo:∃u,h'.get? e=some u)
    (new:bY X.prog X.w (upd H x o) h' x o):Inv X p_ σ (upd H x o) {s with heap:=h',toks:=t'}:=I.un (Un.write mu he k heo) (I.hok.write mu he k heo new)
theorem Inv.Nt {yp:List (Addr×Obj)} (I:Inv X p_ σ H s) (h:∀p∈yp,s.heap.get? p.1=some p.2∧H p.1=none∧p.1≠X.env.locals∧p.1∉X.fs∧∀v,p.2.data≠.cell v):Inv X yp σ H s:=
  ⟨I.ok,I.os,I.bare,I.base,I.loc,I.cell,I.free,I.iU,fun p hp=>(List.mem_append.mp hp).elim (fun z=>I.pin p (List.mem_append_left _ z)) (h p),I.hok,I.len⟩
theorem zT {N:List Str} (hN:N.Nodup) {i j:Nat} {x:Str} (a:N[i]? = some x) (b:N[j]? = some x):i=j:=by
  obtain⟨h1,e1⟩:=List.getElem?_eq_some_iff.mp a;obtain⟨h2,e2⟩:=List.getElem?_eq_some_iff.mp b;exact(List.getElem_inj hN).mp (e1.trans e2.symm)
theorem rW {M:Model} {A:Around} {E:Value→Shared→Prop} {i:Nat} {x:Str} {v:V} {u:Value} {Q:Unit→Shared→Prop} (I:Inv X p_ σ H s) (hN:X.N.Nodup) (hi:X.N[i]? = some x) (hx:Loc X.env.scope x) (r:RelV v u)
    (h:∀s',Inv X p_ (σ.set i (some v)) H s'→(∃a,Heap.SameBut a s.heap s'.heap∧(a=X.env.locals∨X.env.cells.lookup x=some a))→Q () s') (hf:X.fn x=true∨X.env.scope.names.lookup x=some .local:=by first | exact .inl rfl | exact .inr rfl | assumption):wpAny M A (storeName X.env x u) Q E s:=by
  obtain⟨m,hn,hl⟩:=id I.loc;have hcls:(X.env.scope.kind == .class || (X.env.scope.kind == .module && X.env.locals != X.env.globals))=false:=by rw[I.ok.kind];rfl
  have hiσ:i<σ.length:=by rw[I.len];exact(List.getElem?_eq_some_iff.mp hi).1
  have WW:=I.WW;have tracked:∀{a:Addr} {h':Heap},(∃o,s.heap.get? a=some o∧H a=none)→Heap.SameBut a s.heap h'→qx X.prog X.w H h':=fun {a h'} ha hs b ob e=>by
    obtain⟨_,_,hfree⟩:=ha;refine(I.hok b ob e).stay (fun c w' hc q=>(hs.2 c ?_).trans q) (fun _ q=>q) fun _ _ q=>q;rintro rfl
    rcases hc with rfl | hc
    ·rw[hfree] at e;cases e
    ·rw[hfree] at hc;cases hc
  rcases hx with hk | hk
  · refine wpAny_storeName_local hk hn (fun h' hn' hs=>?_) hcls;obtain⟨oL,_,_,hoL,_⟩:=id hn;refine h _ ⟨I.ok,I.os,I.bare,⟨fun b o e n hb hx=>?_,fun b o e n hb hx=>?_,I.base.free,fun b o e hx=>?_,I.base.tups,I.base.oY,I.base.qK⟩,⟨_,hn',fun j y v' e1 e2 e3=>?_⟩,fun y c e=>?_,I.free,I.iU,fun p hp=>?_,tracked ⟨oL,hoL,I.free⟩ hs,by simpa using I.len⟩ ⟨_,hs,.inl rfl⟩
    ·exact(hs.2 b (Nat.ne_of_lt (Nat.lt_of_lt_of_le (Heap.lt_size e) I.ok.above))).trans (I.base.keep b o e n hb hx)
    ·obtain⟨sl,e1⟩:=I.base.slot b o e n hb hx;exact⟨sl,(hs.2 b (Nat.ne_of_lt (Nat.lt_of_lt_of_le (Heap.lt_size e) I.ok.above))).trans e1⟩
    ·obtain⟨o',e1⟩:=I.base.there b o e hx;exact⟨o',(hs.2 b (Nat.ne_of_lt (Nat.lt_of_lt_of_le (Heap.lt_size e) I.ok.above))).trans e1⟩
    · by_cases hj:j=i
      ·subst hj;rw[hi] at e1;cases e1;rw[List.getElem?_set_self hiσ] at e2;cases e2;exact⟨u,r,.inl ⟨hk,by simp⟩⟩
      · rw[List.getElem?_set_ne (Ne.symm hj)] at e2;obtain⟨u',r',q⟩:=hl j y v' e1 e2 e3;refine⟨u',r',?_⟩
        rcases q with⟨k,e⟩ | ⟨k,c,e,z⟩
        ·refine .inl ⟨k,?_⟩;have:y≠x:=fun e=>hj (zT hN e1 (e▸hi));simp[this,e]
        ·exact .inr ⟨k,c,e,z.sameBut hs (WW y c e)⟩
    ·obtain⟨w',z⟩:=I.cell y c e;exact⟨w',z.sameBut hs (WW y c e)⟩
    ·obtain⟨e,n,ne,nf,d⟩:=I.pin p hp;exact⟨(hs.2 p.1 ne).trans e,n,ne,nf,d⟩
  · have hfn:X.fn x=true:=by
      rcases hf with z | z
      ·exact z
      ·rw[z] at hk;cases hk
    obtain⟨c,hc⟩:=I.ok.has x (.inl hk);obtain⟨w',z⟩:=I.cell x c hc;refine wpAny_storeName_cell I.ok.kind hk hc z (fun h' hc' hs=>?_);obtain⟨oc,hoc,qia⟩:=id z;refine h {s with heap:=h'} ⟨I.ok,I.os,I.bare,⟨fun b o e n hb hx=>?_,fun b o e n hb hx=>?_,I.base.free,fun b o e hx=>?_,I.base.tups,I.base.oY,I.base.qK⟩,⟨m,hn.sameBut hs (Ne.symm (WW x c hc)),fun j y v' e1 e2 e3=>?_⟩,fun y c' e=>?_,I.free,I.iU,fun p hp=>?_,tracked ⟨oc,hoc,I.iU x c hc⟩ hs,by simpa using I.len⟩ ⟨c,hs,.inr hc⟩
    ·exact(hs.2 b (Nat.ne_of_lt (Nat.lt_of_lt_of_le (Heap.lt_size e) (I.ok.cab x c hfn hc)))).trans (I.base.keep b o e n hb hx)
    ·obtain⟨sl,e1⟩:=I.base.slot b o e n hb hx;exact⟨sl,(hs.2 b (Nat.ne_of_lt (Nat.lt_of_lt_of_le (Heap.lt_size e) (I.ok.cab x c hfn hc)))).trans e1⟩
    ·obtain⟨o',e1⟩:=I.base.there b o e hx;exact⟨o',(hs.2 b (Nat.ne_of_lt (Nat.lt_of_lt_of_le (Heap.lt_size e) (I.ok.cab x c hfn hc)))).trans e1⟩
    · by_cases hj:j=i
      ·subst hj;rw[hi] at e1;cases e1;rw[List.getElem?_set_self hiσ] at e2;cases e2;exact⟨u,r,.inr ⟨.inl hk,c,hc,hc'⟩⟩
      · rw[List.getElem?_set_ne (Ne.symm hj)] at e2;obtain⟨u',r',q⟩:=hl j y v' e1 e2 e3;refine⟨u',r',?_⟩
        rcases q with q | ⟨k,c',e,z'⟩
        ·exact .inl q
        ·refine .inr ⟨k,c',e,z'.sameBut hs ?_⟩;rintro rfl;exact hj (zT hN e1 (I.ok.inj _ _ _ e hc▸hi))
    · by_cases hcc:c'=c
      ·subst hcc;exact⟨_,hc'⟩
      ·obtain⟨w2,z2⟩:=I.cell y c' e;exact⟨w2,z2.sameBut hs hcc⟩
    ·obtain⟨e,n,ne,nf,d⟩:=I.pin p hp;refine⟨(hs.2 p.1 ?_).trans e,n,ne,nf,d⟩;intro q;rw[q,hoc] at e;have q':oc=p.2:=Option.some.inj e;exact d w' (by rw[← q'];exact qia)
theorem zU {M:Model} {A:Around} {E:Value→Shared→Prop} {i:Nat} {x:Str} {v:V} {u:Value} {Q:Unit→Shared→Prop} (I:Inv X p_ σ H s) (hN:X.N.Nodup) (hi:X.N[i]? = some x) (hx:Loc X.env.scope x) (r:RelV v u)
    (h:∀s',Inv X p_ (σ.set i (some v)) H s'→Q () s') (hf:X.fn x=true∨X.env.scope.names.lookup x=some .local:=by first | exact .inl rfl | exact .inr rfl | assumption):wpAny M A (storeName X.env x u) Q E s:=
  rW I hN hi hx r (fun s' I' _=>h s' I') hf
theorem Inv.call' {s':Shared} {ch:List Addr} (I:Inv X p_ σ H s) (ho:s'.os=s.os) (u:Un (frs X.stack) ch H H' s.heap s'.heap) (hok:qx X.prog X.w H' s'.heap) (hg:AllBare s'.gens)
    (hch:∀b∈ch,(b∈X.ex∨X.s₀.heap.objs.size≤b)∧b≠X.env.locals∧(∀x c,X.env.cells.lookup x=some c→c≠b)∧∀p∈X.pn++p_,p.1≠b):Inv X p_ σ H' s':=by
  obtain⟨h',g',d',t',o'⟩:=s';have e:o'=s.os:=ho;subst e;exact I.call (g':=g') (t':=t') (d':=d') u hok hg hch
end
abbrev XK:=Value→Option Addr→Hp→Prop
abbrev St:=List (Option V)
abbrev VK:=V→Hp→Prop
abbrev TE:=St→Hp→VK→Prop
abbrev TT:=St→Hp→(Bool→Hp→Prop)→Prop
abbrev TA:=St→Hp→(List V→Hp→Prop)→Prop
structure Ends where
  nx:St→Hp→Prop
  rt:VK
  bk:St→Hp→Prop:=fun _ _=>False
  ct:St→Hp→Prop:=fun _ _=>False
abbrev TS:=Ends→St→Hp→Prop
def EP (X:Cx) (p_:List (Addr×Obj)) (σ:St) (Q:VK) (u:Value) (s':Shared):Prop:=∃v H',Inv X p_ σ H' s'∧RelV v u∧Q v H'
def TP (X:Cx) (p_:List (Addr×Obj)) (σ:St) (Q:Bool→Hp→Prop) (b:Bool) (s':Shared):Prop:=∃H',Inv X p_ σ H' s'∧Q b H'
def AP (X:Cx) (p_:List (Addr×Obj)) (σ:St) (Q:List V→Hp→Prop) (us:List Value) (s':Shared):Prop:=∃vs H',Inv X p_ σ H' s'∧Vals vs us∧Q vs H'
def SP (X:Cx) (p_:List (Addr×Obj)) (D:Ends) (f:Flow) (s':Shared):Prop:=
  match f with
  | .next=>∃σ' H',Inv X p_ σ' H' s'∧D.nx σ' H'
  | .brk=>∃σ' H',Inv X p_ σ' H' s'∧D.bk σ' H'
  | .cont=>∃σ' H',Inv X p_ σ' H' s'∧D.ct σ' H'
  | .ret u=>∃v σ' H',Inv X p_ σ' H' s'∧RelV v u∧D.rt v H'
def PE (X:Cx) (e:Expr) (t:TE):Prop:=
  ∀(p_:List (Addr×Obj)) (s:Shared) (σ:St) (H:Hp) (Q:VK),Inv X p_ σ H s→t σ H Q→wpAny (model X.prog X.w) X.A (eval e X.env) (EP X p_ σ Q) X.xe s
def PT (X:Cx) (e:Expr) (t:TT):Prop:=
  ∀(p_:List (Addr×Obj)) (s:Shared) (σ:St) (H:Hp) (Q:Bool→Hp→Prop),Inv X p_ σ H s→t σ H Q→wpAny (model X.prog X.w) X.A (isTrue e X.env (eval e X.env)) (TP X p_ σ Q) X.xe s
def PW (X:Cx) (e:Expr) (t:TT):Prop:=
  ∀(whole:Sem Value) (p_:List (Addr×Obj)) (s:Shared) (σ:St) (H:Hp) (Q:Bool→Hp→Prop),Inv X p_ σ H s→t σ H Q→wpAny (model X.prog X.w) X.A (isTrue e X.env whole) (TP X p_ σ Q) X.xe s
theorem PW.pt {X:Cx} {e:Expr} {t:TT} (h:PW X e t):PT X e t:=h _
def PA (X:Cx) (es:List Expr) (t:TA):Prop:=
  ∀(pos:Pos) (p_:List (Addr×Obj)) (s:Shared) (σ:St) (H:Hp) (Q:List V→Hp→Prop),Inv X p_ σ H s→t σ H Q→wpAny (model X.prog X.w) X.A (spliced (backTo pos (starEach es X.env))) (AP X p_ σ Q) X.xe s
def PS (X:Cx) (st:Stmt) (t:TS):Prop:=
  ∀(p_:List (Addr×Obj)) (s:Shared) (σ:St) (H:Hp) (D:Ends),Inv X p_ σ H s→t D σ H→wpAny (model X.prog X.w) X.A (exec st X.env) (SP X p_ D) X.xe s
def Dt (X:Cx) (st:List Stmt) (t:TS):Prop:=
  ∀(p_:List (Addr×Obj)) (s:Shared) (σ:St) (H:Hp) (D:Ends),Inv X p_ σ H s→t D σ H→wpAny (model X.prog X.w) X.A (execs st X.env) (SP X p_ D) X.xe s
theorem cL {α:Type} {t:Sem α} {Q Q':α→Shared→Prop} {M:Model} {A:Around} {E:Value→Shared→Prop} {s:Shared} (h:wpAny M A t Q E s) (hQ:∀a s,Q a s→Q' a s):wpAny M A t Q' E s:=wpAny_mono h hQ fun _ _ x=>x
section
variable {X:Cx}
def qak (i:Nat):TE:=fun σ H Q=>∃v,σ[i]? = some (some v)∧Q v H
def tC (v:V):TE:=fun _ H Q=>Q v H
theorem qal {i:Nat} {x:Str} {pos:Pos} (hN:X.N[i]? = some x) (hv:Vis X.env.scope x) (hd:(x == ("__debug__" : Str))=false:=by decide) (hcd:(x == ("__classdict__" : Str))=false:=by decide):PE X (.Name x pos) (qak i):=by
  intro p_ s σ H Q I h;obtain⟨v,e,h⟩:=h;obtain⟨m,hn,hl⟩:=I.loc;obtain⟨u,r,l⟩:=hl i x v hN e hv;have fin:EP X p_ σ Q u s:=⟨v,H,I,r,h⟩
  rcases l with⟨hk,hm⟩ | ⟨hk,c,hc,hcell⟩
  ·exact wpAny_Name (wpAny_loadName_local I.ok.kind hk hn hm fin) hd
  · rcases hk with hk | hk
    ·exact wpAny_Name (wpAny_loadName_cell I.ok.kind hk hc hcell fin) hd
    ·exact wpAny_Name (wpAny_loadName_free I.ok.kind hk hc hcell fin hcd) hd
theorem aJ {i j pos}:PE X (.Constant (.int i) j pos) (tC (.int i)):=fun _ _ _ H _ I h=>wpAny_Constant_int ⟨.int i,H,I.tok _,⟨_,rfl⟩,h⟩
theorem ou {b j pos}:PE X (.Constant (.bool b) j pos) (tC (.bl b)):=fun _ _ _ H _ I h=>Constant_bool ⟨.bl b,H,I,rfl,h⟩
theorem Ks {j pos}:PE X (.Constant .none j pos) (tC .non):=fun _ _ _ H _ I h=>Constant_none ⟨.non,H,I,rfl,h⟩
theorem mG {x j pos}:PE X (.Constant (.str x) j pos) (tC (.str x)):=fun _ _ _ H _ I h=>Calls.Constant_str ⟨.str x,H,I.tok _,⟨_,rfl⟩,h⟩
def Gl (X:Cx) (x:Str):Prop:=X.env.kindOf x=some .globalImplicit
theorem lO {E:Value→Shared→Prop} {p_:List (Addr×Obj)} {s:Shared} {σ:St} {H:Hp} {x:Str} {u:Value} {pos:Pos} {Q:Value→Shared→Prop} (I:Inv X p_ σ H s) (hg:Gl X x) (hm:X.mg x=some u) (h:Q u s)
    (hd:(x == ("__debug__" : Str))=false:=by decide):wpAny (model X.prog X.w) X.A (eval (.Name x pos) X.env) Q E s:=
  Calls.Name_function_global I.ok.kind hg (Calls.loadGlobal_global (by rw[I.ok.glob];exact I.mod.glob.keeps I.bk) hm h) hd
theorem oZ {E:Value→Shared→Prop} {p_:List (Addr×Obj)} {s:Shared} {σ:St} {H:Hp} {x:Str} {u:Value} {pos:Pos} {Q:Value→Shared→Prop} (I:Inv X p_ σ H s) (hg:Gl X x) (hm:X.mg x=none) (hv:bootBuiltins x=some u) (h:Q u s)
    (hn:x≠ "__name__" :=by decide) (hd:(x == ("__debug__" : Str))=false:=by decide):wpAny (model X.prog X.w) X.A (eval (.Name x pos) X.env) Q E s:=by
  obtain⟨mb,h1,h2⟩:=I.mod.blt;exact Calls.Name_function_global I.ok.kind hg (Calls.loadGlobal_builtin (by rw[I.ok.glob];exact I.mod.glob.keeps I.bk) hm (by rw[I.ok.blt];exact h1.keeps I.bk) ((h2 x hn).trans hv) h) hd
theorem za {x:Str} {v:V} {u:Value} {pos:Pos} (hg:Gl X x) (hm:X.mg x=some u) (r:RelV v u) (hd:(x == ("__debug__" : Str))=false:=by decide):PE X (.Name x pos) (tC v):=
  fun _ _ _ H _ I h=>lO I hg hm ⟨v,H,I,r,h⟩ hd
theorem je {x:Str} {v:V} {u:Value} {pos:Pos} (hg:Gl X x) (hm:X.mg x=none) (hv:bootBuiltins x=some u) (r:RelV v u) (hn:x≠ "__name__" :=by decide) (hd:(x == ("__debug__" : Str))=false:=by decide):PE X (.Name x pos) (tC v):=
  fun _ _ _ H _ I h=>oZ I hg hm hv ⟨v,H,I,r,h⟩ hn hd
variable {a b:Expr} {ta tb:TE} {pos:Pos}
def PC (X:Cx) (op:CmpOp) (a b:Expr) (t:TE):Prop:=
  ∀(p_:List (Addr×Obj)) (s:Shared) (σ:St) (H:Hp) (Q:VK),Inv X p_ σ H s→t σ H Q→
    wpAny (model X.prog X.w) X.A (eval a X.env) (fun v s₁=>wpAny (model X.prog X.w) X.A (eval b X.env) (fun u s₂=>wpAny (model X.prog X.w) X.A (compareOp op v u) (EP X p_ σ Q) X.xe s₂) X.xe s₁) X.xe s
theorem Ia (b:Expr) {op:CmpOp} (h:op≠.In) (h2:op≠.NotIn):behindInMarks op b=false:=by
  have e1:(op == CmpOp.In)=false:=by cases op <;> first | rfl | exact absurd rfl h
  have e2:(op == CmpOp.NotIn)=false:=by cases op <;> first | rfl | exact absurd rfl h2
  cases b <;> simp[behindInMarks,e1,e2]
def tB (t:TE):TT:=fun σ H Q=>t σ H fun x H1=>∃c,x = .bl c∧Q c H1
theorem qam {op:CmpOp} {t:TE} (h:PC X op a b t) (h1:behindInMarks op b=false:=by first | exact Ia _ (by decide) (by decide) | rfl):PT X (.Compare a [op] [b] pos) (tB t):=by
  intro p_ s σ H Q I hw;refine wpAny_isTrue_Compare1 (cL (h p_ s σ H _ I hw) fun v s1 h1=>cL h1 fun u s2 h2=>cL h2 fun c s3 zz=>?_) h1;obtain⟨x,H1,I1,r1,q1⟩:=zz;obtain⟨d,rfl,q⟩:=q1;cases r1;exact wpAny_truthy_bool ⟨H1,I1,q⟩
theorem qan {e:Expr} {t:TE} (h:PE X e t) (he:∀whole,isTrue e X.env whole=(do let v ← whole;standAt e.pos;holding [v] (truthy v)):=by intro _;rfl):PT X e (tB t):=by
  intro p_ s σ H Q I hw;refine isTrue_plain (cL (h p_ s σ H _ I hw) fun v s1 zz=>?_) (he _);obtain⟨x,H1,I1,r1,q1⟩:=zz;obtain⟨d,rfl,q⟩:=q1;cases r1;exact wpAny_truthy_bool ⟨H1,I1,q⟩
variable {tA tB':TT} {rest:List Expr}
def qcJ (t u:TT):TT:=fun σ H Q=>t σ H fun c H1=>if c=true then u σ H1 Q else Q false H1
def tOr (t u:TT):TT:=fun σ H Q=>t σ H fun c H1=>if c=true then Q true H1 else u σ H1 Q
def qcK (t:TT):TT:=fun σ H Q=>t σ H fun c H1=>Q (!c) H1
theorem zc (ha:PT X a tA):PW X (.BoolOp .And [a] pos) tA:=by
  intro wh p_ s σ H Q I h;refine isTrue_and (cL (ha p_ s σ H Q I h) fun c s1 e=>?_);cases c with
  | true=>exact isTrue_and_nil e
  | false=>exact e
theorem nu (ha:PT X a tA):PW X (.BoolOp .Or [a] pos) tA:=by
  intro wh p_ s σ H Q I h;refine isTrue_or (cL (ha p_ s σ H Q I h) fun c s1 e=>?_);cases c with
  | false=>exact isTrue_or_nil e
  | true=>exact e
theorem wY (ha:PT X a tA) (hb:PW X (.BoolOp .And (b::rest) pos) tB'):PW X (.BoolOp .And (a::b::rest) pos) (qcJ tA tB'):=by
  intro wh p_ s σ H Q I h;refine isTrue_and (cL (ha p_ s σ H _ I h) fun c s1 zz=>?_);obtain⟨H1,I1,q1⟩:=zz;cases c with
  | true=>exact hb wh p_ s1 σ H1 Q I1 q1
  | false=>exact⟨H1,I1,q1⟩
theorem qy (ha:PT X a tA) (hb:PW X (.BoolOp .Or (b::rest) pos) tB'):PW X (.BoolOp .Or (a::b::rest) pos) (tOr tA tB'):=by
  intro wh p_ s σ H Q I h;refine isTrue_or (cL (ha p_ s σ H _ I h) fun c s1 zz=>?_);obtain⟨H1,I1,q1⟩:=zz;cases c with
  | true=>exact⟨H1,I1,q1⟩
  | false=>exact hb wh p_ s1 σ H1 Q I1 q1
theorem eY (ha:PT X a tA):PT X (.UnaryOp .Not a pos) (qcK tA):=by
  intro p_ s σ H Q I h;exact isTrue_not (ha p_ s σ H (fun c H1=>Q (!c) H1) I h)
def RZ (ta tb:TE):TE:=fun σ H Q=>ta σ H fun x H1=>∃c,x = .bl c∧if c=true then tb σ H1 Q else Q (.bl false) H1
def R0 (ta:TE):TE:=fun σ H Q=>ta σ H fun x H1=>∃c,x = .bl c∧Q (.bl (!c)) H1
theorem lA {op} {t:TE} (h:PE X a t):PE X (.BoolOp op [a] pos) t:=fun p_ s σ H Q I hw=>BoolOp_one (h p_ s σ H Q I hw)
theorem qao (ha:PE X a ta) (hb:PE X (.BoolOp .And (b::rest) pos) tb):PE X (.BoolOp .And (a::b::rest) pos) (RZ ta tb):=by
  intro p_ s σ H Q I h;refine BoolOp_and (cL (ha p_ s σ H _ I h) fun v s1 zz=>?_);obtain⟨x,H1,I1,r1,q1⟩:=zz;obtain⟨c,rfl,q1⟩:=q1;cases r1;refine wpAny_truthy_bool ?_;cases c with
  | true=>exact hb p_ s1 σ H1 Q I1 q1
  | false=>exact⟨.bl false,H1,I1,rfl,q1⟩
theorem qap (ha:PE X a ta):PE X (.UnaryOp .Not a pos) (R0 ta):=by
  intro p_ s σ H Q I h;refine UnaryOp_ (cL (ha p_ s σ H _ I h) fun v s1 zz=>?_);obtain⟨x,H1,I1,r1,q1⟩:=zz;obtain⟨c,rfl,q1⟩:=q1;cases r1;exact not_of (wpAny_truthy_bool ⟨.bl (!c),H1,I1,rfl,q1⟩)
def tIf (t:TT) (ta tb:TE):TE:=fun σ H Q=>t σ H fun c H1=>if c=true then ta σ H1 Q else tb σ H1 Q
theorem Ib {c:Expr} (hc:PT X c tA) (ha:PE X a ta) (hb:PE X b tb):PE X (.IfExp c a b pos) (tIf tA ta tb):=by
  intro p_ s σ H Q I h;refine wpAny_IfExp (cL (hc p_ s σ H _ I h) fun d s1 zz=>?_);obtain⟨H1,I1,q1⟩:=zz;cases d with
  | true=>exact ha p_ s1 σ H1 Q I1 q1
  | false=>exact hb p_ s1 σ H1 Q I1 q1
end
def aY (K:W.Frag) (H:Hp) (a:Addr) (xs:List V):Prop:=
  Rd H a (.lst xs)∨
    ∃(o:Obj) (its:Array Value) (n:Nat),K.lookup a=some o∧o.cls = .type "list" ∧o.dict=none∧o.data = .seq its n∧its.size≤sizeLine∧Vals xs its.toList
def dz (K:W.Frag) (H:Hp) (a:Addr) (xs:List V):Prop:=
  Rd H a (.tup xs)∨
    ∃(o:Obj) (its:Array Value) (n:Nat),K.lookup a=some o∧o.cls = .type "tuple" ∧o.data = .seq its n∧its.size≤sizeLine∧Vals xs its.toList
def qib:Value→Option V
  | .none=>some .non
  | .bool b=>some (.bl b)
  | .int i _=>some (.int i)
  | .str x _=>some (.str x)
  | .bytes b _=>some (.RB b)
  | .float b _=>some (.flt b)
  | .ref a=>some (.ref a)
  | .type n=>some (.ty n)
  | _=>none
theorem RelV.abs {x:V} {u:Value} (r:RelV x u):qib u=some x:=by
  cases x with
  | non=>cases r;rfl
  | bl _=>cases r;rfl
  | int _=>obtain⟨t,rfl⟩:=r;rfl
  | str _=>obtain⟨t,rfl⟩:=r;rfl
  | RB _=>obtain⟨t,rfl⟩:=r;rfl
  | flt _=>obtain⟨t,rfl⟩:=r;rfl
  | ref _=>cases r;rfl
  | ty _=>cases r;rfl
theorem RelV.inj {x y:V} {u:Value} (r:RelV x u) (q:RelV y u):x=y:=Option.some.inj (r.abs.symm.trans q.abs)
theorem Vals.inj:∀{xs ys:List V} {us:List Value},Vals xs us→Vals ys us→xs=ys
  | _,_,_,.nil,.nil=>rfl
  | _,_,_,.cons r t,.cons r' t'=>by rw[r.inj r',Vals.inj t t']
section
variable {X:Cx} {p_:List (Addr×Obj)} {σ:St} {H:Hp} {s:Shared} {a:Addr} {xs ys:List V}
theorem aY.of {K:W.Frag} (h:H a=some (.lst xs)):aY K H a xs:=.inl (.inl h)
theorem dz.of {K:W.Frag} (h:H a=some (.tup xs)):dz K H a xs:=.inl (.inl h)
theorem Inv.list (I:Inv X p_ σ H s) (h:aY X.K H a xs):∃its:List Value,Vals xs its∧PlainL s.heap a its.toArray∧xs.length≤sizeLine:=by
  rcases h with h | ⟨o,its,n,hk,hc,hd,hs,hz,r⟩
  ·obtain⟨z,its,n,r,e⟩:=h.ok I.hok;exact⟨its,r,⟨_,n,e,rfl,rfl,rfl⟩,z⟩
  ·refine⟨its.toList,r,⟨o,n,I.nq a o hk,hc,hd,by simpa using hs⟩,?_⟩;have e:=r.length;simp only[Array.length_toList] at e;omega
theorem Inv.tuple (I:Inv X p_ σ H s) (h:dz X.K H a xs):∃its:List Value,Vals xs its∧IsTup s.heap a its.toArray∧xs.length≤sizeLine:=by
  rcases h with h | ⟨o,its,n,hk,hc,hs,hz,r⟩
  ·obtain⟨z,its,r,p⟩:=h.ok I.hok;exact⟨its,r,p,z⟩
  ·refine⟨its.toList,r,⟨o,I.nq a o hk,hc,n,by simpa using hs⟩,?_⟩;have e:=r.length;simp only[Array.length_toList] at e;omega
theorem Inv.vg (I:Inv X p_ σ H s) (h:aY X.K H a xs) (h':aY X.K H a ys):xs=ys:=by
  obtain⟨its,r,⟨o,n,e,_,_,d⟩,_⟩:=I.list h;obtain⟨its',r',⟨o',n',e',_,_,d'⟩,_⟩:=I.list h';rw[e] at e';cases e';rw[d] at d';injection d' with d1 _;have:its=its':=by simpa using congrArg Array.toList d1
  subst this;exact r.inj r'
theorem Inv.Px (I:Inv X p_ σ H s) (h:dz X.K H a xs) (h':dz X.K H a ys):xs=ys:=by
  obtain⟨its,r,⟨o,e,_,n,d⟩,_⟩:=I.tuple h;obtain⟨its',r',⟨o',e',_,n',d'⟩,_⟩:=I.tuple h';rw[e] at e';cases e';rw[d] at d';injection d' with d1 _;have:its=its':=by simpa using congrArg Array.toList d1
  subst this;exact r.inj r'
end
abbrev Cx.wish (X:Cx) (E:Value→Shared→Prop):Cx:={X with xe:=E}
abbrev Cx.RG (X:Cx):Cx:=X.wish fun _ _=>False
theorem Cx.Ok.wish {X:Cx} (ok:X.Ok) (E:Value→Shared→Prop):(X.wish E).Ok:=
  ⟨ok.mod,ok.kind,ok.glob,ok.blt,ok.above,ok.inj,ok.has,ok.cab,ok.hd,ok.frames,ok.stk,ok.exf,ok.bs,ok.RD,ok.HY,ok.H_,ok.tQ,ok.Wy⟩
theorem Cx.Ok.qQ {X:Cx} {E:Value→Shared→Prop} (ok:(X.wish E).Ok):X.Ok:=
  ⟨ok.mod,ok.kind,ok.glob,ok.blt,ok.above,ok.inj,ok.has,ok.cab,ok.hd,ok.frames,ok.stk,ok.exf,ok.bs,ok.RD,ok.HY,ok.H_,ok.tQ,ok.Wy⟩
section
variable {X:Cx} {p_:List (Addr×Obj)} {σ:St} {H:Hp} {s:Shared} {E:Value→Shared→Prop}
theorem Inv.wish (I:Inv X p_ σ H s) (E:Value→Shared→Prop):Inv (X.wish E) p_ σ H s:=⟨I.ok.wish E,I.os,I.bare,I.base,I.loc,I.cell,I.free,I.iU,I.pin,I.hok,I.len⟩
theorem Inv.qQ (I:Inv (X.wish E) p_ σ H s):Inv X p_ σ H s:=⟨I.ok.qQ,I.os,I.bare,I.base,I.loc,I.cell,I.free,I.iU,I.pin,I.hok,I.len⟩
theorem SP.qQ {D:Ends} {f:Flow} {s':Shared} (h:SP (X.wish E) p_ D f s'):SP X p_ D f s':=by
  cases f with
  | next=>obtain⟨σ',H',I,q⟩:=h;exact⟨σ',H',I.qQ,q⟩
  | brk=>obtain⟨σ',H',I,q⟩:=h;exact⟨σ',H',I.qQ,q⟩
  | cont=>obtain⟨σ',H',I,q⟩:=h;exact⟨σ',H',I.qQ,q⟩
  | ret u=>obtain⟨v,σ',H',I,r,q⟩:=h;exact⟨v,σ',H',I.qQ,r,q⟩
theorem Dt.RG {st:List Stmt} {t:TS} (h:Dt X.RG st t):Dt X st t:=fun p_ s σ H D I hw=>
  wpAny_mono (h p_ s σ H D (I.wish _) hw) (fun _ _ q=>q.qQ) fun _ _ z=>False.elim z
end
section
variable {X:Cx} {st:Stmt} {rest:List Stmt} {t u:TS} {e:Expr} {te:TE} {pos:Pos}
def Zd:TS:=fun D σ H=>D.nx σ H
def qcL (t u:TS):TS:=fun D σ H=>t {D with nx:=u D} σ H
theorem bN:Dt X [] Zd:=fun _ _ σ H _ I h=>wpAny_execs_nil ⟨σ,H,I,h⟩
theorem aB (h1:PS X st t) (h2:Dt X rest u):Dt X (st::rest) (qcL t u):=by
  intro p_ s σ H D I h;refine wpAny_execs_cons (cL (h1 p_ s σ H {D with nx:=u D} I h) fun f s1 q=>?_);cases f with
  | next=>
    obtain⟨σ',H',I',q⟩:=q;exact h2 p_ s1 σ' H' D I' q
  | ret v=>exact q
  | brk=>exact q
  | cont=>exact q
theorem aG (h1:PS X st t):Dt X [st] t:=by
  intro p_ s σ H D I h;refine wpAny_execs_cons (cL (h1 p_ s σ H D I h) fun f s1 q=>?_);cases f with
  | next=>exact wpAny_execs_nil q
  | ret v=>exact q
  | brk=>exact q
  | cont=>exact q
theorem Inv.quiet {p_:List (Addr×Obj)} {σ:St} {H:Hp} {s:Shared} (I:Inv X p_ σ H s):interactive X.env=false:=by simp[interactive,I.ok.kind]
def Ze (te:TE):TS:=fun D σ H=>te σ H fun _ H1=>D.nx σ H1
theorem gw (he:PE X e te) (hs:swapsWith e none pos.line X.env=pure false:=by rfl):PS X (.Expr e pos) (Ze te):=by
  intro p_ s σ H D I h;refine wpAny_Expr_any (cL (he p_ s σ H _ I h) fun v s1 zz=>?_) I.quiet hs;obtain⟨x,H1,I1,r1,q1⟩:=zz;exact⟨σ,H1,I1,q1⟩
def qcM (te:TE):TS:=fun D σ H=>te σ H D.rt
theorem aZ (he:PE X e te):PS X (.Return (some e) pos) (qcM te):=by
  intro p_ s σ H D I h;refine wpAny_Return_some (cL (he p_ s σ H _ I h) fun v s1 zz=>?_);obtain⟨x,H1,I1,r1,q1⟩:=zz;exact⟨x,σ,H1,I1,r1,q1⟩
def qcN (c:TT) (t u:TS):TS:=fun D σ H=>c σ H fun b H1=>if b=true then t D σ H1 else u D σ H1
theorem dM {c:Expr} {a b:List Stmt} {tc:TT} (hc:PT X c tc) (ha:Dt X a t) (hb:Dt X b u):PS X (.If c a b pos) (qcN tc t u):=by
  intro p_ s σ H D I h;refine wpAny_If (cL (hc p_ s σ H _ I h) fun d s1 zz=>?_);obtain⟨H1,I1,q1⟩:=zz;cases d with
  | true=>exact ha p_ s1 σ H1 D I1 q1
  | false=>exact hb p_ s1 σ H1 D I1 q1
def R3:TS:=fun _ _ _=>False
theorem vh:PS X st R3:=fun _ _ _ _ _ _ h=>h.elim
end
abbrev TG:=V→St→Hp→(St→Hp→Prop)→Prop
abbrev HS:=List V→St→Hp→(St→Hp→Prop)→Prop
def PG (X:Cx) (target:Expr) (t:TG):Prop:=
  ∀(p_:List (Addr×Obj)) (s:Shared) (σ:St) (H:Hp) (v:V) (u:Value) (Q:St→Hp→Prop),Inv X p_ σ H s→RelV v u→t v σ H Q→
    wpAny (model X.prog X.w) X.A (assign target X.env u) (fun _ s'=>∃σ' H',Inv X p_ σ' H' s'∧Q σ' H') X.xe s
def jg (X:Cx) (ts:List Expr) (t:HS):Prop:=
  ∀(p_:List (Addr×Obj)) (s:Shared) (σ:St) (H:Hp) (vs:List V) (us:List Value) (Q:St→Hp→Prop),Inv X p_ σ H s→Vals vs us→t vs σ H Q→
    wpAny (model X.prog X.w) X.A (assignInOrder ((assignEach ts X.env).map (·.2)) us) (fun _ s'=>∃σ' H',Inv X p_ σ' H' s'∧Q σ' H') X.xe s
abbrev Py:=V→V→V→Hp→(Hp→Prop)→Prop
def Pz (X:Cx) (t:Py):Prop:=
  ∀(p_:List (Addr×Obj)) (s:Shared) (σ:St) (H:Hp) (o i v:V) (ov iv u:Value) (Q:Hp→Prop),Inv X p_ σ H s→RelV o ov→RelV i iv→RelV v u→t o i v H Q→
    wpAny (model X.prog X.w) X.A (setItem ov iv u) (fun _ s'=>∃H',Inv X p_ σ H' s'∧Q H') X.xe s
abbrev WX:=V→V→Hp→VK→Prop
def PIp (X:Cx) (op:Operator) (t:WX):Prop:=
  ∀(p_:List (Addr×Obj)) (s:Shared) (σ:St) (H:Hp) (x y:V) (v u:Value) (Q:VK),Inv X p_ σ H s→RelV x v→RelV y u→t x y H Q→
    wpAny (model X.prog X.w) X.A (inplaceOp op v u) (EP X p_ σ Q) X.xe s
section
variable {X:Cx} {pos:Pos}
def Nu (i:Nat):TG:=fun v σ H Q=>Q (σ.set i (some v)) H
theorem aQ {i:Nat} {x:Str} (hN:X.N.Nodup) (hi:X.N[i]? = some x) (hx:Loc X.env.scope x) (hf:X.fn x=true∨X.env.scope.names.lookup x=some .local:=by first | exact .inl rfl | exact .inr rfl | assumption):PG X (.Name x pos) (Nu i):=by
  intro p_ s σ H v u Q I r h;exact wpAny_assign_Name (zU I hN hi hx r (fun s' I'=>⟨_,H,I',h⟩) hf)
def qaq:HS:=fun vs σ H Q=>vs=[]∧Q σ H
def R4 (t:TG) (u:HS):HS:=fun vs σ H Q=>∃v r,vs=v::r∧t v σ H fun σ' H'=>u r σ' H' Q
theorem eZ:jg X [] qaq:=by
  intro p_ s σ H vs us Q I r h;obtain⟨e,h⟩:=h;subst e;cases r;exact assignInOrder_nil ⟨σ,H,I,h⟩
theorem bw {e:Expr} {es:List Expr} {t:TG} {u:HS} (h1:PG X e t) (h2:jg X es u)
    (hs:(assignEach (e::es) X.env).map (·.2)=assign e X.env::(assignEach es X.env).map (·.2):=by rfl):jg X (e::es) (R4 t u):=by
  intro p_ s σ H vs us Q I r h;obtain⟨v,vr,e1,h⟩:=h;subst e1;cases r with
  | cons r rr=>
    rw[hs];refine assignInOrder_cons (cL (h1 p_ s σ H _ _ _ I r h) fun _ s1 zz=>?_);obtain⟨σ1,H1,I1,q1⟩:=zz;exact h2 p_ s1 σ1 H1 _ _ Q I1 rr q1
def WY (K:W.Frag) (n:Nat) (t:HS):TG:=fun v σ H Q=>∃a xs,v = .ref a∧dz K H a xs∧xs.length=n∧t xs σ H Q
theorem qar {es:List Expr} {k:Nat} {t:HS} {n:Nat} (hc:X.calm=true) (h:jg X es t)
    (hn:(assignEach es X.env).length=n:=by rfl) (hst:(assignEach es X.env).findIdx? (·.1)=none:=by rfl):PG X (.Tuple es k pos) (WY X.K n t):=by
  intro p_ s σ H v u Q I r hw;obtain⟨a,xs,e1,hq,hl,hw⟩:=hw;subst e1;cases r;obtain⟨its,rv,ht,hz⟩:=I.tuple hq;refine assign_Tuple_tuple (I.ok.hd hc) ht (by simp[hn,← hl,rv.length]) hst fun h' hx=>?_;have I1:Inv X p_ σ H {s with heap:=h'}:=I.kept (t':=s.toks) fun b o e=>hx b o (Nat.ne_of_lt (Heap.lt_size e)) e;exact h p_ _ σ H xs _ Q I1 (by simpa using rv) hw
def qcO (to ti:TE) (t:Py):TG:=fun v σ H Q=>to σ H fun o H1=>ti σ H1 fun i H2=>t o i v H2 fun H3=>Q σ H3
theorem R5 {o i:Expr} {to ti:TE} {t:Py} (ho:PE X o to) (hi:PE X i ti) (hs:Pz X t)
    (ha:∀v,assign (.Subscript o i pos) X.env v=(do
      let ov ← holding [v] (eval o X.env)
      let iv ← holding [v,ov] (eval i X.env)
      standAt pos
      holding [v,ov,iv] (setItem ov iv v)
      release [v,ov,iv] []):=by intro _;rfl):PG X (.Subscript o i pos) (qcO to ti t):=by
  intro p_ s σ H v u Q I r h;rw[ha];refine wpAny_bind (wpAny_holding (cL (ho p_ s σ H _ I h) fun ov s1 zz=>?_));obtain⟨x,H1,I1,r1,q1⟩:=zz;refine wpAny_bind (wpAny_holding (cL (hi p_ s1 σ H1 _ I1 q1) fun iv s2 zz=>?_));obtain⟨y,H2,I2,r2,q2⟩:=zz;refine wpAny_bind (wpAny_standAt (wpAny_bind (wpAny_holding (cL (hs p_ s2 σ H2 x y v ov iv u _ I2 r1 r2 r q2) fun _ s3 zz=>?_))));obtain⟨H3,I3,q3⟩:=zz;exact wpAny_release ⟨σ,H3,I3,q3⟩
def W0 (te:TE) (g:TG):TS:=fun D σ H=>te σ H fun x H1=>g x σ H1 D.nx
theorem wZ {tg e:Expr} {te:TE} {g:TG} (he:PE X e te) (hg:PG X tg g) (hs:swapsWithSole [tg] e pos.line X.env=pure false:=by rfl) (hw:swappedStores [tg] e X.env=pure none:=by rfl)
    (h1:(assignEach [tg] X.env).map (·.2)=[assign tg X.env]:=by rfl):PS X (.Assign [tg] e pos) (W0 te g):=by
  intro p_ s σ H D I h;refine wpAny_Assign_stores (cL (he p_ s σ H _ I h) fun v s1 zz=>?_) hs hw;obtain⟨x,H1,I1,r1,q1⟩:=zz;rw[h1];exact cL (hg p_ s1 σ H1 x v _ I1 r1 q1) fun _ s2 q=>q
theorem bK {i:Nat} {x:Str} {e:Expr} {te:TE} {pos':Pos} (hN:X.N.Nodup) (hi:X.N[i]? = some x) (hx:Loc X.env.scope x) (he:PE X e te) (hs:swapsWith e (some (.Name x pos')) pos.line X.env=pure false:=by rfl) (hf:X.fn x=true∨X.env.scope.names.lookup x=some .local:=by first | exact .inl rfl | exact .inr rfl | assumption) :
    PS X (.Assign [.Name x pos'] e pos) (W0 te (Nu i)):=by
  intro p_ s σ H D I h;refine wpAny_Assign_Name (cL (he p_ s σ H _ I h) fun v s1 zz=>?_) hs;obtain⟨y,H1,I1,r1,q1⟩:=zz;exact zU I1 hN hi hx r1 (fun s2 I2=>⟨_,H1,I2,q1⟩) hf
def qas (i:Nat) (te:TE) (ti:WX):TS:=fun D σ H=>∃x,σ[i]? = some (some x)∧te σ H fun y H1=>ti x y H1 fun z H2=>D.nx (σ.set i (some z)) H2
theorem qat {i:Nat} {x:Str} {e:Expr} {te:TE} {op:Operator} {ti:WX} {pos':Pos} (hN:X.N.Nodup) (hi:X.N[i]? = some x) (hx:Loc X.env.scope x) (he:PE X e te) (ho:PIp X op ti) (hf:X.fn x=true∨X.env.scope.names.lookup x=some .local:=by first | exact .inl rfl | exact .inr rfl | assumption) :
    PS X (.AugAssign (.Name x pos') op e pos) (qas i te ti):=by
  intro p_ s σ H D I h;obtain⟨v,e1,h⟩:=h;obtain⟨m,hn,hl⟩:=I.loc;have vis:Vis X.env.scope x:=by rcases hx with k | k;exact .inl k;exact .inr (.inl k)
  obtain⟨u,r,l⟩:=hl i x v hi e1 vis;refine wpAny_AugAssign_Name ?_;have go:wpAny (model X.prog X.w) X.A (eval e X.env) (fun w s₂=>wpAny (model X.prog X.w) X.A (inplaceOp op u w) (fun r s₃=>wpAny (model X.prog X.w) X.A (storeName X.env x r) (fun _=>SP X p_ D .next) X.xe s₃) X.xe s₂) X.xe s:=by
    refine cL (he p_ s σ H _ I h) fun w s1 zz=>?_;obtain⟨y,H1,I1,r1,q1⟩:=zz;refine cL (ho p_ s1 σ H1 v y u w _ I1 r r1 q1) fun z s2 zz=>?_;obtain⟨zv,H2,I2,r2,q2⟩:=zz;exact zU I2 hN hi hx r2 (fun s3 I3=>⟨_,H2,I3,q2⟩) hf
  rcases l with⟨hk,hm⟩ | ⟨hk,c,hc,hcell⟩
  ·exact wpAny_loadName_local I.ok.kind hk hn hm go
  · rcases hk with hk | hk
    ·exact wpAny_loadName_cell I.ok.kind hk hc hcell go
    · rcases hx with k | k
      ·have:X.env.scope.names.lookup x=some .free:=hk;rw[k] at this;cases this
      ·have:X.env.scope.names.lookup x=some .free:=hk;rw[k] at this;cases this
def ipI (f:Int→Int→Int):WX:=fun x y H Q=>∃i j,x = .int i∧y = .int j∧Q (.int (f i j)) H
theorem qau:PIp X .Add (ipI fun i j=>i+j):=by
  intro p_ s σ H x y v u Q I r1 r2 h;obtain⟨i,j,e1,e2,q⟩:=h;subst e1;subst e2;obtain⟨t,rfl⟩:=r1;obtain⟨t',rfl⟩:=r2;exact iadd_int ⟨.int _,H,I.tok _,⟨_,rfl⟩,q⟩
end
section
variable {X:Cx} {pos:Pos}
def Fp (c:TT) (tb:TS):TS:=fun D σ H=>∃qz:Nat→St→Hp→Prop,(∃m,qz m σ H)∧∀m σ H,qz m σ H→
  c σ H fun b H1=>if b=true then ∃N:St→Hp→Prop,(∀σ' H',N σ' H'→∃m',m'<m∧qz m' σ' H')∧tb {D with nx:=N,ct:=N,bk:=D.nx} σ H1 else D.nx σ H1
theorem R6 {c:Expr} {body:List Stmt} {tc:TT} {tb:TS} (hp:PassesOwn (model X.prog X.w) X.A X.env X.xe) (hc:PT X c tc) (hb:Dt X body tb):PS X (.While c body [] pos) (Fp tc tb):=by
  intro p_ s σ H D I h;obtain⟨qz,⟨m0,w0⟩,turn⟩:=h;refine wpAny_While (codeAny_whileLoop (fun n s'=>∃σ' H',Inv X p_ σ' H' s'∧qz n σ' H') ?_ m0 ⟨σ,H,I,w0⟩);rintro n s1 ⟨σ1,H1,I1,w1⟩;refine wpAny_passesOwn hp (cL (hc p_ s1 σ1 H1 _ I1 (turn n σ1 H1 w1)) fun b s2 zz=>?_);obtain⟨H2,I2,q2⟩:=zz;cases b with
  | true=>
    obtain⟨N,hN,q2⟩:=q2;rw[if_pos rfl];refine wpAny_passesOwn hp (cL (hb p_ s2 σ1 H2 _ I2 q2) fun f s3 q3=>?_);cases f with
    | next=>
      obtain⟨σ3,H3,I3,n3⟩:=q3;obtain⟨m',hm,w3⟩:=hN σ3 H3 n3;exact⟨m',hm,σ3,H3,I3,w3⟩
    | cont=>
      obtain⟨σ3,H3,I3,n3⟩:=q3;obtain⟨m',hm,w3⟩:=hN σ3 H3 n3;exact⟨m',hm,σ3,H3,I3,w3⟩
    | brk=>exact q3
    | ret v=>exact q3
  | false=>
    rw[if_neg Bool.false_ne_true];exact wpAny_execs_nil ⟨σ1,H2,I2,q2⟩
end
structure It where
  go:Nat→Hp→Prop
  Zf:Nat→Hp→V→Hp→Prop
  stop:Nat→Hp→Prop
def um (X:Cx) (p_:List (Addr×Obj)) (H:Hp) (b:Addr):Prop:=
  H b=none∧b≠X.env.locals∧b∉X.fs∧(b∈X.ex∨X.s₀.heap.objs.size≤b)∧(∀x c,X.env.cells.lookup x=some c→c≠b)∧∀p∈X.pn++p_,p.1≠b
theorem Inv.CN {X:Cx} {p_:List (Addr×Obj)} {σ:St} {H H':Hp} {s:Shared} {b:Addr} (I:Inv X p_ σ H s) (hb:s.heap.objs.size≤b) (hn:H' b=none):um X p_ H' b:=by
  refine⟨hn,Nat.ne_of_gt (Nat.lt_of_lt_of_le I.lt hb),I.qh_ hb,.inr (Nat.le_trans I.sz hb),fun x c e z=>?_,fun p hp z=>?_⟩
  ·obtain⟨v,q⟩:=I.cell x c e;exact absurd (Nat.lt_of_lt_of_le q.lt (by rw[z];exact hb)) (Nat.lt_irrefl _)
  ·exact absurd (Nat.lt_of_lt_of_le (Heap.lt_size (I.pin p hp).1) (by rw[z];exact hb)) (Nat.lt_irrefl _)
structure Turn (P:Program) (w:World) (K:W.Frag) (tg:Expr) (J:It) (fp:List Addr) (it:Addr) (tn:Nat→Heap→Prop):Prop where
  mem:it∈fp
  obj:∀i h,tn i h→∀b∈fp,∃o,h.get? b=some o∧∀v,o.data≠.cell v
  keep:∀i h h',tn i h→(∀b∈fp,∀o,h.get? b=some o→h'.get? b=some o)→tn i h'
  item:∀(X:Cx),X.prog=P→X.w=w→X.K=K→X.calm=true→∀(i:Nat) (p_:List (Addr×Obj)) (s:Shared) (σ:St) (H:Hp) (E:Value→Shared→Prop),Inv X p_ σ H s→(∀b∈fp,um X p_ H b)→tn i s.heap→J.go i H→
    wpAny (model P w) X.A (pyNext (.ref it)) (fun r s1=>∃u,r=some u∧
      wpAny (model P w) X.A (letOwnedTupleGo tg (.ref it) u) (fun _ s2=>∃x H',Inv X p_ σ H' s2∧RelV x u∧J.Zf i H x H'∧tn (i+1) s2.heap∧∀b∈fp,H' b=none) E s1) E s
  done:∀(X:Cx),X.prog=P→X.w=w→X.K=K→X.calm=true→∀(i:Nat) (p_:List (Addr×Obj)) (s:Shared) (σ:St) (H:Hp) (E:Value→Shared→Prop),Inv X p_ σ H s→(∀b∈fp,um X p_ H b)→tn i s.heap→J.stop i H→
    wpAny (model P w) X.A (pyNext (.ref it)) (fun r s1=>r=none∧Inv X p_ σ H s1) E s
  self:∀(A:Around) (i:Nat) (s:Shared) (Q:Value→Shared→Prop) (E:Value→Shared→Prop),tn i s.heap→Q (.ref it) s→wpAny (model P w) A (pyIter (.ref it)) Q E s
abbrev TI:=St→Hp→(It→Hp→Prop)→Prop
def PIE (X:Cx) (p_:List (Addr×Obj)) (σ:St) (tg:Expr) (R:It→Hp→Prop) (itv:Value) (s2:Shared):Prop:=
  ∃(it:Addr) (fp:List Addr) (tn:Nat→Heap→Prop) (J:It) (H':Hp),itv = .ref it∧Inv X p_ σ H' s2∧Turn X.prog X.w X.K tg J fp it tn∧tn 0 s2.heap∧(∀b∈fp,um X p_ H' b)∧R J H'
def PI (X:Cx) (tg iter:Expr) (wi:TI):Prop:=
  ∀(p_:List (Addr×Obj)) (s:Shared) (σ:St) (H:Hp) (R:It→Hp→Prop),Inv X p_ σ H s→wi σ H R→
    wpAny (model X.prog X.w) X.A (eval iter X.env) (fun v s1=>wpAny (model X.prog X.w) X.A (pyIter v) (PIE X p_ σ tg R) X.xe s1) X.xe s
theorem R7 {M:Model} {A:Around} {E:Value→Shared→Prop} {s:Shared} {tg:Expr} {it:Addr} {u:Value} {o:Obj} {n:String} {vs:Array Value} {Q:Unit→Shared→Prop} (ho:s.heap.get? it=some o) (hc:o.cls = .type n) (hd:o.data = .fields vs)
    (hn : ["enumerate", "zip", "dict_itemiterator", "dict_reverseitemiterator", "odict_iterator", "itertools.zip_longest", "itertools.pairwise"].contains n=false) (hQ:Q () s):wpAny M A (letOwnedTupleGo tg (.ref it) u) Q E s:=by
  unfold letOwnedTupleGo;cases tg <;> first
    | exact wpAny_pure hQ
    | (cases u <;> first
        | exact wpAny_pure hQ
        | (refine wpAny_bind (wpAny_load ho ?_)
           rw[hc,hd];show wpAny M A (if (["enumerate", "zip", "dict_itemiterator", "dict_reverseitemiterator", "odict_iterator", "itertools.zip_longest", "itertools.pairwise"].contains n && vs[0]? == some (rawInt _))=true then _ else _) Q E s
           rw[if_neg (by intro h;rw[hn,Bool.false_and] at h;cases h)];exact wpAny_pure hQ))
def RJ (K:W.Frag) (a:Addr):It:=
  ⟨fun i H=>∃xs x,aY K H a xs∧xs[i]? = some x,fun i H x H'=>H'=H∧∀xs,aY K H a xs→xs[i]? = some x,fun i H=>∃xs,aY K H a xs∧xs.length≤i⟩
def Itt (K:W.Frag) (a:Addr):It:=
  ⟨fun i H=>∃xs x,dz K H a xs∧xs[i]? = some x,fun i H x H'=>H'=H∧∀xs,dz K H a xs→xs[i]? = some x,fun i H=>∃xs,dz K H a xs∧xs.length≤i⟩
def Kh (lo:Int) (n:Nat):It:=⟨fun i _=>i<n,fun i H x H'=>H'=H∧x = .int (lo+i),fun i _=>n≤i⟩
theorem Du {P:Program} {w:World} {K:W.Frag} {tg:Expr} (a it:Addr):Turn P w K tg (RJ K a) [it] it (fun i h=>h.IsListIter it a i) where
  mem:=by simp
  obj:=fun i h st b hb=>by
    have e:b=it:=by simpa using hb
    subst e;obtain⟨o,e,c,d⟩:=st;exact⟨o,e,fun v z=>by rw[d] at z;cases z⟩
  keep:=fun i h h' st k=>st.at fun o e=>k it (by simp) o e
  item:=by
    intro X hP hw hK hc i p_ s σ H E I hf st hg;subst hP hw hK;obtain⟨xs,x,hq,hx⟩:=hg;obtain⟨its,rv,p,hz⟩:=I.list hq;obtain⟨u,hu,ru⟩:=rv.get hx;obtain⟨f0,f1,f2,f3,f4,f5⟩:=hf it (by simp);refine wpAny_pyNext_list_item st p.isList (x:=u) (by simpa using hu) fun h' st' sb=>?_;have I1:Inv X p_ σ H {s with heap:=h'}:=I.turned (t':=s.toks) (fun b o hb e=>(sb.2 b hb).trans e) f0 f1 f3 f4 f5;obtain⟨o,e,c,d⟩:=id st';exact⟨u,rfl,R7 (s:={s with heap:=h'}) e c d (by decide) ⟨x,H,I1,ru,⟨rfl,fun ys hy=>by rw[I.vg hy hq];exact hx⟩,st',fun b hb=>(hf b hb).1⟩⟩
  done:=by
    intro X hP hw hK hc i p_ s σ H E I hf st hg;subst hP hw hK;obtain⟨xs,hq,hx⟩:=hg;obtain⟨its,rv,p,hz⟩:=I.list hq;obtain⟨f0,f1,f2,f3,f4,f5⟩:=hf it (by simp);have hl:=rv.length;exact wpAny_pyNext_list_end (I.ok.hd hc) st p.isList (by simp;omega) fun h' eb=>⟨rfl,I.turned (t':=s.toks) (fun b o hb e=>eb b o hb e) f0 f1 f3 f4 f5⟩
  self:=fun _ _ _ _ _ st h=>wpAny_pyIter_listiter st h
theorem Ku {P:Program} {w:World} {K:W.Frag} {tg:Expr} (a it:Addr):Turn P w K tg (Itt K a) [it] it (fun i h=>h.IsTupleIter it a i) where
  mem:=by simp
  obj:=fun i h st b hb=>by
    have e:b=it:=by simpa using hb
    subst e;obtain⟨o,e,c,d⟩:=st;exact⟨o,e,fun v z=>by rw[d] at z;cases z⟩
  keep:=fun i h h' st k=>st.at fun o e=>k it (by simp) o e
  item:=by
    intro X hP hw hK hc i p_ s σ H E I hf st hg;subst hP hw hK;obtain⟨xs,x,hq,hx⟩:=hg;obtain⟨its,rv,p,hz⟩:=I.tuple hq;obtain⟨u,hu,ru⟩:=rv.get hx;obtain⟨f0,f1,f2,f3,f4,f5⟩:=hf it (by simp);refine wpAny_pyNext_tuple_item st (show s.heap.IsTuple a its.toArray from p) (x:=u) (by simpa using hu) fun h' st' sb=>?_;have I1:Inv X p_ σ H {s with heap:=h'}:=I.turned (t':=s.toks) (fun b o hb e=>(sb.2 b hb).trans e) f0 f1 f3 f4 f5;obtain⟨o,e,c,d⟩:=id st';exact⟨u,rfl,R7 (s:={s with heap:=h'}) e c d (by decide) ⟨x,H,I1,ru,⟨rfl,fun ys hy=>by rw[I.Px hy hq];exact hx⟩,st',fun b hb=>(hf b hb).1⟩⟩
  done:=by
    intro X hP hw hK hc i p_ s σ H E I hf st hg;subst hP hw hK;obtain⟨xs,hq,hx⟩:=hg;obtain⟨its,rv,p,hz⟩:=I.tuple hq;obtain⟨f0,f1,f2,f3,f4,f5⟩:=hf it (by simp);have hl:=rv.length;exact wpAny_pyNext_tuple_end (I.ok.hd hc) st (show s.heap.IsTuple a its.toArray from p) (by simp;omega) fun h' eb=>⟨rfl,I.turned (t':=s.toks) (fun b o hb e=>eb b o hb e) f0 f1 f3 f4 f5⟩
  self:=fun _ _ _ _ _ st h=>wpAny_pyIter_tupleiter st h
theorem Kv {P:Program} {w:World} {K:W.Frag} {tg:Expr} (it:Addr) (lo:Int) (n:Nat):Turn P w K tg (Kh lo n) [it] it (fun i h=>IsRangeIter h it (lo+(i:Nat) * 1) ((n:Int) - (i:Nat)) 1) where
  mem:=by simp
  obj:=fun i h st b hb=>by
    have e:b=it:=by simpa using hb
    subst e;exact⟨_,st,fun v z=>by
      have z':Data.fields _=Data.cell v:=z;cases z'⟩
  keep:=fun i h h' st k=>k it (by simp) _ st
  item:=by
    intro X hP hw hK hc i p_ s σ H E I hf st hg;subst hP hw hK;obtain⟨f0,f1,f2,f3,f4,f5⟩:=hf it (by simp);have qz:=Walks.range (prog:=X.prog) (w:=X.w) (I.ok.hd hc) it lo 1 n;refine qz.item i s _ _ hg st fun v h' tk hv st' kk=>?_;obtain⟨t,rfl⟩:=hv;have I1:Inv X p_ σ H {s with heap:=h',toks:=tk}:=I.turned (fun b o hb e=>kk b o (by simpa using hb) e) f0 f1 f3 f4 f5;refine⟨_,rfl,R7 (s:={s with heap:=h',toks:=tk}) (n:= "range_iterator") st' rfl rfl (by decide) ⟨.int (lo+i),H,I1,⟨t,?_⟩,⟨rfl,rfl⟩,st',fun b hb=>(hf b hb).1⟩⟩;rw[Int.mul_one]
  done:=by
    intro X hP hw hK hc i p_ s σ H E I hf st hg;subst hP hw hK;obtain⟨f0,f1,f2,f3,f4,f5⟩:=hf it (by simp);exact wpAny_pyNext_range_end (I.ok.hd hc) st (by have:n≤i:=hg;omega) fun h' eb=>⟨rfl,I.turned (t':=s.toks) (fun b o hb e=>eb b o hb e) f0 f1 f3 f4 f5⟩
  self:=fun _ _ _ _ _ st h=>wpAny_pyIter_rangeiter st h
section
variable {X:Cx} {tg:Expr}
def Nv (K:W.Frag) (tl:TE):TI:=fun σ H R=>tl σ H fun x H1=>∃a,x = .ref a∧(∃xs,aY K H1 a xs)∧R (RJ K a) H1
theorem W2 {l:Expr} {tl:TE} (hl:PE X l tl):PI X tg l (Nv X.K tl):=by
  intro p_ s σ H R I h;refine cL (hl p_ s σ H _ I h) fun v s1 zz=>?_;obtain⟨x,H1,I1,r1,q1⟩:=zz;obtain⟨a,e,⟨xs,hq⟩,q⟩:=q1;subst e;cases r1;obtain⟨its,rv,p,hz⟩:=I1.list hq;refine wpAny_pyIter_list p.isList ?_;refine⟨s1.heap.objs.size,[s1.heap.objs.size],_,_,H1,rfl,I1.kept (t':=s1.toks) fun b o e=>Heap.get?_push_of_some _ e,Du a _,⟨_,Heap.get?_push_size _ rfl,rfl,rfl⟩,fun b hb=>?_,q⟩;have e:b=s1.heap.objs.size:=by simpa using hb
  subst e;exact I1.CN (Nat.le_refl _) (I1.hok.fresh (Nat.le_refl _))
theorem Ie {p_:List (Addr×Obj)} {σ:St} {H:Hp} {s:Shared} {R:It→Hp→Prop} {E:Value→Shared→Prop} {lo hi:Int} {t u v:Tok} {tk:Nat} (I:Inv X p_ σ H s) (h1 : -(2 ^ 62)≤lo) (h2:lo<2 ^ 62) (h3 : -(2 ^ 62)≤hi) (h4:hi<2 ^ 62)
    (q:R (Kh lo (hi - lo).toNat) H):wpAny (model X.prog X.w) X.A (pyIter (.ref s.heap.objs.size)) (PIE X p_ σ tg R) E {s with heap:=s.heap.push {cls:=.type "range",data:=.fields #[.int lo t,.int hi u,.int 1 v]},toks:=tk}:=by
  refine wpAny_pyIter_range (IsRange.new ..) (small_one h1 h2 h3 h4) ?_;have I1:Inv X p_ σ H {s with heap:=s.heap.push {cls:=.type "range",data:=.fields #[.int lo t,.int hi u,.int 1 v]},toks:=tk}:=I.kept fun b o e=>Heap.get?_push_of_some _ e;refine⟨(s.heap.push {cls:=.type "range",data:=.fields #[.int lo t,.int hi u,.int 1 v]}).objs.size,[(s.heap.push {cls:=.type "range",data:=.fields #[.int lo t,.int hi u,.int 1 v]}).objs.size],_,_,H,rfl,
    I1.kept (t':=tk) fun b o e=>Heap.get?_push_of_some _ e,Kv _ lo (hi - lo).toNat,?_,fun b hb=>?_,q⟩
  · have e1:lo+((0:Nat):Int) * 1=lo:=by simp
    have e2:(((hi - lo).toNat:Nat):Int) - ((0:Nat):Int)=Builtin.Range.rangeSize lo hi 1:=by rw[rangeSize_one];split <;> omega
    show IsRangeIter _ _ (lo+((0:Nat):Int) * 1) ((((hi - lo).toNat:Nat):Int) - ((0:Nat):Int)) 1;rw[e1,e2];exact Heap.get?_push_size _ rfl
  · have e:b=(s.heap.push {cls:=.type "range",data:=.fields #[.int lo t,.int hi u,.int 1 v]}).objs.size:=by simpa using hb
    subst e;exact I1.CN (Nat.le_refl _) (I1.hok.fresh (Nat.le_refl _))
def R8 (ta:TA):TI:=fun σ H R=>ta σ H fun vs H1=>∃j:Int,vs=[.int j]∧-(2 ^ 62)≤j∧j<2 ^ 62∧R (Kh 0 j.toNat) H1
def R9 (ta:TA):TI:=fun σ H R=>ta σ H fun vs H1=>∃i j:Int,vs=[.int i,.int j]∧(-(2 ^ 62)≤i∧i<2 ^ 62∧-(2 ^ 62)≤j∧j<2 ^ 62)∧R (Kh i (j - i).toNat) H1
theorem jk {a:Expr} {ta:TA} {p pos:Pos} (hg:Gl X "range") (hm:X.mg "range" = none) (ha:PA X [a] ta) (hs:starEach [a] X.env=[(false,eval a X.env)]:=by rfl):PI X tg (.Call (.Name "range" p) [a] [] pos) (R8 ta):=by
  intro p_ s σ H R I h;refine Call_ (oZ I hg hm boot_range (PyProof.Rows.callWith_type1 (cL (ha pos p_ s σ H _ I h) fun us s1 zz=>?_) hs rfl));obtain⟨vs,H1,I1,r1,q1⟩:=zz;obtain⟨j,e,q1,q2,q⟩:=q1;subst e;cases r1 with
  | cons r rr=>
    cases rr;obtain⟨t,rfl⟩:=r;exact call_range_1 (Ie I1 (by omega) (by omega) q1 q2 (by simpa using q))
theorem PB {a b:Expr} {ta:TA} {p pos:Pos} (hg:Gl X "range") (hm:X.mg "range" = none) (ha:PA X [a,b] ta) (hs:starEach [a,b] X.env=[(false,eval a X.env),(false,eval b X.env)]:=by rfl) (hs2:starEach [b] X.env=[(false,eval b X.env)]:=by rfl) :
    PI X tg (.Call (.Name "range" p) [a,b] [] pos) (R9 ta):=by
  intro p_ s σ H R I h;refine Call_ (oZ I hg hm boot_range (PyProof.Rows.callWith_type1 (cL (ha pos p_ s σ H _ I h) fun us s1 zz=>?_) (by rw[hs,hs2]) (by rw[hs2];rfl)));obtain⟨vs,H1,I1,r1,q1⟩:=zz;obtain⟨i,j,e,⟨q1,q2,q3,q4⟩,q⟩:=q1;subst e;cases r1 with
  | cons r rr=>
    cases rr with
    | cons r' rr=>
      cases rr;obtain⟨t,rfl⟩:=r;obtain⟨t',rfl⟩:=r';exact call_range_2 (Ie I1 q1 q2 q3 q4 q)
def qcP (wi:TI) (g:TG) (tb:TS):TS:=fun D σ H=>wi σ H fun J H1=>∃qz:Nat→Nat→St→Hp→Prop,(∃m,qz 0 m σ H1)∧∀i m σ H,qz i m σ H→
  (J.stop i H∧D.nx σ H)∨(J.go i H∧∃N:St→Hp→Prop,(∀σ' H',N σ' H'→∃m',m'<m∧qz (i+1) m' σ' H')∧∀x H',J.Zf i H x H'→g x σ H' fun σ2 H2=>tb {D with nx:=N,ct:=N,bk:=D.nx} σ2 H2)
def zV (fp:List Addr) (h:Heap):List (Addr×Obj):=fp.filterMap fun b=>(h.get? b).map fun o=>(b,o)
theorem o9 {fp:List Addr} {h:Heap} {b:Addr} {o:Obj} (hb:b∈fp) (e:h.get? b=some o):(b,o)∈zV fp h:=List.mem_filterMap.mpr ⟨b,hb,by rw[e];rfl⟩
theorem PJ {fp:List Addr} {h:Heap} {p:Addr×Obj} (hp:p∈zV fp h):p.1∈fp∧h.get? p.1=some p.2:=by
  obtain⟨b,hb,e⟩:=List.mem_filterMap.mp hp;cases q:h.get? b with
  | none=>rw[q] at e;cases e
  | some o=>
    rw[q] at e;have e':(b,o)=p:=Option.some.inj e;subst e';exact⟨hb,q⟩
theorem Inv.pinned {p_:List (Addr×Obj)} {σ:St} {H:Hp} {s:Shared} {fp:List Addr} (I:Inv X p_ σ H s) (hf:∀b∈fp,um X p_ H b) (ho:∀b∈fp,∃o,s.heap.get? b=some o∧∀v,o.data≠.cell v):Inv X (p_++zV fp s.heap) σ H s:=
  I.Nt fun p hp=>(List.mem_append.mp hp).elim (fun z=>I.pin p (List.mem_append_right _ z)) fun z=>by
    obtain⟨hb,e⟩:=PJ z;obtain⟨f0,f1,f2,_⟩:=hf p.1 hb;obtain⟨o,e',d⟩:=ho p.1 hb;rw[e] at e';cases e';exact⟨e,f0,f1,f2,d⟩
theorem Inv.vm {p_ pl:List (Addr×Obj)} {σ:St} {H:Hp} {s:Shared} (I:Inv X (p_++pl) σ H s):Inv X p_ σ H s:=I.Nt fun p hp=>I.pin p (List.mem_append_right _ (List.mem_append_left _ hp))
theorem jQ {iter:Expr} {body:List Stmt} {wi:TI} {g:TG} {tb:TS} {pos:Pos} (hp:PassesOwn (model X.prog X.w) X.A X.env X.xe) (hc:X.calm=true) (hi:PI X tg iter wi) (hg:PG X tg g) (hb:Dt X body tb)
    (hs:∀x,foldedSetIterable iter X.env x=pure x:=by intro _;rfl):PS X (.For tg iter body [] pos) (qcP wi g tb):=by
  intro p_ s σ H D I h;refine wpAny_For (cL (hi p_ s σ H _ I h) fun v s1 h1=>cL h1 fun itv s2 h2=>?_) hs;obtain⟨it,fp,tn,J,H2,e,I2,T,st2,f2,qz,⟨m0,w0⟩,turn⟩:=h2;subst e;have stat:∀{H':Hp},(∀b∈fp,H' b=none)→∀b∈fp,um X p_ H' b:=fun hn b hb=>⟨hn b hb,(f2 b hb).2⟩;refine codeAny_forLoop_any (fun n s'=>∃i σ' H',Inv X p_ σ' H' s'∧tn i s'.heap∧(∀b∈fp,H' b=none)∧qz i n σ' H') ?_ m0 ⟨0,σ,H2,I2,st2,fun b hb=>(f2 b hb).1,w0⟩;rintro n s3 ⟨i,σ3,H3,I3,st3,fr3,w3⟩
  rcases turn i n σ3 H3 w3 with⟨stop,qn⟩ | ⟨go,N,hN,step⟩
  ·refine wpAny_passesOwn hp (cL (T.done X rfl rfl rfl hc i p_ s3 σ3 H3 X.xe I3 (stat fr3) st3 stop) fun r s4 zz=>?_);obtain⟨hr,I4⟩:=zz;subst hr;exact wpAny_execs_nil ⟨σ3,H3,I4,qn⟩
  · refine wpAny_passesOwn hp (cL (T.item X rfl rfl rfl hc i p_ s3 σ3 H3 X.xe I3 (stat fr3) st3 go) fun r s4 zz=>?_);obtain⟨u,hr,h4⟩:=zz;subst hr;refine wpAny_passesOwn hp (cL h4 fun _ s5 zz=>?_);obtain⟨x,H5,I5,r5,y5,st5,fr5⟩:=zz;have I5':=I5.pinned (stat fr5) (T.obj _ _ st5);refine wpAny_passesOwn hp (cL (hg _ s5 σ3 H5 x u _ I5' r5 (step x H5 y5)) fun _ s6 zz=>?_);obtain⟨σ6,H6,I6,q6⟩:=zz;refine wpAny_passesOwn hp (cL (hb _ s6 σ6 H6 _ I6 q6) fun f s7 q7=>?_);have again:∀{σ7:St} {H7:Hp},Inv X (p_++zV fp s5.heap) σ7 H7 s7→N σ7 H7→∃m,m<n∧∃i σ' H',Inv X p_ σ' H' s7∧tn i s7.heap∧(∀b∈fp,H' b=none)∧qz i m σ' H':=fun {σ7 H7} I7 n7=>by
      obtain⟨m',hm,w7⟩:=hN σ7 H7 n7;refine⟨m',hm,i+1,σ7,H7,I7.vm,T.keep _ _ _ st5 fun b hb o e=>(I7.pin (b,o) (List.mem_append_right _ (List.mem_append_right _ (o9 hb e)))).1,fun b hb=>?_,w7⟩;obtain⟨o,e,d⟩:=T.obj _ _ st5 b hb;exact(I7.pin (b,o) (List.mem_append_right _ (List.mem_append_right _ (o9 hb e)))).2.1
    cases f with
    | next=>obtain⟨σ7,H7,I7,n7⟩:=q7;exact again I7 n7
    | cont=>obtain⟨σ7,H7,I7,n7⟩:=q7;exact again I7 n7
    | brk=>obtain⟨σ7,H7,I7,q7⟩:=q7;exact⟨σ7,H7,I7.vm,q7⟩
    | ret v=>obtain⟨x7,σ7,H7,I7,r7,q7⟩:=q7;exact⟨x7,σ7,H7,I7.vm,r7,q7⟩
end
theorem R_ {K:W.Frag} {a:Addr} {xs:List V} {g:TG} {tb:TS} {D:Ends} {σ:St} {H:Hp} (Pv:Nat→St→Hp→Prop) (h0:Pv 0 σ H) (hl:∀i σ H,i≤xs.length→Pv i σ H→aY K H a xs)
    (hs:∀i x σ H,xs[i]? = some x→Pv i σ H→g x σ H fun σ2 H2=>tb {D with nx:=Pv (i+1),ct:=Pv (i+1),bk:=D.nx} σ2 H2) (hd:∀σ H,Pv xs.length σ H→D.nx σ H) :
    ∃qz:Nat→Nat→St→Hp→Prop,(∃m,qz 0 m σ H)∧∀i m σ H,qz i m σ H→
      ((RJ K a).stop i H∧D.nx σ H)∨((RJ K a).go i H∧∃N:St→Hp→Prop,(∀σ' H',N σ' H'→∃m',m'<m∧qz (i+1) m' σ' H')∧∀x H',(RJ K a).Zf i H x H'→g x σ H' fun σ2 H2=>tb {D with nx:=N,ct:=N,bk:=D.nx} σ2 H2):=by
  refine⟨fun i m σ H=>m=xs.length - i∧i≤xs.length∧Pv i σ H,⟨xs.length,by simp,Nat.zero_le _,h0⟩,?_⟩;rintro i m σ H ⟨rfl,hi,p⟩;have q:=hl i σ H hi p
  by_cases hlt:i<xs.length
  ·refine .inr ⟨⟨xs,xs[i],q,by simp[hlt]⟩,Pv (i+1),fun σ' H' p'=>⟨xs.length - (i+1),by omega,rfl,hlt,p'⟩,fun x H' y=>?_⟩;obtain⟨e,y⟩:=y;subst e;exact hs i x σ _ (y xs q) p
  · have e:i=xs.length:=by omega
    subst e;exact .inl ⟨⟨xs,q,Nat.le_refl _⟩,hd σ H p⟩
theorem PK {lo:Int} {n:Nat} {g:TG} {tb:TS} {D:Ends} {σ:St} {H:Hp} (Pv:Nat→St→Hp→Prop) (h0:Pv 0 σ H)
    (hs:∀i σ H,i<n→Pv i σ H→g (.int (lo+i)) σ H fun σ2 H2=>tb {D with nx:=Pv (i+1),ct:=Pv (i+1),bk:=D.nx} σ2 H2) (hd:∀σ H,Pv n σ H→D.nx σ H) :
    ∃qz:Nat→Nat→St→Hp→Prop,(∃m,qz 0 m σ H)∧∀i m σ H,qz i m σ H→
      ((Kh lo n).stop i H∧D.nx σ H)∨((Kh lo n).go i H∧∃N:St→Hp→Prop,(∀σ' H',N σ' H'→∃m',m'<m∧qz (i+1) m' σ' H')∧∀x H',(Kh lo n).Zf i H x H'→g x σ H' fun σ2 H2=>tb {D with nx:=N,ct:=N,bk:=D.nx} σ2 H2):=by
  refine⟨fun i m σ H=>m=n - i∧i≤n∧Pv i σ H,⟨n,by simp,Nat.zero_le _,h0⟩,?_⟩;rintro i m σ H ⟨rfl,hi,p⟩
  by_cases hlt:i<n
  ·refine .inr ⟨hlt,Pv (i+1),fun σ' H' p'=>⟨n - (i+1),by omega,rfl,hlt,p'⟩,fun x H' y=>?_⟩;obtain⟨e,y⟩:=y;subst e y;exact hs i σ _ hlt p
  · have e:i=n:=by omega
    subst e;exact .inl ⟨Nat.le_refl _,hd σ H p⟩
theorem Sd {c:TT} {tb:TS} {D:Ends} {σ:St} {H:Hp} (Pv:St→Hp→Prop) (μ:St→Hp→Nat) (h0:Pv σ H)
    (hs:∀σ H,Pv σ H→c σ H fun b H1=>if b=true then tb {D with nx:=fun σ' H'=>Pv σ' H'∧μ σ' H'<μ σ H,ct:=fun σ' H'=>Pv σ' H'∧μ σ' H'<μ σ H,bk:=D.nx} σ H1 else D.nx σ H1)
    (mono:∀σ H Q Q',(∀b H1,Q b H1→Q' b H1)→c σ H Q→c σ H Q'):Fp c tb D σ H:=by
  refine⟨fun m σ H=>m=μ σ H∧Pv σ H,⟨_,rfl,h0⟩,?_⟩;rintro m σ H ⟨rfl,p⟩;refine mono σ H _ _ (fun b H1 q=>?_) (hs σ H p);cases b with
  | true=>exact⟨_,fun σ' H' ⟨p',l⟩=>⟨_,l,rfl,p'⟩,q⟩
  | false=>exact q
abbrev R2:=V→V→Hp→VK→Prop
def iZ (X:Cx) (f:Value→Value→Sem Value) (r:R2):Prop:=
  ∀(p_:List (Addr×Obj)) (s:Shared) (σ:St) (H:Hp) (x y:V) (v u:Value) (Q:VK),Inv X p_ σ H s→RelV x v→RelV y u→r x y H Q→
    wpAny (model X.prog X.w) X.A (f v u) (EP X p_ σ Q) X.xe s
def cB (X:Cx) (f:Value) (r:List V→Hp→VK→Prop):Prop:=
  ∀(p_:List (Addr×Obj)) (s:Shared) (σ:St) (H:Hp) (xs:List V) (us:List Value) (Q:VK),Inv X p_ σ H s→Vals xs us→r xs H Q→
    wpAny (model X.prog X.w) X.A (call f us) (EP X p_ σ Q) X.xe s
def Zg (r:R2) (ta tb:TE):TE:=fun σ H Q=>ta σ H fun x H1=>tb σ H1 fun y H2=>r x y H2 Q
def rI (C:Int→Int→Prop) (g:Int→Int→V):R2:=fun x y H Q=>∃i j,x = .int i∧y = .int j∧C i j∧Q (g i j) H
def Zh (g:Int→Int→V):R2:=fun x y H Q=>∃i j,x = .int i∧y = .int j∧Q (g i j) H
section
variable {X:Cx} {a b c:Expr} {ta tb tc:TE} {pos:Pos}
theorem qav (ha:PE X a ta) (hb:PE X b tb) {p_:List (Addr×Obj)} {s:Shared} {σ:St} {H:Hp} {R:V→V→Hp→Prop} (I:Inv X p_ σ H s)
    (h:ta σ H fun x H1=>tb σ H1 fun y H2=>R x y H2) {Q:Value→Shared→Prop} {f:Value→Value→Sem Value}
    (hf:∀v u s2 x y H2,Inv X p_ σ H2 s2→RelV x v→RelV y u→R x y H2→wpAny (model X.prog X.w) X.A (f v u) Q X.xe s2) :
    wpAny (model X.prog X.w) X.A (eval a X.env) (fun v s₁=>wpAny (model X.prog X.w) X.A (eval b X.env) (fun u s₂=>wpAny (model X.prog X.w) X.A (f v u) Q X.xe s₂) X.xe s₁) X.xe s:=by
  refine cL (ha p_ s σ H _ I h) fun v s1 zz=>?_;obtain⟨x,H1,I1,r1,q1⟩:=zz;refine cL (hb p_ s1 σ H1 _ I1 q1) fun u s2 zz=>?_;obtain⟨y,H2,I2,r2,q2⟩:=zz;exact hf v u s2 x y H2 I2 r1 r2 q2
theorem dZ {op:Operator} {r:R2} (ho:iZ X (binaryOp op) r) (ha:PE X a ta) (hb:PE X b tb):PE X (.BinOp a op b pos) (Zg r ta tb):=by
  intro p_ s σ H Q I h;exact wpAny_BinOp (qav ha hb I h fun v u s2 x y H2 I2 rx ry q=>ho p_ s2 σ H2 x y v u Q I2 rx ry q)
theorem opI {f:Value→Value→Sem Value} {C:Int→Int→Prop} {g:Int→Int→Int}
    (rule:∀(i j:Int) (t u:Tok) (s:Shared) (Q:Value→Shared→Prop) (E:Value→Shared→Prop),C i j→Q (.int (g i j) s.toks) {s with toks:=s.toks+1}→wpAny (model X.prog X.w) X.A (f (.int i t) (.int j u)) Q E s) :
    iZ X f (rI C fun i j=>.int (g i j)):=by
  intro p_ s σ H x y v u Q I rx ry h;obtain⟨i,j,rfl,rfl,hc,q⟩:=h;obtain⟨t,rfl⟩:=rx;obtain⟨t',rfl⟩:=ry;exact rule i j t t' s _ _ hc ⟨.int (g i j),H,I.tok _,⟨_,rfl⟩,q⟩
theorem qcQ {f:Value→Value→Sem Value} {g:Int→Int→Int}
    (rule:∀(i j:Int) (t u:Tok) (s:Shared) (Q:Value→Shared→Prop) (E:Value→Shared→Prop),Q (.int (g i j) s.toks) {s with toks:=s.toks+1}→wpAny (model X.prog X.w) X.A (f (.int i t) (.int j u)) Q E s) :
    iZ X f (Zh fun i j=>.int (g i j)):=by
  intro p_ s σ H x y v u Q I rx ry h;obtain⟨i,j,rfl,rfl,q⟩:=h;obtain⟨t,rfl⟩:=rx;obtain⟨t',rfl⟩:=ry;exact rule i j t t' s _ _ ⟨.int (g i j),H,I.tok _,⟨_,rfl⟩,q⟩
theorem qaw {f:Value→Value→Sem Value} {g:Int→Int→Bool}
    (rule:∀(i j:Int) (t u:Tok) (s:Shared) (Q:Value→Shared→Prop) (E:Value→Shared→Prop),Q (.bool (g i j)) s→wpAny (model X.prog X.w) X.A (f (.int i t) (.int j u)) Q E s) :
    iZ X f (Zh fun i j=>.bl (g i j)):=by
  intro p_ s σ H x y v u Q I rx ry h;obtain⟨i,j,rfl,rfl,q⟩:=h;obtain⟨t,rfl⟩:=rx;obtain⟨t',rfl⟩:=ry;exact rule i j t t' s _ _ ⟨.bl (g i j),H,I,rfl,q⟩
@[simp] def PL (i j:Int):Prop:=0<j∧j<1073741824
@[simp] def qcR (i j:Int):Prop:=0≤j∧j≤1000000∧i.natAbs<2 ^ 64
@[simp] def W3 (i j:Int):Prop:=(-(2 ^ 64)<i∧i<2 ^ 64)∨(-(2 ^ 64)<j∧j<2 ^ 64)
theorem W3.ok {i j:Int} (h:W3 i j):IntMulOk i j:=by
  rcases h with⟨h1,h2⟩ | ⟨h1,h2⟩
  ·exact .of_left (intBits_le_64 h1 h2)
  ·exact .of_right (intBits_le_64 h1 h2)
theorem qax:iZ X (binaryOp .Add) (Zh fun i j=>.int (i+j)):=qcQ fun _ _ _ _ _ _ _ q=>add_int q
theorem qay:iZ X (binaryOp .Sub) (Zh fun i j=>.int (i - j)):=qcQ fun _ _ _ _ _ _ _ q=>sub_int q
theorem qaz:iZ X (binaryOp .Mult) (rI W3 fun i j=>.int (i * j)):=opI fun _ _ _ _ _ _ _ hc q=>mul_int q hc.ok
theorem W4:iZ X (binaryOp .FloorDiv) (rI PL fun i j=>.int (i / j)):=opI fun i j _ _ _ _ _ hc q=>by
  have h1:(0:Int)<j:=hc.1;have h2:j<1073741824:=hc.2;exact floordiv_int (by omega) (by rw[Int.fdiv_eq_ediv_of_nonneg i (by omega)];exact q) (.inl (PyProof.noPylong_small (by omega)))
theorem qaA:iZ X (binaryOp .Mod) (rI (fun _ j=>0<j) fun i j=>.int (i % j)):=opI fun i j _ _ _ _ _ hc q=>by
  have h1:(0:Int)<j:=hc;exact mod_int' (by omega) (by rw[Int.fmod_eq_emod_of_nonneg i (by omega)];exact q)
theorem qaB:iZ X (binaryOp .Pow) (rI qcR fun i j=>.int (i ^ j.toNat)):=opI fun _ _ _ _ _ _ _ hc q=>pow_int_small hc.1 hc.2.1 hc.2.2 q
end
def yU:V→V→Bool
  | .non,.non=>true | .non,.int _=>true | .int _,.non=>true | .non,.bl _=>true | .bl _,.non=>true | .non,.str _=>true | .str _,.non=>true
  | .int _,.int _=>true | .bl _,.bl _=>true | .str _,.str _=>true | .RB _,.RB _=>true
  | .int _,.str _=>true | .str _,.int _=>true | .bl _,.str _=>true | .str _,.bl _=>true
  | _,_=>false
def rEq:R2:=fun x y H Q=>yU x y=true∧Q (.bl (decide (x=y))) H
def rNe:R2:=fun x y H Q=>yU x y=true∧Q (.bl (!decide (x=y))) H
theorem Nx {i j:Int}:decide (V.int i=V.int j)=(i == j):=by
  rw[Bool.eq_iff_iff];simp
theorem Sg {i j:Bool}:decide (V.bl i=V.bl j)=(i == j):=by
  rw[Bool.eq_iff_iff];simp
theorem Ny {i j:Str}:decide (V.str i=V.str j)=(i == j):=by
  rw[Bool.eq_iff_iff];simp
theorem Nz {i j:Array UInt8}:decide (V.RB i=V.RB j)=(i.toList == j.toList):=by
  rw[Bool.eq_iff_iff];cases i;cases j;simp
section
variable {X:Cx} {a b c:Expr} {ta tb tc:TE} {pos:Pos}
theorem bZ {p_:List (Addr×Obj)} {σ:St} {H:Hp} {s:Shared} {Q:VK} {k k':Bool} (I:Inv X p_ σ H s) (q:Q (.bl k) H) (e:k=k'):EP X p_ σ Q (.bool k') s:=by
  subst e;exact⟨.bl k,H,I,rfl,q⟩
theorem qcS:iZ X (compareOp .Eq) rEq:=by
  intro p_ s σ H x y v u Q I rx ry h;obtain⟨hs,q⟩:=h;cases x with
  | non=>
    cases rx;cases y with
    | non=>cases ry;exact PySem.EqNone.eq_none_none (bZ I q (by simp))
    | bl j=>cases ry;exact PySem.EqNone.eq_none_bool (bZ I q (by simp))
    | int j=>obtain⟨t',rfl⟩:=ry;exact PySem.EqNone.eq_none_int (bZ I q (by simp))
    | str j=>obtain⟨t',rfl⟩:=ry;exact PySem.EqNone.eq_none_str (bZ I q (by simp))
    | _=>exact absurd (show false=true from hs) Bool.false_ne_true
  | bl i=>
    cases rx;cases y with
    | non=>cases ry;exact PySem.EqNone.eq_bool_none (bZ I q (by simp))
    | bl j=>cases ry;exact eq_bool (bZ I q Sg)
    | str j=>obtain⟨t',rfl⟩:=ry;exact PySem.EqMixed.eq_bool_str (bZ I q (by simp))
    | _=>exact absurd (show false=true from hs) Bool.false_ne_true
  | int i=>
    obtain⟨t,rfl⟩:=rx;cases y with
    | non=>cases ry;exact PySem.EqNone.eq_int_none (bZ I q (by simp))
    | int j=>obtain⟨t',rfl⟩:=ry;exact eq_int (bZ I q Nx)
    | str j=>obtain⟨t',rfl⟩:=ry;exact PySem.EqMixed.eq_int_str (bZ I q (by simp))
    | _=>exact absurd (show false=true from hs) Bool.false_ne_true
  | str i=>
    obtain⟨t,rfl⟩:=rx;cases y with
    | non=>cases ry;exact PySem.EqNone.eq_str_none (bZ I q (by simp))
    | bl j=>cases ry;exact PySem.EqMixed.eq_str_bool (bZ I q (by simp))
    | int j=>obtain⟨t',rfl⟩:=ry;exact PySem.EqMixed.eq_str_int (bZ I q (by simp))
    | str j=>obtain⟨t',rfl⟩:=ry;exact eq_str (bZ I q Ny)
    | _=>exact absurd (show false=true from hs) Bool.false_ne_true
  | RB i=>
    obtain⟨t,rfl⟩:=rx;cases y with
    | RB j=>obtain⟨t',rfl⟩:=ry;exact W.eq_bytes (bZ I q Nz)
    | _=>exact absurd (show false=true from hs) Bool.false_ne_true
  | _=>cases y <;> exact absurd (show false=true from hs) Bool.false_ne_true
theorem qcT:iZ X (compareOp .NotEq) rNe:=by
  intro p_ s σ H x y v u Q I rx ry h;obtain⟨hs,q⟩:=h;cases x with
  | non=>
    cases rx;cases y with
    | non=>cases ry;exact PySem.EqNone.ne_none_none (bZ I q (by simp))
    | bl j=>cases ry;exact PySem.EqNone.ne_none_bool (bZ I q (by simp))
    | int j=>obtain⟨t',rfl⟩:=ry;exact PySem.EqNone.ne_none_int (bZ I q (by simp))
    | str j=>obtain⟨t',rfl⟩:=ry;exact PySem.EqNone.ne_none_str (bZ I q (by simp))
    | _=>exact absurd (show false=true from hs) Bool.false_ne_true
  | bl i=>
    cases rx;cases y with
    | non=>cases ry;exact PySem.EqNone.ne_bool_none (bZ I q (by simp))
    | bl j=>cases ry;exact ne_bool (bZ I q (congrArg not Sg))
    | str j=>obtain⟨t',rfl⟩:=ry;exact PySem.EqMixed.ne_bool_str (bZ I q (by simp))
    | _=>exact absurd (show false=true from hs) Bool.false_ne_true
  | int i=>
    obtain⟨t,rfl⟩:=rx;cases y with
    | non=>cases ry;exact PySem.EqNone.ne_int_none (bZ I q (by simp))
    | int j=>obtain⟨t',rfl⟩:=ry;exact ne_int (bZ I q (congrArg not Nx))
    | str j=>obtain⟨t',rfl⟩:=ry;exact PySem.EqMixed.ne_int_str (bZ I q (by simp))
    | _=>exact absurd (show false=true from hs) Bool.false_ne_true
  | str i=>
    obtain⟨t,rfl⟩:=rx;cases y with
    | non=>cases ry;exact PySem.EqNone.ne_str_none (bZ I q (by simp))
    | bl j=>cases ry;exact PySem.EqMixed.ne_str_bool (bZ I q (by simp))
    | int j=>obtain⟨t',rfl⟩:=ry;exact PySem.EqMixed.ne_str_int (bZ I q (by simp))
    | str j=>obtain⟨t',rfl⟩:=ry;exact ne_str (bZ I q (congrArg not Ny))
    | _=>exact absurd (show false=true from hs) Bool.false_ne_true
  | RB i=>
    obtain⟨t,rfl⟩:=rx;cases y with
    | RB j=>obtain⟨t',rfl⟩:=ry;exact W.ne_bytes (bZ I q (congrArg not Nz))
    | _=>exact absurd (show false=true from hs) Bool.false_ne_true
  | _=>cases y <;> exact absurd (show false=true from hs) Bool.false_ne_true
theorem qcU:iZ X (compareOp .Lt) (Zh fun i j=>.bl (decide (i<j))):=qaw fun _ _ _ _ _ _ _ q=>lt_int q
theorem qcV:iZ X (compareOp .LtE) (Zh fun i j=>.bl (decide (i≤j))):=qaw fun _ _ _ _ _ _ _ q=>le_int q
theorem qcW:iZ X (compareOp .Gt) (Zh fun i j=>.bl (decide (j<i))):=qaw fun _ _ _ _ _ _ _ q=>gt_int q
theorem PN:iZ X (compareOp .In) (fun x y H Q=>∃i j,x = .str i∧y = .str j∧Q (.bl (!(Builtin.Str.occurrences j i 0 j.length 1).isEmpty)) H):=by
  intro p_ s σ H x y v u Q I rx ry h;obtain⟨i,j,rfl,rfl,q⟩:=h;obtain⟨t,rfl⟩:=rx;obtain⟨t',rfl⟩:=ry;exact in_str (bZ I q rfl)
theorem qaC:iZ X (compareOp .Is) (fun x y H Q=>y = .non∧Q (.bl (decide (x = .non))) H):=by
  intro p_ s σ H x y v u Q I rx ry h;obtain⟨rfl,q⟩:=h;cases ry;refine is_none_gen (bZ I q ?_);cases x <;> first
    | (cases rx;rfl)
    | (obtain⟨t,rfl⟩:=rx;rfl)
theorem W5:iZ X (compareOp .IsNot) (fun x y H Q=>y = .non∧Q (.bl (!decide (x = .non))) H):=by
  intro p_ s σ H x y v u Q I rx ry h;obtain⟨rfl,q⟩:=h;cases ry;refine isnot_none_gen (bZ I q ?_);cases x <;> first
    | (cases rx;rfl)
    | (obtain⟨t,rfl⟩:=rx;rfl)
theorem iZ.or {f:Value→Value→Sem Value} {r r':R2} (h:iZ X f r) (h':iZ X f r'):iZ X f (fun x y H Q=>r x y H Q∨r' x y H Q):=by
  intro p_ s σ H x y v u Q I rx ry q
  rcases q with q | q
  ·exact h p_ s σ H x y v u Q I rx ry q
  ·exact h' p_ s σ H x y v u Q I rx ry q
theorem bQ (b:Expr) {op:CmpOp} (h:op≠.In:=by decide) (h2:op≠.NotIn:=by decide):behindInMarks op b=false:=by
  have e1:(op == CmpOp.In)=false:=by cases op <;> first | rfl | exact absurd rfl h
  have e2:(op == CmpOp.NotIn)=false:=by cases op <;> first | rfl | exact absurd rfl h2
  cases b <;> simp[behindInMarks,e1,e2]
theorem dB {op:CmpOp} {r:R2} (ho:iZ X (compareOp op) r) (ha:PE X a ta) (hb:PE X b tb) (hm:behindInMarks op b=false):PE X (.Compare a [op] [b] pos) (Zg r ta tb):=by
  intro p_ s σ H Q I h;exact wpAny_Compare1 (qav ha hb I h fun v u s2 x y H2 I2 rx ry q=>ho p_ s2 σ H2 x y v u Q I2 rx ry q) hm
def NK (t:TE):TT:=fun σ H Q=>t σ H fun x H'=>∃k,x = .bl k∧Q k H'
theorem W6 {op:CmpOp} {r:R2} (ho:iZ X (compareOp op) r) (ha:PE X a ta) (hb:PE X b tb) (hm:behindInMarks op b=false):PT X (.Compare a [op] [b] pos) (NK (Zg r ta tb)):=by
  intro p_ s σ H Q I h;refine wpAny_isTrue_Compare1 (cL (ha p_ s σ H _ I h) fun v s1 ⟨x,H1,I1,r1,q1⟩=>cL (hb p_ s1 σ H1 _ I1 q1) fun u s2 ⟨y,H2,I2,r2,q2⟩=>
    cL (ho p_ s2 σ H2 x y v u _ I2 r1 r2 q2) fun c s3 ⟨z,H3,I3,r3,k,e,q3⟩=>?_) hm
  subst e;cases r3;exact wpAny_truthy_bool ⟨H3,I3,q3⟩
def Fq (r r':R2) (ta tb tc:TE):TE:=fun σ H Q=>ta σ H fun x H1=>tb σ H1 fun y H2=>r x y H2 fun z H3=>∃k,z = .bl k∧
  (if k=true then tc σ H3 fun w' H4=>r' y w' H4 Q else Q (.bl false) H3)
theorem Ss {op op':CmpOp} {r r':R2} (ho:iZ X (compareOp op) r) (ho':iZ X (compareOp op') r') (ha:PE X a ta) (hb:PE X b tb) (hc:PE X c tc)
    (hm:lastMarks [op,op'] [b,c]=false:=by with_unfolding_all rfl):PE X (.Compare a [op,op'] [b,c] pos) (Fq r r' ta tb tc):=by
  intro p_ s σ H Q I h;refine Compare_chain (cL (ha p_ s σ H _ I h) fun v s1 ⟨x,H1,I1,r1,q1⟩=>chain_link (cL (hb p_ s1 σ H1 _ I1 q1) fun u s2 ⟨y,H2,I2,r2,q2⟩=>
    cL (ho p_ s2 σ H2 x y v u _ I2 r1 r2 q2) fun d s3 ⟨z,H3,I3,r3,k,e,q3⟩=>?_)) hm
  subst e;cases r3;refine wpAny_truthy_bool ?_;cases k with
  | false=>exact ite_ff ⟨.bl false,H3,I3,rfl,q3⟩
  | true=>exact ite_tt (chain_last (cL (hc p_ s3 σ H3 _ I3 q3) fun w' s4 ⟨z',H4,I4,r4,q4⟩=>ho' p_ s4 σ H4 y z' u w' Q I4 r2 r4 q4))
theorem Sv {op op':CmpOp} {r r':R2} (ho:iZ X (compareOp op) r) (ho':iZ X (compareOp op') r') (ha:PE X a ta) (hb:PE X b tb) (hc:PE X c tc)
    (hm:lastMarks [op,op'] [b,c]=false:=by with_unfolding_all rfl):PT X (.Compare a [op,op'] [b,c] pos) (NK (Fq r r' ta tb tc)):=by
  intro p_ s σ H Q I h;refine isTrue_chain (cL (ha p_ s σ H _ I h) fun v s1 ⟨x,H1,I1,r1,q1⟩=>test_link (cL (hb p_ s1 σ H1 _ I1 q1) fun u s2 ⟨y,H2,I2,r2,q2⟩=>
    cL (ho p_ s2 σ H2 x y v u _ I2 r1 r2 q2) fun d s3 ⟨z,H3,I3,r3,k,e,q3⟩=>?_)) hm
  subst e;cases r3;refine wpAny_truthy_bool ?_;cases k with
  | false=>
    obtain⟨k',e',q'⟩:=q3;cases e';exact ite_ff ⟨H3,I3,q'⟩
  | true=>
    refine ite_tt (test_last (cL (hc p_ s3 σ H3 _ I3 q3) fun w' s4 ⟨z',H4,I4,r4,q4⟩=>cL (ho' p_ s4 σ H4 y z' u w' _ I4 r2 r4 q4) fun d' s5 ⟨z2,H5,I5,r5,k2,e2,q5⟩=>?_));subst e2;cases r5;exact wpAny_truthy_bool ⟨H5,I5,q5⟩
theorem uo:(sizeLine:Nat)<2 ^ 63:=by rw[sizeLine_eq];decide
theorem Kw:iZ X (binaryOp .Add) (fun x y H Q=>∃i j,x = .str i∧y = .str j∧i.length+j.length≤sizeLine∧Q (.str (i++j)) H):=by
  intro p_ s σ H x y v u Q I rx ry h;obtain⟨i,j,rfl,rfl,hz,q⟩:=h;obtain⟨t,rfl⟩:=rx;obtain⟨t',rfl⟩:=ry;exact add_str (fun t' tk=>⟨.str (i++j),H,I.tok _,⟨_,rfl⟩,q⟩) hz
theorem vals1 {x:V} {us:List Value} (r:Vals [x] us):∃u,us=[u]∧RelV x u:=by
  cases r with
  | cons r1 r2=>cases r2;exact⟨_,rfl,r1⟩
theorem vals2 {x y:V} {us:List Value} (r:Vals [x,y] us):∃u w',us=[u,w']∧RelV x u∧RelV y w':=by
  cases r with
  | cons r1 r2=>
    cases r2 with
    | cons r3 r4=>cases r4;exact⟨_,_,rfl,r1,r3⟩
theorem Sw:cB X (.builtin "abs") (fun xs H Q=>∃i,xs=[.int i]∧Q (.int (if i<0 then -i else i)) H):=by
  intro p_ s σ H xs us Q I r h;obtain⟨i,rfl,q⟩:=h;obtain⟨u,rfl,t,rfl⟩:=vals1 r;exact call_abs_int fun u tk=>⟨.int (if i<0 then -i else i),H,I.tok _,⟨_,rfl⟩,q⟩
theorem PX (hc:X.calm=true):cB X (.builtin "max") (fun xs H Q=>∃i j,xs=[.int i,.int j]∧Q (.int (if j > i then j else i)) H):=by
  intro p_ s σ H xs us Q I r h;obtain⟨i,j,rfl,q⟩:=h;obtain⟨u,w',rfl,⟨t,rfl⟩,⟨t',rfl⟩⟩:=vals2 r;refine max_two_ints (I.ok.hd hc) fun h' tk k=>⟨_,H,I.kept k,?_,q⟩
  by_cases hj:j > i
  ·rw[if_pos hj,if_pos hj];exact⟨_,rfl⟩
  ·rw[if_neg hj,if_neg hj];exact⟨_,rfl⟩
theorem P0 (hc:X.calm=true):cB X (.builtin "min") (fun xs H Q=>∃i j,xs=[.int i,.int j]∧Q (.int (if j<i then j else i)) H):=by
  intro p_ s σ H xs us Q I r h;obtain⟨i,j,rfl,q⟩:=h;obtain⟨u,w',rfl,⟨t,rfl⟩,⟨t',rfl⟩⟩:=vals2 r;refine min_two_ints (I.ok.hd hc) fun h' tk k=>⟨_,H,I.kept k,?_,q⟩
  by_cases hj:j<i
  ·rw[if_pos hj,if_pos hj];exact⟨_,rfl⟩
  ·rw[if_neg hj,if_neg hj];exact⟨_,rfl⟩
theorem P_:cB X (.type "int") (fun xs H Q=>(∃i,xs=[.int i]∧Q (.int i) H)∨∃k,xs=[.bl k]∧Q (.int (if k then 1 else 0)) H):=by
  intro p_ s σ H xs us Q I r h
  rcases h with⟨i,rfl,q⟩ | ⟨k,rfl,q⟩
  ·obtain⟨u,rfl,t,rfl⟩:=vals1 r;exact call_int_int ⟨.int i,H,I,⟨_,rfl⟩,q⟩
  ·obtain⟨u,rfl,r1⟩:=vals1 r;cases r1;exact call_int_bool ⟨.int (if k then 1 else 0),H,I.tok _,⟨_,rfl⟩,q⟩
theorem Ig:cB X (.builtin "divmod") (fun xs H Q=>∃i j,xs=[.int i,.int j]∧PL i j∧∀p,H p=none→Q (.ref p) (upd H p (.tup [.int (i / j),.int (i % j)]))):=by
  intro p_ s σ H xs us Q I r h;obtain⟨i,j,rfl,⟨h1,h2⟩,q⟩:=h;obtain⟨u,w',rfl,⟨t,rfl⟩,⟨t',rfl⟩⟩:=vals2 r;refine divmod_int (by omega) ?_ (.inl (PyProof.noPylong_small (by omega)));rw[Int.fdiv_eq_ediv_of_nonneg i (by omega),Int.fmod_eq_emod_of_nonneg i (by omega)];have hn:H s.heap.objs.size=none:=I.hok.fresh (Nat.le_refl _);refine⟨.ref s.heap.objs.size,_,?_,rfl,q _ hn⟩;refine I.laid (fun b o e=>Heap.get?_push_of_some _ e) (Nat.le_refl _) ⟨by simp only[List.length_cons,List.length_nil];rw[sizeLine_eq];decide,[.int (i / j) s.toks,.int (i % j) (s.toks+1)],.cons ⟨_,rfl⟩ (.cons ⟨_,rfl⟩ .nil),?_⟩;exact⟨_,Heap.get?_push_size s.heap rfl,rfl,0,rfl⟩
end
structure Ky (h:Heap) (x dx C:Addr) (mA:Str→Option Value):Prop where
  obj:h.get? x=some (W.instObj C dx)
  ns:h.Ns1 dx mA
  ne:dx≠x
theorem Dv {h:Heap} {dx:Addr} {mA:Str→Option Value} (n:h.Ns1 dx mA):∃od,h.get? dx=some od∧∀name,W.lookIn name od=some (mA name):=by
  obtain⟨o,es,ep,ho,hd,hk,_,hm⟩:=n;refine⟨o,ho,fun name=>?_⟩;have e:=hm name;unfold nsFind findBy at e;rw[← Array.find?_toList] at e;unfold W.lookIn;rw[hd];dsimp only;split
  ·rename_i y q;rw[q] at e;exact congrArg some e
  · rename_i q;rw[q] at e;have a:es.toList.any (·.refKey)=false:=by
      rw[List.any_eq_false];intro y hy;obtain⟨z,t,hkey⟩:=hk y (Array.mem_toList_iff.mp hy);simp[DictEntry.refKey,hkey]
    have a':¬es.toList.any (·.refKey)=true:=by rw[a];exact Bool.false_ne_true
    rw[if_neg a'];exact congrArg some e
theorem Ky.look {h:Heap} {x dx C:Addr} {mA:Str→Option Value} (I:Ky h x dx C mA):∃od,W.InstAt h x (W.instObj C dx) C (some od)∧∀name,W.lookIn name od=some (mA name):=
  let ⟨od,ho,hl⟩:=Dv I.ns
  ⟨od,⟨I.obj,rfl,rfl,ho⟩,hl⟩
section
variable {prog:Program} {w:World} {A:Around} {E:Value→Shared→Prop} {s:Shared} {K:W.Frag} {x dx C f:Addr} {mA:Str→Option Value} {name:Str} {v:Value}
theorem get_map {expr:Bool} {Q:Value→Shared→Prop} (X:K.In s.heap) (I:Ky s.heap x dx C mA) (hg:W.plainGet K C name=true) (hh:W.hasDictIn K C=true)
    (ha:W.findIn K (.ref C) name=some none) (hv:mA name=some v) (hv':W.handedIn v=true) (h:Q v {s with toks:=s.toks+1}) :
    wpAny (model prog w) A (getAttr (.ref x) name expr) Q E s:=by
  obtain⟨od,J,hl⟩:=I.look;exact W.get_value X J (W.plainGet_of hg).1 (W.findObj_own hh ha rfl (by rw[hl,hv])) hv' h
theorem Sx {pl:Sem Bool} {Q:Value×List Value→Shared→Prop} (X:K.In s.heap) (I:Ky s.heap x dx C mA) (hg:W.plainGet K C name=true)
    (hf:W.findIn K (.ref C) name=some (some (.ref f))) (ht:W.isFn K (.ref f)=true) (hv:mA name=none) (h:Q (.ref f,[.ref x]) s) :
    wpAny (model prog w) A (getMethod (.ref x) name pl) Q E s:=by
  obtain⟨od,J,hl⟩:=I.look;exact W.method_fn X J (W.plainGet_of hg).1 (W.plainGet_of hg).2 hf (beq_iff_eq.mp ht) (by show(W.lookIn name od).map (·.isSome)=some false;rw[hl,hv];rfl) h
theorem W7 {ns:List Str} {Q:Unit→Shared→Prop} (X:K.In s.heap) (I:Ky s.heap x dx C mA)
    (hs:W.findIn K (.ref C) "__setattr__" = some (some (.builtin "object.__setattr__"))) (hp:W.plainOver K C=true) (ht:W.takerIn K C name=some none) (hh:W.hasDictIn K C=true)
    (hw:PySem.Within mA ns) (hsz:ns.length≤sizeLine)
    (h:∀h',Ky h' x dx C (fun y=>if y=name then some v else mA y)→Heap.SameBut dx s.heap h'→Q () {s with heap:=h',toks:=s.toks+2}) :
    wpAny (model prog w) A (setAttr (.ref x) name v) Q E s:=by
  obtain⟨od,J,hl⟩:=I.look;refine W.set_plain X J hs (W.osa_open (s:={s with toks:=s.toks+1}) (r:=none) X J hp ht fun b=>?_);obtain⟨cd,hc,hd'⟩:=W.any_some hh;have hx:s.heap.get? x=some ⟨.ref C,some dx,.plain,#[]⟩:=I.obj;refine wpAny_bind (wpAny_pure (wpAny_bind (wpAny_bind (wpAny_loadPart hx (wpAny_bind (W.Looks.here (s:={s with toks:=s.toks+1}) (W.looks_clsIn X hc) ?_))))));rw[hd'];refine wpAny_pure (a:=some dx) (wpAny_bind (wpAny_pure (wpAny_bind ?_)));refine wpAny_nsSet1 (s:={s with toks:=s.toks+1}) I.ns fun h' hn2 hs2=>?_;obtain⟨oD,esD,epD,hoD,hdD,hcD⟩:=hn2.count (PySem.Within.cons name v hw);refine wpAny_bind (wpAny_lookBehind hoD (by rw[hdD];exact pastItsLine_dict (Nat.le_trans hcD (by rw[List.length_cons];omega))) ?_);exact wpAny_pure (h _ ⟨(hs2.2 _ (Ne.symm I.ne)).trans I.obj,hn2,I.ne⟩ hs2)
theorem Sy {R:Result→Shared→Prop} {vs:List Value} {kw:List (Str×Value)} (X:K.In s.heap) (hm:W.makesIn K C=true)
    (hi:W.findIn K (.ref C) "__init__" = some (some (.ref f))) (hf:W.typeIn K (.ref f)=some (.type "function"))
    (h:codeAny (model prog w) (A.under (.builtin "type.__call__" ⟨.ref C::vs,kw⟩)) (.call (.ref f) ⟨.ref (s.heap.objs.size+1)::vs,kw⟩) (W.InitBack (s.heap.objs.size+1) R)
      {s with heap:=(s.heap.push W.emptyDict).push (W.instObj C s.heap.objs.size)}) :
    codeAny (model prog w) A (.call (.ref C) ⟨vs,kw⟩) R s:=by
  obtain⟨hh,g,d,t,os⟩:=s;exact W.make_core (W.makes_of X hm) (W.looks_findIn X hi) (fun self=>W.bind_fn X self hf) (.inl rfl) h
end
def jR (f:Str) (v:V):List (Str×V)→List (Str×V)
  | []=>[(f,v)]
  | (g,x)::r=>if g=f then (g,v)::r else (g,x)::jR f v r
theorem mU (f g:Str) (v:V):∀fs:List (Str×V),(jR f v fs).lookup g=if g=f then some v else fs.lookup g
  | []=>by
    show List.lookup g [(f,v)]=_
    by_cases h:g=f
    ·have hb:(g == f)=true:=beq_iff_eq.mpr h;simp only[List.lookup,hb,if_pos h]
    ·have hb:(g == f)=false:=beq_eq_false_iff_ne.mpr h;simp only[List.lookup,hb,if_neg h]
  | (k,x)::r=>by
    have ih:=mU f g v r;rw[show jR f v ((k,x)::r)=(if k=f then (k,v)::r else (k,x)::jR f v r) from rfl]
    by_cases hk:k=f
    · rw[if_pos hk]
      by_cases h:g=k
      ·have hb:(g == k)=true:=beq_iff_eq.mpr h;simp only[List.lookup,hb,if_pos (h.trans hk)]
      ·have hb:(g == k)=false:=beq_eq_false_iff_ne.mpr h;simp only[List.lookup,hb,if_neg (fun e:g=f=>h (e.trans hk.symm))]
    · rw[if_neg hk]
      by_cases h:g=k
      ·have hb:(g == k)=true:=beq_iff_eq.mpr h;simp only[List.lookup,hb,if_neg (fun e:g=f=>hk (h.symm.trans e))]
      ·have hb:(g == k)=false:=beq_eq_false_iff_ne.mpr h;simp only[List.lookup,hb];exact ih
theorem oA (f:Str) (v:V):∀fs:List (Str×V),f∈(jR f v fs).map (·.1)∧∀g,g∈fs.map (·.1)→g∈(jR f v fs).map (·.1)
  | []=>⟨by simp[jR],fun g h=>by simp at h⟩
  | (k,x)::r=>by
    obtain⟨i1,i2⟩:=oA f v r;rw[show jR f v ((k,x)::r)=(if k=f then (k,v)::r else (k,x)::jR f v r) from rfl]
    by_cases hk:k=f
    ·rw[if_pos hk];subst hk;exact⟨by simp,fun g h=>by simpa using h⟩
    · rw[if_neg hk];refine⟨?_,fun g h=>?_⟩
      ·rw[List.map_cons];exact List.mem_cons_of_mem _ i1
      · rw[List.map_cons] at h ⊢
        rcases List.mem_cons.mp h with e | e
        ·exact List.mem_cons.mpr (.inl e)
        ·exact List.mem_cons_of_mem _ (i2 g e)
theorem qR (f:Str) (v:V):∀fs:List (Str×V),(jR f v fs).length≤fs.length+1
  | []=>by simp[jR]
  | (k,x)::r=>by
    have ih:=qR f v r;rw[show jR f v ((k,x)::r)=(if k=f then (k,v)::r else (k,x)::jR f v r) from rfl]
    by_cases hk:k=f
    ·rw[if_pos hk,List.length_cons,List.length_cons];omega
    ·rw[if_neg hk,List.length_cons,List.length_cons];omega
theorem lN.some_of {v:V} {o:Option Value} (r:lN (some v) o):∃u,o=some u∧RelV v u:=by
  cases o with
  | none=>exact(show False from r).elim
  | some u=>exact⟨u,rfl,r⟩
theorem lN.none_of {o:Option Value} (r:lN none o):o=none:=by
  cases o with
  | none=>rfl
  | some u=>exact(show False from r).elim
theorem Dw {v:V} {u:Value} (r:RelV v u):W.handedIn u=true:=by
  cases v with
  | non=>cases (show u=Value.none from r);rfl
  | bl b=>cases (show u=Value.bool b from r);rfl
  | int i=>obtain⟨t,e⟩:=(show ∃t,u=Value.int i t from r);cases e;rfl
  | str x=>obtain⟨t,e⟩:=(show ∃t,u=Value.str x t from r);cases e;rfl
  | RB b=>obtain⟨t,e⟩:=(show ∃t,u=Value.bytes b t from r);cases e;rfl
  | flt b=>obtain⟨t,e⟩:=(show ∃t,u=Value.float b t from r);cases e;rfl
  | ref a=>cases (show u=Value.ref a from r);rfl
  | ty n=>cases (show u=Value.type n from r);rfl
section
variable {P:Program} {w:World} {H H':Hp} {h h':Heap} {a C dx:Addr} {fs fs':List (Str×V)}
theorem vo (hok:qx P w H h) (e:H a=some (.ins C dx fs)):∃mA,Ky h a dx C mA∧(∀f,lN (fs.lookup f) (mA f))∧PySem.Within mA (fs.map (·.1))∧fs.length≤1000∧H dx=some (.own a):=by
  obtain⟨d,z,ne,ob,mA,n,r,q⟩:=(show bY P w H h a (.ins C dx fs) from hok a _ e);exact⟨mA,⟨ob,n,ne⟩,r,q,z,d⟩
end
structure Cls (K:W.Frag) (C:Addr):Prop where
  pg:W.plainGet K C Str.empty=true
  hd:W.hasDictIn K C=true
  po:W.plainOver K C=true
  sa:W.findIn K (.ref C) "__setattr__" = some (some (.builtin "object.__setattr__"))
theorem Cls.get {K:W.Frag} {C:Addr} (c:Cls K C) (f:Str):W.plainGet K C f=true:=c.pg
def lB (K:W.Frag) (C:Addr) (f:Str):Prop:=W.findIn K (.ref C) f=some none
theorem lB.taker {K:W.Frag} {C:Addr} {f:Str} (n:lB K C f):W.takerIn K C f=some none:=by
  unfold W.takerIn;rw[show W.findIn K (.ref C) f=some none from n];rfl
structure Meth (K:W.Frag) (C:Addr) (m:Str) (f:Addr):Prop where
  at_:W.findIn K (.ref C) m=some (some (.ref f))
  fn:W.isFn K (.ref f)=true
  kp:W.keepIn K (.ref f)=true
section
variable {X:Cx} {p_:List (Addr×Obj)} {σ:St} {H:Hp} {s:Shared} {a C dx:Addr} {fs:List (Str×V)} {f:Str} {v:V} {A:Around} {E:Value→Shared→Prop}
theorem Kz {b:Bool} {Q:Value→Shared→Prop} (I:Inv X p_ σ H s) (e:H a=some (.ins C dx fs)) (c:Cls X.K C) (n:lB X.K C f) (l:fs.lookup f=some v)
    (h:∀u s',Inv X p_ σ H s'→RelV v u→Q u s'):wpAny (model X.prog X.w) A (getAttr (.ref a) f b) Q E s:=by
  obtain⟨mA,O,r,_,_,_⟩:=vo I.hok e;obtain⟨u,hu,ru⟩:=lN.some_of (v:=v) (o:=mA f) (by rw[← l];exact r f);exact get_map I.nq O (c.get f) c.hd n hu (Dw ru) (h u _ (I.tok _) ru)
theorem KC {m:Str} {g:Addr} {pl:Sem Bool} {Q:Value×List Value→Shared→Prop} (I:Inv X p_ σ H s) (e:H a=some (.ins C dx fs)) (c:Cls X.K C) (k:Meth X.K C m g) (l:fs.lookup m=none)
    (h:Q (.ref g,[.ref a]) s):wpAny (model X.prog X.w) A (getMethod (.ref a) m pl) Q E s:=by
  obtain⟨mA,O,r,_,_,_⟩:=vo I.hok e;have hn:mA m=none:=lN.none_of (by rw[← l];exact r m);exact Sx I.nq O (c.get m) k.at_ k.fn hn h
theorem KD {y:V} {u:Value} {Q:Unit→Shared→Prop} (I:Inv X p_ σ H s) (e:H a=some (.ins C dx fs)) (c:Cls X.K C) (n:lB X.K C f) (hl:fs.length<1000) (ry:RelV y u)
    (h:∀s',Inv X p_ σ (upd H a (.ins C dx (jR f y fs))) s'→Q () s'):wpAny (model X.prog X.w) A (setAttr (.ref a) f u) Q E s:=by
  obtain⟨mA,O,r,wi,_,ho⟩:=vo I.hok e;have hz:(fs.map (·.1)).length≤sizeLine:=by rw[List.length_map,sizeLine_eq];omega
  refine W7 I.nq O c.sa c.po n.taker c.hd wi hz fun h' O' sb=>h _ ?_;have hd:∃o,h'.get? dx=some o:=let ⟨o,_,_,e',_⟩:=O'.ns;⟨o,e'⟩;refine I.write (x:=a) (e:=dx) (by rw[e];exact True.intro) (.inr ho) (fun b q hb z=>(sb.2 b hb).trans z) hd ?_;refine⟨by rw[aD O.ne];exact ho,?_,O.ne,O'.obj,_,O'.ns,fun g=>?_,fun g hg=>?_⟩
  ·have:=qR f y fs;omega
  · show lN ((jR f y fs).lookup g) (if g=f then some u else mA g)
    rw[mU]
    by_cases q:g=f
    ·rw[if_pos q,if_pos q];exact ry
    ·rw[if_neg q,if_neg q];exact r g
  · by_cases q:g=f
    ·rw[q];exact(oA f y fs).1
    · refine(oA f y fs).2 g (wi g fun z=>hg ?_);show(if g=f then some u else mA g)=none
      rw[if_neg q];exact z
theorem Inv.made (I:Inv X p_ σ H s):Inv X p_ σ (upd (upd H s.heap.objs.size (.own (s.heap.objs.size+1))) (s.heap.objs.size+1) (.ins C s.heap.objs.size []))
    {s with heap:=(s.heap.push W.emptyDict).push (W.instObj C s.heap.objs.size)}:=by
  have e1:(s.heap.push W.emptyDict).get? s.heap.objs.size=some W.emptyDict:=Heap.get?_push_size s.heap rfl;have e2:((s.heap.push W.emptyDict).push (W.instObj C s.heap.objs.size)).get? (s.heap.objs.size+1)=some (W.instObj C s.heap.objs.size):=by
    have:=Heap.get?_push_size (s.heap.push W.emptyDict) (o:=W.instObj C s.heap.objs.size) rfl
    rwa [Heap.size_push] at this
  have e3:(s.heap.push W.emptyDict).Ns s.heap.objs.size (fun _=>none):=⟨W.emptyDict,#[],_,e1,rfl,(fun e he=>absurd he (by simp)),fun _=>rfl⟩;have I1:=I.laid (a:=s.heap.objs.size) (o:=.own (s.heap.objs.size+1)) (h':=s.heap.push W.emptyDict) (t':=s.toks) (fun b u q=>Heap.get?_push_of_some _ q) (Nat.le_refl _) ⟨_,e1⟩;refine I1.laid (a:=s.heap.objs.size+1) (o:=.ins C s.heap.objs.size []) (t':=s.toks) (fun b u q=>Heap.get?_push_of_some _ q) (Nat.le_of_eq (Heap.size_push _ _)) ?_;have ne:s.heap.objs.size≠s.heap.objs.size+1:=Nat.ne_of_lt (Nat.lt_succ_self _);refine⟨by rw[aD ne,ao],Nat.zero_le _,ne,e2,fun _=>none,(Heap.Ns1.of_empty e3).at fun o q=>Heap.get?_push_of_some _ q,fun _=>True.intro,fun y hy=>absurd rfl hy⟩
theorem NP {prog:Program} {w:World} {env:Env} {e:Expr} {f:Str} {pos:Pos} {s:Shared} {Q:Value→Shared→Prop} (hb:attributeBase e f env (eval e env)=eval e env)
    (h:wpAny (model prog w) A (eval e env) (fun o s₁=>wpAny (model prog w) A (getAttr o f true) Q E s₁) E s):wpAny (model prog w) A (eval (.Attribute e f pos) env) Q E s:=
  Attribute_any_ h (by rw[arm_eval_Attribute,hb])
end
def W8 (K:W.Frag) (ta:TE) (f:Str):TE:=fun σ H Q=>ta σ H fun x H1=>∃a C dx fs v,x = .ref a∧H1 a=some (.ins C dx fs)∧Cls K C∧lB K C f∧fs.lookup f=some v∧Q v H1
def qaD (K:W.Frag) (ta tv:TE) (f:Str):TS:=fun D σ H=>tv σ H fun y H1=>ta σ H1 fun x H2=>∃a C dx fs,x = .ref a∧H2 a=some (.ins C dx fs)∧Cls K C∧lB K C f∧fs.length<1000∧
  D.nx σ (upd H2 a (.ins C dx (jR f y fs)))
section
variable {X:Cx} {o e value:Expr} {f:Str} {pos pos' tpos:Pos} {ta tv:TE}
theorem qaE (he:PE X e ta) (hb:attributeBase e f X.env (eval e X.env)=eval e X.env):PE X (.Attribute e f pos) (W8 X.K ta f):=by
  intro p_ s σ H Q I h;refine NP hb (cL (he p_ s σ H _ I h) fun u s1 zz=>?_);obtain⟨x,H1,I1,rx,a,C,dx,fs,v,ex,ea,c,n,l,q⟩:=zz;subst ex;obtain rfl:u=Value.ref a:=rx;exact Kz I1 ea c n l fun u' s2 I2 ru=>⟨v,H1,I2,ru,q⟩
theorem qaF (ha:PE X o ta) (hv:PE X value tv) (hs:swapsWith value (some (.Attribute o f pos')) pos.line X.env=pure false):PS X (.Assign [.Attribute o f pos'] value pos) (qaD X.K ta tv f):=by
  intro p_ s σ H D I h;refine plainObj_wpAny_Assign_Attribute (cL (hv p_ s σ H _ I h) fun u s1 ⟨y,H1,I1,ry,q⟩=>cL (ha p_ s1 σ H1 _ I1 q) fun ov s2 ⟨x,H2,I2,rx,a,C,dx,fs,ex,ea,c,n,l,q2⟩=>?_) hs;subst ex;obtain rfl:ov=Value.ref a:=rx;exact KD I2 ea c n l ry fun s3 I3=>⟨σ,_,I3,q2⟩
end
section
variable {X:Cx} {p_:List (Addr×Obj)} {σ:St} {H:Hp} {s:Shared} {A:Around} {E:Value→Shared→Prop} {Q:Value→Shared→Prop} {c:Value} {b:Bool}
inductive lQ (K:W.Frag) (H:Hp):V→Value→Prop where
  | non:lQ K H .non (.type "NoneType")
  | bl (x:Bool):lQ K H (.bl x) (.type "bool")
  | int (i:Int):lQ K H (.int i) (.type "int")
  | str (x:Str):lQ K H (.str x) (.type "str")
  | flt (x:UInt64):lQ K H (.flt x) (.type "float")
  | lst {a:Addr} {xs:List V} (e:H a=some (.lst xs)):lQ K H (.ref a) (.type "list")
  | gZ {a:Addr} {o:Obj} {xs:List V} (e:H a=some (.gZ o (.lst xs))):lQ K H (.ref a) (.type "list")
  | tup {a:Addr} {xs:List V} (e:H a=some (.tup xs)):lQ K H (.ref a) (.type "tuple")
  | dK {a:Addr} {kvs:List (Key×V)} (e:H a=some (.dK kvs)):lQ K H (.ref a) (.type "dict")
  | dT {a:Addr} {kvs:List (List Key×V)} (e:H a=some (.dT kvs)):lQ K H (.ref a) (.type "dict")
  | ins {a C dx:Addr} {fs:List (Str×V)} (e:H a=some (.ins C dx fs)) (cl:Cls K C) (ha:W.findIn K (.ref C) "__class__" = some (some (.builtin "object.__class__")))
      (hn:W.specialIn K (.builtin "object.__class__") "__get__" = some (some (.builtin "getset_descriptor.__get__"))) (htk:W.takesIn K (.builtin "object.__class__")=some true)
      (hm:W.mroIn K C (.type "object")=some true):lQ K H (.ref a) (.ref C)
theorem Qa {x:V} {u t:Value} (I:Inv X p_ σ H s) (rx:RelV x u) (ty:lQ X.K H x t) (e:W.kitOne X.K t c=some b) (h:∀tk,Q (.bool b) {s with toks:=tk}) :
    wpAny (model X.prog X.w) A (call (.builtin "isinstance") [u,c]) Q E s:=by
  cases ty with
  | non=>cases (show u=Value.none from rx);exact W.kia_one W.kitx_none I.nq True.intro e (fun z=>nomatch z) h
  | bl y=>cases (show u=Value.bool y from rx);exact W.kia_one W.kitx_bool I.nq True.intro e (fun z=>nomatch z) h
  | int i=>obtain⟨t,q⟩:=(show ∃t,u=Value.int i t from rx);cases q;exact W.kia_one W.kitx_int I.nq True.intro e (fun z=>nomatch z) h
  | str y=>obtain⟨t,q⟩:=(show ∃t,u=Value.str y t from rx);cases q;exact W.kia_one W.kitx_str I.nq True.intro e (fun z=>nomatch z) h
  | flt y=>obtain⟨t,q⟩:=(show ∃t,u=Value.float y t from rx);cases q;exact W.kia_one W.kitx_float I.nq True.intro e (fun z=>nomatch z) h
  | @lst a xs ea=>
    cases (show u=Value.ref a from rx);obtain⟨_,_,n,_,h1⟩:=(show bY X.prog X.w H s.heap a (.lst xs) from I.hok a _ ea);exact W.kia_one W.kitx_list I.nq ⟨_,h1,rfl⟩ e (fun z=>nomatch z) h
  | @gZ a ob xs ea=>
    cases (show u=Value.ref a from rx);obtain⟨_,_,_,n,_,h1⟩:=(show bY X.prog X.w H s.heap a (.gZ ob (.lst xs)) from I.hok a _ ea);exact W.kia_one W.kitx_list I.nq ⟨_,h1,rfl⟩ e (fun z=>nomatch z) h
  | @tup a xs ea=>
    cases (show u=Value.ref a from rx);obtain⟨_,_,_,p⟩:=(show bY X.prog X.w H s.heap a (.tup xs) from I.hok a _ ea);obtain⟨o,h1,h2,_⟩:=p;exact W.kia_one W.kitx_tuple I.nq ⟨o,h1,h2⟩ e (fun z=>nomatch z) h
  | @dK a kvs ea=>
    cases (show u=Value.ref a from rx);obtain⟨_,_,vs,_,p⟩:=(show bY X.prog X.w H s.heap a (.dK kvs) from I.hok a _ ea);obtain⟨o,es,ep,h1,h2,_⟩:=p;exact W.kia_one W.kitx_dict I.nq ⟨o,h1,h2.1⟩ e (fun z=>nomatch z) h
  | @dT a kvs ea=>
    cases (show u=Value.ref a from rx);obtain⟨_,_,xs,_,o,es,ep,h1,h2,_⟩:=(show bY X.prog X.w H s.heap a (.dT kvs) from I.hok a _ ea);exact W.kia_one W.kitx_dict I.nq ⟨o,h1,h2.1⟩ e (fun z=>nomatch z) h
  | @ins a C dx fs ea cl ha hn htk hm=>
    cases (show u=Value.ref a from rx);obtain⟨mA,O,_⟩:=vo I.hok ea;obtain⟨od,J,_⟩:=O.look;exact W.kia_one (W.kitx_own (cl.get _) cl.hd ha hn htk hm) I.nq J e (fun z=>nomatch z) h
end
structure jw (k:Nat) (A:Around):Prop where
  hd:A.handled=none
  dp:A.depth+3 * k+5<recursionLimit
  un:A.units+16 * k+200<cLine
  gd:A.guards=some []
theorem jw.mono {j k:Nat} {A:Around} (r:jw k A) (h:j≤k):jw j A:=⟨r.hd,by have:=r.dp;omega,by have:=r.un;omega,r.gd⟩
theorem jw.deeper {k:Nat} {A:Around} (r:jw (k+1) A) (env:Env):jw k (A.deeper env):=
  ⟨r.hd,by have:=r.dp;show A.depth+1+3 * k+5<_;omega,by have:=r.un;show A.units+3+16 * k+200<_;omega,r.gd⟩
theorem KH {A:Around} {C:Addr} {us:List Value} {kw:List (Str×Value)}:(A.under (.builtin "type.__call__" ⟨.ref C::us,kw⟩)).depth=A.depth+1:=by
  first | rfl | simp[Around.under,Code.weight,Code.isCreation,Code.isGuard,Code.isCaller,Code.frames,Code.isFrame,guardIds]
theorem KJ {A:Around} {C:Addr} {us:List Value} {kw:List (Str×Value)}:(A.under (.builtin "type.__call__" ⟨.ref C::us,kw⟩)).units=A.units+1:=by
  first | rfl | simp[Around.under,Code.cUnits,Code.frames,Code.isFrame]
theorem Ih {A:Around} {C:Addr} {us:List Value} {kw:List (Str×Value)}:(A.under (.builtin "type.__call__" ⟨.ref C::us,kw⟩)).guards=A.guards:=by
  first | rfl | simp[Around.under,Code.isGuard,guardIds]
theorem jw.make {k:Nat} {A:Around} (r:jw (k+1) A) (C:Addr) (us:List Value) (kw:List (Str×Value)):jw k (A.under (.builtin "type.__call__" ⟨.ref C::us,kw⟩)):=
  ⟨r.hd,by have:=r.dp;rw[KH];omega,by have:=r.un;rw[KJ];omega,by rw[Ih];exact r.gd⟩
theorem jw.depth {k:Nat} {A:Around} (r:jw k A):A.depth<recursionLimit:=by have:=r.dp;omega
theorem jw.units {k:Nat} {A:Around} (r:jw k A):A.units+64<cLine:=by have:=r.un;omega
def SJ:TA:=fun _ H Q=>Q [] H
def NQ (ta:TE) (tr:TA):TA:=fun σ H Q=>ta σ H fun x H1=>tr σ H1 fun xs H2=>Q (x::xs) H2
section
variable {X:Cx} {e:Expr} {es:List Expr} {te:TE} {t:TA} {pos:Pos}
theorem aq:PA X [] SJ:=fun _ _ _ _ H Q I h=>Calls.spliced_nil ⟨[],H,I,.nil,h⟩
theorem aj (ha:PE X e te) (hr:PA X es t) (hs:starEach (e::es) X.env=(false,eval e X.env)::starEach es X.env:=by rfl):PA X (e::es) (NQ te t):=by
  intro pos p_ s σ H Q I h;rw[hs];show wpAny _ _ (spliced ((false,eval e X.env)::backTo pos (starEach es X.env))) _ _ s;refine Calls.spliced_cons (cL (ha p_ s σ H _ I h) fun u s1 zz=>?_);obtain⟨x,H1,I1,r1,q1⟩:=zz;refine cL (hr pos p_ s1 σ H1 _ I1 q1) fun us s2 zz=>?_;obtain⟨xs,H2,I2,r2,q2⟩:=zz;exact⟨x::xs,H2,I2,.cons r1 r2,q2⟩
def qcX (t:TA):TE:=fun σ H Q=>t σ H fun xs H1=>xs.length≤sizeLine∧∀p,H1 p=none→Q (.ref p) (upd H1 p (.tup xs))
def qcY (t:TA):TE:=fun σ H Q=>t σ H fun xs H1=>xs.length≤sizeLine∧∀p,H1 p=none→Q (.ref p) (upd H1 p (.lst xs))
theorem iW {x1} (h:PA X es t):PE X (.Tuple es x1 pos) (qcX t):=by
  intro p_ s σ H Q I hq;refine wpAny_Tuple_spliced (cL (h pos p_ s σ H _ I hq) fun us s1 zz=>?_);obtain⟨xs,H1,I1,r,z,q⟩:=zz;refine⟨by rw[← r.length];exact z,?_⟩;have hf:H1 s1.heap.objs.size=none:=I1.hok.fresh (Nat.le_refl _);refine⟨.ref s1.heap.objs.size,upd H1 s1.heap.objs.size (.tup xs),I1.laid (t':=s1.toks) (fun b u e=>Heap.get?_push_of_some _ e) (Nat.le_refl _) ?_,rfl,q _ hf⟩;exact⟨z,us,r,⟨_,Heap.get?_push_size _ rfl,rfl,_,rfl⟩⟩
theorem jh (h:PA X es t):PE X (.List es pos) (qcY t):=by
  intro p_ s σ H Q I hq;refine wpAny_List_spliced (cL (h pos p_ s σ H _ I hq) fun us s1 zz=>?_);obtain⟨xs,H1,I1,r,z,q⟩:=zz;refine⟨by rw[← r.length];exact z,?_⟩;have hf:H1 s1.heap.objs.size=none:=I1.hok.fresh (Nat.le_refl _);refine⟨.ref s1.heap.objs.size,upd H1 s1.heap.objs.size (.lst xs),I1.laid (t':=s1.toks) (fun b u e=>Heap.get?_push_of_some _ e) (Nat.le_refl _) ?_,rfl,q _ hf⟩;exact⟨z,us,0,r,Heap.get?_push_size _ rfl⟩
end
abbrev Sp:=List V→Hp→VK→XK→Prop
abbrev RK:=List Env→Hp→Shared→XK→Value→Shared→Prop
structure KN (P:Program) (w:World) (K:W.Frag) (mg:Str→Option Value) (base:Heap) (A:Around) (outer:List Env) (s:Shared) (H:Hp):Prop where
  frames:A.frames=some outer
  mod:Mod K mg base
  bs:∀b o,base.get? b=some o→s.heap.get? b=some o∧H b=none
  RD:base.objs.size≤s.heap.objs.size
  tQ:s.heap.FunFrames base outer
  Wy:∀b∈frs outer,H b=none
  hok:qx P w H s.heap
  bare:AllBare s.gens
def CE (outer:List Env) (P:Program) (w:World) (H:Hp) (s:Shared) (Q:VK) (u:Value) (s':Shared):Prop:=
  ∃v H',s'.os=s.os∧AllBare s'.gens∧Un (frs outer) [] H H' s.heap s'.heap∧qx P w H' s'.heap∧RelV v u∧Q v H'
def CR (CX:RK) (outer:List Env) (P:Program) (w:World) (H:Hp) (s:Shared) (Q:VK) (E:XK) (r:Result) (s':Shared):Prop:=
  match r with
  | .ok (.ret u)=>CE outer P w H s Q u s'
  | .ok _=>False
  | .error e=>CX outer H s E e s'
structure bV (P:Program) (w:World) (K:W.Frag) (mg:Str→Option Value) (base:Heap) (CX:RK) (k:Nat) (f:Addr) (fd:FuncData) (ps:List Str) (sp:Sp):Prop where
  len:∀vs H Q E,sp vs H Q E→vs.length=ps.length
  run:∀(A:Around) (outer:List Env) (s:Shared) (H:Hp) (args:Args) (us:List Value) (vs:List V) (Q:VK) (E:XK),jw k A→KN P w K mg base A outer s H→BindsTo s fd args (ps.zip us)→Vals vs us→sp vs H Q E→
    codeAny (model P w) A (.call (.ref f) args) (CR CX outer P w H s Q E) s
theorem bV.imp {P:Program} {w:World} {K:W.Frag} {mg:Str→Option Value} {base:Heap} {CX:RK} {k:Nat} {f:Addr} {fd:FuncData} {ps:List Str} {sp sp':Sp} (F:bV P w K mg base CX k f fd ps sp)
    (h:∀vs H Q E,sp' vs H Q E→sp vs H Q E):bV P w K mg base CX k f fd ps sp':=
  ⟨fun vs H Q E q=>F.len vs H Q E (h _ _ _ _ q),fun A outer s H args us vs Q E hr he hb hv hs=>F.run A outer s H args us vs Q E hr he hb hv (h _ _ _ _ hs)⟩
theorem KN.make {P:Program} {w:World} {K:W.Frag} {mg:Str→Option Value} {base:Heap} {A:Around} {outer:List Env} {s:Shared} {H:Hp} (e:KN P w K mg base A outer s H) (C:Addr) (us:List Value) (kw:List (Str×Value)) :
    KN P w K mg base (A.under (.builtin "type.__call__" ⟨.ref C::us,kw⟩)) outer s H:=⟨by first | exact e.frames | (simpa [Around.under,Code.envs,Code.isFrame,pushEnvs] using e.frames),e.mod,e.bs,e.RD,e.tQ,e.Wy,e.hok,e.bare⟩
section
variable {X:Cx} {p_:List (Addr×Obj)} {σ:St} {H:Hp} {s s':Shared}
theorem Inv.env0 (I:Inv X p_ σ H s):KN X.prog X.w X.K X.mg X.base X.A X.stack s H:=
  ⟨I.ok.frames,I.ok.mod,I.bs,Nat.le_trans I.ok.RD I.sz,I.stack,I.yZ,I.hok,I.bare⟩
theorem Inv.after {Q:VK} {u:Value} (I:Inv X p_ σ H s) (h:CE X.stack X.prog X.w H s Q u s'):EP X p_ σ Q u s':=by
  obtain⟨v,H',os,bare,un,hok,r,q⟩:=h;obtain⟨hh,g,d,t,os'⟩:=s';obtain rfl:os'=s.os:=os;exact⟨v,H',I.call (h':=hh) (g':=g) (d':=d) (t':=t) (ch:=[]) un hok bare (fun b z=>absurd z (by simp)),r,q⟩
end
def SM (sp:Sp) (wX:List V) (E:XK) (t:TA):TE:=fun σ H Q=>t σ H fun vs H1=>sp (vs++wX) H1 Q E
def SN (C:Addr) (m:Str) (sp:Sp) (wX:List V) (E:XK) (ta:TE) (t:TA):TE:=fun σ H Q=>ta σ H fun x H1=>∃a dx fs,x = .ref a∧H1 a=some (.ins C dx fs)∧fs.lookup m=none∧
  t σ H1 fun vs H2=>sp (x::(vs++wX)) H2 Q E
def SQ (C:Addr) (sp:Sp) (wX:List V) (E:XK) (t:TA):TE:=fun σ H Q=>t σ H fun vs H1=>∀x dx,H1 x=none→H1 dx=none→dx≠x→
  sp (.ref x::(vs++wX)) (upd (upd H1 dx (.own x)) x (.ins C dx [])) (fun v H2=>v = .non∧Q (.ref x) H2) E
def Binds (K:W.Frag) (fd:FuncData) (ps:List Str) (ds:List Value):Prop:=
  ∀(s:Shared) (us:List Value),K.In s.heap→(us++ds).length=ps.length→BindsTo s fd ⟨us,[]⟩ (ps.zip (us++ds))
theorem Binds.all {K:W.Frag} {fd:FuncData} {ps:List Str} (h:∀us:List Value,us.length=ps.length→bindArgs fd ⟨us,[]⟩=pure (ps.zip us)):Binds K fd ps []:=fun s us _ hl=>by
  rw[List.append_nil] at hl ⊢;exact .of_eq (h us hl)
def Passes (CX:RK) (X:Cx) (E:XK):Prop:=∀(p_:List (Addr×Obj)) (σ:St) (H:Hp) (s:Shared) (e:Value) (s':Shared),Inv X p_ σ H s→CX X.stack H s E e s'→X.xe e s'
section
variable {X:Cx} {CX:RK} {k:Nat} {f C:Addr} {fd:FuncData} {ps:List Str} {sp:Sp} {wX:List V} {ds:List Value} {E:XK} {x m:Str} {p pos apos:Pos} {e o:Expr} {es:List Expr} {ta:TE} {t:TA}
theorem SX {p_:List (Addr×Obj)} {σ:St} {H:Hp} {s:Shared} {Q:VK} {us:List Value} {vs:List V} (F:bV X.prog X.w X.K X.mg X.base CX k f fd ps sp) (hr:jw k X.A) (hb:Binds X.K fd ps ds) (hd:Vals wX ds) (hx:Passes CX X E)
    (I:Inv X p_ σ H s) (r:Vals vs us) (h:sp (vs++wX) H Q E):wpAny (model X.prog X.w) X.A (call (.ref f) us) (EP X p_ σ Q) X.xe s:=by
  have r2:Vals (vs++wX) (us++ds):=r.append hd;have hl:(us++ds).length=ps.length:=by rw[← r2.length];exact F.len _ _ _ _ h
  refine wpAny_call (codeAny_mono (F.run X.A X.stack s H ⟨us,[]⟩ (us++ds) (vs++wX) Q E hr I.env0 (hb s us I.nq hl) r2 h) fun r s' hq=>?_);cases r with
  | error e=>exact hx p_ σ H s e s' I hq
  | ok fl=>
    cases fl with
    | ret u=>exact I.after hq
    | next=>exact False.elim hq
    | brk=>exact False.elim hq
    | cont=>exact False.elim hq
theorem aO (F:bV X.prog X.w X.K X.mg X.base CX k f fd ps sp) (hr:jw k X.A) (hg:Gl X x) (hm:X.mg x=some (.ref f)) (hk:W.keepIn X.K (.ref f)=true) (hb:Binds X.K fd ps ds) (hd:Vals wX ds) (hx:Passes CX X E)
    (ha:PA X (e::es) t) (hdb:(x == ("__debug__" : Str))=false:=by decide) (he:starEach (e::es) X.env=(false,eval e X.env)::starEach es X.env:=by rfl) (hpl:(backTo pos (starEach es X.env)).any (·.1)=false:=by rfl) :
    PE X (.Call (.Name x p) (e::es) [] pos) (SM sp wX E t):=by
  intro p_ s σ H Q I h;refine wpAny_Call_Name_kw (lO I hg hm ?_ hdb);refine W.callWith_K (h₀:=X.base) I.ok.mod.Nr hk (cL (ha pos p_ s σ H _ I h) fun us s1 zz=>?_) he hpl;obtain⟨vs,H1,I1,r,q⟩:=zz;refine⟨I1.nq,?_⟩;exact SX F hr hb hd hx I1 r q
theorem mH {pl:Sem Bool} (he:PE X o ta) (c:Cls X.K C) (hm:Meth X.K C m f) (F:bV X.prog X.w X.K X.mg X.base CX k f fd ps sp) (hr:jw k X.A) (hb:Binds X.K fd ps ds) (hd:Vals wX ds) (hx:Passes CX X E)
    (ht:eval (.Call (.Attribute o m apos) [] [] pos) X.env=(do
      let ov ← eval o X.env
      standAt apos.atName
      let (f,first) ← holding [ov] (getMethod ov m pl)
      callWith pos f first (backTo pos (starEach [] X.env)) (backToKw pos (keywordEach [] X.env))):=by rfl) :
    PE X (.Call (.Attribute o m apos) [] [] pos) (SN C m sp wX E ta SJ):=by
  intro p_ s σ H Q I h;refine W.methodCall_KW (pl:=pl) (cL (he p_ s σ H _ I h) fun u s1 zz=>?_) ht;obtain⟨x,H1,I1,rx,a,dx,fs,ex,ea,l,q⟩:=zz;subst ex;obtain rfl:u=Value.ref a:=rx;refine KC I1 ea c hm l ?_;exact W.callWith_K0 (first:=[.ref a]) I1.nq hm.kp (SX (us:=[.ref a]) (vs:=[.ref a]) F hr hb hd hx I1 (.cons rfl .nil) q)
structure Mk (K:W.Frag) (C f:Addr):Prop where
  makes:W.makesIn K C=true
  init:W.findIn K (.ref C) "__init__" = some (some (.ref f))
  fn:W.isFn K (.ref f)=true
  kp:W.keepIn K (.ref C)=true
theorem S8 {p_:List (Addr×Obj)} {σ:St} {H:Hp} {s:Shared} {Q:VK} {us:List Value} {vs:List V} (M:Mk X.K C f) (F:bV X.prog X.w X.K X.mg X.base CX k f fd ps sp) (hr:jw (k+1) X.A) (hb:Binds X.K fd ps ds) (hd:Vals wX ds)
    (hx:Passes CX X E) (I:Inv X p_ σ H s) (r:Vals vs us)
    (h:∀x dx,H x=none→H dx=none→dx≠x→sp (.ref x::(vs++wX)) (upd (upd H dx (.own x)) x (.ins C dx [])) (fun v H2=>v = .non∧Q (.ref x) H2) E) :
    wpAny (model X.prog X.w) X.A (call (.ref C) us) (EP X p_ σ Q) X.xe s:=by
  have hq:=h (s.heap.objs.size+1) s.heap.objs.size (I.hok.fresh (Nat.le_succ _)) (I.hok.fresh (Nat.le_refl _)) (Nat.ne_of_lt (Nat.lt_succ_self _));have I2:=Inv.made (C:=C) I;have r2:Vals (V.ref (s.heap.objs.size+1)::(vs++wX)) (Value.ref (s.heap.objs.size+1)::(us++ds)):=.cons rfl (r.append hd);have hl:(Value.ref (s.heap.objs.size+1)::us++ds).length=ps.length:=by
    have e:=r2.length;rw[F.len _ _ _ _ hq] at e;exact e.symm
  refine wpAny_call (Sy (f:=f) I.nq M.makes M.init (beq_iff_eq.mp M.fn) (codeAny_mono (F.run _ X.stack _ _ ⟨Value.ref (s.heap.objs.size+1)::us,[]⟩ (Value.ref (s.heap.objs.size+1)::(us++ds)) _ _ E (hr.make C us [])
    (I2.env0.make C us []) (hb _ (Value.ref (s.heap.objs.size+1)::us) I2.nq hl) r2 hq) fun r s' hq'=>?_))
  cases r with
  | error e=>exact hx p_ σ _ _ e s' I2 hq'
  | ok fl=>
    cases fl with
    | ret u=>
      obtain⟨v,H',I3,rv,ev,q3⟩:=I2.after hq';subst ev;exact⟨rv,⟨V.ref (s.heap.objs.size+1),H',I3,rfl,q3⟩⟩
    | next=>exact False.elim hq'
    | brk=>exact False.elim hq'
    | cont=>exact False.elim hq'
theorem W9 (M:Mk X.K C f) (F:bV X.prog X.w X.K X.mg X.base CX k f fd ps sp) (hr:jw (k+1) X.A) (hg:Gl X x) (hm:X.mg x=some (.ref C)) (hb:Binds X.K fd ps ds) (hd:Vals wX ds) (hx:Passes CX X E)
    (ha:PA X (e::es) t) (hdb:(x == ("__debug__" : Str))=false:=by decide) (he:starEach (e::es) X.env=(false,eval e X.env)::starEach es X.env:=by rfl) (hpl:(backTo pos (starEach es X.env)).any (·.1)=false:=by rfl) :
    PE X (.Call (.Name x p) (e::es) [] pos) (SQ C sp wX E t):=by
  intro p_ s σ H Q I h;refine wpAny_Call_Name_kw (lO I hg hm ?_ hdb);refine W.callWith_K (h₀:=X.base) I.ok.mod.Nr M.kp (cL (ha pos p_ s σ H _ I h) fun us s1 zz=>?_) he hpl;obtain⟨vs,H1,I1,r,q⟩:=zz;refine⟨I1.nq,?_⟩;exact S8 M F hr hb hd hx I1 r q
end
structure aU (N P:List Str) (sc:Scope):Prop where
  kind:sc.kind = .function
  co:sc.isCoroutine=false
  gen:sc.isGenerator=false
  nd:N.Nodup
  pre:N.take P.length=P
  par:∀x∈P,sc.names.lookup x=some .local∨sc.names.lookup x=some .cell
  qaG:∀y∈sc.names,y.2≠.free
theorem Dy {kindOf:Str→Option NameKind} {x:Str}:∀{binds:List (Str×Value)} {m:Str→Option Value},(∀v,(x,v)∉binds)→bindL kindOf binds m x=m x
  | [],_,_=>rfl
  | (n,v)::r,m,h=>by
    unfold bindL;rw[Dy fun w hw=>h w (List.mem_cons_of_mem _ hw)];split
    · have:x≠n:=by rintro rfl;exact h v List.mem_cons_self
      simp[this]
    ·rfl
theorem Dz {kindOf:Str→Option NameKind} {x:Str}:∀{binds:List (Str×Value)} {m:Str→Option Value},(∀v,(x,v)∉binds)→bindC kindOf binds m x=m x
  | [],_,_=>rfl
  | (n,v)::r,m,h=>by
    unfold bindC;rw[Dz fun w hw=>h w (List.mem_cons_of_mem _ hw)];split
    ·rfl
    · have:x≠n:=by rintro rfl;exact h v List.mem_cons_self
      simp[this]
theorem DG {kindOf:Str→Option NameKind} {x:Str} {v:Value}:∀{P:List Str} {vs:List Value} {i:Nat} {m:Str→Option Value},P.Nodup→P[i]? = some x→vs[i]? = some v→kindOf x=some .local→
    bindL kindOf (P.zip vs) m x=some v
  | [],_,_,_,_,h,_,_=>by simp at h
  | _::_,[],_,_,_,_,h,_=>by simp at h
  | p::P,w::vs,0,m,nd,h1,h2,hk=>by
    simp at h1 h2;subst h1;subst h2;show bindL kindOf ((p,w)::P.zip vs) m p=_;unfold bindL;rw[Dy fun v hv=>(List.nodup_cons.mp nd).1 (List.of_mem_zip hv).1,if_pos hk];simp
  | p::P,w::vs,i+1,m,nd,h1,h2,hk=>by
    show bindL kindOf ((p,w)::P.zip vs) m x=_;unfold bindL;exact DG (i:=i) (List.nodup_cons.mp nd).2 (by simpa using h1) (by simpa using h2) hk
theorem DK {kindOf:Str→Option NameKind} {x:Str} {v:Value}:∀{P:List Str} {vs:List Value} {i:Nat} {m:Str→Option Value},P.Nodup→P[i]? = some x→vs[i]? = some v→kindOf x≠some .local→
    bindC kindOf (P.zip vs) m x=some v
  | [],_,_,_,_,h,_,_=>by simp at h
  | _::_,[],_,_,_,_,h,_=>by simp at h
  | p::P,w::vs,0,m,nd,h1,h2,hk=>by
    simp at h1 h2;subst h1;subst h2;show bindC kindOf ((p,w)::P.zip vs) m p=_;unfold bindC;rw[Dz fun v hv=>(List.nodup_cons.mp nd).1 (List.of_mem_zip hv).1,if_neg hk];simp
  | p::P,w::vs,i+1,m,nd,h1,h2,hk=>by
    show bindC kindOf ((p,w)::P.zip vs) m x=_;unfold bindC;exact DK (i:=i) (List.nodup_cons.mp nd).2 (by simpa using h1) (by simpa using h2) hk
def start (N:List Str) (vs:List V):St:=vs.map some++List.replicate (N.length - vs.length) none
def au (CX:RK) (P:Program) (w:World) (K:W.Frag) (mg:Str→Option Value) (base:Heap) (N:List Str) (qual:Str) (scope:Scope) (f:Addr) (cd:Value) (A:Around) (outer:List Env) (s:Shared) (H:Hp) (E:XK):Cx where
  prog:=P
  w:=w
  K:=K
  mg:=mg
  base:=base
  A:=A.deeper (envOfC qual scope s.heap.objs.size f cd)
  N:=N
  s₀:=s
  H₀:=H
  env:=envOfC qual scope s.heap.objs.size f cd
  outer:=outer
  stack:=envOfC qual scope s.heap.objs.size f cd::outer
  ex:=[]
  calm:=true
  fn:=fun _=>true
  pn:=[]
  xe:=fun e s'=>wpAny (model P w) (A.deeper (envOfC qual scope s.heap.objs.size f cd)) (leaving (envOfC qual scope s.heap.objs.size f cd) e) (fun _ s''=>CX outer H s E e s'') (fun e' s''=>CX outer H s E e' s'') s'
theorem Ii {sc:Scope} {n:Nat} {x:Str} (h:sc.names.lookup x=some .cell):∃c,(cellsFrom n sc.names []).lookup x=some c:=by
  have q:=W.cellsFrom_some sc.names n [] (.inl h);exact Option.isSome_iff_exists.mp q
theorem Qc {CX:RK} {P:Program} {w:World} {K:W.Frag} {mg:Str→Option Value} {base:Heap} {N ps:List Str} {qual:Str} {scope:Scope} {f:Addr} {cd:Value} {A:Around} {outer:List Env} {s s1:Shared} {H:Hp} {E:XK} {us:List Value} {vs:List V}
    (S:aU N ps scope) (hd:A.handled=none) (e0:KN P w K mg base A outer s H) (hl:vs.length=ps.length) (r:Vals vs us)
    (x:InCallC s s.heap.objs.size (bindL (envOfC qual scope s.heap.objs.size f cd).kindOf (ps.zip us) fun _=>none) (cellsFrom (s.heap.objs.size+1) scope.names []) (bindC (envOfC qual scope s.heap.objs.size f cd).kindOf (ps.zip us) fun _=>none) s1) :
    Inv (au CX P w K mg base N qual scope f cd A outer s H E) [] (start N vs) H s1:=by
  have hpl:ps.length≤N.length:=by have:=congrArg List.length S.pre;rw[List.length_take] at this;omega
  obtain⟨h1,tk,rfl,hk⟩:=x.done;have noA:∀b:Addr,b∉(au CX P w K mg base N qual scope f cd A outer s H E).ex:=fun b z=>absurd (show b∈([]:List Addr) from z) (by simp);refine⟨⟨e0.mod,S.kind,rfl,rfl,Nat.le_refl _,fun y z c h1 h2=>?_,fun y hy=>?_,fun y c _ h=>?_,fun _=>hd,Around.frames_deeper e0.frames,.inr ⟨rfl,rfl⟩,fun b z=>absurd z (noA b),e0.bs,e0.RD,fun b _ _=>noA b,fun b z=>absurd z (noA b),e0.tQ,e0.Wy⟩,
    rfl,e0.bare,Un.kept hk,⟨_,x.toInCall.ns,fun i y v h1 h2 h3=>?_⟩,fun y c h=>⟨_,x.cell y c h⟩,e0.hok.fresh (Nat.le_refl _),fun y c h=>?_,fun p hp=>absurd (show p∈([]:List (Addr×Obj)) from hp) (by simp),e0.hok.kept hk,?_⟩
  ·exact name_of_addr x.apart (PySem.mem_of_lookup h1) (PySem.mem_of_lookup h2)
  · have hy:scope.names.lookup y=some .cell∨scope.names.lookup y=some .free:=hy
    rcases hy with hy | hy
    ·exact Ii hy
    ·exact absurd rfl (S.qaG _ (PySem.mem_of_lookup hy))
  ·exact Nat.le_of_lt (x.above y c (PySem.mem_of_lookup h))
  · have hi:i<vs.length:=by
      unfold start at h2
      by_cases hi:i<vs.length
      ·exact hi
      ·rw[List.getElem?_append_right (by simpa using hi)] at h2;rw[List.getElem?_replicate] at h2;split at h2 <;> cases h2
    have ha:vs[i]? = some v:=by
      unfold start at h2;rw[List.getElem?_append_left (by simpa using hi),List.getElem?_map] at h2;cases e:vs[i]? with
      | none=>rw[e] at h2;cases h2
      | some a=>rw[e] at h2;cases h2;rfl
    obtain⟨u,hu,rv⟩:=r.get ha;have hp:ps[i]? = some y:=by
      rw[← S.pre,List.getElem?_take_of_lt (by omega)];exact h1
    have ndP:ps.Nodup:=by rw[← S.pre];exact S.nd.sublist (List.take_sublist _ _)
    refine⟨u,rv,?_⟩
    rcases S.par y (List.mem_of_getElem? hp) with k | k
    ·exact .inl ⟨k,DG ndP hp hu k⟩
    ·obtain⟨c,e⟩:=Ii (n:=s.heap.objs.size+1) k;refine .inr ⟨.inl k,c,e,?_⟩;have q:=x.cell y c e;rw[DK ndP hp hu (by show scope.names.lookup y≠_;rw[k];decide)] at q;exact q
  ·exact e0.hok.fresh (Nat.le_of_lt (x.above y c (PySem.mem_of_lookup h)))
  ·unfold start;show _=N.length;rw[List.length_append,List.length_map,List.length_replicate];omega
theorem Zi {CX:RK} {P:Program} {w:World} {K:W.Frag} {mg:Str→Option Value} {base:Heap} {k:Nat} {f:Addr} {name qual:Str} {params:Arguments} {body:List Stmt} {scope:Scope} {dV kV doc pm cdv ct oc:Value} {an od:Option Addr}
    {osl:Array (Option Value)} {N ps:List Str} {sp:Sp} (lk:K.lookup f=some ⟨oc,od,.func (W.fnOf name qual params body scope dV kV doc pm an cdv ct),osl⟩) (hcd:W.codeIn K cdv qual=true) (S:aU N ps scope)
    (len:∀vs H Q E,sp vs H Q E→vs.length=ps.length)
    (hbody:∀(A:Around) (outer:List Env) (s:Shared) (H:Hp) (vs:List V) (Q:VK) (E:XK),jw k (A.deeper (envOfC qual scope s.heap.objs.size f cdv))→sp vs H Q E→
      ∃t,Dt (au CX P w K mg base N qual scope f cdv A outer s H E) body t∧t {nx:=fun _ H'=>Q .non H',rt:=Q} (start N vs) H) :
    bV P w K mg base CX (k+1) f (W.fnOf name qual params body scope dV kV doc pm an cdv ct) ps sp:=by
  refine⟨len,fun A outer s H args us vs Q E hr e0 hb r hsp=>?_⟩;have hl:=len _ _ _ _ hsp;have KX:K.In s.heap:=e0.mod.Nr.keeps fun b o e=>(e0.bs b o e).1;have lim:s.heap.NoLimit:=e0.mod.nolimit.keeps fun b o e=>(e0.bs b o e).1;have hkind:∀y∈ps.zip us,scope.names.lookup y.1=some .local∨(scope.names.lookup y.1=some .cell∧((cellsFrom (s.heap.objs.size+1) scope.names []).lookup y.1).isSome=true):=fun⟨n,v⟩ hy=>by
    rcases S.par n (List.of_mem_zip hy).1 with q | q
    ·exact .inl q
    ·exact .inr ⟨q,W.cellsFrom_some _ _ _ (.inl q)⟩
  refine codeAny_call_function hr.depth (KX _ _ lk) rfl S.co S.gen rfl (W.codeRec_of KX hcd) (hb _ _ _ _ ?_);refine wpAny_newFunctionEnv_cells S.kind hkind fun env he s1 x=>?_;subst he;refine⟨lim.keeps x.toInCall.keep,codeAny_func ?_⟩;obtain⟨t,ht,hq⟩:=hbody A outer s H vs Q E (hr.deeper _) hsp;have I:Inv (au CX P w K mg base N qual scope f cdv A outer s H E) [] (start N vs) H s1:=Qc S hr.hd e0 hl r x;refine wpAny_mono (ht [] s1 (start N vs) H _ I hq) (fun fl s' hs=>?_) fun e s' hs=>hs;have fin:∀{σ':St} {H':Hp} {v:V} {u:Value},Inv (au CX P w K mg base N qual scope f cdv A outer s H E) [] σ' H' s'→RelV v u→Q v H'→CE outer P w H s Q u s':=
    fun {σ' H' v u} J rv q=>⟨v,H',J.os,J.bare,J.base,J.hok,rv,q⟩
  cases fl with
  | ret u=>
    obtain⟨v,σ',H',J,rv,q⟩:=hs;exact fin J rv q
  | next=>
    obtain⟨σ',H',J,q⟩:=hs;exact fin (v:=V.non) (u:=Value.none) J rfl q
  | brk=>
    obtain⟨_,_,_,q⟩:=hs;exact False.elim q
  | cont=>
    obtain⟨_,_,_,q⟩:=hs;exact False.elim q
section
variable {X:Cx} {x:Str} {p pos:Pos} {e:Expr} {es:List Expr} {t:TA} {id T:String} {r:List V→Hp→VK→Prop}
def tCB (r:List V→Hp→VK→Prop) (t:TA):TE:=fun σ H Q=>t σ H fun vs H1=>r vs H1 Q
theorem aM (hc:cB X (.builtin id) r) (hg:Gl X x) (hm:X.mg x=none) (hv:bootBuiltins x=some (.builtin id)) (ha:PA X (e::es) t) (hn:x≠ "__name__" :=by decide) (hdb:(x == ("__debug__" : Str))=false:=by decide)
    (he:starEach (e::es) X.env=(false,eval e X.env)::starEach es X.env:=by rfl) (hpl:(backTo pos (starEach es X.env)).any (·.1)=false:=by rfl):PE X (.Call (.Name x p) (e::es) [] pos) (tCB r t):=by
  intro p_ s σ H Q I h;refine wpAny_Call_Name_kw (oZ I hg hm hv ?_ hn hdb);refine PyProof.Rows.callWith_builtin1 (cL (ha pos p_ s σ H _ I h) fun us s1 zz=>?_) he hpl;obtain⟨vs,H1,I1,r1,q1⟩:=zz;exact hc p_ s1 σ H1 vs us Q I1 r1 q1
theorem gP (hc:cB X (.type T) r) (hg:Gl X x) (hm:X.mg x=none) (hv:bootBuiltins x=some (.type T)) (ha:PA X (e::es) t) (hn:x≠ "__name__" :=by decide) (hdb:(x == ("__debug__" : Str))=false:=by decide)
    (he:starEach (e::es) X.env=(false,eval e X.env)::starEach es X.env:=by rfl) (hpl:(backTo pos (starEach es X.env)).any (·.1)=false:=by rfl):PE X (.Call (.Name x p) (e::es) [] pos) (tCB r t):=by
  intro p_ s σ H Q I h;refine wpAny_Call_Name_kw (oZ I hg hm hv ?_ hn hdb);refine PyProof.Rows.callWith_type1 (cL (ha pos p_ s σ H _ I h) fun us s1 zz=>?_) he hpl;obtain⟨vs,H1,I1,r1,q1⟩:=zz;exact hc p_ s1 σ H1 vs us Q I1 r1 q1
end
end L2
namespace HT
open PySem PyProof.Rows
section
variable {prog:Program} {w:World} {A:Around} {E:Value→Shared→Prop} {s:Shared}
def Ft (n d:Nat):Option Int→Nat
  | none=>d
  | some v=>if v<0 then (v+(n:Int)).toNat else min v.toNat n
end
end HT
namespace L2
open PySem PySem.Spec PyProof.Rows
abbrev TO:=St→Hp→(Option Int→Hp→Prop)→Prop
def PO (X:Cx) (e:Option Expr) (t:TO):Prop:=
  ∀(p_:List (Addr×Obj)) (s:Shared) (σ:St) (H:Hp) (Q:Option Int→Hp→Prop),Inv X p_ σ H s→t σ H Q→
    wpAny (model X.prog X.w) X.A (evalPart e X.env) (fun u s'=>∃o H',Inv X p_ σ H' s'∧IsPart u o∧Q o H') X.xe s
def NT:TO:=fun _ H Q=>Q none H
def S9 (t:TE):TO:=fun σ H Q=>t σ H fun x H1=>∃i,x = .int i∧Q (some i) H1
section
variable {X:Cx} {e:Expr} {te:TE} {lo hi:Option Expr} {tl th:TO} {pos p2:Pos}
theorem NZ:PO X none NT:=by
  intro p_ s σ H Q I h;rw[evalPart_none];exact wpAny_pure ⟨none,H,I,.none,h⟩
theorem N5 (h:PE X e te):PO X (some e) (S9 te):=by
  intro p_ s σ H Q I hw;rw[evalPart_some];refine cL (h p_ s σ H _ I hw) fun u s1 zz=>?_;obtain⟨x,H1,I1,r1,q1⟩:=zz;obtain⟨i,rfl,q⟩:=q1;obtain⟨t,rfl⟩:=r1;exact⟨some i,H1,I1,.int i t,q⟩
def SlR (X:Cx) (r:V→Option Int→Option Int→Hp→VK→Prop):Prop:=
  ∀(p_:List (Addr×Obj)) (s:Shared) (σ:St) (H:Hp) (x:V) (v vl vu:Value) (lo hi:Option Int) (sl:Addr) (Q:VK),Inv X p_ σ H s→RelV x v→s.heap.IsSliceOf sl vl vu .none→IsPart vl lo→IsPart vu hi→r x lo hi H Q→
    ∃T id,typeLookup (.type T) "__getitem__" = pure (some (.builtin id))∧s.TypeIs v T∧wpAny (model X.prog X.w) X.A (getItem v (.ref sl)) (EP X p_ σ Q) X.xe s
def tSl (r:V→Option Int→Option Int→Hp→VK→Prop) (te:TE) (tl th:TO):TE:=fun σ H Q=>te σ H fun x H1=>tl σ H1 fun l H2=>th σ H2 fun u H3=>r x l u H3 Q
theorem Ij {r:V→Option Int→Option Int→Hp→VK→Prop} (hr:SlR X r) (he:PE X e te) (hl:PO X lo tl) (hu:PO X hi th):PE X (.Subscript e (.Slice lo hi none p2) pos) (tSl r te tl th):=by
  intro p_ s σ H Q I h;refine Subscript_ (cL (he p_ s σ H _ I h) fun v s1 zz=>?_);obtain⟨x,H1,I1,r1,q1⟩:=zz;refine wpAny_Slice (cL (hl p_ s1 σ H1 _ I1 q1) fun vl s2 ⟨l,H2,I2,pl,q2⟩=>cL (hu p_ s2 σ H2 _ I2 q2) fun vu s3 ⟨u,H3,I3,pu,q3⟩=>?_);rw[evalPart_none];refine wpAny_pure ?_;have I4:Inv X p_ σ H3 {s3 with heap:=s3.heap.push {cls:=.type "slice",data:=.fields #[vl,vu,.none]}}:=I3.kept (t':=s3.toks) fun b ob q=>Heap.get?_push_of_some _ q;obtain⟨T,id,hT,ht,hg⟩:=hr p_ {s3 with heap:=s3.heap.push {cls:=.type "slice",data:=.fields #[vl,vu,.none]}} σ H3 x v vl vu l u s3.heap.objs.size Q I4 r1 (Heap.IsSliceOf.new ..) pl pu q3;show wpAny (model X.prog X.w) X.A (subscriptTail e (.Slice lo hi none p2) v (.ref s3.heap.objs.size)) (EP X p_ σ Q) X.xe {s3 with heap:=s3.heap.push {cls:=.type "slice",data:=.fields #[vl,vu,.none]}};exact tail_any (ops:=[.ref s3.heap.objs.size,v]) ht hT hg (by with_unfolding_all rfl)
def zW (xs:List V) (lo hi:Option Int):List V:=(xs.drop (HT.Ft xs.length 0 lo)).take (HT.Ft xs.length xs.length hi - HT.Ft xs.length 0 lo)
theorem Ik (xs:List V) (lo hi:Option Int):(zW xs lo hi).length≤xs.length:=by
  unfold zW;rw[List.length_take,List.length_drop];omega
end
def Wz (n:Nat) (i:Int):Option Nat:=if 0≤i then (if i<n then some i.toNat else none) else if -(n:Int)≤i then some (i+n).toNat else none
def CJ {α:Type} (xs:List α) (i:Int):Option α:=(Wz xs.length i).bind fun j=>xs[j]?
theorem N6 {n:Nat} {i:Int} {j:Nat} (h:Wz n i=some j):seqIndex? i n=some j∧j<n∧-(n:Int)≤i∧i<n:=by
  unfold Wz at h
  by_cases h0:0≤i
  · rw[if_pos h0] at h
    by_cases h1:i<n
    ·rw[if_pos h1] at h;have e:i.toNat=j:=Option.some.inj h;exact⟨by rw[seqIndex_of h0 h1,e],by omega,by omega,h1⟩
    ·rw[if_neg h1] at h;cases h
  · rw[if_neg h0] at h
    by_cases h1 : -(n:Int)≤i
    ·rw[if_pos h1] at h;have e:(i+n).toNat=j:=Option.some.inj h;exact⟨by rw[seqIndex_neg (by omega) h1,e],by omega,h1,by omega⟩
    ·rw[if_neg h1] at h;cases h
theorem Fv {α:Type} {xs:List α} {i:Int} {v:α} (h:CJ xs i=some v):∃j,seqIndex? i xs.length=some j∧xs[j]? = some v∧j<xs.length∧-(xs.length:Int)≤i∧i<xs.length:=by
  unfold CJ at h;cases e:Wz xs.length i with
  | none=>rw[e] at h;cases h
  | some j=>
    rw[e] at h;obtain⟨h1,h2,h3,h4⟩:=N6 e;exact⟨j,h1,h,h2,h3,h4⟩
theorem aR {α:Type} {xs:List α} {j:Nat} {v:α} (h:xs[j]? = some v):CJ xs (j:Int)=some v:=by
  have hj:j<xs.length:=(List.getElem?_eq_some_iff.mp h).1;have e:Wz xs.length (j:Int)=some j:=by
    unfold Wz;rw[if_pos (by omega),if_pos (by omega)];simp
  unfold CJ;rw[e];exact h
def W_ (b:Expr):Prop:=∀o i,subscripted b false o i=operate [o,i] (getItem o i)
def S_ (X:Cx) (r:R2):Prop:=
  ∀(value slice:Expr) (p_:List (Addr×Obj)) (s:Shared) (σ:St) (H:Hp) (x y:V) (v u:Value) (Q:VK),Inv X p_ σ H s→RelV x v→RelV y u→r x y H Q→
    subscripted slice false v u=operate [v,u] (getItem v u)→wpAny (model X.prog X.w) X.A (subscriptTail value slice v u) (EP X p_ σ Q) X.xe s
def KQ (X:Cx) (id:String) (r:V→List V→Hp→VK→Prop):Prop:=
  ∀(p_:List (Addr×Obj)) (s:Shared) (σ:St) (H:Hp) (x:V) (xs:List V) (v:Value) (us:List Value) (Q:VK),Inv X p_ σ H s→RelV x v→Vals xs us→r x xs H Q→
    wpAny (model X.prog X.w) X.A (call (.builtin id) (v::us)) (EP X p_ σ Q) X.xe s
section
variable {X:Cx} {a b:Expr} {ta tb:TE} {pos:Pos}
theorem bJ {r:R2} (hr:S_ X r) (ha:PE X a ta) (hb:PE X b tb) (hs:W_ b):PE X (.Subscript a b pos) (Zg r ta tb):=by
  intro p_ s σ H Q I h;exact Subscript_ (qav ha hb I h fun v u s2 x y H2 I2 rx ry q=>hr a b p_ s2 σ H2 x y v u Q I2 rx ry q (hs _ _))
def qic (K:W.Frag):R2:=fun x y H Q=>∃p xs i v,x = .ref p∧y = .int i∧aY K H p xs∧CJ xs i=some v∧Q v H
def qid (K:W.Frag):R2:=fun x y H Q=>∃p xs i v,x = .ref p∧y = .int i∧dz K H p xs∧CJ xs i=some v∧Q v H
def qcZ:R2:=fun x y H Q=>∃z i c,x = .str z∧y = .int i∧z.length≤sizeLine∧CJ z.cps.toList i=some c∧Q (.str ⟨#[c]⟩) H
theorem Xa:S_ X (qic X.K):=by
  intro value slice p_ s σ H x y v u Q I rx ry h hs;obtain⟨p,xs,i,z,rfl,rfl,hq,he,q⟩:=h;cases rx;obtain⟨t,rfl⟩:=ry;obtain⟨its,r,pl,hz⟩:=I.list hq;obtain⟨j,h1,h2,h3,h4,h5⟩:=Fv he;obtain⟨w,ew,Tc⟩:=r.get h2;have hl:=r.length;have hn:=uo;have fin:EP X p_ σ Q w s:=⟨z,H,I,Tc,q⟩
  by_cases h0:0≤i
  · have hj:i.toNat=j:=by
      rw[seqIndex_of h0 h5] at h1;exact Option.some.inj h1
    exact item_listR pl.isList h0 (by omega) (by rw[hj];simpa using ew) fin hs
  · have hj:(i+(its.toArray.size:Int)).toNat=j:=by
      rw[seqIndex_neg (by omega) h4] at h1;rw[List.size_toArray,← hl];exact Option.some.inj h1
    exact subscriptTail_builtinR (x:=w) pl.isList.typeIs slot_list_getitem.lookup
      (wpAny_getItem_list_neg (Q:=fun r s'=>r=w∧EP X p_ σ Q r s') pl.isList (by omega) (by rw[List.size_toArray] <;> omega) (by omega) (by rw[hj];simpa using ew) ⟨rfl,fin⟩) hs
theorem qaH:S_ X (qid X.K):=by
  intro value slice p_ s σ H x y v u Q I rx ry h hs;obtain⟨p,xs,i,z,rfl,rfl,hq,he,q⟩:=h;cases rx;obtain⟨t,rfl⟩:=ry;obtain⟨its,r,pl,hz⟩:=I.tuple hq;obtain⟨j,h1,h2,h3,h4,h5⟩:=Fv he;obtain⟨w,ew,Tc⟩:=r.get h2;have hl:=r.length;have hn:=uo;have fin:EP X p_ σ Q w s:=⟨z,H,I,Tc,q⟩;exact subscriptTail_builtinR (x:=w) pl.typeIs slot_tuple_getitem.lookup
    (getItem_tuple (j:=j) (Q:=fun r s'=>r=w∧EP X p_ σ Q r s') pl (by omega) (by omega) (by rw[List.size_toArray,← hl];exact h1) (by simpa using ew) ⟨rfl,fin⟩) hs
theorem qaI:S_ X qcZ:=by
  intro value slice p_ s σ H x y v u Q I rx ry h hs;obtain⟨z,i,c,rfl,rfl,hz,he,q⟩:=h;obtain⟨t,rfl⟩:=rx;obtain⟨t',rfl⟩:=ry;obtain⟨j,h1,h2,h3,h4,h5⟩:=Fv he;have hl:z.cps.toList.length=z.length:=by simp[Str.length]
  rw[hl] at h1 h4 h5;have hn:=uo;exact tail_any (typeIs_str s z t) slot_str_getitem.lookup (getItem_str (c:=c) (by
    have e1:decide (i < -(2 ^ 63:Int))=false:=decide_eq_false (by omega);have e2:decide (i≥2 ^ 63)=false:=decide_eq_false (by omega);rw[e1,e2,Bool.or_false]) (by rw[h1];simpa using h2) ⟨.str ⟨#[c]⟩,H,I.tok _,⟨_,rfl⟩,q⟩) hs
theorem KR (its:List Value) (n j:Nat) (u:Value):Obj.mapSeq (·.setIfInBounds j u) {cls:=.type "list",data:=.seq its.toArray n}={cls:=.type "list",data:=.seq (its.set j u).toArray n}:=by
  simp[Obj.mapSeq]
theorem Inv.lst {p_:List (Addr×Obj)} {σ:St} {H:Hp} {s:Shared} {p:Addr} {xs:List V} (I:Inv X p_ σ H s) (h:H p=some (.lst xs)) :
    ∃(its:List Value) (n:Nat),Vals xs its∧s.heap.get? p=some {cls:=.type "list",data:=.seq its.toArray n}∧xs.length≤sizeLine:=by
  obtain⟨z,its,n,r,e⟩:=I.hok p _ h;exact⟨its,n,r,e,z⟩
theorem Inv.qaJ {p_:List (Addr×Obj)} {σ:St} {H:Hp} {s:Shared} {p:Addr} {xs ys:List V} {its its':List Value} {n n':Nat} {f:Obj→Obj} (I:Inv X p_ σ H s) (h:H p=some (.lst xs))
    (ho:s.heap.get? p=some {cls:=.type "list",data:=.seq its.toArray n}) (hf:f {cls:=.type "list",data:=.seq its.toArray n}={cls:=.type "list",data:=.seq its'.toArray n'}) (r:Vals ys its') (hz:ys.length≤sizeLine) (t:Nat) :
    Inv X p_ σ (upd H p (.lst ys)) {s with heap:=s.heap.update p f,toks:=t}:=by
  have e:(s.heap.update p f).get? p=some {cls:=.type "list",data:=.seq its'.toArray n'}:=by
    rw[Heap.get?_update_self f ho (by rw[hf] <;> rfl),hf]
  refine I.write (x:=p) (e:=p) (by rw[h];trivial) (.inl rfl) (fun b u hb q=>(Heap.get?_update_other _ _ (Ne.symm hb)).trans q) ⟨_,e⟩ ?_;exact⟨hz,its',n',r,e⟩
def Zj:V→V→V→Hp→(Hp→Prop)→Prop:=fun o i v H Q=>∃p xs k j,o = .ref p∧i = .int k∧H p=some (.lst xs)∧Wz xs.length k=some j∧Q (upd H p (.lst (xs.set j v)))
theorem set_list:Pz X Zj:=by
  intro p_ s σ H o i v ov iv u Q I ro ri rv h;obtain⟨p,xs,k,j,rfl,rfl,hp,hj,q⟩:=h;cases ro;obtain⟨t,rfl⟩:=ri;obtain⟨its,n,r,ho,hz⟩:=I.lst hp;obtain⟨h1,h2,h3,h4⟩:=N6 hj;have hl:=r.length;have hn:=uo;have I':Inv X p_ σ (upd H p (.lst (xs.set j v))) {s with heap:=s.heap.update p (Obj.mapSeq (·.setIfInBounds j u))}:=
    I.qaJ hp ho (KR its n j u) (r.set rv j) (by rw[List.length_set];exact hz) s.toks
  by_cases h0:0≤k
  · have hk:k.toNat=j:=by
      rw[seqIndex_of h0 h4] at h1;exact Option.some.inj h1
    exact W.ki_setAt ho h0 (by omega) (by rw[List.size_toArray,← hl];exact h4) (by rw[hk];exact⟨_,I',q⟩)
  · have hk:(k+(its.toArray.size:Int)).toNat=j:=by
      rw[seqIndex_neg (by omega) h3] at h1;rw[List.size_toArray,← hl];exact Option.some.inj h1
    exact W.ki_setBack ho (by omega) (by rw[List.size_toArray,← hl];exact h3) (by omega) (by rw[hk];exact⟨_,I',q⟩)
theorem Fw (lo hi:Option Int) (n:Nat):(sliceBounds lo hi none n).1=((HT.Ft n 0 lo:Nat):Int)∧(sliceBounds lo hi none n).2.1=((HT.Ft n n hi:Nat):Int)∧(sliceBounds lo hi none n).2.2=1:=by
  refine⟨?_,?_,rfl⟩
  · cases lo with
    | none=>simp[sliceBounds,HT.Ft]
    | some i=>
      simp only[sliceBounds,HT.Ft,Option.getD_none,show(1:Int) > 0 by decide,if_true]
      by_cases h:i<0
      ·simp only[h,if_true] <;> omega
      ·simp only[h,if_false] <;> omega
  · cases hi with
    | none=>simp[sliceBounds,HT.Ft]
    | some i=>
      simp only[sliceBounds,HT.Ft,Option.getD_none,show(1:Int) > 0 by decide,if_true]
      by_cases h:i<0
      ·simp only[h,if_true] <;> omega
      ·simp only[h,if_false] <;> omega
theorem CP (its:List Value) (lo hi:Option Int):slicePick its.toArray lo hi none=((its.drop (HT.Ft its.length 0 lo)).take (HT.Ft its.length its.length hi - HT.Ft its.length 0 lo)).toArray:=by
  obtain⟨h1,h2,h3⟩:=Fw lo hi its.toArray.size;unfold slicePick;rw[h1,h2,h3];simp only[sliceRange_one,pick_run,List.size_toArray] <;> rfl
def Xb (K:W.Frag):V→Option Int→Option Int→Hp→VK→Prop:=fun x lo hi H Q=>∃a xs,x = .ref a∧aY K H a xs∧∀p,H p=none→Q (.ref p) (upd H p (.lst (zW xs lo hi)))
theorem Xc:SlR X (Xb X.K):=by
  intro p_ s σ H x v vl vu lo hi sl Q I rx hs pl pu h;obtain⟨a,xs,rfl,hx,q⟩:=h;cases rx;obtain⟨its,r,ht,hz⟩:=I.list hx;have hlen:=r.length;refine⟨"list",_,slot_list_getitem.lookup,ht.isList.typeIs,?_⟩;refine wpAny_getItem_list_slice ht.isList hs pl pu .none (by simp) ?_ (by rw[List.size_toArray] <;> omega);rw[CP,← hlen];refine⟨.ref s.heap.objs.size,_,I.laid (t':=s.toks) (o:=.lst (zW xs lo hi)) (fun b ob q=>Heap.get?_push_of_some _ q) (Nat.le_refl _) ?_,rfl,q _ (I.hok.fresh (Nat.le_refl _))⟩;exact⟨Nat.le_trans (Ik xs lo hi) hz,_,0,(r.drop (HT.Ft xs.length 0 lo)).take (HT.Ft xs.length xs.length hi - HT.Ft xs.length 0 lo),Heap.get?_push_size _ rfl⟩
def jl:V→Bool
  | .non=>true
  | .bl _=>true
  | .int _=>true
  | .str _=>true
  | _=>false
def Qd:V→V→Bool
  | .non,.non=>true
  | .bl a,.bl b=>a == b
  | .bl a,.int b=>(if a then 1 else 0) == b
  | .int a,.bl b=>a == (if b then 1 else 0)
  | .int a,.int b=>a == b
  | .str a,.str b=>a == b
  | _,_=>false
theorem qaK {A:Around} {s:Shared} {y x:V} {u v:Value} (ry:RelV y u) (rx:RelV x v) (fy:jl y=true) (fx:jl x=true):SeqAt.EqAt A s u v (Qd y x):=by
  cases y with
  | non=>
    cases ry;cases x with
    | non=>cases rx;exact SeqAt.EqAt.same _
    | bl b=>cases rx;exact SeqAt.EqAt.none_bool b
    | int b=>obtain⟨t,rfl⟩:=rx;exact SeqAt.EqAt.none_int b t
    | str b=>obtain⟨t,rfl⟩:=rx;exact SeqAt.EqAt.none_str b t
    | _=>exact absurd (show false=true from fx) Bool.false_ne_true
  | bl a=>
    cases ry;cases x with
    | non=>cases rx;exact SeqAt.EqAt.bool_none a
    | bl b=>cases rx;exact SeqAt.EqAt.bool_bool a b
    | int b=>obtain⟨t,rfl⟩:=rx;exact SeqAt.EqAt.bool_int a b t
    | str b=>obtain⟨t,rfl⟩:=rx;exact SeqAt.EqAt.bool_str a b t
    | _=>exact absurd (show false=true from fx) Bool.false_ne_true
  | int a=>
    obtain⟨t',rfl⟩:=ry;cases x with
    | non=>cases rx;exact SeqAt.EqAt.int_none a t'
    | bl b=>cases rx;exact SeqAt.EqAt.int_bool a t' b
    | int b=>obtain⟨t,rfl⟩:=rx;exact SeqAt.EqAt.int_int a t' b t
    | str b=>obtain⟨t,rfl⟩:=rx;exact SeqAt.EqAt.int_str a t' b t
    | _=>exact absurd (show false=true from fx) Bool.false_ne_true
  | str a=>
    obtain⟨t',rfl⟩:=ry;cases x with
    | non=>cases rx;exact SeqAt.EqAt.str_none a t'
    | bl b=>cases rx;exact SeqAt.EqAt.str_bool a t' b
    | int b=>obtain⟨t,rfl⟩:=rx;exact SeqAt.EqAt.str_int a t' b t
    | str b=>obtain⟨t,rfl⟩:=rx;exact SeqAt.EqAt.str_str a t' b t
    | _=>exact absurd (show false=true from fx) Bool.false_ne_true
  | _=>exact absurd (show false=true from fy) Bool.false_ne_true
def KY (x:V) (u:Value):Bool:=match u with
  | .none=>Qd .non x
  | .bool b=>Qd (.bl b) x
  | .int i _=>Qd (.int i) x
  | .str z _=>Qd (.str z) x
  | _=>false
theorem Td {x y:V} {u:Value} (r:RelV y u) (f:jl y=true):KY x u=Qd y x:=by
  cases y with
  | non=>cases r;rfl
  | bl b=>cases r;rfl
  | int i=>obtain⟨t,rfl⟩:=r;rfl
  | str z=>obtain⟨t,rfl⟩:=r;rfl
  | _=>exact absurd (show false=true from f) Bool.false_ne_true
theorem vp {x:V}:∀{xs:List V} {us:List Value},Vals xs us→xs.all jl=true→us.any (KY x)=xs.any fun y=>Qd y x
  | _,_,.nil,_=>rfl
  | y::xs,u::us,.cons r t,f=>by
    rw[List.all_cons,Bool.and_eq_true] at f;rw[List.any_cons,List.any_cons,Td r f.1,vp t f.2]
theorem qT {A:Around} {s:Shared} {x:V} {v:Value} (rx:RelV x v) (fx:jl x=true):∀{xs:List V} {us:List Value},Vals xs us→xs.all jl=true→∀u∈us,SeqAt.EqAt A s u v (KY x u)
  | _,_,.nil,_=>fun u hu=>by cases hu
  | y::xs,u::us,.cons r t,f=>fun u' hu=>by
    rw[List.all_cons,Bool.and_eq_true] at f
    rcases List.mem_cons.mp hu with rfl | hu
    ·rw[Td r f.1];exact qaK r rx f.1 fx
    ·exact qT rx fx t f.2 u' hu
def inV (x:V) (xs:List V):Bool:=xs.any fun y=>Qd y x
def rIn (K:W.Frag) (neg:Bool):R2:=fun x y H Q=>∃p xs,y = .ref p∧(aY K H p xs∨dz K H p xs)∧jl x=true∧xs.all jl=true∧Q (.bl (if neg then !inV x xs else inV x xs)) H
theorem Qe:iZ X (compareOp .In) (rIn X.K false):=by
  intro p_ s σ H x y v u Q I rx ry h;obtain⟨p,xs,rfl,hq,fx,fs,q⟩:=h;cases ry
  rcases hq with hq | hq
  ·obtain⟨its,r,pl,hz⟩:=I.list hq;refine SeqAt.in_listAt (KY x) pl.isList (fun w hw=>qT rx fx r fs w (by simpa using hw)) ⟨.bl _,H,I,rfl,?_⟩;rw[show its.toArray.any (KY x)=its.any (KY x) by simp,vp r fs];exact q
  ·obtain⟨its,r,pl,hz⟩:=I.tuple hq;refine SeqAt.in_tupleAt (KY x) pl (fun w hw=>qT rx fx r fs w (by simpa using hw)) ⟨.bl _,H,I,rfl,?_⟩;rw[show its.toArray.any (KY x)=its.any (KY x) by simp,vp r fs];exact q
theorem Fx:iZ X (compareOp .NotIn) (rIn X.K true):=by
  intro p_ s σ H x y v u Q I rx ry h;obtain⟨p,xs,rfl,hq,fx,fs,q⟩:=h;cases ry
  rcases hq with hq | hq
  ·obtain⟨its,r,pl,hz⟩:=I.list hq;refine SeqAt.notIn_listAt (KY x) pl.isList (fun w hw=>qT rx fx r fs w (by simpa using hw)) ⟨.bl _,H,I,rfl,?_⟩;rw[show its.toArray.any (KY x)=its.any (KY x) by simp,vp r fs];exact q
  ·obtain⟨its,r,pl,hz⟩:=I.tuple hq;refine SeqAt.notIn_tupleAt (KY x) pl (fun w hw=>qT rx fx r fs w (by simpa using hw)) ⟨.bl _,H,I,rfl,?_⟩;rw[show its.toArray.any (KY x)=its.any (KY x) by simp,vp r fs];exact q
theorem Fy:iZ X (compareOp .NotIn) (fun x y H Q=>∃i j,x = .str i∧y = .str j∧Q (.bl (!(!(Builtin.Str.occurrences j i 0 j.length 1).isEmpty))) H):=by
  intro p_ s σ H x y v u Q I rx ry h;obtain⟨i,j,rfl,rfl,q⟩:=h;obtain⟨t,rfl⟩:=rx;obtain⟨t',rfl⟩:=ry;exact notIn_str ⟨.bl _,H,I,rfl,q⟩
theorem Fz:cB X (.builtin "len") (fun xs H Q=>∃p ys,xs=[.ref p]∧(aY X.K H p ys∨dz X.K H p ys)∧Q (.int ys.length) H):=by
  intro p_ s σ H xs us Q I r h;obtain⟨p,ys,rfl,hq,q⟩:=h;obtain⟨u,rfl,rx⟩:=vals1 r;cases rx;have hn:=uo
  rcases hq with hq | hq
  ·obtain⟨its,r',pl,hz⟩:=I.list hq;have hlen:=r'.length;exact Calls.call_len_list pl.isList (by simp only[List.size_toArray] <;> omega) ⟨.int ys.length,H,I.tok _,⟨s.toks+1,by rw[List.size_toArray,hlen]⟩,q⟩
  ·obtain⟨its,r',pl,hz⟩:=I.tuple hq;have hlen:=r'.length;exact len_tuple pl (by simp only[List.size_toArray] <;> omega) ⟨.int ys.length,H,I.tok _,⟨s.toks+1,by rw[List.size_toArray,hlen]⟩,q⟩
theorem FJ:cB X (.builtin "len") (fun xs H Q=>∃z,xs=[.str z]∧z.length≤sizeLine∧Q (.int z.length) H):=by
  intro p_ s σ H xs us Q I r h;obtain⟨z,rfl,hz,q⟩:=h;obtain⟨u,rfl,t,rfl⟩:=vals1 r;have hn:=uo;exact len_str (by omega) ⟨.int z.length,H,I.tok _,⟨_,rfl⟩,q⟩
theorem FN:cB X (.type "list") (fun xs H Q=>∃p ys,xs=[.ref p]∧(aY X.K H p ys∨dz X.K H p ys)∧∀l,H l=none→Q (.ref l) (upd H l (.lst ys))):=by
  intro p_ s σ H xs us Q I r h;obtain⟨p,ys,rfl,hq,q⟩:=h;obtain⟨u,rfl,rx⟩:=vals1 r;cases rx;have fin:∀(its:List Value),Vals ys its→ys.length≤sizeLine→∀(h':Heap) (c':Nat),(∀b o',s.heap.get? b=some o'→h'.get? b=some o')→
      h'.get? s.heap.objs.size=some {cls:=.type "list",dict:=none,data:=.seq its.toArray c',slots:=#[]}→EP X p_ σ Q (.ref s.heap.objs.size) {s with heap:=h'}:=fun its r' hz h' c' kp e=>
    ⟨.ref s.heap.objs.size,_,I.laid (t':=s.toks) kp (Nat.le_refl _) (show bY X.prog X.w _ h' _ (.lst ys) from⟨hz,its,c',r',e⟩),rfl,q _ (I.hok.fresh (Nat.le_refl _))⟩
  rcases hq with hq | hq
  ·obtain⟨its,r',pl,hz⟩:=I.list hq;have hlen:=r'.length;obtain⟨o,ho,hc,n,hd⟩:=pl.isList;exact call_list_seq p (.inl rfl) ho hc hd (fun h' c' kp e=>fin its r' hz h' c' kp e) (by simp only[List.size_toArray] <;> omega)
  ·obtain⟨its,r',pl,hz⟩:=I.tuple hq;have hlen:=r'.length;obtain⟨o,ho,hc,n,hd⟩:=pl;exact call_list_seq p (.inr rfl) ho hc hd (fun h' c' kp e=>fin its r' hz h' c' kp e) (by simp only[List.size_toArray] <;> omega)
theorem CQ:cB X (.type "tuple") (fun xs H Q=>∃p ys,xs=[.ref p]∧((aY X.K H p ys∧∀l,H l=none→Q (.ref l) (upd H l (.tup ys)))∨(dz X.K H p ys∧Q (.ref p) H))):=by
  intro p_ s σ H xs us Q I r h;obtain⟨p,ys,rfl,h⟩:=h;obtain⟨u,rfl,rx⟩:=vals1 r;cases rx
  rcases h with⟨hq,q⟩ | ⟨hq,q⟩
  · obtain⟨its,r',pl,hz⟩:=I.list hq;have hlen:=r'.length;refine call_tuple_list pl.isList (fun h' kp=>?_) (by simp only[List.size_toArray] <;> omega);have I1:Inv X p_ σ H {s with heap:=h'}:=I.kept (t':=s.toks) kp;have I2:Inv X p_ σ (upd H h'.objs.size (.tup ys)) {s with heap:=h'.push {cls:=.type "tuple",data:=.seq its.toArray}}:=
      I1.laid (t':=s.toks) (fun b o e=>Heap.get?_push_of_some _ e) (Nat.le_refl _) (show bY X.prog X.w _ _ _ (.tup ys) from⟨hz,its,r',IsTup.new _ _⟩)
    exact⟨.ref h'.objs.size,_,I2,rfl,q _ (I1.hok.fresh (Nat.le_refl _))⟩
  ·obtain⟨its,r',pl,hz⟩:=I.tuple hq;exact call_tuple_same pl ⟨.ref p,H,I,rfl,q⟩
def Xd (K:W.Frag) (T:String) (x:V) (H:Hp):Prop:=match x with
  | .str _=>T = "str"
  | .int _=>T = "int"
  | .ref p=>(T = "list" ∧∃xs,aY K H p xs)∨(T = "tuple" ∧∃o,K.lookup p=some o∧o.cls = .type "tuple" ∧o.dict=none)∨
      (T = "dict" ∧((∃kvs,H p=some (.dK kvs))∨∃kvs,H p=some (.dT kvs)))∨(T = "set" ∧∃S n,H p=some (.set S n))
  | _=>False
theorem Tf {p_:List (Addr×Obj)} {σ:St} {H:Hp} {s:Shared} {T:String} {x:V} {v:Value} (I:Inv X p_ σ H s) (r:RelV x v) (ty:Xd X.K T x H) :
    s.TypeIs v T∧∀a,v = .ref a→∃ob,s.heap.get? a=some ob∧ob.dict=none:=by
  cases x with
  | str z=>
    obtain⟨t,rfl⟩:=r;cases (show T = "str" from ty);exact⟨typeIs_str s z t,fun _ e=>nomatch e⟩
  | int i=>
    obtain⟨t,rfl⟩:=r;cases (show T = "int" from ty);exact⟨typeIs_int s i t,fun _ e=>nomatch e⟩
  | ref p=>
    cases r
    rcases ty with⟨rfl,xs,hq⟩ | ⟨rfl,o,hk,hc,hd⟩ | ⟨rfl,hk⟩ | ⟨rfl,S,n,hk⟩
    ·obtain⟨its,_,pl,_⟩:=I.list hq;refine⟨pl.isList.typeIs,fun a e=>?_⟩;cases e;obtain⟨o,n,e,c,hd,_⟩:=pl;exact⟨o,e,hd⟩
    ·refine⟨⟨o,I.nq p o hk,hc⟩,fun a e=>?_⟩;cases e;exact⟨o,I.nq _ o hk,hd⟩
    · have z:∃o,s.heap.get? p=some o∧o.ExactDict:=by
        rcases hk with⟨kvs,hk⟩ | ⟨kvs,hk⟩
        ·obtain⟨_,_,_,_,o,_,_,e,ex,_⟩:=I.hok p _ hk;exact⟨o,e,ex⟩
        ·obtain⟨_,_,_,_,o,_,_,e,ex,_⟩:=I.hok p _ hk;exact⟨o,e,ex⟩
      obtain⟨o,e,ex⟩:=z;refine⟨⟨o,e,ex.1⟩,fun a e2=>?_⟩;cases e2;exact⟨o,e,ex.2.1⟩
    ·obtain⟨o,_,_,_,e,ex,_⟩:=I.hok p _ hk;refine⟨⟨o,e,ex.1⟩,fun a e2=>?_⟩;cases e2;exact⟨o,e,ex.2.1⟩
  | _=>exact False.elim ty
def qaL (K:W.Frag) (T:String) (r:V→List V→Hp→VK→Prop) (to:TE):TE:=fun σ H Q=>to σ H fun x H1=>Xd K T x H1∧r x [] H1 Q
def tBM (K:W.Frag) (T:String) (r:V→List V→Hp→VK→Prop) (to:TE) (t:TA):TE:=fun σ H Q=>to σ H fun x H1=>Xd K T x H1∧t σ H1 fun xs H2=>r x xs H2 Q
variable {o e:Expr} {es:List Expr} {to:TE} {t:TA} {name:Str} {apos cpos:Pos} {T id:String} {r:V→List V→Hp→VK→Prop}
theorem qaM (pa:PlainAttrs T) (slot:Slot T name id) (hty:typeOf (.builtin id)=pure (.type "method_descriptor")) (hm:KQ X id r) (ho:PE X o to)
    (hbase:attributeBase o name X.env (eval o X.env)=eval o X.env:=by rfl) (hline:(apos.endLine == cpos.line)=true:=by rfl):PE X (.Call (.Attribute o name apos) [] [] cpos) (qaL X.K T r to):=by
  intro p_ s σ H Q I h;refine wpAny_Call_method0_late hbase hline (cL (ho p_ s σ H _ I h) fun v s1 zz=>?_);obtain⟨x,H1,I1,r1,ty,q1⟩:=zz;obtain⟨h1,h2⟩:=Tf I1 r1 ty;exact⟨T,id,pa,slot,hty,h1,h2,Calls.callWith_builtin rfl (PySem.evalArgs_none (hm p_ s1 σ H1 x [] v [] Q I1 r1 .nil q1))⟩
theorem qc0 (pa:PlainAttrs T) (slot:Slot T name id) (hty:typeOf (.builtin id)=pure (.type "method_descriptor")) (hm:KQ X id r) (ho:PE X o to) (ha:PA X (e::es) t)
    (hbase:attributeBase o name X.env (eval o X.env)=eval o X.env:=by rfl)
    (hfew:((backTo cpos (starEach (e::es) X.env)).all (fun x=>!x.1) && (backToKw cpos (keywordEach [] X.env)).all (fun x=>x.1.isSome)
      && decide ((e::es).length+([]:List Keyword).length+(if ([]:List Keyword).isEmpty then 0 else 1)<30))=true:=by rfl)
    (hline:(apos.endLine == cpos.line)=true:=by rfl) (hs:starEach (e::es) X.env=(false,eval e X.env)::starEach es X.env:=by rfl) (hplain:(backTo cpos (starEach es X.env)).any (·.1)=false:=by rfl) :
    PE X (.Call (.Attribute o name apos) (e::es) [] cpos) (tBM X.K T r to t):=by
  intro p_ s σ H Q I h;refine wpAny_Call_method_late hbase hfew hline rfl (cL (ho p_ s σ H _ I h) fun v s1 zz=>?_);obtain⟨x,H1,I1,r1,ty,q1⟩:=zz;obtain⟨h1,h2⟩:=Tf I1 r1 ty;refine⟨T,id,pa,slot,hty,h1,h2,?_⟩;have hA:=ha cpos p_ s1 σ H1 _ I1 q1;rw[hs] at hA ⊢;refine Calls.callWith_builtin (by show(false || (backTo cpos (starEach es X.env)).any (·.1))=false;rw[hplain] <;> rfl) (Calls.evalArgs_plain ?_)
  refine cL hA fun us s2 zz=>?_;obtain⟨vs,H2,I2,r2,q2⟩:=zz;exact hm p_ s2 σ H2 x vs v us Q I2 r1 r2 q2
end
def MtM (X:Cx) (id:String) (r:V→List V→Hp→VK→Prop):Prop:=
  ∀(p_:List (Addr×Obj)) (s:Shared) (σ:St) (H:Hp) (x:V) (xs:List V) (v:Value) (us:List Value) (Q:VK),Inv X p_ σ H s→RelV x v→Vals xs us→r x xs H Q→
    wpAny (model X.prog X.w) X.A (call (.builtin id) (v::us)) (EP X p_ σ Q) X.xe s
theorem Vals.one {x:V} {us:List Value} (h:Vals [x] us):∃u,us=[u]∧RelV x u:=vals1 h
theorem Vals.two {x y:V} {us:List Value} (h:Vals [x,y] us):∃u v,us=[u,v]∧RelV x u∧RelV y v:=vals2 h
theorem Vals.zero:∀{us:List Value},Vals [] us→us=[]
  | _,.nil=>rfl
theorem Vals.rep {xs:List V} {us:List Value} (h:Vals xs us):∀k:Nat,Vals (List.replicate k xs).flatten (List.replicate k us).flatten
  | 0=>.nil
  | k+1=>by
    rw[List.replicate_succ,List.replicate_succ,List.flatten_cons,List.flatten_cons];exact Vals.append h (Vals.rep h k)
theorem foldl_rep (its:List Value):∀(k:Nat) (acc:List Value),
    List.foldl (fun x1 x2=>x1++x2) acc.toArray (List.replicate k its.toArray)=(acc++(List.replicate k its).flatten).toArray
  | 0,acc=>by simp
  | k+1,acc=>by
    have e:acc.toArray++its.toArray=(acc++its).toArray:=by simp
    have e2:(acc++its)++(List.replicate k its).flatten=acc++(List.replicate (k+1) its).flatten:=by
      rw[List.replicate_succ,List.flatten_cons,List.append_assoc]
    rw[← e2,← foldl_rep its k (acc++its),← e,List.replicate_succ,List.foldl_cons]
section
variable {X:Cx} {p_:List (Addr×Obj)} {σ:St} {H:Hp} {s:Shared} {l b:Addr} {xs ys zs:List V}
theorem Inv.qaN {its its':List Value} {n:Nat} {f:Array Value→Array Value} {t':Nat} (I:Inv X p_ σ H s) (hH:H l=some (.lst xs))
    (e:s.heap.get? l=some {cls:=.type "list",data:=.seq its.toArray n}) (hf:f its.toArray=its'.toArray) (hv:Vals ys its') (hz:ys.length≤sizeLine) :
    Inv X p_ σ (upd H l (.lst ys)) {s with heap:=s.heap.update l (Obj.mapSeq f),toks:=t'}:=by
  have q:=PySem.IsL.update e f;rw[hf] at q;refine I.write (x:=l) (e:=l) (by rw[hH];exact trivial) (.inl rfl) (fun b' u hb hu=>(Heap.get?_update_other s.heap (Obj.mapSeq f) (Ne.symm hb)).trans hu) ⟨_,q⟩ ?_;exact⟨hz,its',_,hv,q⟩
theorem Inv.Xe {its:List Value} {t':Nat} (I:Inv X p_ σ H s) (hv:Vals ys its) (hz:ys.length≤sizeLine) :
    Inv X p_ σ (upd H s.heap.objs.size (.lst ys)) {s with heap:=s.heap.push {cls:=.type "list",data:=.seq its.toArray},toks:=t'}:=
  I.laid (fun _ _ q=>Heap.get?_push_of_some _ q) (Nat.le_refl _) ⟨hz,its,0,hv,Heap.get?_push_size _ rfl⟩
theorem Inv.fresh (I:Inv X p_ σ H s):H s.heap.objs.size=none:=I.hok.fresh (Nat.le_refl _)
theorem Inv.KZ (I:Inv X p_ σ H s) (hH:H l=some (.lst xs)):xs.length≤sizeLine∧∃(its:List Value) (n:Nat),Vals xs its∧xs.length=its.length∧s.heap.get? l=some {cls:=.type "list",data:=.seq its.toArray n}:=by
  obtain⟨z,its,n,r,e⟩:=I.hok l _ hH;exact⟨z,its,n,r,r.length,e⟩
theorem Tg {n:Nat} (h:n≤sizeLine):Builtin.List.listTooLong n=false:=by
  unfold Builtin.List.listTooLong;exact decide_eq_false (by omega)
end
section
variable {X:Cx}
def FP:V→List V→Hp→VK→Prop:=fun x vs H Q=>∃l xs y,x = .ref l∧vs=[y]∧H l=some (.lst xs)∧xs.length<sizeLine∧Q .non (upd H l (.lst (xs++[y])))
theorem DN:MtM X "list.append" FP:=by
  intro p_ s σ H x vs v us Q I rx rv h;obtain⟨l,xs,y,rfl,rfl,hH,hz,q⟩:=h;cases rx;obtain⟨u,rfl,ru⟩:=rv.one;obtain⟨z,its,n,r,hl,e⟩:=I.KZ hH;refine call_meets F.slot_list_append ⟨_,e,rfl⟩ F.entry_list_append (F.args_list_append_2 _ _) (PySem.list_append l its.toArray n u (by rw[List.size_toArray];omega)) ⟨e,?_⟩;refine⟨.non,_,I.qaN (its':=its++[u]) hH e (by simp) (r.append (.cons ru .nil)) ?_,rfl,q⟩;rw[List.length_append,List.length_singleton];omega
def K1:V→List V→Hp→VK→Prop:=fun x vs H Q=>∃l xs,x = .ref l∧vs=[]∧H l=some (.lst xs)∧Q .non (upd H l (.lst []))
theorem Ti:MtM X "list.clear" K1:=by
  intro p_ s σ H x vs v us Q I rx rv h;obtain⟨l,xs,rfl,rfl,hH,q⟩:=h;cases rx;have hus:=rv.zero;subst hus;obtain⟨z,its,n,r,hl,e⟩:=I.KZ hH;refine call_meets F.slot_list_clear ⟨_,e,rfl⟩ F.entry_list_clear (F.args_list_clear_1 _) (AutoSeq1.list_clear_list_0 l its.toArray n (by rw[List.size_toArray];omega)) ⟨e,?_⟩;exact⟨.non,_,I.qaN (its':=[]) (ys:=[]) hH e rfl .nil (Nat.zero_le _),rfl,q⟩
def qc1:R2:=fun x y H Q=>∃l b xs zs,x = .ref l∧y = .ref b∧H l=some (.lst xs)∧H b=some (.lst zs)∧xs.length+zs.length≤sizeLine∧∀p,H p=none→Q (.ref p) (upd H p (.lst (xs++zs)))
theorem qaO:iZ X (binaryOp .Add) qc1:=by
  intro p_ s σ H x y v u Q I rx ry h;obtain⟨l,b,xs,zs,rfl,rfl,hH,hB,hz,q⟩:=h;cases rx;cases ry;obtain⟨z,its,n,r,hl,e⟩:=I.KZ hH;obtain⟨z2,its2,n2,r2,hl2,e2⟩:=I.KZ hB;refine PySem.P.add_list e e2 ?_ (by rw[List.size_toArray,List.size_toArray];omega);have ea:its.toArray++its2.toArray=(its++its2).toArray:=by simp
  rw[ea];exact⟨.ref _,_,I.Xe (t':=s.toks) (r.append r2) (by rw[List.length_append];omega),rfl,q _ I.fresh⟩
def qie:R2:=fun x y H Q=>∃l k xs,x = .ref l∧y = .int k∧H l=some (.lst xs)∧-(2 ^ 63)≤k∧k<2 ^ 63∧xs.length * k.toNat≤sizeLine∧
  ∀p,H p=none→Q (.ref p) (upd H p (.lst (List.replicate k.toNat xs).flatten))
theorem len_rep {α:Type} (xs:List α) (k:Nat):(List.replicate k xs).flatten.length=k * xs.length:=by
  induction k with
  | zero=>simp
  | succ k ih=>rw[List.replicate_succ,List.flatten_cons,List.length_append,ih,Nat.succ_mul,Nat.add_comm]
theorem qaP:iZ X (binaryOp .Mult) qie:=by
  intro p_ s σ H x y v u Q I rx ry h;obtain⟨l,k,xs,rfl,rfl,hH,h1,h2,hz,q⟩:=h;cases rx;obtain⟨t,rfl⟩:=ry;obtain⟨z,its,n,r,hl,e⟩:=I.KZ hH;have hlen:its.toArray.size * k.toNat≤sizeLine:=by rw[List.size_toArray,← hl];exact hz
  have hcap:¬its.toArray.size * k.toNat > (2 ^ 63 - 1) / 8:=by
    have:(sizeLine:Nat)≤(2 ^ 63 - 1) / 8:=by decide
    omega
  have hfit:¬(!Builtin.List.listFitsIndex k)=true:=by
    rw[fitsIndex_both h1 h2];exact Bool.false_ne_true
  have qc2:¬Builtin.List.listTooLong (its.toArray.size * k.toNat)=true:=by
    rw[Tg hlen];exact Bool.false_ne_true
  have hnew:List.foldl (fun x1 x2=>x1++x2) #[] (List.replicate (if its.toArray.isEmpty=true then 0 else k.toNat) its.toArray)=(List.replicate k.toNat its).flatten.toArray:=by
    have f0:∀m:Nat,List.foldl (fun x1 x2=>x1++x2) #[] (List.replicate m its.toArray)=(List.replicate m its).flatten.toArray:=fun m=>by
      have:=foldl_rep its m [];rw[List.nil_append] at this;exact this
    rw[f0];cases its with
    | nil=>simp
    | cons a r'=>rw[if_neg (by simp)]
  refine wpAny_binaryOp_repeat_ref (T:= "list") (U:= "int") (by decide) ⟨_,e,rfl⟩ (fun s'=>typeIs_int s' k t) noFill_list_mul F.fills_int_mul F.slot_int_rmul repeat_list F.slot_int_index.lookup
    (call_meets F.slot_int_rmul (typeIs_int s k t) F.entry_int_rmul (F.args_int_rmul_2 _ _) (int___rmul___int_list k t l its.toArray n)
      ⟨e,rfl,⟨_,e,rfl⟩,call_meets F.slot_list_mul ⟨_,e,rfl⟩ F.entry_list_mul (F.args_list_mul_2 _ _) (AutoListH.list___mul___list_int_3 l its.toArray n k t hfit hcap qc2) ⟨e,?_⟩⟩)
  rw[hnew];exact⟨.ref _,_,I.Xe (t':=s.toks) (r.rep k.toNat) (by rw[len_rep,Nat.mul_comm];exact hz),rfl,q _ I.fresh⟩
end
end L2
namespace Att
open PySem PySem.W PySem.Calls PyProof.Rows
theorem yV {P:Params} {h:Heap}:∀(ns:List Int) (vs:List Value),WellAll P h vs (ns.map WData.int)→IntsAre vs ns:=by
  intro ns
  induction ns with
  | nil=>
    intro vs w;rw[List.map_nil] at w;cases w;exact .nil
  | cons n ns ih=>
    intro vs w;rw[List.map_cons] at w;cases w with
    | cons a b=>
      cases a;exact .cons _ _ (ih _ b)
theorem Qf {l:OpenLaw} {n:Nat} (hn:l.most=some n) {P:Params} {h:Heap} {args:List WData} {vals:List Value}
    (hpre:l.row.toRowW.claim.pre args=true) (hwl:WellAll P h vals args) :
    ∃a vs ns,vals=[Value.ref a]∧args=[WData.list (ns.map WData.int)]∧h.get? a=some {cls:=.type "list",data:=.seq vs.toArray}∧IntsAre vs ns∧ns.length≤n:=by
  have hsh:WShape.hasAll [] args [.list .int]=true:=(pre_splitW hpre).1;have hc:l.pre.holds [] {args:=args}=true:=(pre_splitW hpre).2;obtain⟨d,r,rfl,h1,h2⟩:=hasAllW_cons hsh;obtain rfl:=hasAllW_nil h2;obtain⟨xs,rfl,h3⟩:=hasW_list h1;obtain⟨ns,rfl⟩:=items_int h3;have hlen:ns.length≤n:=by
    unfold OpenLaw.pre at hc;have h4:(WTm.not (.lt (.lit (.int (n:Int))) (.len (.arg 0)))).holds [] {args:=[.list (ns.map .int)]}=true:=by
      have h4:=(holds_andW hc).1;rw[hn] at h4;exact h4
    have h5:=condW_of h4 (w_not (w_lt w_lit (w_len_list (w_arg rfl))));rw[List.length_map] at h5;refine Nat.le_of_not_lt fun q=>?_;have q':(n:Int)<((ns.length:Nat):Int):=by omega
    first
      | (rw[decide_eq_true q'] at h5;exact absurd h5 (by decide))
      | (simp at h5;omega)
  cases hwl with
  | cons w1 w2=>
    cases w2;cases w1 with
    | list ho hall=>exact⟨_,_,ns,rfl,rfl,ho,yV ns _ hall,hlen⟩
theorem Qg (l:OpenLaw) (args:List WData):l.row.toRowW.claim.post args (.bool true) args=true:=
  postW_of (r:=l.row.toRowW) (X:=(true == true))
    (show WShape.has [] (.bool true) .bool=true by first | rfl | decide | simp[WShape.has,WShape.arms,WShape.armsAll])
    (show(WTm.eq .res (.lit (.bool true))).value [] {args:=args,res:=some (.bool true),after:=args}=some (.bool (true == true)) from w_eq_bool (w_res rfl) w_lit) rfl
theorem Il {l:OpenLaw} {n:Nat} {q:Program} {loose:List Str} {XP:(Str→Option Value)→Heap→Prop} {YP:World→Heap→Prop} {d:DefRec}
    (hn:l.most=some n) (hdf:d.params.defaults=[])
    (call:∀(w:World) (s₀ s₁:Shared) (mg mb:Str→Option Value) (fa:Addr) (o:Obj) (pm cd doc:Value) (a:Addr) (vs:List Value) (ns:List Int),
      Ground q loose [] XP w s₀ mg mb s₁.heap→YP w s₁.heap→
      s₁.heap.get? fa=some o→o.data = .func (docDef d.name d.params d.body d.scope pm cd doc)→s₁.heap.CodeRec cd d.name→mg d.name=some (.ref fa)→
      s₁.heap.get? a=some {cls:=.type "list",data:=.seq vs.toArray}→IntsAre vs ns→ns.length≤n→s₁.gens = #[]→
      codeAny (model l.prog w) callerA (.call (.ref fa) ⟨[.ref a],[]⟩) (fun r s'=>r = .ok (.ret (.bool true))∧OldK s₁.heap s'.heap∧s'.os=s₁.os∧AllBare s'.gens) s₁) :
    WalkO q loose XP YP l.row.toRowW d [] (fun f vs=>PySem.call f vs):=by
  intro w s₀ s₁ mg mb G Y fa o pm cd doc dV kV ho hd hcd hD hmg hg args vals as hpre hlay hrd hwl hlo;obtain rfl:dV = .none:=Dflts.none hD hdf;obtain rfl:kV = .none:=Dflts.noKw hD;obtain⟨a,vs,ns,rfl,rfl,hobj,hints,hlen⟩:=Qf hn hpre hwl;refine enter_call (codeAny_mono (call w s₀ s₁ mg mb fa o pm cd doc a vs ns G Y ho (fd_plain hd) hcd hmg hobj hints hlen hg) fun r s' hq=>?_);obtain⟨rfl,h2,h3,h4⟩:=hq;exact⟨.inl ⟨.bool true,.bool true,[],rfl,fun _=>rfl,.bool true,Qg l _,fun _=>⟨List.Pairwise.nil,fun _ hm=>(nomatch hm)⟩⟩,h2,h3,h4⟩
end Att
namespace L2
open PySem PySem.Spec PyProof.Rows
theorem DP:∀{vs:List Value} {ns:List Int},IntsAre vs ns→Vals (ns.map V.int) vs
  | _,_,.nil=>.nil
  | _,_,.cons n t h=>.cons ⟨t,rfl⟩ (DP h)
def Only (H:Hp):Prop:=∀b,H b=none∨∃o xs,H b=some (.gZ o (.lst xs))
theorem Tj {P:Program} {w:World} {K:W.Frag} {mg mb:Str→Option Value} {CX:RK} {k:Nat} {fa a:Addr} {fd:FuncData} {x:Str} {sp:Sp} {s₁:Shared} {vs:List Value} {ns:List Int}
    (KX:K.In s₁.heap) (hns:s₁.heap.Ns mainGlobals mg) (hb:s₁.heap.Ns builtinsNs mb) (hbb:∀x:Str,x≠ "__name__" →mb x=bootBuiltins x) (hlim:s₁.heap.NoLimit) (hg:s₁.gens = #[])
    (ha:s₁.heap.get? a=some {cls:=.type "list",data:=.seq vs.toArray}) (hi:IntsAre vs ns) (hl:ns.length≤sizeLine) (hr:jw k callerA)
    (F:∀base:Heap,K.In base→base.Ns mainGlobals mg→bV P w K mg base CX k fa fd [x] sp) (hbind:∀(s:Shared) (u:Value),BindsTo s fd ⟨[u],[]⟩ [(x,u)])
    (hsp:∀H:Hp,Only H→aY K H a (ns.map V.int)→sp [.ref a] H (fun v _=>v = .bl true) fun _ _ _=>False)
    (hCX:∀H e s',CX [] H s₁ (fun _ _ _=>False) e s'→False) :
    codeAny (model P w) callerA (.call (.ref fa) ⟨[.ref a],[]⟩) (fun r s'=>r = .ok (.ret (.bool true))∧OldK s₁.heap s'.heap∧s'.os=s₁.os∧AllBare s'.gens) s₁:=by
  have rv:=DP hi;have lenV:=hi.length;have core:∀H:Hp,Only H→aY K H a (ns.map V.int)→qx P w H s₁.heap→(∀b,H b≠none→b=a)→(H a≠none→K.lookup a=none)→
      codeAny (model P w) callerA (.call (.ref fa) ⟨[.ref a],[]⟩) (fun r s'=>r = .ok (.ret (.bool true))∧OldK s₁.heap s'.heap∧s'.os=s₁.os∧AllBare s'.gens) s₁:=by
    intro H hO hS hok hA hK;have N7:∀{b:Addr} {o:Obj},s₁.heap.get? b=some o→H b=none→(Fo s₁.heap H).get? b=some o:=fun e n=>RX e n;have noA:∀{b:Addr} {o:Obj} {es:Array DictEntry} {ep:Nat},s₁.heap.get? b=some o→o.data = .dict es ep→H b=none:=fun {b o es ep} e d=>by
      cases q:H b with
      | none=>rfl
      | some u=>
        have e':b=a:=hA b (by rw[q];simp);subst e';rw[ha] at e;cases e;have d':Data.seq vs.toArray _=Data.dict es ep:=d;cases d'
    have nsK:∀{b:Addr} {m:Str→Option Value},s₁.heap.Ns b m→(Fo s₁.heap H).Ns b m:=fun {b m} ⟨o,es,ep,e,d,r⟩=>⟨o,es,ep,N7 e (noA e d),d,r⟩;have hKb:K.In (Fo s₁.heap H):=fun b o e=>N7 (KX b o e) (by
      cases q:H b with
      | none=>rfl
      | some u=>
        have e':b=a:=hA b (by rw[q];simp);subst e';rw[hK (by rw[q];simp)] at e;cases e)
    have hM:Mod K mg (Fo s₁.heap H):=⟨hKb,nsK hns,⟨mb,nsK hb,hbb⟩,let ⟨mc,h1,h2⟩:=hlim;⟨mc,nsK h1,h2⟩⟩;have e0:KN P w K mg (Fo s₁.heap H) callerA [] s₁ H:=⟨rfl,hM,fun b o e=>WR e,Nat.le_of_eq (Pu _ _),trivial,fun b hb=>absurd (show b∈([]:List Addr) from hb) (by simp),hok,.of_eq hg⟩;refine codeAny_mono ((F _ hKb (nsK hns)).run callerA [] s₁ H ⟨[.ref a],[]⟩ [.ref a] [.ref a] _ _ hr e0 (hbind s₁ (.ref a)) (.cons rfl .nil) (hsp H hO hS)) fun r s' h=>?_;cases r with
    | error e=>exact(hCX H e s' h).elim
    | ok fl=>
      cases fl with
      | next=>exact False.elim h
      | brk=>exact False.elim h
      | cont=>exact False.elim h
      | ret u=>
        obtain⟨v,H',os,bare,un,hok',r',q⟩:=h;have q':v = .bl true:=q;subst q';obtain rfl:u=Value.bool true:=r';refine⟨rfl,OldK.of_keep fun b o e=>?_,os,bare⟩;cases q:H b with
        | none=>exact un.keep b o e q (by intro z;exact absurd (show b∈([]:List Addr) from z) (by simp)) (by simp)
        | some u=>
          rcases hO b with z | ⟨ob,xs,z⟩
          ·rw[q] at z;cases z
          ·have z2:=un.oY b ob _ z;obtain⟨e1,_⟩:=hok b _ z;obtain⟨e2,_⟩:=hok' b _ z2;rw[e] at e1;cases e1;exact e2
  cases hk:K.lookup a with
  | some o=>
    have e:=KX a o hk;rw[ha] at e;cases e;refine core (fun _=>none) (fun _=>.inl rfl) (.inr ⟨_,vs.toArray,_,hk,rfl,rfl,rfl,by rw[List.size_toArray,lenV];exact hl,by simpa using rv⟩) (fun b u z=>by have z':(none:Option HO)=some u:=z;cases z') (fun b z=>absurd rfl z) fun z=>absurd rfl z
  | none=>
    refine core (fun b=>if b=a then some (.gZ {cls:=.type "list",data:=.seq vs.toArray} (.lst (ns.map V.int))) else none) (fun b=>?_) (.inl (.inr ⟨{cls:=.type "list",data:=.seq vs.toArray},if_pos rfl⟩)) (fun b u z=>?_) (fun b z=>?_) fun _=>hk
    · by_cases hb:b=a
      ·exact .inr ⟨_,_,if_pos hb⟩
      ·exact .inl (if_neg hb)
    · by_cases hb:b=a
      ·have z':=(if_pos hb).symm.trans z;cases z';subst hb;exact⟨ha,by rw[List.length_map];exact hl,vs,_,rv,ha⟩
      ·have z':=(if_neg hb).symm.trans z;cases z'
    · by_cases hb:b=a
      ·exact hb
      ·exact absurd (if_neg hb) z
theorem Xf {l:W.OpenLaw} {n k:Nat} {q:Program} {loose:List Str} {XP:(Str→Option Value)→Heap→Prop} {YP:World→Heap→Prop} {d:DefRec} {K:Params→W.Frag} {CX:World→RK} {sp:World→Sp} {x:Str}
    (hn:l.most=some n) (hn2:n≤sizeLine) (hdf:d.params.defaults=[]) (hr:jw k callerA)
    (hY:∀(w:World) (h:Heap),YP w h→(K w.params).In h)
    (F:∀(w:World) (mg:Str→Option Value) (fa:Addr) (h:Heap),(K w.params).In h→h.Ns mainGlobals mg→mg d.name=some (.ref fa)→
      ∃fd:FuncData,(∀(s:Shared) (u:Value),BindsTo s fd ⟨[u],[]⟩ [(x,u)])∧
        ∀base:Heap,(K w.params).In base→base.Ns mainGlobals mg→bV l.prog w (K w.params) mg base (CX w) k fa fd [x] (sp w))
    (hsp:∀(w:World) (H:Hp) (a:Addr) (ns:List Int),ns.length≤n→Only H→aY (K w.params) H a (ns.map V.int)→sp w [.ref a] H (fun v _=>v = .bl true) fun _ _ _=>False)
    (hCX:∀(w:World) (H:Hp) (s:Shared) (e:Value) (s':Shared),CX w [] H s (fun _ _ _=>False) e s'→False) :
    W.WalkO q loose XP YP l.row.toRowW d [] (fun f vs=>PySem.call f vs):=by
  refine Att.Il hn hdf fun w s₀ s₁ mg mb fa o pm cd doc a vs ns G Y ho hd hcd hmg hobj hints hlen hg=>?_;have KX:=hY w _ Y;obtain⟨fd,hb,hF⟩:=F w mg fa _ KX G.T.g hmg;exact Tj KX G.T.g G.T.b G.T.builtins G.T.nolimit hg hobj hints (Nat.le_trans hlen hn2) hr hF hb (fun H hO hS=>hsp w H a ns hlen hO hS) fun H e s'=>hCX w H s₁ e s'
def inClass (s:Stmt) (j:Nat):Stmt:=match s with
  | .ClassDef _ _ _ body _ _ _ _ _ _ _=>body.getD j (.Pass ⟨0,0,0,0⟩)
  | _=>.Pass ⟨0,0,0,0⟩
def aH (s:Stmt):Arguments:=match s with
  | .FunctionDef _ a _ _ _ _ _ _ _ _=>a
  | _=>{posonlyargs:=[],args:=[],vararg:=none,kwonlyargs:=[],kw_defaults:=[],kwarg:=none,defaults:=[]}
def aF (s:Stmt):List Stmt:=match s with
  | .FunctionDef _ _ b _ _ _ _ _ _ _=>b
  | _=>[]
def ak (s:Stmt):Scope:=match s with
  | .FunctionDef _ _ _ _ _ _ sc _ _ _=>sc
  | _=>{kind:=.function,names:=[],isGenerator:=false,isCoroutine:=false}
abbrev jN:RK:=fun _ _ _ _ _ _=>False
abbrev E0:XK:=fun _ _ _=>False
theorem bh {X:Cx}:Passes jN X E0:=fun _ _ _ _ _ _ _ h=>h.elim
structure jO (K:W.Frag) (x qual:Str) (st:Stmt) (f:Addr) (fd:FuncData):Prop where
  ex:∃(oc:Value) (od:Option Addr) (kV doc pm:Value) (an:Option Addr) (cdv ct:Value) (osl:Array (Option Value)),
    fd=W.fnOf x qual (aH st) (aF st) (ak st) .none kV doc pm an cdv ct∧K.lookup f=some ⟨oc,od,.func fd,osl⟩∧W.codeIn K cdv qual=true
  kp:W.keepIn K (.ref f)=true
section
variable {P:Program} {w:World} {K:W.Frag} {mg:Str→Option Value} {base:Heap}
theorem jO.ok {x qual:Str} {st:Stmt} {f:Addr} {fd:FuncData} {N ps:List Str} {k:Nat} {sp:Sp} (F:jO K x qual st f fd) (S:aU N ps (ak st)) (len:∀vs H Q E,sp vs H Q E→vs.length=ps.length)
    (hbody:∀(cdv:Value) (A:Around) (outer:List Env) (s:Shared) (H:Hp) (vs:List V) (Q:VK) (E:XK),jw k (A.deeper (envOfC qual (ak st) s.heap.objs.size f cdv))→sp vs H Q E→
      ∃t,Dt (au jN P w K mg base N qual (ak st) f cdv A outer s H E).RG (aF st) t∧t {nx:=fun _ H'=>Q .non H',rt:=Q} (start N vs) H):bV P w K mg base jN (k+1) f fd ps sp:=by
  obtain⟨oc,od,kV,doc,pm,an,cdv,ct,osl,rfl,lk,hcd⟩:=F.ex;refine Zi lk hcd S len fun A outer s H vs Q E hr hsp=>?_;obtain⟨t,h,q⟩:=hbody cdv A outer s H vs Q E hr hsp;exact⟨t,h.RG,q⟩
theorem jO.binds {x qual:Str} {st:Stmt} {f:Addr} {fd:FuncData} {ps:List Str} (F:jO K x qual st f fd)
    (h:∀(kV doc pm:Value) (an:Option Addr) (cdv ct:Value) (us:List Value),us.length=ps.length→bindArgs (W.fnOf x qual (aH st) (aF st) (ak st) .none kV doc pm an cdv ct) ⟨us,[]⟩=pure (ps.zip us)):Binds K fd ps []:=by
  obtain⟨oc,od,kV,doc,pm,an,cdv,ct,osl,rfl,lk,hcd⟩:=F.ex;exact .all (h kV doc pm an cdv ct)
theorem bD {x qual:Str} {st:Stmt} {f:Addr} {oc:Value} {od an:Option Addr} {osl:Array (Option Value)} {kV doc pm cdv ct:Value} (l:K.lookup f=some ⟨oc,od,.func (W.fnOf x qual (aH st) (aF st) (ak st) .none kV doc pm an cdv ct),osl⟩)
    (c:W.codeIn K cdv qual=true) (k:W.keepIn K (.ref f)=true):jO K x qual st f (W.fnOf x qual (aH st) (aF st) (ak st) .none kV doc pm an cdv ct):=⟨⟨oc,od,kV,doc,pm,an,cdv,ct,osl,rfl,l,c⟩,k⟩
end
theorem oE {A:Around} {k:Nat} (hr:jw k A):A.units+1<cLine:=Nat.lt_of_le_of_lt (Nat.add_le_add_left (by decide:1≤64) _) hr.units
def Same (H H':Hp):Prop:=∀b o,H b=some o→H' b=some o
theorem Same.refl (H:Hp):Same H H:=fun _ _ h=>h
theorem Same.trans {H H1 H2:Hp} (a:Same H H1) (b:Same H1 H2):Same H H2:=fun c o h=>b c o (a c o h)
theorem Same.seq {K:W.Frag} {H H':Hp} {a:Addr} {xs:List V} (e:Same H H') (h:aY K H a xs):aY K H' a xs:=by
  rcases h with(h | ⟨o,h⟩) | h
  ·exact .inl (.inl (e _ _ h))
  ·exact .inl (.inr ⟨o,e _ _ h⟩)
  ·exact .inr h
def nA (env:Env) (cs:List (Str×Addr)) (p:Str×NameKind):List (Str×Addr):=if p.2 == .free then (p.1,(env.cells.lookup p.1).getD 0)::cs else cs
def Im (env:Env) (names:List (Str×NameKind)):List (Str×Addr):=names.foldl (nA env) []
theorem yq {α β:Type} (f:α→β→Sem (ForInStep β)) (g:β→α→β):∀(l:List α) (b:β),(∀x∈l,∀b,f x b=pure (.yield (g b x)))→forIn l b f=pure (l.foldl g b)
  | [],_,_=>rfl
  | x::l,b,h=>by
    rw[List.forIn_cons,h x List.mem_cons_self,pure_bind];exact yq f g l (g b x) fun y hy=>h y (List.mem_cons_of_mem _ hy)
theorem qC {sc:Scope} {env:Env} (h:∀x,(x,NameKind.free)∈sc.names→∃c,env.cells.lookup x=some c):closureFor sc env=pure (Im env sc.names):=by
  simp only[closureFor];rw[yq _ (nA env) sc.names [] (fun p hp cs=>by
    obtain⟨n,k⟩:=p;cases k with
    | free=>
      obtain⟨c,hc⟩:=h n hp;simp only[nA,cellOf,hc,beq_self_eq_true,if_true,Option.getD_some,pure_bind]
    | _=>simp only[nA];rfl)]
  rfl
theorem vq {env:Env}:∀(names:List (Str×NameKind)) (acc:List (Str×Addr)) (x:Str) (c:Addr),(∀x,(x,NameKind.free)∈names→∃c,env.cells.lookup x=some c)→(∀x c,(x,c)∈acc→env.cells.lookup x=some c)→
    (x,c)∈names.foldl (nA env) acc→env.cells.lookup x=some c
  | [],_,x,c,_,h,m=>h x c m
  | (n,k)::r,acc,x,c,hf,h,m=>by
    refine vq r (nA env acc (n,k)) x c (fun y hy=>hf y (List.mem_cons_of_mem _ hy)) (fun y d hy=>?_) m;unfold nA at hy;split at hy
    · rename_i hk;have hk':k = .free:=by simpa using hk
      subst hk';obtain⟨e,he⟩:=hf n List.mem_cons_self
      rcases List.mem_cons.mp hy with z | z
      ·cases z;show env.cells.lookup n=some _;rw[he];rfl
      ·exact h y d z
    ·exact h y d hy
theorem w5 {env:Env} {x:Str}:∀(names:List (Str×NameKind)) (acc:List (Str×Addr)),((x,NameKind.free)∈names∨(acc.lookup x).isSome=true)→((names.foldl (nA env) acc).lookup x).isSome=true
  | [],_,h=>h.elim (fun z=>nomatch z) id
  | (n,k)::r,acc,h=>by
    refine w5 r (nA env acc (n,k)) ?_
    by_cases hm:(x,NameKind.free)∈r
    ·exact .inl hm
    · refine .inr ?_;unfold nA
      rcases h with h | h
      · rcases List.mem_cons.mp h with z | z
        ·cases z;simp[List.lookup_cons]
        ·exact absurd z hm
      · split
        ·simp only[List.lookup_cons];cases x == n <;> simp[h]
        ·exact h
def zX (env:Env) (sc:Scope) (C:Addr):List (Str×Addr):=cellsFrom (C+1) sc.names (Im env sc.names)
theorem i_ {x:Str}:∀(names:List (Str×NameKind)) (n:Nat) (acc:List (Str×Addr)),(x,NameKind.cell)∈names∨(acc.lookup x).isSome=true→((cellsFrom n names acc).lookup x).isSome=true
  | [],_,_,h=>h.elim (fun z=>nomatch z) id
  | (y,k)::r,n,acc,h=>by
    unfold cellsFrom;split
    · refine i_ r (n+1) ((y,n)::acc) ?_
      by_cases hm:(x,NameKind.cell)∈r
      ·exact .inl hm
      · refine .inr ?_
        rcases h with h | h
        · rcases List.mem_cons.mp h with z | z
          ·cases z;simp[List.lookup_cons]
          ·exact absurd z hm
        ·simp only[List.lookup_cons];cases x == y <;> simp[h]
    · rename_i hk;refine i_ r n acc ?_
      rcases h with h | h
      · rcases List.mem_cons.mp h with z | z
        ·cases z;exact absurd rfl hk
        ·exact .inl z
      ·exact .inr h
theorem K3:∀(names:List (Str×NameKind)) (h:Heap) (acc:List (Str×Addr)) (x:Str) (c:Addr),(x,c)∈cellsFrom h.objs.size names acc→(x,c)∈acc∨(h.objs.size≤c∧(pushCells h names).IsCell c none)
  | [],_,_,_,_,m=>.inl m
  | (n,k)::r,h,acc,x,c,m=>by
    unfold cellsFrom at m;unfold pushCells;split at m
    · rename_i hk;rw[if_pos hk];have m':(x,c)∈cellsFrom (h.push {cls:=.type "cell",data:=.cell none}).objs.size r ((n,h.objs.size)::acc):=by rw[Heap.size_push];exact m
      rcases K3 r (h.push {cls:=.type "cell",data:=.cell none}) _ x c m' with z | ⟨z1,z2⟩
      · rcases List.mem_cons.mp z with e | e
        ·cases e;exact .inr ⟨Nat.le_refl _,⟨_,pushCells_keeps _ _ _ _ (Heap.get?_push_size _ rfl),rfl⟩⟩
        ·exact .inl e
      ·rw[Heap.size_push] at z1;exact .inr ⟨by omega,z2⟩
    ·rename_i hk;rw[if_neg hk];exact K3 r h acc x c m
theorem K4 {n0:Nat} {x:Str}:∀(names:List (Str×NameKind)) (n:Nat) (acc:List (Str×Addr)) (c:Addr),((x,NameKind.cell)∈names∨∀d,acc.lookup x=some d→n0≤d)→n0≤n→(cellsFrom n names acc).lookup x=some c→n0≤c
  | [],_,_,c,h,_,e=>h.elim (fun z=>nomatch z) fun z=>z c e
  | (y,k)::r,n,acc,c,h,hn,e=>by
    unfold cellsFrom at e;split at e
    · refine K4 r (n+1) ((y,n)::acc) c ?_ (by omega) e
      by_cases hm:(x,NameKind.cell)∈r
      ·exact .inl hm
      · refine .inr fun d hd=>?_
        by_cases hxy:x=y
        · subst hxy;have hnd:n=d:=by simpa [List.lookup_cons] using hd
          rw[← hnd];exact hn
        · have hb:(x == y)=false:=by simpa using hxy
          simp only[List.lookup_cons,hb] at hd
          rcases h with h | h
          · rcases List.mem_cons.mp h with z | z
            ·cases z;exact absurd rfl hxy
            ·exact absurd z hm
          ·exact h d hd
    · rename_i hk;refine K4 r n acc c ?_ hn e
      rcases h with h | h
      · rcases List.mem_cons.mp h with z | z
        ·cases z;exact absurd rfl hk
        ·exact .inl z
      ·exact .inr h
theorem K5:∀(names:List (Str×NameKind)) (n:Nat) (acc:List (Str×Addr)),(∀y d,(y,d)∈acc→d<n)→(∀y z d,(y,d)∈acc→(z,d)∈acc→y=z)→
    ∀y z d,(y,d)∈cellsFrom n names acc→(z,d)∈cellsFrom n names acc→y=z
  | [],_,_,_,h=>h
  | (x,k)::r,n,acc,hl,h=>by
    unfold cellsFrom;split
    · refine K5 r (n+1) ((x,n)::acc) (fun y d hm=>?_) fun y z d h1 h2=>?_
      · rcases List.mem_cons.mp hm with e | e
        ·cases e;exact Nat.lt_succ_self _
        ·exact Nat.lt_succ_of_lt (hl y d e)
      · rcases List.mem_cons.mp h1 with e1 | e1 <;> rcases List.mem_cons.mp h2 with e2 | e2
        ·cases e1;cases e2;rfl
        ·cases e1;exact absurd (hl z n e2) (Nat.lt_irrefl _)
        ·cases e2;exact absurd (hl y n e1) (Nat.lt_irrefl _)
        ·exact h y z d e1 e2
    ·exact K5 r n acc hl h
abbrev Xg:Value→Shared→Prop:=fun _ _=>False
theorem Io {prog:Program} {w:World} {A:Around} {R:Result→Shared→Prop} {s:Shared} {elt target iter:Expr} {ifs:List Expr} {scope:Scope} {pos:Pos} {it acc:Value} {env:Env} (I:Nat→Shared→Prop)
    (turn:∀n s,I n s→wpAny (model prog w) A (pyNext it) (fun r s₁=>match r with
      | none=>R (.ok .next) s₁
      | some v=>wpAny (model prog w) A (letOwnedTupleGo target it v) (fun _ s₂=>wpAny (model prog w) A (assign target env v) (fun _ s₃=>
          wpAny (model prog w) A (forIn ifs true fun c r=>if r=true then do let ok ← isTrue c env (eval c env);pure (ForInStep.yield ok) else pure (ForInStep.yield r)) (fun ok s₄=>
            if ok=true then wpAny (model prog w) A (eval elt env) (fun x s₅=>
              wpAny (model prog w) A (call (.builtin "list.append") [acc,x]) (fun _ s₆=>∃m,m<n∧I m s₆) Xg s₅) Xg s₄
            else ∃m,m<n∧I m s₄) Xg s₃) Xg s₂) Xg s₁) Xg s)
    (n:Nat) (h:I n s):codeAny (model prog w) A (.compLoop (.ListComp elt [⟨target,iter,ifs,0⟩] scope pos) 0 it acc env) R s:=by
  refine codeAny_loop rfl I (fun n s hI=>?_) n h;show wpAny _ A ((compTurn (.ListComp elt [⟨target,iter,ifs,0⟩] scope pos) 0 it acc env).onRaise (fun x=>do noteFrame x env;theTreesLotGoes x)) _ _ s
  refine wpAny_noted ?_;rw[compTurn_list];refine wpAny_bind (wpAny_standAt (wpAny_bind (wpAny_mono (turn n s hI) (fun r s₁ h₁=>?_) fun _ _ h'=>h'.elim)));cases r with
  | none=>exact wpAny_pure h₁
  | some v=>
    refine wpAny_bind (wpAny_mono h₁ (fun _ s₂ h₂=>?_) fun _ _ h'=>h'.elim);refine wpAny_bind (wpAny_mono h₂ (fun _ s₃ h₃=>wpAny_bind (wpAny_mono h₃ (fun ok s₄ h₄=>?_) fun _ _ h'=>h'.elim)) fun _ _ h'=>h'.elim);cases ok with
    | false=>exact wpAny_pure ⟨rfl,h₄⟩
    | true=>
      exact wpAny_bind (wpAny_bind (wpAny_mono h₄ (fun x s₅ h₅=>wpAny_bind (wpAny_mono h₅ (fun _ s₆ h₆=>wpAny_pure (wpAny_pure ⟨rfl,h₆⟩)) fun _ _ h'=>h'.elim)) fun _ _ h'=>h'.elim))
def gj (X:Cx) (sc:Scope) (N:List Str) (C:Addr) (s:Shared) (H:Hp) (fp:List Addr) (pn:List (Addr×Obj)):Cx:=
  {X with env:=compEnvC sc (zX X.env sc C) C X.env,N:=N,s₀:=s,H₀:=H,outer:=X.stack,ex:=fp,fn:=fun x=>sc.names.any fun p=>p.1 == x && p.2 == .cell,pn:=pn,xe:=Xg}
theorem qU {sc:Scope} {env:Env} (x:Str):(relabel sc env).names.lookup x=(sc.names.lookup x).map fun k=>if (k == NameKind.free && env.scope.kind == .function && env.kindOf x == some .cell)=true then NameKind.cell else k:=by
  unfold relabel;show List.lookup x (sc.names.map _)=_
  induction sc.names with
  | nil=>rfl
  | cons p r ih=>
    obtain⟨n,k⟩:=p;rw[List.map_cons];have e1:(if (k == NameKind.free && env.scope.kind == .function && env.kindOf n == some .cell)=true then (n,NameKind.cell) else (n,k))=(n,if (k == NameKind.free && env.scope.kind == .function && env.kindOf n == some .cell)=true then NameKind.cell else k):=by split <;> rfl
    show List.lookup x ((if (k == NameKind.free && env.scope.kind == .function && env.kindOf n == some .cell)=true then (n,NameKind.cell) else (n,k))::_)=_
    rw[e1]
    by_cases hx:x=n
    ·subst hx;simp only[List.lookup_cons,beq_self_eq_true,Option.map_some]
    · have hb:(x == n)=false:=by simpa using hx
      simp only[List.lookup_cons,hb];exact ih
structure aX (ps sc:Scope) (pN own:List Str) (caps:List Nat) (N:List Str):Prop where
  kind:sc.kind = .function
  uniq:∀p∈sc.names,sc.names.lookup p.1=some p.2
  nd:N.Nodup
  names:N=own++caps.map fun j=>pN.getD j ""
  free:∀p∈sc.names,p.2 = .free→ps.names.lookup p.1=some .cell∨ps.names.lookup p.1=some .free
  qif:∀j∈caps,j<pN.length∧sc.names.lookup (pN.getD j "")=some .free
def stC (own:List Str) (caps:List Nat) (σ:St):St:=own.map (fun _=>none)++caps.map fun j=>(σ[j]?).getD none
section
variable {X:Cx} {p_:List (Addr×Obj)} {σ:St} {H:Hp} {s:Shared} {ps sc:Scope} {own pN:List Str} {caps:List Nat} {N:List Str} {fp:List Addr}
theorem aX.cells (S:aX ps sc pN own caps N) (hps:X.env.scope=ps) (ok:X.Ok):∀x,(x,NameKind.free)∈sc.names→∃c,X.env.cells.lookup x=some c:=fun x hx=>by
  refine ok.has x ?_;show X.env.scope.names.lookup x=_∨X.env.scope.names.lookup x=_;rw[hps];exact S.free (x,.free) hx rfl
theorem zY (hfr:∀x,(x,NameKind.free)∈sc.names→∃c,X.env.cells.lookup x=some c) {C:Addr} {x:Str} {c:Addr} {h:Heap} (hC:C+1=h.objs.size) (m:(x,c)∈zX X.env sc C):X.env.cells.lookup x=some c∨(h.objs.size≤c∧(pushCells h sc.names).IsCell c none):=by
  unfold zX at m;rw[hC] at m
  rcases K3 sc.names h _ x c m with z | z
  ·exact .inl (vq sc.names [] x c hfr (fun _ _ z=>nomatch z) z)
  ·exact .inr z
theorem N8 (I:Inv X p_ σ H s) (hps:X.env.scope=ps) (S:aX ps sc pN own caps N) (hf:∀b∈fp,um X p_ H b) (ho:∀b∈fp,∃o,s.heap.get? b=some o∧∀v,o.data≠.cell v) :
    (gj X sc N s.heap.objs.size s H fp (X.pn++p_)).Ok where
  mod:=I.ok.mod
  kind:=S.kind
  glob:=I.ok.glob
  blt:=I.ok.blt
  above:=Nat.le_refl _
  inj:=fun x y c h1 h2=>by
    have cl:∀y d,(y,d)∈Im X.env sc.names→X.env.cells.lookup y=some d:=fun y d m=>vq sc.names [] y d (S.cells hps I.ok) (fun _ _ z=>nomatch z) m;refine K5 sc.names (s.heap.objs.size+1) (Im X.env sc.names) (fun y d m=>?_) (fun y z d m1 m2=>I.ok.inj y z d (cl y d m1) (cl z d m2)) x y c (PySem.mem_of_lookup h1) (PySem.mem_of_lookup h2);obtain⟨v,q⟩:=I.cell y d (cl y d m);exact Nat.lt_succ_of_lt q.lt
  has:=fun x hx=>by
    have hx1:(relabel sc X.env).names.lookup x=some .cell∨(relabel sc X.env).names.lookup x=some .free:=hx;have hx':(x,NameKind.cell)∈sc.names∨(x,NameKind.free)∈sc.names:=by
      rw[qU] at hx1;cases e:sc.names.lookup x with
      | none=>rw[e] at hx1;simp at hx1
      | some k=>
        rw[e] at hx1;have hm:=PySem.mem_of_lookup e;cases k with
        | free=>exact .inr hm
        | cell=>exact .inl hm
        | _=>simp at hx1
    have q:((cellsFrom (s.heap.objs.size+1) sc.names (Im X.env sc.names)).lookup x).isSome=true:=by
      rcases hx' with z | z
      ·exact i_ sc.names _ _ (.inl z)
      ·exact i_ sc.names _ _ (.inr (w5 sc.names [] (.inl z)))
    exact Option.isSome_iff_exists.mp q
  cab:=fun x c hx h=>by
    have hx':(x,NameKind.cell)∈sc.names:=by
      have hx:(sc.names.any fun p=>p.1 == x && p.2 == .cell)=true:=hx;obtain⟨⟨a,b⟩,hm,he⟩:=List.any_eq_true.mp hx;simp at he;obtain⟨rfl,rfl⟩:=he;exact hm
    exact K4 (n0:=s.heap.objs.size) sc.names (s.heap.objs.size+1) (Im X.env sc.names) c (.inl hx') (Nat.le_succ _) h
  hd:=I.ok.hd
  frames:=I.ok.frames
  stk:=.inl rfl
  exf:=fun b hb=>by
    obtain⟨o,e,_⟩:=ho b hb;refine⟨Nat.ne_of_lt (Heap.lt_size e),fun x c h z=>?_⟩;subst z
    rcases zY (S.cells hps I.ok) (h:=s.heap.push {cls:=.type "dict",data:=.dict #[]}) (by rw[Heap.size_push]) (PySem.mem_of_lookup h) with q | ⟨q,_⟩
    ·exact(hf c hb).2.2.2.2.1 x c q rfl
    ·rw[Heap.size_push] at q;exact absurd (Nat.lt_of_lt_of_le (Nat.lt_of_lt_of_le (Heap.lt_size e) (Nat.le_succ _)) q) (Nat.lt_irrefl _)
  bs:=I.bs
  RD:=Nat.le_trans I.ok.RD I.sz
  HY:=fun b o e hb=>by
    rcases(hf b hb).2.2.2.1 with z | z
    ·exact I.ok.HY b o e z
    ·exact absurd (Nat.lt_of_lt_of_le (Heap.lt_size e) (Nat.le_trans I.ok.RD z)) (Nat.lt_irrefl _)
  H_:=fun b hb z=>by
    rcases List.mem_cons.mp (I.uh b z) with q | q
    ·exact(hf b hb).2.1 q
    ·exact(hf b hb).2.2.1 q
  tQ:=I.stack
  Wy:=I.yZ
def blockAt (sc:Scope) (s:Shared):Shared:={s with heap:=pushCells (s.heap.push {cls:=.type "dict",data:=.dict #[]}) sc.names}
theorem Tn (I:Inv X p_ σ H s) (hps:X.env.scope=ps) (hpN:X.N=pN) (S:aX ps sc pN own caps N) (hf:∀b∈fp,um X p_ H b) (ho:∀b∈fp,∃o,s.heap.get? b=some o∧∀v,o.data≠.cell v) :
    Inv (gj X sc N s.heap.objs.size s H fp (X.pn++p_)) [] (stC own caps σ) H (blockAt sc s):=by
  have hk:∀b o,s.heap.get? b=some o→(blockAt sc s).heap.get? b=some o:=fun b o e=>pushCells_keeps _ _ b o (Heap.get?_push_of_some _ e);have hns:(blockAt sc s).heap.Ns s.heap.objs.size fun _=>none:=(Heap.Ns.new s.heap (.type "dict")).keeps (pushCells_keeps _ _);have hcl:∀x c,(zX X.env sc s.heap.objs.size).lookup x=some c→X.env.cells.lookup x=some c∨(s.heap.objs.size+1≤c∧(blockAt sc s).heap.IsCell c none):=fun x c e=>by
    rcases zY (S.cells hps I.ok) (h:=s.heap.push {cls:=.type "dict",data:=.dict #[]}) (by rw[Heap.size_push]) (PySem.mem_of_lookup e) with q | ⟨q,r⟩
    ·exact .inl q
    ·rw[Heap.size_push] at q;exact .inr ⟨q,r⟩
  refine⟨N8 I hps S hf ho,rfl,I.bare,Un.kept hk,⟨_,hns,fun i x v e1 e2 e3=>?_⟩,fun x c e=>?_,I.hok.fresh (Nat.le_refl _),fun x c e=>?_,fun p hp=>?_,I.hok.kept hk,?_⟩
  · have e1':N[i]? = some x:=e1;rw[S.names] at e1';unfold stC at e2
    by_cases hi:i<own.length
    · rw[List.getElem?_append_left (by simpa using hi),List.getElem?_map] at e2;cases q:own[i]? with
      | none=>rw[q] at e2;cases e2
      | some y=>rw[q] at e2;cases e2
    · rw[List.getElem?_append_right (by omega),List.getElem?_map] at e1';rw[List.getElem?_append_right (by simp;omega),List.getElem?_map] at e2;simp only[List.length_map] at e2;cases q:caps[i - own.length]? with
      | none=>rw[q] at e2;cases e2
      | some j=>
        rw[q] at e1' e2;have qc3:pN.getD j "" = x:=Option.some.inj e1';have e2':(σ[j]?).getD none=some v:=Option.some.inj e2;have hj:σ[j]? = some (some v):=by
          cases z:σ[j]? with
          | none=>rw[z] at e2';cases e2'
          | some o=>rw[z] at e2';exact congrArg some e2'
        obtain⟨hlt,hfree⟩:=S.qif j (List.mem_of_getElem? q);rw[qc3] at hfree;have hNj:X.N[j]? = some x:=by
          rw[hpN,← qc3];simp[List.getD,List.getElem?_eq_getElem hlt]
        have qc4:=S.free (x,.free) (PySem.mem_of_lookup hfree) rfl;have vis:Vis X.env.scope x:=by rw[hps];exact .inr qc4
        obtain⟨m,hn,hl⟩:=I.loc;obtain⟨u,r,l⟩:=hl j x v hNj hj vis;refine⟨u,r,.inr ?_⟩;have hkind:(relabel sc X.env).names.lookup x=some .cell∨(relabel sc X.env).names.lookup x=some .free:=by
          rw[qU,hfree];show some (if _ then _ else _)=_∨some (if _ then _ else _)=_
          split
          ·exact .inl rfl
          ·exact .inr rfl
        refine⟨hkind,?_⟩;have hcell:X.env.kindOf x=some .cell∨X.env.kindOf x=some .free:=by
          show X.env.scope.names.lookup x=_∨X.env.scope.names.lookup x=_;rw[hps];exact qc4
        rcases l with⟨hloc,_⟩ | ⟨_,c,hc,hcv⟩
        ·rcases hcell with z | z <;> (rw[hloc] at z;cases z)
        · have q2:((zX X.env sc s.heap.objs.size).lookup x).isSome=true:=i_ sc.names _ _ (.inr (w5 sc.names [] (.inl (PySem.mem_of_lookup hfree))));obtain⟨d,hd⟩:=Option.isSome_iff_exists.mp q2;refine⟨d,hd,?_⟩
          rcases hcl x d hd with z | ⟨z,_⟩
          ·rw[hc] at z;cases z;exact hcv.keeps hk
          ·
            exfalso;have hnc:(x,NameKind.cell)∉sc.names:=fun hm=>by
              have:=S.uniq _ hm;rw[hfree] at this;cases this
            have hmem:=PySem.mem_of_lookup hd;have qig:∀(names:List (Str×NameKind)) (n:Nat) (acc:List (Str×Addr)),(x,NameKind.cell)∉names→(cellsFrom n names acc).lookup x=acc.lookup x:=by
              intro names
              induction names with
              | nil=>intro _ _ _;rfl
              | cons p r ih=>
                intro n acc hm;obtain⟨y,k⟩:=p;unfold cellsFrom;split
                · rename_i hkk;have hkk':k = .cell:=by simpa using hkk
                  subst hkk';rw[ih _ _ fun z=>hm (List.mem_cons_of_mem _ z)];have hxy:(x == y)=false:=by
                    cases hb:x == y with
                    | false=>rfl
                    | true=>exact absurd (by rw[beq_iff_eq.mp hb];exact List.mem_cons_self) hm
                  simp only[List.lookup_cons,hxy]
                ·exact ih _ _ fun z=>hm (List.mem_cons_of_mem _ z)
            have e5:(Im X.env sc.names).lookup x=some d:=(qig sc.names _ _ hnc).symm.trans hd;have e6:=vq sc.names [] x d (S.cells hps I.ok) (fun _ _ z=>nomatch z) (PySem.mem_of_lookup e5);rw[hc] at e6;cases e6;exact absurd (Nat.lt_of_lt_of_le (Nat.lt_of_lt_of_le hcv.lt (Nat.le_succ _)) z) (Nat.lt_irrefl _)
  · rcases hcl x c e with z | ⟨_,z⟩
    ·obtain⟨v,q⟩:=I.cell x c z;exact⟨v,q.keeps hk⟩
    ·exact⟨_,z⟩
  · rcases hcl x c e with z | ⟨z,_⟩
    ·exact I.iU x c z
    ·exact I.hok.fresh (by omega)
  · rw[List.append_nil] at hp;obtain⟨e,n,ne,nf,d⟩:=I.pin p hp;refine⟨hk _ _ e,n,Nat.ne_of_lt (Heap.lt_size e),fun z=>?_,d⟩
    rcases List.mem_cons.mp (I.uh p.1 z) with q | q
    ·exact ne q
    ·exact nf q
  ·show(stC own caps σ).length=N.length;rw[S.names];simp[stC]
theorem Qh (I:Inv X p_ σ H s) (hf:∀b∈fp,um X p_ H b) {C:Addr} {pn:List (Addr×Obj)} {yp:List (Addr×Obj)} {σ':St} {H':Hp} {s':Shared} (I':Inv (gj X sc N C s H fp pn) yp σ' H' s'):Inv X p_ σ H' s':=
  I.call' (ch:=fp) I'.os I'.base I'.hok I'.bare fun b hb=>⟨(hf b hb).2.2.2.1,(hf b hb).2.1,(hf b hb).2.2.2.2.1,(hf b hb).2.2.2.2.2⟩
end
def PTs (X:Cx) (ifs:List Expr) (t:TT):Prop:=
  ∀(p_:List (Addr×Obj)) (s:Shared) (σ:St) (H:Hp) (Q:Bool→Hp→Prop),Inv X p_ σ H s→t σ H Q→
    wpAny (model X.prog X.w) X.A (forIn ifs true fun c r=>if r=true then do let ok ← isTrue c X.env (eval c X.env);pure (ForInStep.yield ok) else pure (ForInStep.yield r)) (TP X p_ σ Q) X.xe s
def qc5:TT:=fun _ H Q=>Q true H
theorem f9 {X:Cx}:PTs X [] qc5:=fun _ _ _ H _ I h=>wpAny_tests_nil ⟨H,I,h⟩
theorem o_ {X:Cx} {c:Expr} {t:TT} (h:PT X c t):PTs X [c] t:=fun p_ s σ H Q I hw=>wpAny_tests_one (h p_ s σ H Q I hw)
def lR (own:List Str) (caps:List Nat) (J:It) (g:TG) (tt:TT) (te:TE) (D:Addr) (σ:St) (H:Hp) (Q:Hp→Prop):Prop:=
  ∃qz:Nat→Nat→St→Hp→Prop,(∃m,qz 0 m (stC own caps σ) H)∧∀i m σ' H',qz i m σ' H'→
    (J.stop i H'∧Q H')∨(J.go i H'∧∃N:St→Hp→Prop,(∀σ2 H2,N σ2 H2→∃m',m'<m∧qz (i+1) m' σ2 H2)∧∀x H2,J.Zf i H' x H2→g x σ' H2 fun σ2 H3=>tt σ2 H3 fun b H4=>
      if b=true then te σ2 H4 fun y H5=>∃ys,H5 D=some (.lst ys)∧ys.length<sizeLine∧N σ2 (upd H5 D (.lst (ys++[y]))) else N σ2 H4)
def Tp (own:List Str) (caps:List Nat) (wi:TI) (g:TG) (tt:TT) (te:TE):TE:=fun σ H Q=>wi σ H fun J H1=>∀D,H1 D=none→lR own caps J g tt te D σ (upd H1 D (.lst [])) (Q (.ref D))
theorem FQ {M:Model} {A:Around} {E:Value→Shared→Prop} {s:Shared} {sc:Scope} {g:Addr} {cl:List (Str×Addr)} {qual:Str} {env:Env} {Q:Env→Shared→Prop}
    (h:Q (newEnv sc s.heap.objs.size g (cellsFrom (s.heap.objs.size+1) sc.names cl) qual none .none (some env) builtinsNs) (blockAt sc s)):wpAny M A (newFunctionEnv sc g cl [] qual none .none (some env)) Q E s:=by
  simp only[newFunctionEnv,Option.isSome_some,if_true];refine wpAny_bind (wpAny_alloc ?_);refine wpAny_bind (wpAny_layCells _ (fun name kind cells=>by cases hkc:kind == NameKind.cell <;> simp[hkc]) _ _ _ _ ?_);rw[show({s with heap:=s.heap.push {cls:=.type "dict",data:=.dict #[]}}:Shared).heap.objs.size=s.heap.objs.size+1 from Heap.size_push ..];rw[List.forIn_nil];exact wpAny_bind (wpAny_pure (wpAny_pure h))
def Ip (X:Cx) (p_:List (Addr×Obj)) (σ:St) (Q:Hp→Prop) (C:Addr) (r:Result) (s':Shared):Prop:=
  ∃H',r = .ok .next∧Inv X p_ σ H' s'∧(∃m,s'.heap.Ns C m)∧um X p_ H' C∧Q H'
section
variable {X:Cx} {ps sc:Scope} {own pN:List Str} {caps:List Nat} {N:List Str}
theorem zZ {p_:List (Addr×Obj)} {σ:St} {H:Hp} {s:Shared} {E:Value→Shared→Prop} {elt tg iter:Expr} {ifs:List Expr} {pos:Pos} {J:It} {fp:List Addr} {it D:Addr} {tn:Nat→Heap→Prop} {g:TG} {tt:TT} {te:TE} {Q:Hp→Prop}
    (I:Inv X p_ σ H s) (hps:X.env.scope=ps) (hpN:X.N=pN) (S:aX ps sc pN own caps N) (T:Turn X.prog X.w X.K tg J fp it tn) (st:tn 0 s.heap) (hf:∀b∈fp,um X p_ H b) (hc:X.calm=true)
    (hg:∀C s H fp pn,PG (gj X sc N C s H fp pn) tg g) (ht:∀C s H fp pn,PTs (gj X sc N C s H fp pn) ifs tt) (he:∀C s H fp pn,PE (gj X sc N C s H fp pn) elt te)
    (h:lR own caps J g tt te D σ H Q) :
    wpAny (model X.prog X.w) X.A (newFunctionEnv sc X.env.globals (Im X.env sc.names) [] X.env.qual none .none (some X.env)) (fun cenv s4=>
      codeAny (model X.prog X.w) X.A (.compStart (.ListComp elt [⟨tg,iter,ifs,0⟩] sc pos) 0 (.ref it) (.ref D) {cenv with scope:=relabel sc X.env}) (Ip X p_ σ Q cenv.locals) s4) E s:=by
  obtain⟨qz,⟨m0,w0⟩,turn⟩:=h;refine FQ ?_;have ho:=T.obj 0 _ st;have I0:=Tn I hps hpN S hf ho;have ok':=N8 I hps S hf ho;have hk:∀b o,s.heap.get? b=some o→(blockAt sc s).heap.get? b=some o:=fun b o e=>pushCells_keeps _ _ b o (Heap.get?_push_of_some _ e);have st0:tn 0 (blockAt sc s).heap:=T.keep 0 _ _ st fun b _ o e=>hk b o e;have stat:∀{H':Hp},(∀b∈fp,H' b=none)→∀b∈fp,um (gj X sc N s.heap.objs.size s H fp (X.pn++p_)) [] H' b:=fun hn b hb=>
    ⟨hn b hb,(ok'.exf b hb).1,ok'.H_ b hb,.inl hb,(ok'.exf b hb).2,fun p hp=>(hf b hb).2.2.2.2.2 p (by rw[List.append_nil] at hp;exact hp)⟩
  have loop:codeAny (model X.prog X.w) X.A (.compLoop (.ListComp elt [⟨tg,iter,ifs,0⟩] sc pos) 0 (.ref it) (.ref D) (gj X sc N s.heap.objs.size s H fp (X.pn++p_)).env) (Ip X p_ σ Q s.heap.objs.size) (blockAt sc s):=by
    refine Io (fun n s'=>∃i σ' H',Inv (gj X sc N s.heap.objs.size s H fp (X.pn++p_)) [] σ' H' s'∧tn i s'.heap∧(∀b∈fp,H' b=none)∧qz i n σ' H') ?_ m0 ⟨0,_,H,I0,st0,fun b hb=>(hf b hb).1,w0⟩;rintro n s3 ⟨i,σ3,H3,I3,st3,fr3,w3⟩
    rcases turn i n σ3 H3 w3 with⟨stop,qn⟩ | ⟨go,N',hN,step⟩
    ·refine cL (T.done (gj X sc N s.heap.objs.size s H fp (X.pn++p_)) rfl rfl rfl hc i [] s3 σ3 H3 Xg I3 (stat fr3) st3 stop) fun r s4 zz=>?_;obtain⟨hr,I4⟩:=zz;subst hr;obtain⟨m,hn,_⟩:=I4.loc;exact⟨H3,rfl,Qh I hf I4,⟨m,hn⟩,I.CN (Nat.le_refl _) I4.free,qn⟩
    · refine cL (T.item (gj X sc N s.heap.objs.size s H fp (X.pn++p_)) rfl rfl rfl hc i [] s3 σ3 H3 Xg I3 (stat fr3) st3 go) fun r s4 zz=>?_;obtain⟨u,hr,h4⟩:=zz;subst hr;refine cL h4 fun _ s5 zz=>?_;obtain⟨x,H5,I5,r5,y5,st5,fr5⟩:=zz;have I5':=I5.pinned (stat fr5) (T.obj _ _ st5);refine cL (hg _ _ _ _ _ _ s5 σ3 H5 x u _ I5' r5 (step x H5 y5)) fun _ s6 zz=>?_;obtain⟨σ6,H6,I6,q6⟩:=zz;refine cL (ht _ _ _ _ _ _ s6 σ6 H6 _ I6 q6) fun b s7 zz=>?_;obtain⟨H7,I7,q7⟩:=zz;have again:∀{σ8:St} {H8:Hp} {s8:Shared},Inv (gj X sc N s.heap.objs.size s H fp (X.pn++p_)) ([]++zV fp s5.heap) σ8 H8 s8→N' σ8 H8→
          ∃m,m<n∧∃i σ' H',Inv (gj X sc N s.heap.objs.size s H fp (X.pn++p_)) [] σ' H' s8∧tn i s8.heap∧(∀b∈fp,H' b=none)∧qz i m σ' H':=fun {σ8 H8 s8} I8 n8=>by
        obtain⟨m',hm,w8⟩:=hN σ8 H8 n8;refine⟨m',hm,i+1,σ8,H8,I8.vm,T.keep _ _ _ st5 fun b hb o e=>(I8.pin (b,o) (List.mem_append_right _ (List.mem_append_right _ (o9 hb e)))).1,fun b hb=>?_,w8⟩;obtain⟨o,e,d⟩:=T.obj _ _ st5 b hb;exact(I8.pin (b,o) (List.mem_append_right _ (List.mem_append_right _ (o9 hb e)))).2.1
      cases b with
      | false=>
        rw[if_neg Bool.false_ne_true] at q7 ⊢;exact again I7 q7
      | true=>
        rw[if_pos rfl] at q7 ⊢;refine cL (he _ _ _ _ _ _ s7 σ6 H7 _ I7 q7) fun v s8 zz=>?_;obtain⟨y,H8,I8,r8,ys,hD,hz,n8⟩:=zz;refine cL (DN (X:=gj X sc N s.heap.objs.size s H fp (X.pn++p_)) _ s8 σ6 H8 (.ref D) [y] (.ref D) [v] (fun _ H9=>N' σ6 H9) I8 rfl (.cons r8 .nil) ⟨D,ys,y,rfl,rfl,hD,hz,n8⟩) fun _ s9 zz=>?_;obtain⟨_,H9,I9,_,n9⟩:=zz;exact again I9 n9
  exact codeAny_compStart_list loop (T.self X.A 0 _ _ _ st0 loop)
variable {elt tg iter:Expr} {ifs:List Expr} {pos:Pos} {wi:TI} {g:TG} {tt:TT} {te:TE}
theorem aX.locs (S:aX ps sc pN own caps N):∀x∈sc.names,x.2 = .local→sc.names.lookup x.1=some .local:=fun x hx e=>by rw[← e];exact S.uniq x hx
theorem eG (hps:X.env.scope=ps) (hpN:X.N=pN) (S:aX ps sc pN own caps N) (hc:X.calm=true) (hi:PI X tg iter wi)
    (hg:∀C s H fp pn,PG (gj X sc N C s H fp pn) tg g) (ht:∀C s H fp pn,PTs (gj X sc N C s H fp pn) ifs tt) (he:∀C s H fp pn,PE (gj X sc N C s H fp pn) elt te)
    (hs:∀x,foldedSetIterable iter X.env x=pure x:=by intro _;rfl):PE X (.ListComp elt [⟨tg,iter,ifs,0⟩] sc pos) (Tp own caps wi g tt te):=by
  intro p_ s σ H Q I h;rw[eval_ListComp];refine wpAny_comprehension_free (use:=none) rfl hs (qC (S.cells hps I.ok)) S.kind S.locs (cL (hi p_ s σ H _ I h) fun v s1 h1=>cL h1 fun itv s2 h2=>?_);obtain⟨it,fp,tn,J,H2,e,I2,T,st2,f2,q⟩:=h2;subst e;have fr:H2 s2.heap.objs.size=none:=I2.fresh;refine wpAny_newObj_type ?_;have I3:Inv X p_ σ (upd H2 s2.heap.objs.size (.lst [])) {s2 with heap:=s2.heap.push {cls:=.type "list",data:=.seq ([]:List Value).toArray},toks:=s2.toks}:=I2.Xe (its:=[]) (ys:=[]) .nil (Nat.zero_le _);have f3:∀b∈fp,um X p_ (upd H2 s2.heap.objs.size (.lst [])) b:=fun b hb=>by
    obtain⟨o,e,_⟩:=T.obj 0 _ st2 b hb;exact⟨by rw[aD (Nat.ne_of_lt (Heap.lt_size e))];exact(f2 b hb).1,(f2 b hb).2⟩
  refine cL (zZ (iter:=iter) (pos:=pos) I3 hps hpN S T (T.keep 0 _ _ st2 fun b _ o e=>Heap.get?_push_of_some _ e) f3 hc hg ht he (q _ fr)) fun cenv s4 h4=>?_;refine codeAny_mono h4 fun r s5 ⟨H5,hr,I5,⟨m,hn⟩,f5,q5⟩=>?_;subst hr;refine⟨m,hn,fun h' hs'=>?_⟩;have I6:Inv X p_ σ H5 {s5 with heap:=h',toks:=s5.toks}:=I5.turned (it:=cenv.locals) (fun b o hb e=>(hs'.2 b hb).trans e) f5.1 f5.2.1 f5.2.2.2.1 f5.2.2.2.2.1 f5.2.2.2.2.2;exact⟨.ref s2.heap.objs.size,H5,I6,rfl,q5⟩
theorem mJ {i:Nat} {y:Str} {py spos:Pos} (hN:X.N.Nodup) (hy:X.N[i]? = some y) (hl:X.env.scope.names.lookup y=some .local) (hps:X.env.scope=ps) (hpN:X.N=pN) (S:aX ps sc pN own caps N) (hc:X.calm=true) (hi:PI X tg iter wi)
    (hg:∀C s H fp pn,PG (gj X sc N C s H fp pn) tg g) (ht:∀C s H fp pn,PTs (gj X sc N C s H fp pn) ifs tt) (he:∀C s H fp pn,PE (gj X sc N C s H fp pn) elt te)
    (hsw:swapsWith (.ListComp elt [⟨tg,iter,ifs,0⟩] sc pos) (some (.Name y py)) spos.line X.env=pure true:=by rfl)
    (hs:∀x,foldedSetIterable iter X.env x=pure x:=by intro _;rfl):PS X (.Assign [.Name y py] (.ListComp elt [⟨tg,iter,ifs,0⟩] sc pos) spos) (W0 (Tp own caps wi g tt te) (Nu i)):=by
  intro p_ s σ H D0 I h;rw[exec_Assign_Name_used _ _ _ _ hsw];refine wpAny_bind (wpAny_standAt (wpAny_bind ?_));show wpAny _ X.A (do let _ ← comprehension (.ListComp elt [⟨tg,iter,ifs,0⟩] sc pos) sc X.env _ (newList []) false (eval iter X.env) (some (assign (.Name y py) X.env))) _ _ s
  refine wpAny_bind (wpAny_mono (wpAny_comprehension_free (use:=some (assign (.Name y py) X.env)) (Q:=fun _ s'=>SP X p_ D0 .next s') rfl hs (qC (S.cells hps I.ok)) S.kind S.locs
    (cL (hi p_ s σ H _ I h) fun v s1 h1=>cL h1 fun itv s2 h2=>?_)) (fun _ s' hq=>wpAny_pure (wpAny_pure hq)) fun _ _ e=>e)
  obtain⟨it,fp,tn,J,H2,e,I2,T,st2,f2,q⟩:=h2;subst e;have fr:H2 s2.heap.objs.size=none:=I2.fresh;refine wpAny_newObj_type ?_;have I3:Inv X p_ σ (upd H2 s2.heap.objs.size (.lst [])) {s2 with heap:=s2.heap.push {cls:=.type "list",data:=.seq ([]:List Value).toArray},toks:=s2.toks}:=I2.Xe (its:=[]) (ys:=[]) .nil (Nat.zero_le _);have f3:∀b∈fp,um X p_ (upd H2 s2.heap.objs.size (.lst [])) b:=fun b hb=>by
    obtain⟨o,e,_⟩:=T.obj 0 _ st2 b hb;exact⟨by rw[aD (Nat.ne_of_lt (Heap.lt_size e))];exact(f2 b hb).1,(f2 b hb).2⟩
  refine cL (zZ (iter:=iter) (pos:=pos) I3 hps hpN S T (T.keep 0 _ _ st2 fun b _ o e=>Heap.get?_push_of_some _ e) f3 hc hg ht he (q _ fr)) fun cenv s4 h4=>?_;refine codeAny_mono h4 fun r s5 ⟨H5,hr,I5,⟨m,hn⟩,f5,q5⟩=>?_;subst hr;show wpAny _ X.A (assign (.Name y py) X.env (.ref s2.heap.objs.size)) _ _ _;refine wpAny_assign_Name (rW I5 hN hy (.inl hl) (v:=.ref s2.heap.objs.size) rfl (fun s6 I6 hsb=>?_) (.inr hl));obtain⟨a,sb,ha⟩:=hsb;have hne:cenv.locals≠a:=by
    rcases ha with z | z
    ·rw[z];exact f5.2.1
    ·exact fun e=>f5.2.2.2.2.1 y a z e.symm
  refine⟨m,hn.sameBut sb hne,fun h' hs'=>?_⟩;have I7:Inv X p_ (σ.set i (some (.ref s2.heap.objs.size))) H5 {s6 with heap:=h',toks:=s6.toks}:=I6.turned (it:=cenv.locals) (fun b o hb e=>(hs'.2 b hb).trans e) f5.1 f5.2.1 f5.2.2.2.1 f5.2.2.2.2.1 f5.2.2.2.2.2;exact⟨_,H5,I7,q5⟩
end
section
variable {X:Cx} {p_:List (Addr×Obj)} {σ:St} {H:Hp} {s:Shared} {h':Heap}
theorem Inv.rY {t':Nat} {ch:List Addr} (I:Inv X p_ σ H s) (k:∀b o,b∉ch→s.heap.get? b=some o→h'.get? b=some o) (hf:∀b∈ch,um X p_ H b):Inv X p_ σ H {s with heap:=h',toks:=t'}:=by
  refine I.step (g':=s.gens) (d':=s.drawn) (ch:=ch) (fun b hb=>⟨(hf b hb).2.2.2.1,(hf b hb).2.1,(hf b hb).2.2.2.2.1,(hf b hb).2.2.2.2.2⟩) (fun b o _ _ hc e _=>k b o hc e) (fun b o _ _ hc e _=>⟨o.slots,k b o hc e⟩) (fun _ _ _ _ n=>n)
    (fun b o hc e=>⟨o,k b o hc e⟩) (fun _ _ e=>e) (fun _ _ _ e=>e) (fun b ps e=>⟨#[],by rw[e];simp⟩) (fun m hm=>?_) (fun b u e=>?_) I.bare
  ·obtain⟨o,es,ep,ho,r⟩:=hm;exact⟨o,es,ep,k _ o (fun z=>(hf _ z).2.1 rfl) ho,r⟩
  · refine(I.hok b u e).stay (fun c v hc q=>k c v (fun z=>?_) q) (fun _ q=>q) fun _ _ q=>q;have hn:=(hf c z).1
    rcases hc with y | y
    ·rw[y,e] at hn;cases hn
    ·rw[y] at hn;cases hn
end
def Its (x:Str):It:=⟨fun i _=>i<x.cps.size,fun i H v H'=>H'=H∧∃c,x.cps[i]? = some c∧v = .str ⟨#[c]⟩,fun i _=>x.cps.size≤i⟩
theorem Tq {P:Program} {w:World} {K:W.Frag} {tg:Expr} (x:Str) (t:Tok) (it:Addr):Turn P w K tg (Its x) [it] it (fun i h=>h.IsStrIter it (strIterType x) x t i) where
  mem:=by simp
  obj:=fun i h st b hb=>by
    have e:b=it:=by simpa using hb
    subst e;obtain⟨o,e,c,d⟩:=st;exact⟨o,e,fun v z=>by rw[d] at z;cases z⟩
  keep:=fun i h h' st k=>by
    obtain⟨o,e,c,d⟩:=st;exact⟨o,k it (by simp) o e,c,d⟩
  item:=by
    intro X hP hw hK hc i p_ s σ H E I hf st hg;subst hP hw hK;obtain⟨f0,f1,f2,f3,f4,f5⟩:=hf it (by simp);have hx:x.cps[i]? = some (x.cps[i]'hg):=Array.getElem?_eq_getElem hg;have fin:∀h',h'.IsStrIter it (strIterType x) x t (i+1)→Heap.SameBut it s.heap h'→∃u,(some (Value.str ⟨#[x.cps[i]'hg]⟩ s.toks))=some u∧
        wpAny (model X.prog X.w) X.A (letOwnedTupleGo tg (.ref it) u) (fun _ s2=>∃y H',Inv X p_ σ H' s2∧RelV y u∧(Its x).Zf i H y H'∧s2.heap.IsStrIter it (strIterType x) x t (i+1)∧∀b∈[it],H' b=none) E {s with heap:=h',toks:=s.toks+1}:=fun h' st' sb=>by
      have I1:Inv X p_ σ H {s with heap:=h',toks:=s.toks+1}:=I.turned (fun b o hb e=>(sb.2 b hb).trans e) f0 f1 f3 f4 f5;refine⟨_,rfl,?_⟩;have res:∃y H',Inv X p_ σ H' {s with heap:=h',toks:=s.toks+1}∧RelV y (Value.str ⟨#[x.cps[i]'hg]⟩ s.toks)∧(Its x).Zf i H y H'∧h'.IsStrIter it (strIterType x) x t (i+1)∧∀b∈[it],H' b=none:=
        ⟨.str ⟨#[x.cps[i]'hg]⟩,H,I1,⟨_,rfl⟩,⟨rfl,_,hx,rfl⟩,st',fun b hb=>(hf b hb).1⟩
      unfold letOwnedTupleGo;cases tg <;> exact wpAny_pure res
    by_cases ha:x.cps.all (· < 128)=true
    · have ey:strIterType x = "str_ascii_iterator" :=by unfold strIterType;rw[if_pos ha]
      rw[ey] at st;exact wpAny_pyNext_ascii_item st hx fun h' st' sb=>fin h' (by rw[ey];exact st') sb
    · have ey:strIterType x = "str_iterator" :=by unfold strIterType;rw[if_neg ha]
      rw[ey] at st;exact wpAny_pyNext_wide_item st hx fun h' st' sb=>fin h' (by rw[ey];exact st') sb
  done:=by
    intro X hP hw hK hc i p_ s σ H E I hf st hg;subst hP hw hK;obtain⟨f0,f1,f2,f3,f4,f5⟩:=hf it (by simp);have hx:x.cps[i]? = none:=Array.getElem?_eq_none hg
    by_cases ha:x.cps.all (· < 128)=true
    · have ey:strIterType x = "str_ascii_iterator" :=by unfold strIterType;rw[if_pos ha]
      rw[ey] at st;exact wpAny_pyNext_ascii_end (I.ok.hd hc) st hx fun h' eb=>⟨rfl,I.turned (t':=s.toks) (fun b o hb e=>eb b o hb e) f0 f1 f3 f4 f5⟩
    · have ey:strIterType x = "str_iterator" :=by unfold strIterType;rw[if_neg ha]
      rw[ey] at st;exact wpAny_pyNext_wide_end (I.ok.hd hc) st hx fun h' eb=>⟨rfl,I.turned (t':=s.toks) (fun b o hb e=>eb b o hb e) f0 f1 f3 f4 f5⟩
  self:=fun A i s Q E st h=>by
    by_cases ha:x.cps.all (· < 128)=true
    · have ey:strIterType x = "str_ascii_iterator" :=by unfold strIterType;rw[if_pos ha]
      rw[ey] at st;exact wpAny_pyIter_striter_ascii st h
    · have ey:strIterType x = "str_iterator" :=by unfold strIterType;rw[if_neg ha]
      rw[ey] at st;exact wpAny_pyIter_striter_wide st h
section
variable {X:Cx} {tg:Expr}
def qaQ (tl:TE):TI:=fun σ H R=>tl σ H fun x H1=>∃z,x = .str z∧R (Its z) H1
theorem qaR {l:Expr} {tl:TE} (hl:PE X l tl):PI X tg l (qaQ tl):=by
  intro p_ s σ H R I h;refine cL (hl p_ s σ H _ I h) fun v s1 zz=>?_;obtain⟨x,H1,I1,r1,q1⟩:=zz;obtain⟨z,e,q⟩:=q1;subst e;obtain⟨t,rfl⟩:=r1;refine wpAny_pyIter_strU ?_;refine⟨s1.heap.objs.size,[s1.heap.objs.size],_,_,H1,rfl,I1.kept (t':=s1.toks) fun b o e=>Heap.get?_push_of_some _ e,Tq z t _,⟨_,Heap.get?_push_size _ rfl,rfl,rfl⟩,fun b hb=>?_,q⟩;have e:b=s1.heap.objs.size:=by simpa using hb
  subst e;exact I1.CN (Nat.le_refl _) (I1.hok.fresh (Nat.le_refl _))
end
def Zk (K:W.Frag) (a b:Addr):It:=
  ⟨fun i H=>∃xs ys x y,aY K H a xs∧aY K H b ys∧xs[i]? = some x∧ys[i]? = some y,
   fun i H v H'=>∃t x y,v = .ref t∧H t=none∧H'=upd H t (.tup [x,y])∧(∀xs,aY K H a xs→xs[i]? = some x)∧∀ys,aY K H b ys→ys[i]? = some y,
   fun i H=>∃xs ys,aY K H a xs∧aY K H b ys∧(xs.length≤i∨ys.length≤i)⟩
structure qc6 (z TI TO i1 i2 a b:Addr) (i:Nat) (h:Heap):Prop where
  hz:IsZip h z TI TO .none
  hI:IsPair h TI (.ref i1) (.ref i2)
  hO:∃p q,IsPair h TO p q
  h1:h.IsListIter i1 a i
  h2:h.IsListIter i2 b i
theorem dN {h:Heap} {a b:Addr} {o u:Obj} {T U:String} (ha:h.get? a=some o) (hb:h.get? b=some u) (ca:o.cls = .type T) (cb:u.cls = .type U) (hne:T≠U):a≠b:=fun e=>by
  subst e;rw[ha] at hb;cases hb;rw[ca] at cb;injection cb with e2;exact hne e2
theorem Tr {P:Program} {w:World} {K:W.Frag} {es:List Expr} {k:Nat} {pos:Pos} {z TI TO i1 i2 a b:Addr} (n12:i1≠i2) (nT:TI≠TO) :
    Turn P w K (.Tuple es k pos) (Zk K a b) [z,TI,TO,i1,i2] z (qc6 z TI TO i1 i2 a b) where
  mem:=by simp
  obj:=fun i h st c hc=>by
    simp only[List.mem_cons,List.not_mem_nil,or_false] at hc
    rcases hc with rfl | rfl | rfl | rfl | rfl
    ·exact⟨_,st.hz,fun v e=>nomatch e⟩
    ·exact⟨_,st.hI,fun v e=>nomatch e⟩
    ·obtain⟨p,q,e⟩:=st.hO;exact⟨_,e,fun v e=>nomatch e⟩
    ·obtain⟨o,e,_,d⟩:=st.h1;exact⟨o,e,fun v y=>by rw[d] at y;cases y⟩
    ·obtain⟨o,e,_,d⟩:=st.h2;exact⟨o,e,fun v y=>by rw[d] at y;cases y⟩
  keep:=fun i h h' st kk=>by
    obtain⟨p,q,e⟩:=st.hO;exact⟨kk z (by simp) _ st.hz,kk TI (by simp) _ st.hI,⟨p,q,kk TO (by simp) _ e⟩,st.h1.at fun o e=>kk i1 (by simp) o e,st.h2.at fun o e=>kk i2 (by simp) o e⟩
  item:=by
    intro X hP hw hK hc i p_ s σ H E I hf st hg;subst hP hw hK;obtain⟨xs,ys,x,y,qa,qb,hx,hy⟩:=hg;obtain⟨its,rv,pl,hz1⟩:=I.list qa;obtain⟨its',rv',pl',hz2⟩:=I.list qb;obtain⟨u,hu,ru⟩:=rv.get hx;obtain⟨u',hu',ru'⟩:=rv'.get hy;obtain⟨p,q,hTO⟩:=st.hO;obtain⟨oa,ea,ca,_⟩:=id pl.isList;obtain⟨ob,eb,cb,_⟩:=id pl'.isList;obtain⟨o1,e1,c1,_⟩:=id st.h1;obtain⟨o2,e2,c2,_⟩:=id st.h2;have D:ZipApart z TI TO i1 i2 a b:=
      ⟨dN st.hI st.hz rfl rfl (by decide),dN hTO st.hz rfl rfl (by decide),dN e1 st.hz c1 rfl (by decide),dN e2 st.hz c2 rfl (by decide),nT,dN st.hI e1 rfl c1 (by decide),dN st.hI e2 rfl c2 (by decide),
        dN hTO e1 rfl c1 (by decide),dN hTO e2 rfl c2 (by decide),n12,dN ea st.hz ca rfl (by decide),dN ea hTO ca rfl (by decide),dN ea e1 ca c1 (by decide),dN ea e2 ca c2 (by decide),
        dN eb st.hz cb rfl (by decide),dN eb hTO cb rfl (by decide),dN eb e1 cb c1 (by decide),dN eb e2 cb c2 (by decide)⟩
    refine wpAny_pyNext_zip_item D st.hz st.hI hTO st.h1 st.h2 pl.isList pl'.isList (x:=u) (y:=u') (by simpa using hu) (by simpa using hu') fun h' a1 a2 a3 a4 a5 a6 kk=>?_;refine⟨_,rfl,wpAny_letOwnedTupleGo_zip a1 fun h2 b1 sb=>?_⟩;have lt:∀{c o},s.heap.get? c=some o→s.heap.objs.size≠c:=fun e=>Nat.ne_of_gt (Heap.lt_size e);have hn:H s.heap.objs.size=none:=I.hok.fresh (Nat.le_refl _);have kk2:∀c o,c∉[z,TI,TO,i1,i2]→s.heap.get? c=some o→h2.get? c=some o:=fun c o hc e=>by
      simp only[List.mem_cons,List.not_mem_nil,or_false,not_or] at hc;exact(sb.2 c hc.1).trans (kk c o hc.1 hc.2.2.1 hc.2.2.2.1 hc.2.2.2.2 e)
    have I1:Inv X p_ σ H {s with heap:=h2,toks:=s.toks}:=I.rY kk2 hf;have z6:IsPair h2 s.heap.objs.size u u':=sb.extBut _ _ (lt st.hz) a5;have I2:Inv X p_ σ (upd H s.heap.objs.size (.tup [x,y])) {s with heap:=h2,toks:=s.toks}:=by
      have hfr:H s.heap.objs.size=none:=hn;refine⟨I1.ok,I1.os,I1.bare,⟨I1.base.keep,I1.base.slot,fun c o e n hx=>?_,I1.base.there,fun c zs e=>?_,fun c o v e=>?_,fun c qs e=>?_⟩,I1.loc,I1.cell,?_,fun v c e=>?_,fun v hv=>?_,?_,I1.len⟩
      · rw[aD (fun e'=>?_)]
        ·exact I1.base.free c o e n hx
        ·exact absurd (Nat.lt_of_lt_of_le (Heap.lt_size e) I.sz) (by rw[e'];exact Nat.lt_irrefl _)
      ·have e':=I1.base.tups c zs e;rw[aD (aP e' hfr)];exact e'
      ·have e':=I1.base.oY c o v e;rw[aD (aP e' hfr)];exact e'
      ·obtain⟨m,e'⟩:=I1.base.qK c qs e;exact⟨m,by rw[aD (aP e' hfr)];exact e'⟩
      ·rw[aD (Nat.ne_of_lt I.lt)];exact I1.free
      ·obtain⟨w',qc⟩:=I.cell v c e;rw[aD (Nat.ne_of_lt qc.lt)];exact I1.iU v c e
      ·obtain⟨f1,f2,f3⟩:=I1.pin v hv;refine⟨f1,?_,f3⟩;rw[aD (Nat.ne_of_lt (Heap.lt_size (I.pin v hv).1))];exact f2
      · intro c v e
        by_cases hcs:c=s.heap.objs.size
        ·subst hcs;rw[ao] at e;cases e;exact⟨by show 2≤sizeLine;rw[sizeLine_eq];decide,[u,u'],.cons ru (.cons ru' .nil),⟨_,z6,rfl,0,rfl⟩⟩
        · rw[aD hcs] at e;refine(I1.hok c v e).stay (fun _ _ _ qq=>qq) (fun d qd=>?_) fun d zs qd=>?_
          ·rw[aD (aP qd hfr)];exact qd
          ·rw[aD (aP qd hfr)];exact qd
    refine⟨.ref s.heap.objs.size,_,I2,rfl,⟨s.heap.objs.size,x,y,rfl,hn,rfl,fun xs' q'=>by rw[I.vg q' qa];exact hx,fun ys' q'=>by rw[I.vg q' qb];exact hy⟩,?_,fun c hcm=>?_⟩
    ·exact⟨b1,sb.extBut _ _ D.TIz (kk _ _ D.TIz D.TITO D.TIi1 D.TIi2 st.hI),⟨_,_,sb.extBut _ _ D.TOz a2⟩,a3.extBut sb.extBut D.i1z,a4.extBut sb.extBut D.i2z⟩
    · have hne:c≠s.heap.objs.size:=by
        simp only[List.mem_cons,List.not_mem_nil,or_false] at hcm
        rcases hcm with rfl | rfl | rfl | rfl | rfl
        ·exact(lt st.hz).symm
        ·exact(lt st.hI).symm
        ·exact(lt hTO).symm
        ·exact(lt e1).symm
        ·exact(lt e2).symm
      rw[aD hne];exact(hf c hcm).1
  done:=by
    intro X hP hw hK hc i p_ s σ H E I hf st hg;subst hP hw hK;obtain⟨xs,ys,qa,qb,hl⟩:=hg;obtain⟨its,rv,pl,hz1⟩:=I.list qa;obtain⟨its',rv',pl',hz2⟩:=I.list qb;obtain⟨p,q,hTO⟩:=st.hO;obtain⟨oa,ea,ca,_⟩:=id pl.isList;obtain⟨ob,eb,cb,_⟩:=id pl'.isList;obtain⟨o1,e1,c1,_⟩:=id st.h1;obtain⟨o2,e2,c2,_⟩:=id st.h2;have D:ZipApart z TI TO i1 i2 a b:=
      ⟨dN st.hI st.hz rfl rfl (by decide),dN hTO st.hz rfl rfl (by decide),dN e1 st.hz c1 rfl (by decide),dN e2 st.hz c2 rfl (by decide),nT,dN st.hI e1 rfl c1 (by decide),dN st.hI e2 rfl c2 (by decide),
        dN hTO e1 rfl c1 (by decide),dN hTO e2 rfl c2 (by decide),n12,dN ea st.hz ca rfl (by decide),dN ea hTO ca rfl (by decide),dN ea e1 ca c1 (by decide),dN ea e2 ca c2 (by decide),
        dN eb st.hz cb rfl (by decide),dN eb hTO cb rfl (by decide),dN eb e1 cb c1 (by decide),dN eb e2 cb c2 (by decide)⟩
    have l1:=rv.length;have l2:=rv'.length;refine wpAny_pyNext_zip_end (I.ok.hd hc) D st.hz st.hI hTO st.h1 st.h2 pl.isList pl'.isList ?_ fun h' kk=>⟨rfl,I.rY (t':=s.toks) (fun c o hcm e=>?_) hf⟩
    · rcases hl with hl | hl
      ·exact .inl (by simp;omega)
      ·exact .inr (by simp;omega)
    ·simp only[List.mem_cons,List.not_mem_nil,or_false,not_or] at hcm;exact kk c o hcm.1 hcm.2.2.1 hcm.2.2.2.1 hcm.2.2.2.2 e
  self:=fun _ _ _ _ _ st h=>wpAny_pyIter_zip st.hz h
section
variable {X:Cx}
def Xh (K:W.Frag) (t:TA):TI:=fun σ H R=>t σ H fun vs H1=>∃a b xs ys,vs=[.ref a,.ref b]∧aY K H1 a xs∧aY K H1 b ys∧R (Zk K a b) H1
theorem boot_zip:bootBuiltins "zip" = some (.type "zip"):=by decide+kernel
theorem qaS {es:List Expr} {k:Nat} {pos':Pos} {a b:Expr} {ta:TA} {p pos:Pos} (hg:Gl X "zip") (hm:X.mg "zip" = none) (ha:PA X [a,b] ta)
    (hs:starEach [a,b] X.env=[(false,eval a X.env),(false,eval b X.env)]:=by rfl) (hs2:starEach [b] X.env=[(false,eval b X.env)]:=by rfl) :
    PI X (.Tuple es k pos') (.Call (.Name "zip" p) [a,b] [] pos) (Xh X.K ta):=by
  intro p_ s σ H R I h;refine Call_ (oZ I hg hm boot_zip (PyProof.Rows.callWith_type1 (cL (ha pos p_ s σ H _ I h) fun us s1 zz=>?_) (by rw[hs,hs2]) (by rw[hs2];rfl)));obtain⟨vs,H1,I1,r1,q1⟩:=zz;obtain⟨l1,l2,xs,ys,e,qa,qb,q⟩:=q1;subst e;obtain⟨u,v,rfl,r,r'⟩:=r1.two;obtain rfl:u=Value.ref l1:=r;obtain rfl:v=Value.ref l2:=r';obtain⟨its,rv,pl,hz1⟩:=I1.list qa;obtain⟨its',rv',pl',hz2⟩:=I1.list qb;refine call_zip_2 pl.isList pl'.isList fun h' b1 b2 b3 b4 b5 b6 kk=>?_;refine wpAny_pyIter_zip (s:={s1 with heap:=h'}) b1 ?_;have I2:Inv X p_ σ H1 {s1 with heap:=h'}:=I1.kept (t':=s1.toks) kk;refine⟨s1.heap.objs.size+4,[s1.heap.objs.size+4,s1.heap.objs.size+2,s1.heap.objs.size+3,s1.heap.objs.size,s1.heap.objs.size+1],_,_,H1,rfl,I2,Tr (Nat.ne_of_lt (Nat.lt_succ_self _)) (Nat.ne_of_lt (Nat.lt_succ_self (s1.heap.objs.size+2))),⟨b1,b2,⟨_,_,b3⟩,b4,b5⟩,fun c hc=>?_,q⟩;have hle:s1.heap.objs.size≤c:=by
    simp only[List.mem_cons,List.not_mem_nil,or_false] at hc
    rcases hc with rfl | rfl | rfl | rfl | rfl <;> first | exact Nat.le_add_right _ _ | exact Nat.le_refl _
  exact I1.CN hle (I1.hok.fresh hle)
end
section
variable {X:Cx} {p_:List (Addr×Obj)} {σ:St} {H:Hp} {s:Shared}
theorem lQ.kit {x:V} {u t:Value} (I:Inv X p_ σ H s) (rx:RelV x u) (ty:lQ X.K H x t):∃Φ,W.KitX X.K u t Φ∧Φ s.heap∧u≠.builtin "__main__.__loader__#opaque" :=by
  cases ty with
  | non=>cases (show u=Value.none from rx);exact⟨_,W.kitx_none,True.intro,fun z=>nomatch z⟩
  | bl y=>cases (show u=Value.bool y from rx);exact⟨_,W.kitx_bool,True.intro,fun z=>nomatch z⟩
  | int i=>obtain⟨t,q⟩:=(show ∃t,u=Value.int i t from rx);cases q;exact⟨_,W.kitx_int,True.intro,fun z=>nomatch z⟩
  | str y=>obtain⟨t,q⟩:=(show ∃t,u=Value.str y t from rx);cases q;exact⟨_,W.kitx_str,True.intro,fun z=>nomatch z⟩
  | flt y=>obtain⟨t,q⟩:=(show ∃t,u=Value.float y t from rx);cases q;exact⟨_,W.kitx_float,True.intro,fun z=>nomatch z⟩
  | @lst a xs ea=>
    cases (show u=Value.ref a from rx);obtain⟨_,_,n,_,h1⟩:=(show bY X.prog X.w H s.heap a (.lst xs) from I.hok a _ ea);exact⟨_,W.kitx_list,⟨_,h1,rfl⟩,fun z=>nomatch z⟩
  | @gZ a ob xs ea=>
    cases (show u=Value.ref a from rx);obtain⟨_,_,_,n,_,h1⟩:=(show bY X.prog X.w H s.heap a (.gZ ob (.lst xs)) from I.hok a _ ea);exact⟨_,W.kitx_list,⟨_,h1,rfl⟩,fun z=>nomatch z⟩
  | @tup a xs ea=>
    cases (show u=Value.ref a from rx);obtain⟨_,_,_,p⟩:=(show bY X.prog X.w H s.heap a (.tup xs) from I.hok a _ ea);obtain⟨o,h1,h2,_⟩:=p;exact⟨_,W.kitx_tuple,⟨o,h1,h2⟩,fun z=>nomatch z⟩
  | @dK a kvs ea=>
    cases (show u=Value.ref a from rx);obtain⟨_,_,vs,_,p⟩:=(show bY X.prog X.w H s.heap a (.dK kvs) from I.hok a _ ea);obtain⟨o,es,ep,h1,h2,_⟩:=p;exact⟨_,W.kitx_dict,⟨o,h1,h2.1⟩,fun z=>nomatch z⟩
  | @dT a kvs ea=>
    cases (show u=Value.ref a from rx);obtain⟨_,_,xs,_,o,es,ep,h1,h2,_⟩:=(show bY X.prog X.w H s.heap a (.dT kvs) from I.hok a _ ea);exact⟨_,W.kitx_dict,⟨o,h1,h2.1⟩,fun z=>nomatch z⟩
  | @ins a C dx fs ea cl ha hn htk hm=>
    cases (show u=Value.ref a from rx);obtain⟨mA,O,_⟩:=vo I.hok ea;obtain⟨od,J,_⟩:=O.look;exact⟨_,W.kitx_own (cl.get _) cl.hd ha hn htk hm,J,fun z=>nomatch z⟩
theorem Qi:cB X (.builtin "isinstance") (fun xs H Q=>∃x n t b,xs=[x,.ty n]∧lQ X.K H x t∧W.kitOne X.K t (.type n)=some b∧Q (.bl b) H):=by
  intro p_ s σ H xs us Q I r h;obtain⟨x,n,t,b,rfl,ty,e,q⟩:=h;obtain⟨u,v,rfl,rx,rc⟩:=r.two;obtain rfl:v=Value.type n:=rc;exact Qa I rx ty e fun tk=>⟨.bl b,H,I.tok tk,rfl,q⟩
theorem Qj:cB X (.builtin "isinstance") (fun xs H Q=>∃x p m n t b,xs=[x,.ref p]∧H p=some (.tup [.ty m,.ty n])∧lQ X.K H x t∧W.kitAny X.K t [.type m,.type n]=some b∧Q (.bl b) H):=by
  intro p_ s σ H xs us Q I r h;obtain⟨x,p,m,n,t,b,rfl,hp,ty,e,q⟩:=h;obtain⟨u,v,rfl,rx,rc⟩:=r.two;obtain rfl:v=Value.ref p:=rc;obtain⟨Φ,Z,hΦ,hne⟩:=ty.kit I rx;obtain⟨_,its,rv,o,e1,e2,k,e3⟩:=(show bY X.prog X.w H s.heap p (.tup [.ty m,.ty n]) from I.hok p _ hp);obtain⟨u1,u2,rfl,r1,r2⟩:=rv.two;obtain rfl:u1=Value.type m:=r1;obtain rfl:u2=Value.type n:=r2;obtain⟨c,dd,dt,sl⟩:=o;replace e2:c = .type "tuple" :=e2;replace e3:dt = .seq [Value.type m,Value.type n].toArray k:=e3;subst e2 e3;exact W.kia_tup Z I.nq hΦ e1 e hne fun tk=>⟨.bl b,H,I.tok tk,rfl,q⟩
theorem boot_isinstance:bootBuiltins "isinstance" = some (.builtin "isinstance"):=by decide+kernel
theorem boot_str:bootBuiltins "str" = some (.type "str"):=by decide+kernel
theorem boot_list:bootBuiltins "list" = some (.type "list"):=by decide+kernel
theorem boot_tuple:bootBuiltins "tuple" = some (.type "tuple"):=by decide+kernel
theorem w6:bootBuiltins "int" = some (.type "int"):=by decide+kernel
theorem uq:bootBuiltins "bool" = some (.type "bool"):=by decide+kernel
theorem ur:bootBuiltins "dict" = some (.type "dict"):=by decide+kernel
theorem Qk:bootBuiltins "set" = some (.type "set"):=by decide+kernel
end
mutual
def Is (K:W.Frag) (H:Hp):PyData→V→Prop
  | .none,v=>v = .non
  | .bool b,v=>v = .bl b
  | .int i,v=>v = .int i
  | .str x,v=>v = .str x
  | .list ds,v=>∃a xs,v = .ref a∧aY K H a xs∧qD K H ds xs
  | .tuple ds,v=>∃a xs,v = .ref a∧dz K H a xs∧qD K H ds xs
  | .dict _,_=>False
def qD (K:W.Frag) (H:Hp):List PyData→List V→Prop
  | [],vs=>vs=[]
  | d::ds,vs=>∃v r,vs=v::r∧Is K H d v∧qD K H ds r
end
section
variable {X:Cx} {p_:List (Addr×Obj)} {σ:St} {H:Hp} {s:Shared}
mutual
theorem Is.reads (I:Inv X p_ σ H s):∀(d:PyData) (v:V) (u:Value),Is X.K H d v→RelV v u→∃as,Reads s.heap u d as
  | .none,v,u,h,r=>by
    simp only[Is] at h;subst h;cases r;exact⟨_,.none⟩
  | .bool b,v,u,h,r=>by
    simp only[Is] at h;subst h;cases r;exact⟨_,.bool b⟩
  | .int i,v,u,h,r=>by
    simp only[Is] at h;subst h;obtain⟨t,rfl⟩:=r;exact⟨_,.int i t⟩
  | .str x,v,u,h,r=>by
    simp only[Is] at h;subst h;obtain⟨t,rfl⟩:=r;exact⟨_,.str x t⟩
  | .list ds,v,u,h,r=>by
    simp only[Is] at h;obtain⟨a,xs,rfl,hq,hs⟩:=h;cases r;obtain⟨its,rv,pl,hz⟩:=I.list hq;obtain⟨o,e,c,n,dt⟩:=pl.isList;obtain⟨as,ra⟩:=qD.reads I ds xs its hs rv;exact⟨_,.list e c dt (by simpa using ra)⟩
  | .tuple ds,v,u,h,r=>by
    simp only[Is] at h;obtain⟨a,xs,rfl,hq,hs⟩:=h;cases r;obtain⟨its,rv,pl,hz⟩:=I.tuple hq;obtain⟨o,e,c,n,dt⟩:=pl;obtain⟨as,ra⟩:=qD.reads I ds xs its hs rv;exact⟨_,.tuple e c dt (by simpa using ra)⟩
  | .dict _,v,u,h,r=>by
    simp only[Is] at h
theorem qD.reads (I:Inv X p_ σ H s):∀(ds:List PyData) (vs:List V) (us:List Value),qD X.K H ds vs→Vals vs us→∃as,ReadsAll s.heap us ds as
  | [],vs,us,h,r=>by
    simp only[qD] at h;subst h;cases r;exact⟨_,.nil⟩
  | d::ds,vs,us,h,r=>by
    simp only[qD] at h;obtain⟨v,vr,rfl,h1,h2⟩:=h;cases r with
    | cons r1 r2=>
      obtain⟨as,ra⟩:=Is.reads I d v _ h1 r1;obtain⟨bs,rb⟩:=qD.reads I ds vr _ h2 r2;exact⟨_,.cons ra rb⟩
end
theorem qaT:iZ X (compareOp .Eq) (fun x y H Q=>∃d e,Is X.K H d x∧Is X.K H e y∧d.canLay0=true∧e.canLay0=true∧X.A.units+min d.depth e.depth<cLine∧Q (.bl (PyData.eqv d e)) H):=by
  intro p_ s σ H x y v u Q I rx ry h;obtain⟨d,e,hx,hy,h1,h2,hu,q⟩:=h;obtain⟨as,ra⟩:=hx.reads I d x v rx;obtain⟨bs,rb⟩:=hy.reads I e y u ry;exact SeqAt.compareEq_reads ra rb h1 h2 hu ⟨.bl _,H,I,rfl,q⟩
end
section
variable {X:Cx}
def FT:V→List V→Hp→VK→Prop:=fun x vs H Q=>∃l xs i y,x = .ref l∧vs=[.int i,y]∧H l=some (.lst xs)∧0≤i∧i≤xs.length∧xs.length<sizeLine∧Q .non (upd H l (.lst (xs.take i.toNat++y::xs.drop i.toNat)))
theorem Vals.ins {y:V} {u:Value} (ru:RelV y u):∀{xs:List V} {us:List Value} (i:Nat),Vals xs us→Vals (xs.take i++y::xs.drop i) (us.take i++u::us.drop i):=fun i r=>(r.take i).append (.cons ru (r.drop i))
theorem Ql:MtM X "list.insert" FT:=by
  intro p_ s σ H x vs v us Q I rx rv h;obtain⟨l,xs,i,y,rfl,rfl,hH,h0,hi,hz,q⟩:=h;cases rx;obtain⟨u1,u,rfl,⟨t,rfl⟩,ru⟩:=rv.two;obtain⟨z,its,n,r,hl,e⟩:=I.KZ hH;have hn:=uo;have hfit:¬(!Builtin.List.listFitsIndex i)=true:=by
    unfold Builtin.List.listFitsIndex;simp;omega
  refine call_meets F.slot_list_insert ⟨_,e,rfl⟩ F.entry_list_insert (F.args_list_insert_3 _ _ _) (PySem.AutoListH.list_insert_list_int_val_1 l its.toArray n i t u hfit (by rw[List.size_toArray];omega)) ⟨e,?_⟩;refine⟨.non,_,I.qaN (its':=its.take i.toNat++u::its.drop i.toNat) hH e ?_ (r.ins ru i.toNat) ?_,rfl,q⟩
  · have hm:min i.toNat its.length=i.toNat:=by omega
    simp only[List.size_toArray];rw[if_neg (by omega),hm];apply Array.toList_inj.mp;simp;exact List.take_of_length_le (by simp)
  ·simp;omega
end
section
variable {X:Cx}
def tV:List V→List Bool→Prop
  | [],bs=>bs=[]
  | x::xs,bs=>∃b r,bs=b::r∧x = .bl b∧tV xs r
theorem tV.get:∀{xs:List V} {bs:List Bool} {its:List Value},tV xs bs→Vals xs its→xs.length=bs.length∧∀(i:Nat) (v:Value),its[i]? = some v→v = .bool (bs.getD i false)
  | [],bs,its,h,r=>by
    cases h;cases r;exact⟨rfl,fun i v e=>by simp at e⟩
  | x::xs,bs,its,h,r=>by
    obtain⟨b,br,rfl,rfl,h⟩:=h;cases r with
    | cons r1 r2=>
      obtain⟨h1,h2⟩:=tV.get h r2;refine⟨by simp[h1],fun i v e=>?_⟩;cases i with
      | zero=>
        simp at e;subst e;exact r1
      | succ i=>
        simp at e;simpa using h2 i v e
theorem range_all (bs:List Bool):(List.range bs.length).all (fun i=>bs.getD i false)=bs.all id:=by
  rw[Bool.eq_iff_iff,List.all_eq_true,List.all_eq_true];constructor
  ·intro h b hb;obtain⟨i,hi,rfl⟩:=List.mem_iff_getElem.mp hb;have:=h i (List.mem_range.mpr hi);simpa [List.getD,hi] using this
  ·intro h i hi;have hi':=List.mem_range.mp hi;have:=h bs[i] (List.getElem_mem hi');simpa [List.getD,hi'] using this
theorem Qm (hc:X.calm=true):cB X (.builtin "all") (fun xs H Q=>∃a ys bs,xs=[.ref a]∧H a=some (.lst ys)∧tV ys bs∧Q (.bl (bs.all id)) H):=by
  intro p_ s σ H xs us Q I r h;obtain⟨a,ys,bs,rfl,ha,hb,q⟩:=h;obtain⟨u,rfl,ru⟩:=r.one;obtain rfl:u=Value.ref a:=ru;obtain⟨z,its,n,rv,hl,e⟩:=I.KZ ha;obtain⟨h1,h2⟩:=hb.get rv;have hL:s.heap.IsList a its.toArray:=⟨_,e,rfl,n,rfl⟩;refine call_all_walk ?_;refine wpAny_pyIter_list hL ?_;have hne:a≠s.heap.objs.size:=Nat.ne_of_lt (Heap.lt_size e);have hL2:(s.heap.push {cls:=.type "list_iterator",data:=.fields #[.ref a,.int 0 0]}).IsList a its.toArray:=⟨_,Heap.get?_push_of_some _ e,rfl,n,rfl⟩;refine⟨s.heap.objs.size,_,_,_,_,_,fun i=>bs.getD i false,rfl,Walks.list (by exact I.ok.hd hc) s.heap.objs.size a hne its.toArray,⟨⟨_,Heap.get?_push_size _ rfl,rfl,rfl⟩,hL2⟩,fun i v s' Q' E' hP hQ=>?_,fun h' tk kk=>?_⟩
  ·obtain rfl:=h2 i v (by simpa using hP);exact wpAny_truthy_bool hQ
  · have e2:(List.range its.toArray.size).all (fun i=>bs.getD i false)=bs.all id:=by
      rw[List.size_toArray,← hl,h1];exact range_all bs
    rw[e2];refine⟨.bl _,H,?_,rfl,q⟩;exact I.kept (h':=h') (t':=tk) fun b o eb=>kk b o (by simp;exact Nat.ne_of_lt (Heap.lt_size eb)) (Heap.get?_push_of_some _ eb)
end
def FW (l:List Key) (k:Key):Bool:=l.any fun x=>decide (x=k)
theorem Tt {l:List Key} {k:Key}:FW l k=true↔k∈l:=by
  unfold FW;rw[List.any_eq_true];constructor
  ·rintro⟨x,hx,e⟩;have e':=of_decide_eq_true e;subst e';exact hx
  ·intro h;exact⟨k,h,decide_eq_true rfl⟩
theorem Tv (l:List Key) (x k:Key):FW (l++[x]) k=(FW l k || decide (k=x)):=by
  unfold FW;rw[List.any_append];simp only[List.any_cons,List.any_nil,Bool.or_false];congr 1;exact decide_eq_decide.mpr ⟨fun e=>e.symm,fun e=>e.symm⟩
def xg (acc:List Key) (k:Key):List Key:=if FW acc k=true then acc else acc++[k]
def CT (val:Nat→Key) (i:Nat):List Key:=((List.range i).map val).foldl xg []
theorem vA (val:Nat→Key) (i:Nat):CT val (i+1)=xg (CT val i) (val i):=by
  unfold CT;rw[List.range_succ,List.map_append,List.foldl_append];rfl
theorem Tw (val:Nat→Key):∀i,(CT val i).length≤i
  | 0=>Nat.le_refl _
  | i+1=>by
    rw[vA];have ih:=Tw val i;unfold xg;split
    ·omega
    ·rw[List.length_append,List.length_singleton];omega
theorem Tz (val:Nat→Key):∀n,(∀i j,i<n→j<n→val i=val j→i=j)→(CT val n).length=n∧∀k,k∈CT val n→∃i,i<n∧val i=k
  | 0,_=>⟨rfl,fun k h=>by simp[CT] at h⟩
  | n+1,h=>by
    obtain⟨h1,h2⟩:=Tz val n fun i j hi hj=>h i j (by omega) (by omega);have hnot:¬FW (CT val n) (val n)=true:=fun hm=>by
      obtain⟨i,hi,e⟩:=h2 _ (Tt.mp hm);have:=h i n (by omega) (by omega) e;omega
    rw[vA];unfold xg;rw[if_neg hnot];refine⟨by simp[h1],fun k hk=>?_⟩
    rcases List.mem_append.mp hk with z | z
    ·obtain⟨i,hi,e⟩:=h2 k z;exact⟨i,by omega,e⟩
    ·exact⟨n,by omega,(List.mem_singleton.mp z).symm⟩
theorem Xi {k:Key} {v:Value} (h:qw k v=true):v.scannable=true:=by
  rcases cJ h with⟨i,t,rfl,rfl⟩ | ⟨x,t,rfl,rfl⟩ <;> rfl
theorem Ir {P:Program} {w:World} {h:Heap} {a:Addr} {S S':Key→Bool} {n n':Nat} (x:h.SetOf (bL P w) a S n) (e:∀k,S k=S' k) (en:n=n'):h.SetOf (bL P w) a S' n':=by
  have:S=S':=funext e;subst this;subst en;exact x
abbrev mV (P:Program) (w:World) (h:Heap) (a:Addr) (l:List Key):Prop:=h.SetOf (bL P w) a (FW l) l.length
theorem mV.at {P:Program} {w:World} {h h':Heap} {a:Addr} {l:List Key} (x:mV P w h a l) (k:∀o,h.get? a=some o→h'.get? a=some o):mV P w h' a l:=by
  obtain⟨o,es,ep,t,e,r⟩:=x;exact⟨o,es,ep,t,k o e,r⟩
theorem DQ {P:Program} {w:World} {h:Heap} {a:Addr} {led:Bool} (e:h.get? a=some {cls:=.type "set",dict:=none,data:=.set #[] 0 (.fresh 0 0 led)}):mV P w h a []:=
  ⟨_,#[],0,.fresh 0 0 led,e,⟨rfl,rfl,rfl⟩,rfl,(fun x hx=>by simp at hx),(fun k=>by simp[FW]),(by unfold scanBound;decide),(by cases led <;> rfl),rfl⟩
section
variable {P:Program} {w:World} {A:Around} {R:Result→Shared→Prop} {I:Addr} {fp wr:List Addr} {n:Nat} {PP:Nat→Value→Prop} {St:Nat→Heap→Prop}
theorem Iu (qz:Walks P w A.in1 I fp wr n PP St) (S:Addr) (hSf:S∉fp) (val:Nat→Key) (hval:∀i v,PP i v→qw (val i) v=true) (hb:n+1<scanBound) :
    ∀(k i:Nat) (s:Shared),n - i=k→i≤n→St i s.heap→mV P w s.heap S (CT val i)→
      (∀h' tk,(∀b o,b≠S→b∉wr→s.heap.get? b=some o→h'.get? b=some o)→mV P w h' S (CT val n)→R (.ok (.ret .none)) {s with heap:=h',toks:=tk})→
      codeAny (model P w) A (.builtin "set.update.loop" ⟨[.ref S,.ref I],[]⟩) R s:=by
  have hSw:S∉wr:=fun h=>hSf (qz.sub _ h);intro k
  induction k with
  | zero=>
    intro i s hk hi hst hS hR;obtain rfl:i=n:=by omega
    refine codeAny_builtin PyProof.Rows.F.entry_set_update_loop ?_;rw[Around.under_plainId PyProof.Rows.F.plain_set_update_loop _];show wpAny _ A.in1 (pyNext (.ref I) >>= _) _ _ s;refine wpAny_bind (qz.done s _ _ hst fun h' tk hm=>?_);exact wpAny_pure (hR h' tk (fun b o _ hb e=>hm b o hb e) (hS.at fun o e=>hm S o hSw e))
  | succ k ih=>
    intro i s hk hi hst hS hR;have hlt:i<n:=by omega
    refine codeAny_builtin PyProof.Rows.F.entry_set_update_loop ?_;rw[Around.under_plainId PyProof.Rows.F.plain_set_update_loop _];show wpAny _ A.in1 (pyNext (.ref I) >>= _) _ _ s;refine wpAny_bind (qz.item i s _ _ hlt hst fun v h' tk hP hst' hm=>?_);have hkey:(bL P w).is (val i) v=true:=hval i v hP;have hS':mV P w h' S (CT val i):=hS.at fun o e=>hm S o hSw e;show wpAny _ A.in1 (holding [v] (setAdd S v) >>= _) _ _ _;refine wpAny_bind (wpAny_holding ?_);unfold setAdd;refine wpAny_holding (wpAny_bind ((bL P w).pyHash (k:=val i) hkey ?_));have hroom:(CT val i).length+1<scanBound:=by have:=Tw val i;omega
    refine wpAny_setAddHashed_of (knd:=bL P w) (s:={s with heap:=h',toks:=tk+1}) hkey (Xi (hval i v hP)) hS' hroom fun h2 hsb hS2=>?_;have hSi:mV P w h2 S (CT val (i+1)):=by
      refine Ir hS2 (fun k'=>?_) ?_
      · rw[vA];unfold xg;split
        · rename_i hm1
          by_cases e:k'=val i
          ·rw[e,hm1];rfl
          ·rw[decide_eq_false e,Bool.or_false]
        ·exact(Tv _ _ _).symm
      · rw[vA];unfold xg;split
        ·rfl
        ·rw[List.length_append,List.length_singleton]
    refine wpAny_pure ⟨plainId_quiet PyProof.Rows.F.plain_set_update_loop _,ih (i+1) _ (by omega) hlt (qz.frame _ h' _ hst' fun b hb o e=>?_) hSi fun h3 tk3 hm3 hS3=>?_⟩
    ·exact(hsb.2 b (fun z:b=S=>hSf (by rw[← z];exact hb))).trans e
    ·refine hR h3 tk3 (fun b o hbS hbw e=>hm3 b o hbS hbw ?_) hS3;exact(hsb.2 b hbS).trans (hm b o hbw e)
end
theorem CV:isSubtype (.type "list") (.type "set")=pure false:=by rw[isSubtype_type];kernel_rfl
theorem xq:isSubtype (.type "list") (.type "frozenset")=pure false:=by rw[isSubtype_type];kernel_rfl
set_option maxHeartbeats 4000000 in
theorem Iv {P:Program} {w:World} {A:Around} {E:Value→Shared→Prop} {s:Shared} {l:Addr} {its:Array Value} {val:Nat→Key} {Q:Value→Shared→Prop}
    (hh:A.handled=none) (hl:s.heap.IsList l its) (hval:∀i v,its[i]? = some v→qw (val i) v=true) (hb:its.size+1<scanBound)
    (h:∀(g:Heap) (tk:Nat),mV P w g s.heap.objs.size (CT val its.size)→(∀b o,s.heap.get? b=some o→g.get? b=some o)→Q (.ref s.heap.objs.size) {s with heap:=g,toks:=tk}) :
    wpAny (model P w) A (call (.type "set") [.ref l]) Q E s:=by
  obtain⟨c,tl,hmro⟩:=PySem.F.called_set.mro;have q1:=PySem.F.called_set.made;have q2:=PySem.F.called_set.sub;refine wpAny_call (codeAny_of_tree ?_);show wpAny _ _ (callAny (.type "set") _) _ _ s;refine wpAny_pure ⟨Code.quiet_builtin _ (by decide+kernel),codeAny_builtin PySem.F.entry_type_call ?_⟩;rw[Around.under_plain (weight_type_call_type "set" [.ref l] []) rfl];have q3:=PySem.F.called_set.notType;have q4:=PySem.F.called_set.canCreate;have q5:=PySem.F.typeCall_set_1 (.ref l)
  repeat (any_goals (first | assumption | wp_step))
  refine codeAny_mono (code_set_new_1 (.ref l) (E:=E) (Q₁:=fun ob s1=>∃led:Bool,ob = .ref s.heap.objs.size∧s1={s with heap:=s.heap.push {cls:=.type "set",dict:=none,data:=.set #[] 0 (.fresh 0 0 led)}}) fun led=>⟨led,rfl,rfl⟩) fun r s1 hr=>?_;cases r with
  | error e=>exact hr
  | ok fl=>
    cases fl with
    | ret ob=>
      obtain⟨led,rfl,rfl⟩:=hr;have new:(s.heap.push {cls:=.type "set",dict:=none,data:=.set #[] 0 (.fresh 0 0 led)}).get? s.heap.objs.size=some {cls:=.type "set",dict:=none,data:=.set #[] 0 (.fresh 0 0 led)}:=Heap.get?_push_size _ rfl;have ty:Shared.TypeIs {s with heap:=s.heap.push {cls:=.type "set",dict:=none,data:=.set #[] 0 (.fresh 0 0 led)}} (.ref s.heap.objs.size) "set" :=⟨_,new,rfl⟩;have q6:=PySem.F.called_set.init.lookup;have q7:=PySem.F.called_set.init.bind (.ref s.heap.objs.size)
      repeat (any_goals (first | assumption | wp_step))
      refine codeAny_mono (codeAny_call_builtin (R:=wants (fun r s2=>r = .none∧∃g tk,s2={s with heap:=g,toks:=tk}∧mV P w g s.heap.objs.size (CT val its.size)∧(∀b o,s.heap.get? b=some o→g.get? b=some o)) E)
        PySem.F.called_set.init.plain PySem.F.entry_set_init (check_set_init_1 ty ?_)) fun r2 s2 hr2=>?_
      · obtain⟨ol,ho,hcl,nl,hdl⟩:=hl;obtain⟨oc,od,odt,osl⟩:=ol;simp only at hcl hdl;subst hcl;subst hdl;have ho2:(s.heap.push {cls:=.type "set",dict:=none,data:=.set #[] 0 (.fresh 0 0 led)}).get? l=some {cls:=.type "list",dict:=od,data:=.seq its nl,slots:=osl}:=Heap.get?_push_of_some _ ho;have q8:=CV;have q9:=xq;have q10:(Value.type "list" == Value.type "dict")=false:=by decide
        have hl1:(s.heap.push {cls:=.type "set",dict:=none,data:=.set #[] 0 (.fresh 0 0 led)}).IsList l its:=⟨_,ho2,rfl,nl,rfl⟩;unfold Builtin.«set.__init__» noKeywords Builtin.Frozenset.updateFrom;generalize hPI:pyIter=PI
        wp_walk
        subst hPI;refine wpAny_pyIter_list hl1 ?_;refine wpAny_bind (wpAny_runValue ?_);have lt1:l<s.heap.objs.size:=Heap.lt_size ho;have hh3:A.in1.in1.in1.handled=none:=by simp[hh]
        have ne1:l≠(s.heap.push {cls:=.type "set",dict:=none,data:=.set #[] 0 (.fresh 0 0 led)}).objs.size:=by
          rw[Heap.size_push];exact Nat.ne_of_lt (Nat.lt_succ_of_lt lt1)
        have nf:s.heap.objs.size∉[(s.heap.push {cls:=.type "set",dict:=none,data:=.set #[] 0 (.fresh 0 0 led)}).objs.size,l]:=by
          rw[Heap.size_push];simp only[List.mem_cons,List.mem_singleton,List.not_mem_nil,or_false,not_or];exact⟨Nat.ne_of_lt (Nat.lt_succ_self _),Nat.ne_of_gt lt1⟩
        refine Iu (Walks.list hh3 _ l ne1 its) s.heap.objs.size nf val hval hb (its.size - 0) 0 _ (by omega) (Nat.zero_le _) ⟨⟨_,Heap.get?_push_size _ rfl,rfl,rfl⟩,hl1.push _⟩ ?hS0 ?hR
        case hS0=>
          have hget:((s.heap.push {cls:=.type "set",dict:=none,data:=.set #[] 0 (.fresh 0 0 led)}).push {cls:=.type "list_iterator",data:=.fields #[.ref l,.int 0 0]}).get? s.heap.objs.size
              = some {cls:=.type "set",dict:=none,data:=.set #[] 0 (.fresh 0 0 led)}:=Heap.get?_push_of_some _ new
          exact DQ hget
        case hR=>
          intro g tk hm hS;show wpAny _ _ _ _ _ _;refine wpAny_pure ?_;show wpAny _ _ (ret Value.none) _ _ _;refine wpAny_pure ⟨rfl,g,tk,rfl,hS,fun b o e=>?_⟩;have lb:b<s.heap.objs.size:=Heap.lt_size e;refine hm b o (Nat.ne_of_lt lb) ?_ (Heap.get?_push_of_some _ (Heap.get?_push_of_some _ e));simp only[List.mem_cons,List.not_mem_nil,or_false];rw[Heap.size_push];exact Nat.ne_of_lt (Nat.lt_succ_of_lt lb)
      · cases r2 with
        | error e=>exact hr2
        | ok fl2=>
          cases fl2 with
          | ret r=>
            obtain⟨rfl,g,tk,rfl,hS,hk⟩:=hr2
            repeat (any_goals (first | assumption | wp_step))
            exact h _ _ hS hk
          | _=>exact hr2.elim
    | _=>exact hr.elim
theorem z7:isSubtype (.type "tuple") (.type "set")=pure false:=by rw[isSubtype_type];kernel_rfl
theorem vB:isSubtype (.type "tuple") (.type "frozenset")=pure false:=by rw[isSubtype_type];kernel_rfl
set_option maxHeartbeats 4000000 in
theorem FZ {P:Program} {w:World} {A:Around} {E:Value→Shared→Prop} {s:Shared} {l:Addr} {its:Array Value} {val:Nat→Key} {Q:Value→Shared→Prop}
    (hh:A.handled=none) (hl:s.heap.IsTuple l its) (hval:∀i v,its[i]? = some v→qw (val i) v=true) (hb:its.size+1<scanBound)
    (h:∀(g:Heap) (tk:Nat),mV P w g s.heap.objs.size (CT val its.size)→(∀b o,s.heap.get? b=some o→g.get? b=some o)→Q (.ref s.heap.objs.size) {s with heap:=g,toks:=tk}) :
    wpAny (model P w) A (call (.type "set") [.ref l]) Q E s:=by
  obtain⟨c,tl,hmro⟩:=PySem.F.called_set.mro;have q1:=PySem.F.called_set.made;have q2:=PySem.F.called_set.sub;refine wpAny_call (codeAny_of_tree ?_);show wpAny _ _ (callAny (.type "set") _) _ _ s;refine wpAny_pure ⟨Code.quiet_builtin _ (by decide+kernel),codeAny_builtin PySem.F.entry_type_call ?_⟩;rw[Around.under_plain (weight_type_call_type "set" [.ref l] []) rfl];have q3:=PySem.F.called_set.notType;have q4:=PySem.F.called_set.canCreate;have q5:=PySem.F.typeCall_set_1 (.ref l)
  repeat (any_goals (first | assumption | wp_step))
  refine codeAny_mono (code_set_new_1 (.ref l) (E:=E) (Q₁:=fun ob s1=>∃led:Bool,ob = .ref s.heap.objs.size∧s1={s with heap:=s.heap.push {cls:=.type "set",dict:=none,data:=.set #[] 0 (.fresh 0 0 led)}}) fun led=>⟨led,rfl,rfl⟩) fun r s1 hr=>?_;cases r with
  | error e=>exact hr
  | ok fl=>
    cases fl with
    | ret ob=>
      obtain⟨led,rfl,rfl⟩:=hr;have new:(s.heap.push {cls:=.type "set",dict:=none,data:=.set #[] 0 (.fresh 0 0 led)}).get? s.heap.objs.size=some {cls:=.type "set",dict:=none,data:=.set #[] 0 (.fresh 0 0 led)}:=Heap.get?_push_size _ rfl;have ty:Shared.TypeIs {s with heap:=s.heap.push {cls:=.type "set",dict:=none,data:=.set #[] 0 (.fresh 0 0 led)}} (.ref s.heap.objs.size) "set" :=⟨_,new,rfl⟩;have q6:=PySem.F.called_set.init.lookup;have q7:=PySem.F.called_set.init.bind (.ref s.heap.objs.size)
      repeat (any_goals (first | assumption | wp_step))
      refine codeAny_mono (codeAny_call_builtin (R:=wants (fun r s2=>r = .none∧∃g tk,s2={s with heap:=g,toks:=tk}∧mV P w g s.heap.objs.size (CT val its.size)∧(∀b o,s.heap.get? b=some o→g.get? b=some o)) E)
        PySem.F.called_set.init.plain PySem.F.entry_set_init (check_set_init_1 ty ?_)) fun r2 s2 hr2=>?_
      · obtain⟨ol,ho,hcl,nl,hdl⟩:=hl;obtain⟨oc,od,odt,osl⟩:=ol;simp only at hcl hdl;subst hcl;subst hdl;have ho2:(s.heap.push {cls:=.type "set",dict:=none,data:=.set #[] 0 (.fresh 0 0 led)}).get? l=some {cls:=.type "tuple",dict:=od,data:=.seq its nl,slots:=osl}:=Heap.get?_push_of_some _ ho;have q8:=z7;have q9:=vB;have q10:(Value.type "tuple" == Value.type "dict")=false:=by decide
        have hl1:(s.heap.push {cls:=.type "set",dict:=none,data:=.set #[] 0 (.fresh 0 0 led)}).IsTuple l its:=⟨_,ho2,rfl,nl,rfl⟩;unfold Builtin.«set.__init__» noKeywords Builtin.Frozenset.updateFrom;generalize hPI:pyIter=PI
        wp_walk
        subst hPI;refine wpAny_pyIter_tuple hl1 ?_;refine wpAny_bind (wpAny_runValue ?_);have lt1:l<s.heap.objs.size:=Heap.lt_size ho;have hh3:A.in1.in1.in1.handled=none:=by simp[hh]
        have ne1:l≠(s.heap.push {cls:=.type "set",dict:=none,data:=.set #[] 0 (.fresh 0 0 led)}).objs.size:=by
          rw[Heap.size_push];exact Nat.ne_of_lt (Nat.lt_succ_of_lt lt1)
        have nf:s.heap.objs.size∉[(s.heap.push {cls:=.type "set",dict:=none,data:=.set #[] 0 (.fresh 0 0 led)}).objs.size,l]:=by
          rw[Heap.size_push];simp only[List.mem_cons,List.mem_singleton,List.not_mem_nil,or_false,not_or];exact⟨Nat.ne_of_lt (Nat.lt_succ_self _),Nat.ne_of_gt lt1⟩
        refine Iu (Walks.tuple hh3 _ l ne1 its) s.heap.objs.size nf val hval hb (its.size - 0) 0 _ (by omega) (Nat.zero_le _) ⟨⟨_,Heap.get?_push_size _ rfl,rfl,rfl⟩,⟨_,Heap.get?_push_of_some _ ho2,rfl,nl,rfl⟩⟩ ?hS0 ?hR
        case hS0=>
          have hget:((s.heap.push {cls:=.type "set",dict:=none,data:=.set #[] 0 (.fresh 0 0 led)}).push {cls:=.type "tuple_iterator",data:=.fields #[.ref l,.int 0 0]}).get? s.heap.objs.size
              = some {cls:=.type "set",dict:=none,data:=.set #[] 0 (.fresh 0 0 led)}:=Heap.get?_push_of_some _ new
          exact DQ hget
        case hR=>
          intro g tk hm hS;show wpAny _ _ _ _ _ _;refine wpAny_pure ?_;show wpAny _ _ (ret Value.none) _ _ _;refine wpAny_pure ⟨rfl,g,tk,rfl,hS,fun b o e=>?_⟩;have lb:b<s.heap.objs.size:=Heap.lt_size e;refine hm b o (Nat.ne_of_lt lb) ?_ (Heap.get?_push_of_some _ (Heap.get?_push_of_some _ e));simp only[List.mem_cons,List.not_mem_nil,or_false];rw[Heap.size_push];exact Nat.ne_of_lt (Nat.lt_succ_of_lt lb)
      · cases r2 with
        | error e=>exact hr2
        | ok fl2=>
          cases fl2 with
          | ret r=>
            obtain⟨rfl,g,tk,rfl,hS,hk⟩:=hr2
            repeat (any_goals (first | assumption | wp_step))
            exact h _ _ hS hk
          | _=>exact hr2.elim
    | _=>exact hr.elim
def Xj (P:Program) (w:World) (a:Addr) (l:List Key):HO:=.ext fun h=>mV P w h a l
section
variable {X:Cx}
def keysOf:List V→List Key
  | []=>[]
  | .int i::r=>.inl i::keysOf r
  | .str x::r=>.inr x::keysOf r
  | _::r=>keysOf r
def isKey:V→Bool
  | .int _=>true
  | .str _=>true
  | _=>false
theorem Ga:∀{xs:List V} {its:List Value},xs.all isKey=true→Vals xs its→(keysOf xs).length=its.length∧∀(i:Nat) (v:Value),its[i]? = some v→qw ((keysOf xs).getD i (.inl 0)) v=true
  | [],_,_,.nil=>⟨rfl,fun i v e=>by simp at e⟩
  | x::xs,u::us,h,.cons r1 r2=>by
    rw[List.all_cons,Bool.and_eq_true] at h;obtain⟨h1,h2⟩:=Ga h.2 r2;cases x with
    | int i=>
      obtain⟨t,rfl⟩:=r1;refine⟨by simp[keysOf,h1],fun j v e=>?_⟩;cases j with
      | zero=>simp at e;subst e;exact Dr i t
      | succ j=>simp at e;simpa [keysOf] using h2 j v e
    | str z=>
      obtain⟨t,rfl⟩:=r1;refine⟨by simp[keysOf,h1],fun j v e=>?_⟩;cases j with
      | zero=>simp at e;subst e;exact Ds z t
      | succ j=>simp at e;simpa [keysOf] using h2 j v e
    | _=>exact absurd (show false=true from h.1) Bool.false_ne_true
theorem Qn (hc:X.calm=true):cB X (.type "set") (fun xs H Q=>∃a ys,xs=[.ref a]∧(aY X.K H a ys∨dz X.K H a ys)∧ys.all isKey=true∧ys.length+1<scanBound∧
    ∀p,H p=none→Q (.ref p) (upd H p (Xj X.prog X.w p (CT (fun i=>(keysOf ys).getD i (.inl 0)) ys.length)))):=by
  intro p_ s σ H xs us Q I r h;obtain⟨a,ys,rfl,hq,hk,hb,q⟩:=h;obtain⟨u,rfl,ru⟩:=r.one;obtain rfl:u=Value.ref a:=ru;have fin:∀(g:Heap) (tk:Nat),mV X.prog X.w g s.heap.objs.size (CT (fun i=>(keysOf ys).getD i (.inl 0)) ys.length)→(∀b o,s.heap.get? b=some o→g.get? b=some o)→EP X p_ σ Q (.ref s.heap.objs.size) {s with heap:=g,toks:=tk}:=fun g tk hS kk=>by
    have hn:H s.heap.objs.size=none:=I.hok.fresh (Nat.le_refl _);refine⟨.ref s.heap.objs.size,_,I.laid (o:=Xj X.prog X.w s.heap.objs.size (CT (fun i=>(keysOf ys).getD i (.inl 0)) ys.length)) (fun b o e=>kk b o e) (Nat.le_refl _) ⟨hS,?_,fun h1 h2 p k=>p.at k⟩,rfl,q _ hn⟩;obtain⟨o,_,_,_,e,_⟩:=hS;exact⟨o,e⟩
  rcases hq with hq | hq
  · obtain⟨its,rv,pl,hz⟩:=I.list hq;obtain⟨h1,h2⟩:=Ga hk rv;have hl:=rv.length;refine Iv (val:=fun i=>(keysOf ys).getD i (.inl 0)) (I.ok.hd hc) pl.isList (fun i v e=>h2 i v (by simpa using e)) (by rw[List.size_toArray];omega) fun g tk hS kk=>fin g tk ?_ kk;have ez:its.toArray.size=ys.length:=by rw[List.size_toArray,hl]
    rw[ez] at hS;exact hS
  · obtain⟨its,rv,pl,hz⟩:=I.tuple hq;obtain⟨h1,h2⟩:=Ga hk rv;have hl:=rv.length;refine FZ (val:=fun i=>(keysOf ys).getD i (.inl 0)) (I.ok.hd hc) (show s.heap.IsTuple a its.toArray from pl) (fun i v e=>h2 i v (by simpa using e)) (by rw[List.size_toArray];omega) fun g tk hS kk=>fin g tk ?_ kk;have ez:its.toArray.size=ys.length:=by rw[List.size_toArray,hl]
    rw[ez] at hS;exact hS
theorem Qo:cB X (.builtin "len") (fun xs H Q=>∃a l,xs=[.ref a]∧H a=some (Xj X.prog X.w a l)∧Q (.int l.length) H):=by
  intro p_ s σ H xs us Q I r h;obtain⟨a,l,rfl,ha,q⟩:=h;obtain⟨u,rfl,ru⟩:=r.one;obtain rfl:u=Value.ref a:=ru;obtain⟨⟨o,es,ep,t,e,ex,hd,_,_,hsz,hf,hn⟩,_⟩:=(show bY X.prog X.w H s.heap a (Xj X.prog X.w a l) from I.hok a _ ha);refine call_len_set e ex hd hf (by unfold scanBound at hsz;omega) ⟨.int l.length,H,I.tok _,⟨_,by rw[hn]⟩,q⟩
end
section
variable {X:Cx}
def qc7:R2:=fun x y H Q=>∃i j,x = .str i∧y = .str j∧i.length+j.length≤sizeLine∧Q (.str (i++j)) H
def qih:R2:=fun x y H Q=>∃i j,x = .str i∧y = .str j∧Q (.bl (!(Builtin.Str.occurrences j i 0 j.length 1).isEmpty)) H
def Xk:R2:=fun x y H Q=>∃i j,x = .str i∧y = .str j∧Q (.bl (!(!(Builtin.Str.occurrences j i 0 j.length 1).isEmpty))) H
def Xl (K:W.Frag):R2:=fun x y H Q=>rIn K false x y H Q∨qih x y H Q
def Gb (K:W.Frag):R2:=fun x y H Q=>rIn K true x y H Q∨Xk x y H Q
theorem qaU:iZ X (compareOp .In) (Xl X.K):=Qe.or PN
theorem Qp:iZ X (compareOp .NotIn) (Gb X.K):=Fx.or Fy
def qaV (K:W.Frag):R2:=fun x y H Q=>∃p xs i v,x = .ref p∧y = .int i∧(aY K H p xs∨dz K H p xs)∧CJ xs i=some v∧Q v H
theorem ixQ:S_ X (qaV X.K):=by
  intro value slice p_ s σ H x y v u Q I rx ry h hs;obtain⟨p,xs,i,z,e1,e2,hq | hq,e3,q⟩:=h
  ·exact Xa value slice p_ s σ H x y v u Q I rx ry ⟨p,xs,i,z,e1,e2,hq,e3,q⟩ hs
  ·exact qaH value slice p_ s σ H x y v u Q I rx ry ⟨p,xs,i,z,e1,e2,hq,e3,q⟩ hs
def Zm (K:W.Frag):List V→Hp→VK→Prop:=fun xs H Q=>∃p ys,xs=[.ref p]∧(aY K H p ys∨dz K H p ys)∧Q (.int ys.length) H
def Zn:List V→Hp→VK→Prop:=fun xs H Q=>∃z,xs=[.str z]∧z.length≤sizeLine∧Q (.int z.length) H
variable {K:W.Frag}
theorem qii (hK:X.K=K):S_ X (qaV K):=by subst hK;exact ixQ
theorem inK (hK:X.K=K):iZ X (compareOp .In) (Xl K):=by subst hK;exact qaU
theorem qaW (hK:X.K=K):iZ X (compareOp .NotIn) (Gb K):=by subst hK;exact Qp
theorem qc8 (hK:X.K=K):cB X (.builtin "len") (Zm K):=by subst hK;exact Fz
theorem qc9:cB X (.builtin "len") Zn:=FJ
def N_ (K:W.Frag):List V→Hp→VK→Prop:=fun xs H Q=>∃p ys,xs=[.ref p]∧(aY K H p ys∨dz K H p ys)∧∀l,H l=none→Q (.ref l) (upd H l (.lst ys))
theorem Xm (hK:X.K=K):cB X (.type "list") (N_ K):=by subst hK;exact FN
def Zo (K:W.Frag):List V→Hp→VK→Prop:=fun xs H Q=>∃x n t b,xs=[x,.ty n]∧lQ K H x t∧W.kitOne K t (.type n)=some b∧Q (.bl b) H
theorem qc_ (hK:X.K=K):cB X (.builtin "isinstance") (Zo K):=by subst hK;exact Qi
def Zq (K:W.Frag):List V→Hp→VK→Prop:=fun xs H Q=>∃x p m n t b,xs=[x,.ref p]∧H p=some (.tup [.ty m,.ty n])∧lQ K H x t∧W.kitAny K t [.type m,.type n]=some b∧Q (.bl b) H
theorem qda (hK:X.K=K):cB X (.builtin "isinstance") (Zq K):=by subst hK;exact Qj
theorem fj (hK:X.K=K) {es:List Expr} {k:Nat} {pos:Pos} {t:HS} {n:Nat} (hc:X.calm=true) (h:jg X es t)
    (hn:(assignEach es X.env).length=n:=by rfl) (hst:(assignEach es X.env).findIdx? (·.1)=none:=by rfl):PG X (.Tuple es k pos) (WY K n t):=by subst hK;exact qar hc h hn hst
theorem d8 (hK:X.K=K) {tg l:Expr} {tl:TE} (hl:PE X l tl):PI X tg l (Nv K tl):=by subst hK;exact W2 hl
theorem Gd (hK:X.K=K) {e:Expr} {ta:TE} {f:Str} {pos:Pos} (he:PE X e ta) (hb:attributeBase e f X.env (eval e X.env)=eval e X.env):PE X (.Attribute e f pos) (W8 K ta f):=by subst hK;exact qaE he hb
theorem nC (hK:X.K=K) {o e:Expr} {es:List Expr} {to:TE} {t:TA} {name:Str} {apos cpos:Pos} {T id:String} {r:V→List V→Hp→VK→Prop} (pa:PlainAttrs T) (slot:Slot T name id) (hty:typeOf (.builtin id)=pure (.type "method_descriptor")) (hm:KQ X id r) (ho:PE X o to) (ha:PA X (e::es) t)
    (hbase:attributeBase o name X.env (eval o X.env)=eval o X.env:=by rfl)
    (hfew:((backTo cpos (starEach (e::es) X.env)).all (fun x=>!x.1) && (backToKw cpos (keywordEach [] X.env)).all (fun x=>x.1.isSome)
      && decide ((e::es).length+([]:List Keyword).length+(if ([]:List Keyword).isEmpty then 0 else 1)<30))=true:=by rfl)
    (hline:(apos.endLine == cpos.line)=true:=by rfl) (hs:starEach (e::es) X.env=(false,eval e X.env)::starEach es X.env:=by rfl) (hplain:(backTo cpos (starEach es X.env)).any (·.1)=false:=by rfl) :
    PE X (.Call (.Attribute o name apos) (e::es) [] cpos) (tBM K T r to t):=by subst hK;exact qc0 pa slot hty hm ho ha hbase hfew hline hs hplain
theorem jm:bootBuiltins "all" = some (.builtin "all"):=by decide+kernel
theorem boot_max:bootBuiltins "max" = some (.builtin "max"):=by decide+kernel
theorem boot_min:bootBuiltins "min" = some (.builtin "min"):=by decide+kernel
theorem boot_abs:bootBuiltins "abs" = some (.builtin "abs"):=by decide+kernel
theorem boot_divmod:bootBuiltins "divmod" = some (.builtin "divmod"):=by decide+kernel
end
structure Nm (mg:Str→Option Value):Prop where
  len:mg "len" = none
  max:mg "max" = none
  min:mg "min" = none
  abs:mg "abs" = none
  divmod:mg "divmod" = none
  range:mg "range" = none
  zip:mg "zip" = none
  list:mg "list" = none
  tuple:mg "tuple" = none
  int:mg "int" = none
  str:mg "str" = none
  set:mg "set" = none
  all:mg "all" = none
  isinstance:mg "isinstance" = none
section
variable {K:W.Frag} {own:List Str} {caps:List Nat} {g:TG} {tt:TT} {te:TE} {D:Addr} {σ:St} {H:Hp} {Q:Hp→Prop}
abbrev DR (g:TG) (tt:TT) (te:TE) (D:Addr) (N:St→Hp→Prop) (x:V) (σ:St) (H:Hp):Prop:=
  g x σ H fun σ2 H3=>tt σ2 H3 fun b H4=>if b=true then te σ2 H4 fun y H5=>∃ys,H5 D=some (.lst ys)∧ys.length<sizeLine∧N σ2 (upd H5 D (.lst (ys++[y]))) else N σ2 H4
theorem DW {l:Addr} {xs:List V} (Pv:Nat→St→Hp→Prop) (h0:Pv 0 (stC own caps σ) H) (hl:∀i σ H,i≤xs.length→Pv i σ H→aY K H l xs)
    (hs:∀i x σ H,xs[i]? = some x→Pv i σ H→DR g tt te D (Pv (i+1)) x σ H) (hd:∀σ H,Pv xs.length σ H→Q H):lR own caps (RJ K l) g tt te D σ H Q:=by
  refine⟨fun i m σ H=>m=xs.length - i∧i≤xs.length∧Pv i σ H,⟨xs.length,by simp,Nat.zero_le _,h0⟩,?_⟩;rintro i m σ H ⟨rfl,hi,p⟩;have q:=hl i σ H hi p
  by_cases hlt:i<xs.length
  ·refine .inr ⟨⟨xs,xs[i],q,by simp[hlt]⟩,Pv (i+1),fun σ' H' p'=>⟨xs.length - (i+1),by omega,rfl,hlt,p'⟩,fun x H' y=>?_⟩;obtain⟨e,y⟩:=y;subst e;exact hs i x σ _ (y xs q) p
  · have e:i=xs.length:=by omega
    subst e;exact .inl ⟨⟨xs,q,Nat.le_refl _⟩,hd σ H p⟩
theorem TF {l:Addr} {xs:List V} (Pv:Nat→St→Hp→Prop) (h0:Pv 0 (stC own caps σ) H) (hl:∀i σ H,i≤xs.length→Pv i σ H→dz K H l xs)
    (hs:∀i x σ H,xs[i]? = some x→Pv i σ H→DR g tt te D (Pv (i+1)) x σ H) (hd:∀σ H,Pv xs.length σ H→Q H):lR own caps (Itt K l) g tt te D σ H Q:=by
  refine⟨fun i m σ H=>m=xs.length - i∧i≤xs.length∧Pv i σ H,⟨xs.length,by simp,Nat.zero_le _,h0⟩,?_⟩;rintro i m σ H ⟨rfl,hi,p⟩;have q:=hl i σ H hi p
  by_cases hlt:i<xs.length
  ·refine .inr ⟨⟨xs,xs[i],q,by simp[hlt]⟩,Pv (i+1),fun σ' H' p'=>⟨xs.length - (i+1),by omega,rfl,hlt,p'⟩,fun x H' y=>?_⟩;obtain⟨e,y⟩:=y;subst e;exact hs i x σ _ (y xs q) p
  · have e:i=xs.length:=by omega
    subst e;exact .inl ⟨⟨xs,q,Nat.le_refl _⟩,hd σ H p⟩
theorem K6 {lo:Int} {n:Nat} (Pv:Nat→St→Hp→Prop) (h0:Pv 0 (stC own caps σ) H)
    (hs:∀i σ H,i<n→Pv i σ H→DR g tt te D (Pv (i+1)) (.int (lo+i)) σ H) (hd:∀σ H,Pv n σ H→Q H):lR own caps (Kh lo n) g tt te D σ H Q:=by
  refine⟨fun i m σ H=>m=n - i∧i≤n∧Pv i σ H,⟨n,by simp,Nat.zero_le _,h0⟩,?_⟩;rintro i m σ H ⟨rfl,hi,p⟩
  by_cases hlt:i<n
  ·refine .inr ⟨hlt,Pv (i+1),fun σ' H' p'=>⟨n - (i+1),by omega,rfl,hlt,p'⟩,fun x H' y=>?_⟩;obtain⟨e,y⟩:=y;subst e y;exact hs i σ _ hlt p
  · have e:i=n:=by omega
    subst e;exact .inl ⟨Nat.le_refl _,hd σ H p⟩
theorem TJ {z:Str} (Pv:Nat→St→Hp→Prop) (h0:Pv 0 (stC own caps σ) H)
    (hs:∀i c σ H,z.cps[i]? = some c→Pv i σ H→DR g tt te D (Pv (i+1)) (.str ⟨#[c]⟩) σ H) (hd:∀σ H,Pv z.cps.size σ H→Q H):lR own caps (Its z) g tt te D σ H Q:=by
  refine⟨fun i m σ H=>m=z.cps.size - i∧i≤z.cps.size∧Pv i σ H,⟨z.cps.size,by simp,Nat.zero_le _,h0⟩,?_⟩;rintro i m σ H ⟨rfl,hi,p⟩
  by_cases hlt:i<z.cps.size
  ·refine .inr ⟨hlt,Pv (i+1),fun σ' H' p'=>⟨z.cps.size - (i+1),by omega,rfl,hlt,p'⟩,fun x H' y=>?_⟩;obtain⟨e,c,hc,rfl⟩:=y;subst e;exact hs i c σ _ hc p
  · have e:i=z.cps.size:=by omega
    subst e;exact .inl ⟨Nat.le_refl _,hd σ H p⟩
theorem TQ {l1 l2:Addr} {xs ys:List V} (Pv:Nat→St→Hp→Prop) (h0:Pv 0 (stC own caps σ) H) (he:xs.length=ys.length) (hl:∀i σ H,i≤xs.length→Pv i σ H→aY K H l1 xs∧aY K H l2 ys)
    (hs:∀i x y t σ H,xs[i]? = some x→ys[i]? = some y→H t=none→Pv i σ H→DR g tt te D (Pv (i+1)) (.ref t) σ (upd H t (.tup [x,y]))) (hd:∀σ H,Pv xs.length σ H→Q H):lR own caps (Zk K l1 l2) g tt te D σ H Q:=by
  refine⟨fun i m σ H=>m=xs.length - i∧i≤xs.length∧Pv i σ H,⟨xs.length,by simp,Nat.zero_le _,h0⟩,?_⟩;rintro i m σ H ⟨rfl,hi,p⟩;obtain⟨q1,q2⟩:=hl i σ H hi p
  by_cases hlt:i<xs.length
  · have hlt2:i<ys.length:=by omega
    refine .inr ⟨⟨xs,ys,xs[i],ys[i],q1,q2,by simp[hlt],by simp[hlt2]⟩,Pv (i+1),fun σ' H' p'=>⟨xs.length - (i+1),by omega,rfl,hlt,p'⟩,fun x H' y=>?_⟩;obtain⟨t,u,v,rfl,ht,rfl,e1,e2⟩:=y;exact hs i u v t σ H (e1 xs q1) (e2 ys q2) ht p
  · have e:i=xs.length:=by omega
    subst e;exact .inl ⟨⟨xs,ys,q1,q2,.inl (Nat.le_refl _)⟩,hd σ H p⟩
end
def Zr (b:Bool) (K:W.Frag) (H:Hp) (p:Addr) (xs:List V):Prop:=match b with | true=>aY K H p xs | false=>dz K H p xs
def Itq (b:Bool) (K:W.Frag) (p:Addr):It:=match b with | true=>RJ K p | false=>Itt K p
def qaX (K:W.Frag) (tl:TE):TI:=fun σ H R=>tl σ H fun x H1=>∃b p,x = .ref p∧(∃xs,Zr b K H1 p xs)∧R (Itq b K p) H1
theorem zf {X:Cx} {K:W.Frag} (hK:X.K=K) {tg l:Expr} {tl:TE} (hl:PE X l tl):PI X tg l (qaX K tl):=by
  intro p_ s σ H R I h;refine cL (hl p_ s σ H _ I h) fun v s1 zz=>?_;obtain⟨x,H1,I1,r1,q1⟩:=zz;obtain⟨b,p,e,hq,q⟩:=q1;subst e;subst hK;cases b with
  | true=>
    cases r1;obtain⟨xs,hq⟩:=hq;obtain⟨its,rv,pl,hz⟩:=I1.list hq;refine wpAny_pyIter_list pl.isList ?_;refine⟨s1.heap.objs.size,[s1.heap.objs.size],_,_,H1,rfl,I1.kept (t':=s1.toks) fun b o e=>Heap.get?_push_of_some _ e,Du p _,⟨_,Heap.get?_push_size _ rfl,rfl,rfl⟩,fun b hb=>?_,q⟩;have e:b=s1.heap.objs.size:=by simpa using hb
    subst e;exact I1.CN (Nat.le_refl _) (I1.hok.fresh (Nat.le_refl _))
  | false=>
    cases r1;obtain⟨xs,hq⟩:=hq;obtain⟨its,rv,pl,hz⟩:=I1.tuple hq;refine wpAny_pyIter_tuple (show s1.heap.IsTuple p its.toArray from pl) ?_;refine⟨s1.heap.objs.size,[s1.heap.objs.size],_,_,H1,rfl,I1.kept (t':=s1.toks) fun b o e=>Heap.get?_push_of_some _ e,Ku p _,⟨_,Heap.get?_push_size _ rfl,rfl,rfl⟩,fun b hb=>?_,q⟩;have e:b=s1.heap.objs.size:=by simpa using hb
    subst e;exact I1.CN (Nat.le_refl _) (I1.hok.fresh (Nat.le_refl _))
section
variable {K:W.Frag} {own:List Str} {caps:List Nat} {g:TG} {tt:TT} {te:TE} {D:Addr} {σ:St} {H:Hp} {Q:Hp→Prop}
theorem TV {b:Bool} {l:Addr} {xs:List V} (Pv:Nat→St→Hp→Prop) (h0:Pv 0 (stC own caps σ) H) (hl:∀i σ H,i≤xs.length→Pv i σ H→Zr b K H l xs)
    (hs:∀i x σ H,xs[i]? = some x→Pv i σ H→DR g tt te D (Pv (i+1)) x σ H) (hd:∀σ H,Pv xs.length σ H→Q H):lR own caps (Itq b K l) g tt te D σ H Q:=by
  cases b with
  | true=>exact DW Pv h0 hl hs hd
  | false=>exact TF Pv h0 hl hs hd
end
theorem aA {H:Hp} {p:Addr} {o:HO} (h:H p=none):Same H (upd H p o):=fun b u e=>by rw[aD (aP e h)];exact e
theorem aV {H H':Hp} {p:Addr} {o:HO} (s:Same H H') (h:H p=none):Same H (upd H' p o):=fun b u e=>by rw[aD (aP e h)];exact s b u e
def Sq (H:Hp) (p:Addr) (xs:List V):Prop:=H p=some (.lst xs)∨H p=some (.tup xs)
theorem Sq.q {K:W.Frag} {H:Hp} {p:Addr} {xs:List V} (h:Sq H p xs):aY K H p xs∨dz K H p xs:=h.elim (fun e=>.inl (aY.of e)) fun e=>.inr (dz.of e)
theorem Sq.b {H:Hp} {p:Addr} {xs:List V} (h:Sq H p xs):∃b,∀K H',Same H H'→Zr b K H' p xs:=h.elim (fun e=>⟨true,fun _ _ s=>aY.of (s _ _ e)⟩) fun e=>⟨false,fun _ _ s=>dz.of (s _ _ e)⟩
theorem Sq.same {H H':Hp} {p:Addr} {xs:List V} (h:Sq H p xs) (s:Same H H'):Sq H' p xs:=h.elim (fun e=>.inl (s _ _ e)) fun e=>.inr (s _ _ e)
theorem Sq.ty {K:W.Frag} {H:Hp} {p:Addr} {xs:List V} (h:Sq H p xs):lQ K H (.ref p) (.type "list")∨lQ K H (.ref p) (.type "tuple"):=h.elim (fun e=>.inl (.lst e)) fun e=>.inr (.tup e)
theorem DX {α:Type} (f:α→Bool):∀l:List α,tV (l.map fun c=>.bl (f c)) (l.map f)
  | []=>rfl
  | c::l=>⟨f c,l.map f,rfl,rfl,DX f l⟩
theorem K7 {α:Type} (f:α→Bool) (l:List α):(l.map f).all id=l.all f:=by
  rw[List.all_map];rfl
theorem take_one {α:Type} {l:List α} {i:Nat} {x:α} (h:l[i]? = some x):l.take (i+1)=l.take i++[x]:=by
  rw[List.take_succ,h];rfl
def Oa:List V→Hp→VK→Prop:=fun xs H Q=>∃p ys,xs=[.ref p]∧Sq H p ys∧∀l H',H' l=some (.tup ys)→Same H H'→Q (.ref l) H'
theorem TX {X:Cx}:cB X (.type "tuple") Oa:=by
  intro p_ s σ H xs us Q I r h;obtain⟨p,ys,rfl,hq,q⟩:=h;refine CQ p_ s σ H _ us Q I r ⟨p,ys,rfl,?_⟩
  rcases hq with e | e
  ·exact .inl ⟨aY.of e,fun l hl=>q l _ ao (aA hl)⟩
  ·exact .inr ⟨dz.of e,q p H e (Same.refl H)⟩
def qaY (J:It) (g:TG) (tb:TS):TS:=fun D σ H=>∃qz:Nat→Nat→St→Hp→Prop,(∃m,qz 0 m σ H)∧∀i m σ H,qz i m σ H→
      (J.stop i H∧D.nx σ H)∨(J.go i H∧∃N:St→Hp→Prop,(∀σ' H',N σ' H'→∃m',m'<m∧qz (i+1) m' σ' H')∧∀x H',J.Zf i H x H'→g x σ H' fun σ2 H2=>tb {D with nx:=N,ct:=N,bk:=D.nx} σ2 H2)
theorem bO {H:Hp} {b p:Addr} {o u:HO} (h:H b=some o) (n:H p=none):upd H p u b=some o:=by rw[aD (aP h n)];exact h
theorem zj {H:Hp} {b p:Addr} {o o' u:HO} (h:H b=some o) (n:H p=some o') (d:o≠o'):upd H p u b=some o:=by
  rw[aD (fun e=>d (by subst e;rw[h] at n;exact Option.some.inj n))];exact h
theorem dg {H H':Hp} {b:Addr} (s:Same H H') (h:H' b=none):H b=none:=by
  cases e:H b with
  | none=>rfl
  | some o=>rw[s b o e] at h;cases h
def But (p:Addr) (H H':Hp):Prop:=∀b o,b≠p→H b=some o→H' b=some o
theorem But.refl (p:Addr) (H:Hp):But p H H:=fun _ _ _ e=>e
theorem But.trans {p:Addr} {H H1 H2:Hp} (x:But p H H1) (y:But p H1 H2):But p H H2:=fun b o hb e=>y b o hb (x b o hb e)
theorem But.new {p q:Addr} {H H':Hp} {u:HO} (x:But p H H') (h:H q=none):But p H (upd H' q u):=fun b o hb e=>by
  rw[aD (aP e h)];exact x b o hb e
theorem But.same {p:Addr} {H H1 H2:Hp} (x:But p H H1) (y:Same H1 H2):But p H H2:=fun b o hb e=>y b o (x b o hb e)
theorem But.none {p b:Addr} {H H':Hp} {u:HO} (x:But p H H') (hp:H' p=some u) (h:H' b = .none):H b = .none:=by
  cases e:H b with
  | none=>rfl
  | some o=>
    have hb:b≠p:=fun z=>by subst z;rw[hp] at h;cases h
    rw[x b o hb e] at h;cases h
theorem Ob {α:Type} {xs:List α} {i:Int} (h0:0≤i) (h1:i<xs.length):∃v,xs[i.toNat]? = some v∧CJ xs i=some v:=by
  obtain⟨j,rfl⟩:∃j:Nat,i=j:=⟨i.toNat,by omega⟩;have hj:j<xs.length:=by omega
  exact⟨xs[j],by simp[hj],aR (by simp[hj])⟩
theorem qaZ {d e n:Int} (h0:0≤d) (h1:d<n) (h2:0≤e) (h3:e<n - 1):0≤(d+1+e) % n∧(d+1+e) % n<n∧(d+1+e) % n≠d:=by
  refine⟨Int.emod_nonneg _ (by omega),Int.emod_lt_of_pos _ (by omega),?_⟩
  by_cases h:d+1+e<n
  ·rw[Int.emod_eq_of_lt (by omega) h];omega
  · have z:d+1+e=(d+1+e - n)+n * 1:=by omega
    rw[z,Int.add_mul_emod_self_left,Int.emod_eq_of_lt (by omega) (by omega)];omega
theorem qW {xs:List Str} {i:Nat} {x:V} (h:(xs.map V.str)[i]? = some x):∃z,xs[i]? = some z∧x = .str z:=by
  rw[List.getElem?_map] at h;cases e:xs[i]? with
  | none=>rw[e] at h;cases h
  | some z=>rw[e] at h;exact⟨z,rfl,(Option.some.inj h).symm⟩
theorem z8 {α:Type} {xs:List α} (h:xs.Nodup) {i j:Nat} {x:α} (hi:xs[i]? = some x) (hj:xs[j]? = some x):i=j:=by
  obtain⟨h1,e1⟩:=List.getElem?_eq_some_iff.mp hi;obtain⟨h2,e2⟩:=List.getElem?_eq_some_iff.mp hj;exact(List.getElem_inj h).mp (e1.trans e2.symm)
def WD (c:Nat):Bool:=!(Builtin.Str.occurrences ("abcdefghijklmnopqrstuvwxyz" : Str) ⟨#[c]⟩ 0 ("abcdefghijklmnopqrstuvwxyz" : Str).length 1).isEmpty
def nameB (x:Str):Bool:=decide (1≤x.length) && decide (x.length≤4) && x.cps.toList.all WD
theorem TY:∀n<26,WD (97+n)=true:=by decide+kernel
theorem K8:∀n:Nat,n<26→CJ (Str.ofString "abcdefghijklmnopqrstuvwxyz").cps.toList (n:Int)=some (97+n):=by decide+kernel
theorem yr:(Str.ofString "abcdefghijklmnopqrstuvwxyz").length≤sizeLine:=by decide+kernel
theorem qX {i:Int} (h0:0≤i) (h1:i<26):∃n:Nat,i=n∧n<26∧CJ (Str.ofString "abcdefghijklmnopqrstuvwxyz").cps.toList i=some (97+n):=
  ⟨i.toNat,by omega,by omega,by
    obtain⟨n,rfl⟩:∃n:Nat,i=n:=⟨i.toNat,by omega⟩;exact K8 n (by omega)⟩
structure pq (c:Nat) (k:Nat) (x:Str):Prop where
  len:x.length=k
  fst:x.cps[0]? = some c
  all:x.cps.toList.all WD=true
theorem pq.one {n:Nat} (h:n<26):pq (97+n) 1 ⟨#[97+n]⟩:=⟨rfl,rfl,by simp[TY n h]⟩
theorem pq.name {c k:Nat} {x:Str} (h:pq c k x) (h1:1≤k) (h4:k≤4):nameB x=true:=by
  unfold nameB;rw[h.len,h.all];simp;omega
section
variable {κ:Type} [DecidableEq κ]
def lC (kvs:List (κ×V)) (k:κ):Option V:=(kvs.find? fun kv=>decide (kv.1=k)).map (·.2)
def putK (kvs:List (κ×V)) (k:κ) (v:V):List (κ×V):=
  if (kvs.any fun kv=>decide (kv.1=k))=true then kvs.map (fun kv=>if kv.1=k then (kv.1,v) else kv) else kvs++[(k,v)]
theorem z9 {p:κ×V} {r:List (κ×V)} {k:κ} (e:p.1=k):lC (p::r) k=some p.2:=by simp[lC,List.find?_cons,e]
theorem z_ {p:κ×V} {r:List (κ×V)} {k:κ} (e:¬p.1=k):lC (p::r) k=lC r k:=by simp[lC,List.find?_cons,e]
theorem Aa (k:κ):∀kvs:List (κ×V),(kvs.any fun kv=>decide (kv.1=k))=(lC kvs k).isSome
  | []=>rfl
  | p::r=>by
    rw[List.any_cons]
    by_cases e:p.1=k
    ·simp only[z9 e,decide_eq_true e,Bool.true_or,Option.isSome_some]
    ·rw[z_ e,decide_eq_false e,Bool.false_or];exact Aa k r
theorem qY (kvs:List (κ×V)) (k:κ) (v:V):(putK kvs k v).length≤kvs.length+1:=by
  unfold putK;split
  ·rw[List.length_map];omega
  ·rw[List.length_append,List.length_cons,List.length_nil];omega
theorem qZ {kvs:List (κ×V)} {k:κ} (v:V) (h:lC kvs k=none):putK kvs k v=kvs++[(k,v)]:=by
  unfold putK;rw[Aa,h];exact if_neg (by decide)
theorem lN.oF {o:Option V} {u:Option Value} (r:lN o u):o.isSome=u.isSome:=by
  cases o with
  | none=>cases u with
    | none=>rfl
    | some _=>exact(show False from r).elim
  | some _=>cases u with
    | none=>exact(show False from r).elim
    | some _=>rfl
theorem lN.getD {o:Option V} {u:Option Value} {d:V} {d':Value} (r:lN o u) (rd:RelV d d'):RelV (o.getD d) (u.getD d'):=by
  cases o with
  | none=>cases u with
    | none=>exact rd
    | some _=>exact(show False from r).elim
  | some _=>cases u with
    | none=>exact(show False from r).elim
    | some _=>exact r
theorem KV.val {kvs:List (κ×V)} {vs:List (κ×Value)} (r:KV kvs vs) (k:κ):lN (lC kvs k) (valueAt vs k):=by
  unfold KV at r
  induction r with
  | nil=>exact True.intro
  | @cons p q ps qs h t ih=>
    obtain⟨h1,h2⟩:=h
    by_cases e:p.1=k
    · have e':q.1=k:=h1.symm.trans e;have b:valueAt (q::qs) k=some q.2:=by simp[valueAt,List.find?_cons,e']
      rw[z9 e,b];exact h2
    · have e':¬q.1=k:=fun z=>e (h1.trans z);have b:valueAt (q::qs) k=valueAt qs k:=by simp[valueAt,List.find?_cons,e']
      rw[z_ e,b];exact ih
theorem KV.any {kvs:List (κ×V)} {vs:List (κ×Value)} (r:KV kvs vs) (k:κ):(kvs.any fun kv=>decide (kv.1=k))=vs.any fun kv=>decide (kv.1=k):=by
  unfold KV at r
  induction r with
  | nil=>rfl
  | cons h t ih=>rw[List.any_cons,List.any_cons,ih,h.1]
theorem KV.repl {kvs:List (κ×V)} {vs:List (κ×Value)} (r:KV kvs vs) (k:κ) {y:V} {u:Value} (ry:RelV y u) :
    KV (kvs.map fun kv=>if kv.1=k then (kv.1,y) else kv) (vs.map fun kv=>if kv.1=k then (kv.1,u) else kv):=by
  unfold KV at r ⊢
  induction r with
  | nil=>exact .nil
  | @cons p q ps qs h t ih=>
    rw[List.map_cons,List.map_cons];refine .cons ?_ ih;obtain⟨h1,h2⟩:=h
    by_cases e:p.1=k
    ·rw[if_pos e,if_pos (h1.symm.trans e)];exact⟨h1,ry⟩
    ·rw[if_neg e,if_neg (fun z=>e (h1.trans z))];exact⟨h1,h2⟩
theorem KV.put {kvs:List (κ×V)} {vs:List (κ×Value)} (r:KV kvs vs) (k:κ) {y:V} {u:Value} (ry:RelV y u):KV (putK kvs k y) (stored vs k u):=by
  unfold putK stored;rw[r.any k]
  by_cases e:(vs.any fun kv=>decide (kv.1=k))=true
  ·rw[if_pos e,if_pos e];exact r.repl k ry
  ·rw[if_neg e,if_neg e];exact Paired.snoc r ⟨rfl,ry⟩
theorem KV.length {kvs:List (κ×V)} {vs:List (κ×Value)} (r:KV kvs vs):kvs.length=vs.length:=Paired.length r
end
theorem Ab {P:Program} {w:World} {k:Key} {u:Value} (r:RelV (kV k) u):(bL P w).is k u=true:=by
  cases k with
  | inl i=>obtain⟨t,e⟩:=(show ∃t,u=Value.int i t from r);subst e;exact HW P w i t
  | inr x=>obtain⟨t,e⟩:=(show ∃t,u=Value.str x t from r);subst e;exact HX P w x t
theorem DY {P:Program} {w:World}:∀{ks:List Key} {us:List Value},Vals (ks.map kV) us→ItemsAre (bL P w) ks us
  | [],_,r=>by rw[List.map_nil] at r;cases r;exact .nil
  | k::ks,_,r=>by
    rw[List.map_cons] at r;cases r with
    | cons h t=>exact .cons (Ab h) (DY t)
abbrev KT (H:Hp):List (List Key×V)→List (List Key×Addr×Value)→Prop:=Paired fun p q=>p.1=q.1∧H q.2.1=some (.tup (p.1.map kV))∧RelV p.2 q.2.2
theorem KT.val {H:Hp} {kvs:List (List Key×V)} {xs:List (List Key×Addr×Value)} (r:KT H kvs xs) (k:List Key):lN (lC kvs k) ((atKey xs k).map (·.2)):=by
  induction r with
  | nil=>exact True.intro
  | @cons p q ps qs h t ih=>
    obtain⟨h1,_,h2⟩:=h
    by_cases e:p.1=k
    · have e':q.1=k:=h1.symm.trans e;have b:atKey (q::qs) k=some q.2:=by simp[atKey,List.find?_cons,e']
      rw[z9 e,b];exact h2
    · have e':¬q.1=k:=fun z=>e (h1.trans z);have b:atKey (q::qs) k=atKey qs k:=by simp[atKey,List.find?_cons,e']
      rw[z_ e,b];exact ih
theorem KT.repl {H:Hp} {kvs:List (List Key×V)} {xs:List (List Key×Addr×Value)} (r:KT H kvs xs) (k:List Key) {y:V} {u:Value} (ry:RelV y u) :
    KT H (kvs.map fun kv=>if kv.1=k then (kv.1,y) else kv) (xs.map (putAt k u)):=by
  induction r with
  | nil=>exact .nil
  | @cons p q ps qs h t ih=>
    rw[List.map_cons,List.map_cons];refine .cons ?_ ih;obtain⟨h1,h2,h3⟩:=h;unfold putAt
    by_cases e:p.1=k
    ·rw[if_pos e,if_pos (h1.symm.trans e)];exact⟨h1,h2,ry⟩
    ·rw[if_neg e,if_neg (fun z=>e (h1.trans z))];exact⟨h1,h2,h3⟩
theorem KT.put {H:Hp} {kvs:List (List Key×V)} {xs:List (List Key×Addr×Value)} (r:KT H kvs xs) (k:List Key) {b:Addr} {y:V} {u:Value} (hb:H b=some (.tup (k.map kV))) (ry:RelV y u) :
    KT H (putK kvs k y) (storedH xs k b u):=by
  have e:(kvs.any fun kv=>decide (kv.1=k))=(atKey xs k).isSome:=by
    rw[Aa,(r.val k).oF,Option.isSome_map]
  unfold putK storedH;rw[e]
  by_cases q:(atKey xs k).isSome=true
  ·rw[if_pos q,if_pos q];exact r.repl k ry
  ·rw[if_neg q,if_neg q];exact Paired.snoc r ⟨rfl,hb,ry⟩
theorem KT.keeps {H H':Hp} {kvs:List (List Key×V)} {xs:List (List Key×Addr×Value)} (r:KT H kvs xs) (ht:∀b ys,H b=some (.tup ys)→H' b=some (.tup ys)):KT H' kvs xs:=
  Paired.qaj r fun _ _ z=>⟨z.1,ht _ _ z.2.1,z.2.2⟩
section
variable {P:Program} {w:World} {H:Hp} {h:Heap} {a:Addr}
theorem Zt {u:HO} (ok:qx P w H h) (e:Rd H a u):bY P w H h a u:=e.ok ok
theorem tW {kvs:List (Key×V)} (ok:qx P w H h) (e:Rd H a (.dK kvs)):kvs.length≤sizeLine∧(a == sysModules)=false∧∃vs,KV kvs vs∧h.DictOf (bL P w) a vs:=
  show bY P w H h a (.dK kvs) from Zt ok e
theorem Oc {kvs:List (Key×V)} (ok:qx P w H h) (e:H a=some (.dK kvs)):kvs.length≤sizeLine∧(a == sysModules)=false∧∃vs,KV kvs vs∧h.DictOf (bL P w) a vs:=tW ok (.inl e)
theorem xr {ks:List Key} (ok:qx P w H h) (e:H a=some (.tup (ks.map kV))):(tupleKind (bL P w)).is h ks a:=by
  obtain⟨_,its,r,o,h1,h2,n,h3⟩:=(show bY P w H h a (.tup (ks.map kV)) from ok a _ e);exact⟨o,its.toArray,n,h1,h2,h3,by simpa using DY r⟩
theorem Ac {kvs:List (List Key×V)} (ok:qx P w H h) (e:Rd H a (.dT kvs)):kvs.length≤sizeLine∧(a == sysModules)=false∧
    ∃xs,KT H kvs xs∧h.DictOfH (tupleKind (bL P w)) a xs:=by
  obtain⟨z,y,xs,r,o,es,ep,h1,h2,h3,h4,h5⟩:=(show bY P w H h a (.dT kvs) from Zt ok e);refine⟨z,y,xs,r,o,es,ep,h1,h2,h3,h4,fun x hx=>?_,h5⟩;have all:∀{l:List (List Key×V)} {m:List (List Key×Addr×Value)},KT H l m→∀x∈m,(tupleKind (bL P w)).is h x.1 x.2.1:=by
    intro l m q
    induction q with
    | nil=>intro x hx;exact nomatch hx
    | @cons p q ps qs hq t ih=>
      intro x hx
      rcases List.mem_cons.mp hx with e | hx
      ·subst e;exact xr ok (by rw[← hq.1];exact hq.2.1)
      ·exact ih x hx
  exact all r x hx
theorem qdb {kvs:List (List Key×V)} (ok:qx P w H h) (e:H a=some (.dT kvs)):kvs.length≤sizeLine∧(a == sysModules)=false∧
    ∃xs,KT H kvs xs∧h.DictOfH (tupleKind (bL P w)) a xs:=Ac ok (.inl e)
end
def g8 (H:Hp) (a:Addr) (y:V) (r:Option V):Prop:=
  (∃kvs k,Rd H a (.dK kvs)∧y=kV k∧r=lC kvs k)∨∃kvs k b,Rd H a (.dT kvs)∧y = .ref b∧H b=some (.tup (k.map kV))∧r=lC kvs k
def CW (H:Hp) (a:Addr) (y v:V) (H':Hp):Prop:=
  (∃kvs k,H a=some (.dK kvs)∧y=kV k∧kvs.length<sizeLine∧H'=upd H a (.dK (putK kvs k v)))∨
  ∃kvs k b,H a=some (.dT kvs)∧y = .ref b∧H b=some (.tup (k.map kV))∧kvs.length<sizeLine∧H'=upd H a (.dT (putK kvs k v))
theorem g8.k {H:Hp} {a:Addr} {kvs:List (Key×V)} {k:Key} (e:H a=some (.dK kvs)):g8 H a (kV k) (lC kvs k):=.inl ⟨kvs,k,.inl e,rfl,rfl⟩
theorem CW.k {H:Hp} {a:Addr} {kvs:List (Key×V)} {k:Key} {v:V} (e:H a=some (.dK kvs)) (hl:kvs.length<sizeLine):CW H a (kV k) v (upd H a (.dK (putK kvs k v))):=.inl ⟨kvs,k,e,rfl,hl,rfl⟩
section
variable {X:Cx} {p_:List (Addr×Obj)} {σ:St} {H:Hp} {s:Shared} {a:Addr} {y v:V} {u r:Value} {o:Option V} {A:Around} {E:Value→Shared→Prop}
theorem Inv.big (I:Inv X p_ σ H s):sysModules<s.heap.objs.size:=by
  have h:mainGlobals<s.heap.objs.size:=(I.mod.glob.keeps I.bk).lt;exact Nat.lt_trans (by decide) h
theorem Qq {Q:Value→Shared→Prop} (hu:A.units+1<cLine) (I:Inv X p_ σ H s) (g:g8 H a y (some v)) (ry:RelV y u) (h:∀w' s',Inv X p_ σ H s'→RelV v w'→Q w' s') :
    wpAny (model X.prog X.w) A (getItem (.ref a) u) Q E s:=by
  rcases g with⟨kvs,k,e,ey,l⟩ | ⟨kvs,k,b,e,ey,eb,l⟩
  ·subst ey;obtain⟨z,hd,vs,rel,dd⟩:=tW I.hok e;obtain⟨w',hw,Tc⟩:=lN.some_of (v:=v) (o:=valueAt vs k) (by rw[l];exact rel.val k);exact wpAny_getItem_of (Ab ry) dd.mapOf hw (h w' _ (I.tok _) Tc)
  · subst ey;cases (show u=Value.ref b from ry);obtain⟨z,hd,xs,rel,dd⟩:=Ac I.hok e;obtain⟨w',hw,Tc⟩:=lN.some_of (v:=v) (o:=(atKey xs k).map (·.2)) (by rw[l];exact rel.val k);obtain⟨p,hp,hp2⟩:=Option.map_eq_some_iff.mp hw;refine wpAny_getItem_heap (tupleKind_room_in1 hu) (xr I.hok eb) dd hp ?_;rw[hp2];exact h w' _ (I.tok _) Tc
theorem qij {Q:Value→Shared→Prop} (hu:A.units+1<cLine) (I:Inv X p_ σ H s) (g:g8 H a y o) (ry:RelV y u) (h:∀s',Inv X p_ σ H s'→Q (.bool o.isSome) s') :
    wpAny (model X.prog X.w) A (compareOp .In u (.ref a)) Q E s:=by
  rcases g with⟨kvs,k,e,ey,l⟩ | ⟨kvs,k,b,e,ey,eb,l⟩
  ·subst ey;obtain⟨z,hd,vs,rel,dd⟩:=tW I.hok e;refine wpAny_in_of (Ab ry) hd dd.mapOf ?_;rw[← (rel.val k).oF,← l];exact h _ (I.tok _)
  ·subst ey;cases (show u=Value.ref b from ry);obtain⟨z,hd,xs,rel,dd⟩:=Ac I.hok e;refine wpAny_in_heap (tupleKind_room_in1 hu) (xr I.hok eb) hd dd ?_;have q:=(rel.val k).oF;rw[Option.isSome_map] at q;rw[← q,← l];exact h _ (I.tok _)
theorem Xn {Q:Value→Shared→Prop} (hu:A.units+1<cLine) (I:Inv X p_ σ H s) (g:g8 H a y o) (ry:RelV y u) (h:∀s',Inv X p_ σ H s'→Q (.bool (!o.isSome)) s') :
    wpAny (model X.prog X.w) A (compareOp .NotIn u (.ref a)) Q E s:=by
  rcases g with⟨kvs,k,e,ey,l⟩ | ⟨kvs,k,b,e,ey,eb,l⟩
  ·subst ey;obtain⟨z,hd,vs,rel,dd⟩:=tW I.hok e;refine wpAny_notIn_of (Ab ry) hd dd.mapOf ?_;rw[← (rel.val k).oF,← l];exact h _ (I.tok _)
  ·subst ey;cases (show u=Value.ref b from ry);obtain⟨z,hd,xs,rel,dd⟩:=Ac I.hok e;refine wpAny_notIn_heap (tupleKind_room_in1 hu) (xr I.hok eb) hd dd ?_;have q:=(rel.val k).oF;rw[Option.isSome_map] at q;rw[← q,← l];exact h _ (I.tok _)
theorem Ge {h':Heap} {t':Nat} {ob:HO} (I:Inv X p_ σ H s) (mu:Mut (H a)) (hs:Heap.SameBut a s.heap h') (he:∃q,h'.get? a=some q) (new:bY X.prog X.w (upd H a ob) h' a ob) :
    Inv X p_ σ (upd H a ob) {s with heap:=h',toks:=t'}:=
  I.write (x:=a) (e:=a) mu (.inl rfl) (fun b q hb z=>(hs.2 b hb).trans z) he new
theorem K9 {P:Program} {w:World} {H':Hp} {h':Heap} {kvs:List (Key×V)} {vs:List (Key×Value)} (z:kvs.length≤sizeLine) (hd:(a == sysModules)=false) (rel:KV kvs vs) (dd:h'.DictOf (bL P w) a vs) :
    bY P w H' h' a (.dK kvs):=⟨z,hd,vs,rel,dd⟩
theorem Qs {H':Hp} {Q:Unit→Shared→Prop} (hu:A.units+1<cLine) (I:Inv X p_ σ H s) (g:CW H a y v H') (ry:RelV y u) (rv:RelV v r) (h:∀s',Inv X p_ σ H' s'→Q () s') :
    wpAny (model X.prog X.w) A (setItem (.ref a) u r) Q E s:=by
  rcases g with⟨kvs,k,e,ey,l,eH⟩ | ⟨kvs,k,b,e,ey,eb,l,eH⟩
  · subst ey eH;obtain⟨z,hd,vs,rel,dd⟩:=Oc I.hok e;have hz:vs.length≤sizeLine:=by rw[← rel.length];exact z
    have hl:(putK kvs k v).length≤sizeLine:=by have:=qY kvs k v;omega
    refine wpAny_setItem_pairs (hsz:=hz) (Ab ry) dd fun h' T3 hs=>h _ ?_;have he:∃q,h'.get? a=some q:=let ⟨q,_,_,hq,_⟩:=T3;⟨q,hq⟩;exact Ge I (by rw[e];exact True.intro) hs he (K9 hl hd (rel.put k rv) T3)
  · subst ey eH;cases (show u=Value.ref b from ry);obtain⟨z,hd,xs,rel,dd⟩:=qdb I.hok e;have hz:xs.length≤sizeLine:=by rw[← Paired.length rel];exact z
    have hl:(putK kvs k v).length≤sizeLine:=by have:=qY kvs k v;omega
    refine wpAny_setItem_heap (hsz:=hz) (tupleKind_room_in1 hu) (xr I.hok eb) dd fun h' T3 hs=>h _ ?_;obtain⟨q,es,ep,hq,h2,h3,h4,_,h5⟩:=T3;refine Ge I (by rw[e];exact True.intro) hs ⟨q,hq⟩ ⟨hl,hd,_,(rel.put k eb rv).keeps fun c ys ec=>?_,q,es,ep,hq,h2,h3,h4,h5⟩;rw[aD (zR ec e (fun z=>nomatch z))];exact ec
end
def qdc (i:Expr):Prop:=∀ov iv,subscripted i false ov iv=operate [ov,iv] (getItem ov iv)
theorem Xo {prog:Program} {w:World} {A:Around} {E:Value→Shared→Prop} {s:Shared} {env:Env} {value slice:Expr} {pos:Pos} {T id:String} {Q:Value→Shared→Prop}
    (hl:typeLookup (.type T) "__getitem__" = pure (some (.builtin id))) (hs:qdc slice)
    (h:wpAny (model prog w) A (eval value env) (fun o s₁=>wpAny (model prog w) A (eval slice env) (fun i s₂=>s₂.TypeIs o T∧wpAny (model prog w) A (getItem o i) Q E s₂) E s₁) E s) :
    wpAny (model prog w) A (eval (.Subscript value slice pos) env) Q E s:=by
  refine Subscript_ (wpAny_mono h (fun o s₁ h₁=>wpAny_mono h₁ (fun i s₂ h₂=>?_) fun _ _ x=>x) fun _ _ x=>x);obtain⟨hT,h₂⟩:=h₂;unfold subscriptTail;refine wpAny_bind ?_;rw[getitemInPython_of_ne hT.not_modules];refine wpAny_bind (wpAny_specialOf hT hl ?_);have fin:wpAny (model prog w) A (subscripted slice false o i) (fun r s₃=>wpAny (model prog w) A (letTemporaryGo value o r >>= fun _=>pure r) Q E s₃) E s₂:=by
    rw[hs o i];exact wpAny_operating (wpAny_mono h₂ (fun r s₃ h₃=>wpAny_bind (wpAny_letTemporaryGo (wpAny_pure h₃))) fun _ _ x=>x)
  first
    | exact wpAny_pure (wpAny_bind fin)
    | exact wpAny_bind (wpAny_pure (wpAny_bind fin))
    | exact wpAny_bind fin
theorem Iw {X:Cx} {p_:List (Addr×Obj)} {σ:St} {H:Hp} {s:Shared} {a:Addr} {y:V} {o:Option V} (I:Inv X p_ σ H s) (g:g8 H a y o):s.TypeIs (.ref a) "dict" :=by
  rcases g with⟨kvs,k,e,_,_⟩ | ⟨kvs,k,b,e,_,_,_⟩
  ·obtain⟨_,_,vs,_,dd⟩:=tW I.hok e;exact dd.typeIs
  ·obtain⟨_,_,xs,_,dd⟩:=Ac I.hok e;exact dd.typeIs
def T7 (td ty:TE):TE:=fun σ H Q=>td σ H fun x H1=>ty σ H1 fun y H2=>∃a v,x = .ref a∧g8 H2 a y (some v)∧Q v H2
def qa0 (ty td:TE):TE:=fun σ H Q=>ty σ H fun y H1=>td σ H1 fun x H2=>∃a o,x = .ref a∧g8 H2 a y o∧Q (.bl o.isSome) H2
def Gf (ty td:TE):TE:=fun σ H Q=>ty σ H fun y H1=>td σ H1 fun x H2=>∃a o,x = .ref a∧g8 H2 a y o∧Q (.bl (!o.isSome)) H2
def T8 (td ty tv:TE):TS:=fun D σ H=>tv σ H fun v H1=>td σ H1 fun x H2=>ty σ H2 fun y H3=>∃a H4,x = .ref a∧CW H3 a y v H4∧D.nx σ H4
section
variable {X:Cx} {o i e value:Expr} {pos pos' tpos:Pos} {td ty tv:TE}
theorem Gg (hu:X.A.units+1<cLine) (ho:PE X o td) (hi:PE X i ty) (hs:qdc i):PE X (.Subscript o i pos) (T7 td ty):=by
  intro p_ s σ H Q I h;refine Xo PySem.F.slot_dict_getitem.lookup hs (cL (ho p_ s σ H _ I h) fun u s1 ⟨x,H1,I1,rx,q1⟩=>cL (hi p_ s1 σ H1 _ I1 q1) fun iv s2 ⟨y,H2,I2,ry,a,v,ex,g,q2⟩=>?_);subst ex;obtain rfl:u=Value.ref a:=rx;exact⟨Iw I2 g,Qq hu I2 g ry fun w' s3 I3 Tc=>⟨v,H2,I3,Tc,q2⟩⟩
theorem qa1 (hu:X.A.units+1<cLine) (hi:PE X i ty) (ho:PE X o td):PC X .In i o (qa0 ty td):=by
  intro p_ s σ H Q I h;refine cL (hi p_ s σ H _ I h) fun iv s1 ⟨y,H1,I1,ry,q1⟩=>cL (ho p_ s1 σ H1 _ I1 q1) fun u s2 ⟨x,H2,I2,rx,a,ov,ex,g,q2⟩=>?_;subst ex;obtain rfl:u=Value.ref a:=rx;exact qij hu I2 g ry fun s3 I3=>⟨.bl ov.isSome,H2,I3,rfl,q2⟩
theorem D_ (hu:X.A.units+1<cLine) (hi:PE X i ty) (ho:PE X o td):PC X .NotIn i o (Gf ty td):=by
  intro p_ s σ H Q I h;refine cL (hi p_ s σ H _ I h) fun iv s1 ⟨y,H1,I1,ry,q1⟩=>cL (ho p_ s1 σ H1 _ I1 q1) fun u s2 ⟨x,H2,I2,rx,a,ov,ex,g,q2⟩=>?_;subst ex;obtain rfl:u=Value.ref a:=rx;exact Xn hu I2 g ry fun s3 I3=>⟨.bl (!ov.isSome),H2,I3,rfl,q2⟩
theorem zm (hu:X.A.units+1<cLine) (ho:PE X o td) (hi:PE X i ty) (hv:PE X value tv) (hs:swapsWith value (some (.Subscript o i pos')) pos.line X.env=pure false) :
    PS X (.Assign [.Subscript o i pos'] value pos) (T8 td ty tv):=by
  intro p_ s σ H D I h;refine wpAny_Assign_Subscript (cL (hv p_ s σ H _ I h) fun r s1 ⟨v,H1,I1,rv,q1⟩=>cL (ho p_ s1 σ H1 _ I1 q1) fun u s2 ⟨x,H2,I2,rx,q2⟩=>cL (hi p_ s2 σ H2 _ I2 q2) fun iv s3 ⟨y,H3,I3,ry,a,H4,ex,g,q3⟩=>?_) hs;subst ex;obtain rfl:u=Value.ref a:=rx;exact Qs hu I3 g ry rv fun s4 I4=>⟨σ,H4,I4,q3⟩
end
theorem Iz {P:Program} {w:World} {H:Hp} (h:Heap) (hb:sysModules<h.objs.size):bY P w H (h.push {cls:=.type "dict",data:=.dict #[]}) h.objs.size (.dK []):=
  ⟨Nat.zero_le _,beq_eq_false_iff_ne.mpr (Ne.symm (Nat.ne_of_lt hb)),[],.nil,Heap.DictOf.new h⟩
def T9:TE:=fun _ H Q=>∀p,H p=none→Q (.ref p) (upd H p (.dK []))
section
variable {X:Cx} {pos:Pos}
theorem Ad:PE X (.Dict [] [] pos) T9:=fun p_ s σ H Q I h=>
  wpAny_Dict_empty ⟨.ref s.heap.objs.size,_,I.laid (a:=s.heap.objs.size) (o:=.dK []) (t':=s.toks) (fun _ _ q=>Heap.get?_push_of_some _ q) (Nat.le_refl _) (Iz s.heap I.big),rfl,h _ (I.hok.fresh (Nat.le_refl _))⟩
end
def uw:List (TE×TE)→St→Hp→(List (V×V)→Hp→Prop)→Prop
  | [],_,H,Q=>Q [] H
  | (tk,tv)::r,σ,H,Q=>tk σ H fun x H1=>tv σ H1 fun y H2=>uw r σ H2 fun ps H3=>Q ((x,y)::ps) H3
abbrev VV:List (V×V)→List (Value×Value)→Prop:=Paired fun p q=>RelV p.1 q.1∧RelV p.2 q.2
def PPs (X:Cx) (pos:Pos) (keys:List (Option Expr)) (values:List Expr) (RL:List (TE×TE)):Prop:=
  ∀(p_:List (Addr×Obj)) (s:Shared) (σ:St) (H:Hp) (Q:List (V×V)→Hp→Prop),Inv X p_ σ H s→uw RL σ H Q→
    wpAny (model X.prog X.w) X.A (evalPairs (pairTrees keys values X.env pos)) (fun vs s'=>∃ps H',Inv X p_ σ H' s'∧VV ps vs∧Q ps H') X.xe s
theorem Xp {X:Cx} {pos:Pos}:PPs X pos [] [] []:=fun p_ s σ H Q I h=>pairTrees_nil_walk ⟨[],H,I,.nil,h⟩
theorem T_ {X:Cx} {pos:Pos} {k v:Expr} {ks:List (Option Expr)} {vs:List Expr} {tk tv:TE} {RL:List (TE×TE)} (hk:PE X k tk) (hv:PE X v tv) (hr:PPs X pos ks vs RL) :
    PPs X pos (some k::ks) (v::vs) ((tk,tv)::RL):=fun p_ s σ H Q I h=>
  pairTrees_cons_walk (cL (hk p_ s σ H _ I h) fun u s1 ⟨x,H1,I1,rx,q1⟩=>cL (hv p_ s1 σ H1 _ I1 q1) fun w2 s2 ⟨y,H2,I2,ry,q2⟩=>
    cL (hr p_ s2 σ H2 _ I2 q2) fun ws s3 ⟨ps,H3,I3,rel,q3⟩=>⟨(x,y)::ps,H3,I3,.cons ⟨rx,ry⟩ rel,q3⟩)
def uy (kvs more:List (Key×V)):List (Key×V):=more.foldl (fun acc kv=>putK acc kv.1 kv.2) kvs
theorem KV.merge:∀{more:List (Key×V)} {rs:List (Key×Value)} {kvs:List (Key×V)} {vs:List (Key×Value)},KV more rs→KV kvs vs→KV (uy kvs more) (merged vs rs):=by
  intro more rs kvs vs r;unfold KV at r
  induction r generalizing kvs vs with
  | nil=>intro q;exact q
  | @cons p q ps qs h t ih=>
    intro r0;have e:KV (putK kvs p.1 p.2) (stored vs q.1 q.2):=by
      have:=r0.put p.1 h.2;rw[← h.1];exact this
    exact ih e
theorem tX:∀(more kvs:List (Key×V)),(uy kvs more).length≤kvs.length+more.length
  | [],kvs=>by show kvs.length≤kvs.length+0;omega
  | p::r,kvs=>by
    have h1:=tX r (putK kvs p.1 p.2);have h2:=qY kvs p.1 p.2;show(uy (putK kvs p.1 p.2) r).length≤_;rw[List.length_cons];omega
theorem Ae {P:Program} {w:World}:∀{kvs:List (Key×V)} {ws:List (Value×Value)},VV (kvs.map fun kv=>(kV kv.1,kv.2)) ws→∃rs,Carries (bL P w) ws rs∧KV kvs rs
  | [],_,r=>by rw[List.map_nil] at r;cases r;exact⟨[],True.intro,.nil⟩
  | p::kvs,_,r=>by
    rw[List.map_cons] at r;cases r with
    | @cons a b as bs h t=>
      obtain⟨rs,c,q⟩:=Ae (P:=P) (w:=w) t;obtain⟨b1,b2⟩:=b;exact⟨(p.1,b2)::rs,⟨Ab h.1,rfl,c⟩,.cons ⟨rfl,h.2⟩ q⟩
def Zu (RL:List (TE×TE)):TE:=fun σ H Q=>∀p,H p=none→uw RL σ (upd H p (.dK [])) fun ps H2=>H2 p=some (.dK [])∧∃kvs:List (Key×V),ps=kvs.map (fun kv=>(kV kv.1,kv.2))∧kvs.length≤15∧Q (.ref p) (upd H2 p (.dK (uy [] kvs)))
theorem Xq {X:Cx} {pos:Pos} {keys:List (Option Expr)} {values:List Expr} {RL:List (TE×TE)} (h:PPs X pos keys values RL) (hall:keys.all (·.isSome)=true) (hl:keys.length=values.length) (h0:keys≠[])
    (h15:keys.length≤15):PE X (.Dict keys values pos) (Zu RL):=by
  intro p_ s σ H Q I q;have hn:=I.hok.fresh (Nat.le_refl s.heap.objs.size);have I1:=I.laid (a:=s.heap.objs.size) (o:=.dK []) (h':=s.heap.push {cls:=.type "dict",data:=.dict #[]}) (t':=s.toks) (fun _ _ q=>Heap.get?_push_of_some _ q) (Nat.le_refl _) (Iz s.heap I.big);refine wpAny_Dict_walk (knd:=bL X.prog X.w) hall hl h0 h15 (cL (h p_ _ σ _ _ I1 (q _ hn)) fun ws s2 zz=>?_);obtain⟨ps,H2,I2,rel,e,kvs,ep,lk,q2⟩:=zz;subst ep;obtain⟨rs,c,rk⟩:=Ae (P:=X.prog) (w:=X.w) rel;obtain⟨z,hd,vs0,r0,dd⟩:=Oc I2.hok e;cases r0;refine⟨rs,c,dd,fun h' T3 hs=>⟨.ref s.heap.objs.size,_,?_,rfl,q2⟩⟩;have hz:(uy [] kvs).length≤sizeLine:=by
    have h1:=tX kvs [];rw[List.length_nil] at h1;rw[sizeLine_eq];omega
  have he:∃q,h'.get? s.heap.objs.size=some q:=let ⟨q,_,_,hq,_⟩:=T3;⟨q,hq⟩;exact Ge I2 (by rw[e];exact True.intro) hs he (K9 hz hd (rk.merge .nil) T3)
structure M2 (X:Cx) (o:Expr) (m:Str) (apos:Pos) (e f:Expr) (cpos:Pos):Prop where
  base:attributeBase o m X.env (eval o X.env)=eval o X.env
  few:((backTo cpos (starEach [e,f] X.env)).all (fun x=>!x.1) && (backToKw cpos (keywordEach [] X.env)).all (fun x=>x.1.isSome)
    && decide (([e,f]:List Expr).length+([]:List Keyword).length+(if ([]:List Keyword).isEmpty then 0 else 1)<30))=true
  line:(apos.endLine == cpos.line)=true
  trees:backTo cpos (starEach [e,f] X.env)=[(false,eval e X.env),(false,eval f X.env)]
def IsD (H:Hp) (a:Addr):Prop:=(∃kvs,Rd H a (.dK kvs))∨∃kvs,Rd H a (.dT kvs)
theorem Ua {X:Cx} {p_:List (Addr×Obj)} {σ:St} {H:Hp} {s:Shared} {a:Addr} (I:Inv X p_ σ H s) (d:IsD H a) :
    s.TypeIs (.ref a) "dict" ∧(∀b,Value.ref a = .ref b→∃ob,s.heap.get? b=some ob∧ob.dict=none)∧(a == sysModules)=false:=by
  rcases d with⟨kvs,e⟩ | ⟨kvs,e⟩
  ·obtain⟨_,hd,vs,_,dd⟩:=tW I.hok e;refine⟨dd.typeIs,fun b q=>?_,hd⟩;cases q;obtain⟨ob,_,_,h1,h2,_⟩:=dd;exact⟨ob,h1,h2.2.1⟩
  ·obtain⟨_,hd,xs,_,dd⟩:=Ac I.hok e;refine⟨dd.typeIs,fun b q=>?_,hd⟩;cases q;obtain⟨ob,_,_,h1,h2,_⟩:=dd;exact⟨ob,h1,h2.2.1⟩
section
variable {X:Cx} {p_:List (Addr×Obj)} {σ:St} {H:Hp} {s:Shared} {a:Addr} {y d:V} {u r:Value} {o:Option V} {A:Around} {E:Value→Shared→Prop}
theorem qa2 {Q:Value→Shared→Prop} (hu:A.units+1<cLine) (I:Inv X p_ σ H s) (g:g8 H a y o) (ry:RelV y u) (rd:RelV d r) (h:∀w' s',Inv X p_ σ H s'→RelV (o.getD d) w'→Q w' s') :
    wpAny (model X.prog X.w) A (call (.builtin "dict.get") [.ref a,u,r]) Q E s:=by
  rcases g with⟨kvs,k,e,ey,l⟩ | ⟨kvs,k,b,e,ey,eb,l⟩
  ·subst ey;obtain⟨z,hd,vs,rel,dd⟩:=tW I.hok e;refine call_meetsIn PySem.F.slot_dict_get dd.typeIs PySem.F.entry_dict_get (PySem.F.args_dict_get_3 _ _ _) (meets_dict_get_default (bL X.prog X.w) a (Ab ry) hd r) ⟨_,dd.mapOf,h _ _ (I.tok _) ?_⟩;rw[l];exact(rel.val k).getD rd
  ·subst ey;cases (show u=Value.ref b from ry);obtain⟨z,hd,xs,rel,dd⟩:=Ac I.hok e;refine call_meetsIn PySem.F.slot_dict_get dd.typeIs PySem.F.entry_dict_get (PySem.F.args_dict_get_3 _ _ _) (meetsH_dict_get_default (tupleKind (bL X.prog X.w)) a b hd r) ⟨tupleKind_room_in1 hu,k,xs,xr I.hok eb,dd,h _ _ (I.tok _) ?_⟩;rw[l];exact(rel.val k).getD rd
end
def K_ (td ty tx:TE):TE:=fun σ H Q=>td σ H fun x H1=>∃a,x = .ref a∧IsD H1 a∧ty σ H1 fun y H2=>tx σ H2 fun z H3=>∃o,g8 H3 a y o∧Q (o.getD z) H3
section
variable {X:Cx} {o e f:Expr} {apos cpos:Pos} {td ty tx:TE}
theorem Af (hu:X.A.units+1<cLine) (ho:PE X o td) (he:PE X e ty) (hf:PE X f tx) (m:M2 X o "get" apos e f cpos):PE X (.Call (.Attribute o "get" apos) [e,f] [] cpos) (K_ td ty tx):=by
  intro p_ s σ H Q I h;refine wpAny_Call_method m.base m.few m.line PySem.F.plainAttrs_dict PySem.F.slot_dict_get PySem.F.type_dict_get (cL (ho p_ s σ H _ I h) fun u s1 zz=>?_);obtain⟨x,H1,I1,rx,a,ex,d,q1⟩:=zz;subst ex;obtain rfl:u=Value.ref a:=rx;obtain⟨t1,t2,_⟩:=Ua I1 d;refine⟨t1,t2,?_⟩;rw[m.trees];refine Calls.callWith_builtin rfl (Calls.evalArgs_plain (Calls.spliced_cons (cL (he p_ s1 σ H1 _ I1 q1) fun iv s2 ⟨y,H2,I2,ry,q2⟩=>
    Calls.spliced_cons (cL (hf p_ s2 σ H2 _ I2 q2) fun fv s3 ⟨z,H3,I3,rz,ov,g,q3⟩=>Calls.spliced_nil ?_))))
  exact qa2 hu I3 g ry rz fun w' s4 I4 Tc=>⟨_,H3,I4,Tc,q3⟩
end
section
variable {X:Cx} {p_:List (Addr×Obj)} {σ:St} {H:Hp} {s:Shared} {a:Addr} {kvs:List (Key×V)} {A:Around} {E:Value→Shared→Prop}
theorem Ub {Q:Value→Shared→Prop} (I:Inv X p_ σ H s) (e:Rd H a (.dK kvs)) (h:∀p s',H p=none→Inv X p_ σ (upd H p (.dK kvs)) s'→Q (.ref p) s'):wpAny (model X.prog X.w) A (call (.type "dict") [.ref a]) Q E s:=by
  obtain⟨z,hd,vs,rel,dd⟩:=tW I.hok e;refine kt_call_dict hd dd (by rw[← rel.length];exact z) fun h' T3 hs=>?_;refine h _ _ (I.hok.fresh (Nat.le_refl _)) (I.laid (a:=s.heap.objs.size) (o:=.dK kvs) (t':=s.toks) (fun b q hq=>?_) (Nat.le_refl _) (K9 z (beq_eq_false_iff_ne.mpr (Ne.symm (Nat.ne_of_lt I.big))) rel T3));exact(hs.2 b (Nat.ne_of_lt (Heap.lt_size hq))).trans (Heap.get?_push_of_some _ hq)
end
structure Nm2 (mg:Str→Option Value):Prop where
  enumerate:mg "enumerate" = none
  any:mg "any" = none
  dict:mg "dict" = none
  sorted:mg "sorted" = none
  repr:mg "repr" = none
  bool:mg "bool" = none
theorem Inv.Od {X:Cx} {p_:List (Addr×Obj)} {σ:St} {H:Hp} {s:Shared} {h2:Heap} {t':Nat} {x y:V} {u u':Value} (I:Inv X p_ σ H s) (I1:Inv X p_ σ H {s with heap:=h2,toks:=t'}) (ru:RelV x u) (ru':RelV y u')
    (z6:h2.get? s.heap.objs.size=some {cls:=.type "tuple",data:=.seq #[u,u']}):Inv X p_ σ (upd H s.heap.objs.size (.tup [x,y])) {s with heap:=h2,toks:=t'}:=by
  have hfr:H s.heap.objs.size=none:=I.hok.fresh (Nat.le_refl _);refine⟨I1.ok,I1.os,I1.bare,⟨I1.base.keep,I1.base.slot,fun c o e n hx=>?_,I1.base.there,fun c zs e=>?_,fun c o v e=>?_,fun c qs e=>?_⟩,I1.loc,I1.cell,?_,fun v c e=>?_,fun v hv=>?_,?_,I1.len⟩
  · rw[aD (fun e'=>?_)]
    ·exact I1.base.free c o e n hx
    ·exact absurd (Nat.lt_of_lt_of_le (Heap.lt_size e) I.sz) (by rw[e'];exact Nat.lt_irrefl _)
  ·have e':=I1.base.tups c zs e;rw[aD (aP e' hfr)];exact e'
  ·have e':=I1.base.oY c o v e;rw[aD (aP e' hfr)];exact e'
  ·obtain⟨m,e'⟩:=I1.base.qK c qs e;exact⟨m,by rw[aD (aP e' hfr)];exact e'⟩
  ·rw[aD (Nat.ne_of_lt I.lt)];exact I1.free
  ·obtain⟨w',qc⟩:=I.cell v c e;rw[aD (Nat.ne_of_lt qc.lt)];exact I1.iU v c e
  ·obtain⟨f1,f2,f3⟩:=I1.pin v hv;refine⟨f1,?_,f3⟩;rw[aD (Nat.ne_of_lt (Heap.lt_size (I.pin v hv).1))];exact f2
  · intro c v e
    by_cases hcs:c=s.heap.objs.size
    ·subst hcs;rw[ao] at e;cases e;exact⟨by show 2≤sizeLine;rw[sizeLine_eq];decide,[u,u'],.cons ru (.cons ru' .nil),⟨_,z6,rfl,0,rfl⟩⟩
    · rw[aD hcs] at e;refine(I1.hok c v e).stay (fun _ _ _ qq=>qq) (fun d qd=>?_) fun d zs qd=>?_
      ·rw[aD (aP qd hfr)];exact qd
      ·rw[aD (aP qd hfr)];exact qd
def Ite (K:W.Frag) (a:Addr):It:=
  ⟨fun i H=>∃xs x,aY K H a xs∧xs[i]? = some x,
   fun i H v H'=>∃t x,v = .ref t∧H t=none∧H'=upd H t (.tup [.int i,x])∧∀xs,aY K H a xs→xs[i]? = some x,
   fun i H=>∃xs,aY K H a xs∧xs.length≤i⟩
structure qa3 (e it a:Addr) (i:Nat) (h:Heap):Prop where
  he:∃old,IsEnum h e it i old
  hi:h.IsListIter it a i
theorem Qt {P:Program} {w:World} {K:W.Frag} {es:List Expr} {k:Nat} {pos:Pos} {e it a:Addr} (nei:e≠it) :
    Turn P w K (.Tuple es k pos) (Ite K a) [e,it] e (qa3 e it a) where
  mem:=by simp
  obj:=fun i h st c hc=>by
    simp only[List.mem_cons,List.not_mem_nil,or_false] at hc
    rcases hc with rfl | rfl
    ·obtain⟨old,q⟩:=st.he;exact⟨_,q,fun v e=>nomatch e⟩
    ·obtain⟨o,e,_,d⟩:=st.hi;exact⟨o,e,fun v y=>by rw[d] at y;cases y⟩
  keep:=fun i h h' st kk=>by
    obtain⟨old,q⟩:=st.he;exact⟨⟨old,kk e (by simp) _ q⟩,st.hi.at fun o z=>kk it (by simp) o z⟩
  item:=by
    intro X hP hw hK hc i p_ s σ H E I hf st hg;subst hP hw hK;obtain⟨xs,x,qa,hx⟩:=hg;obtain⟨its,rv,pl,hz1⟩:=I.list qa;obtain⟨u,hu,ru⟩:=rv.get hx;obtain⟨old,hE⟩:=st.he;obtain⟨o1,e1,c1,_⟩:=id st.hi;refine wpAny_pyNext_enum_item hE st.hi pl.isList (x:=u) (by simpa using hu) nei fun h' a1 a2 a3 a4 kk=>?_;refine⟨_,rfl,wpAny_letOwnedTupleGo_enum a1 fun h2 b1 sb=>?_⟩;have lt:∀{c o},s.heap.get? c=some o→s.heap.objs.size≠c:=fun e=>Nat.ne_of_gt (Heap.lt_size e);have hn:H s.heap.objs.size=none:=I.hok.fresh (Nat.le_refl _);have kk2:∀c o,c∉[e,it]→s.heap.get? c=some o→h2.get? c=some o:=fun c o hc z=>by
      simp only[List.mem_cons,List.not_mem_nil,or_false,not_or] at hc;exact(sb.2 c hc.1).trans (kk c o hc.1 hc.2 z)
    have I1:Inv X p_ σ H {s with heap:=h2,toks:=s.toks+1}:=I.rY kk2 hf;have z6:=sb.extBut _ _ (lt hE) a3;have I2:Inv X p_ σ (upd H s.heap.objs.size (.tup [.int i,x])) {s with heap:=h2,toks:=s.toks+1}:=I.Od I1 ⟨_,rfl⟩ ru z6;refine⟨.ref s.heap.objs.size,_,I2,rfl,⟨s.heap.objs.size,x,rfl,hn,rfl,fun xs' q'=>by rw[I.vg q' qa];exact hx⟩,?_,fun c hcm=>?_⟩
    ·exact⟨⟨_,b1⟩,a2.extBut sb.extBut nei.symm⟩
    · have hne:c≠s.heap.objs.size:=by
        simp only[List.mem_cons,List.not_mem_nil,or_false] at hcm
        rcases hcm with rfl | rfl
        ·exact(lt hE).symm
        ·exact(lt e1).symm
      rw[aD hne];exact(hf c hcm).1
  done:=by
    intro X hP hw hK hc i p_ s σ H E I hf st hg;subst hP hw hK;obtain⟨xs,qa,hl⟩:=hg;obtain⟨its,rv,pl,hz1⟩:=I.list qa;obtain⟨old,hE⟩:=st.he;have l1:=rv.length;refine wpAny_pyNext_enum_end (I.ok.hd hc) hE st.hi pl.isList (by simp;omega) fun h' kk=>⟨rfl,I.rY (t':=s.toks) (fun c o hcm z=>?_) hf⟩;simp only[List.mem_cons,List.not_mem_nil,or_false,not_or] at hcm;exact kk c o hcm.2 z
  self:=fun _ _ _ _ _ st h=>by
    obtain⟨old,q⟩:=st.he;exact wpAny_pyIter_enum q h
section
variable {X:Cx} {K:W.Frag}
def Uc (K:W.Frag) (t:TA):TI:=fun σ H R=>t σ H fun vs H1=>∃a xs,vs=[.ref a]∧aY K H1 a xs∧R (Ite K a) H1
theorem Qu:bootBuiltins "enumerate" = some (.type "enumerate"):=by decide+kernel
theorem Gh (hK:X.K=K) {es:List Expr} {k:Nat} {pos':Pos} {a:Expr} {ta:TA} {p pos:Pos} (hg:Gl X "enumerate") (hm:X.mg "enumerate" = none) (ha:PA X [a] ta)
    (hs:starEach [a] X.env=[(false,eval a X.env)]:=by rfl) :
    PI X (.Tuple es k pos') (.Call (.Name "enumerate" p) [a] [] pos) (Uc K ta):=by
  subst hK;intro p_ s σ H R I h;refine Call_ (oZ I hg hm Qu (PyProof.Rows.callWith_type1 (cL (ha pos p_ s σ H _ I h) fun us s1 zz=>?_) (by rw[hs];rfl) (by rfl)));obtain⟨vs,H1,I1,r1,q1⟩:=zz;obtain⟨l1,xs,e,qa,q⟩:=q1;subst e;obtain⟨u,rfl,r⟩:=vals1 r1;obtain rfl:u=Value.ref l1:=r;obtain⟨its,rv,pl,hz1⟩:=I1.list qa;refine call_enumerate_list pl.isList fun h' b1 b2 b3 kk=>?_;refine wpAny_pyIter_enum (s:={s1 with heap:=h'}) b1 ?_;have I2:Inv X p_ σ H1 {s1 with heap:=h'}:=I1.kept (t':=s1.toks) kk;refine⟨s1.heap.objs.size+1,[s1.heap.objs.size+1,s1.heap.objs.size],_,_,H1,rfl,I2,Qt (Nat.succ_ne_self _),⟨⟨_,b1⟩,b2⟩,fun c hc=>?_,q⟩;have hle:s1.heap.objs.size≤c:=by
    simp only[List.mem_cons,List.not_mem_nil,or_false] at hc
    rcases hc with rfl | rfl <;> first | exact Nat.le_add_right _ _ | exact Nat.le_refl _
  exact I1.CN hle (I1.hok.fresh hle)
end
section
variable {X:Cx} {K:W.Frag} {tg:Expr}
theorem Oe (hK:X.K=K) {es:List Expr} {k:Nat} {pos':Pos} {a b:Expr} {ta:TA} {p pos:Pos} (hg:Gl X "zip") (hm:X.mg "zip" = none) (ha:PA X [a,b] ta)
    (hs:starEach [a,b] X.env=[(false,eval a X.env),(false,eval b X.env)]:=by rfl) (hs2:starEach [b] X.env=[(false,eval b X.env)]:=by rfl) :
    PI X (.Tuple es k pos') (.Call (.Name "zip" p) [a,b] [] pos) (Xh K ta):=by subst hK;exact qaS hg hm ha hs hs2
theorem Og (hK:X.K=K) {o:Expr} {to:TE} {name:Str} {apos cpos:Pos} {T id:String} {r:V→List V→Hp→VK→Prop} (pa:PlainAttrs T) (slot:Slot T name id) (hty:typeOf (.builtin id)=pure (.type "method_descriptor")) (hm:KQ X id r) (ho:PE X o to)
    (hbase:attributeBase o name X.env (eval o X.env)=eval o X.env:=by rfl) (hline:(apos.endLine == cpos.line)=true:=by rfl):PE X (.Call (.Attribute o name apos) [] [] cpos) (qaL K T r to):=by subst hK;exact qaM pa slot hty hm ho hbase hline
theorem Oh (hK:X.K=K) {o value:Expr} {ta tv:TE} {f:Str} {pos pos':Pos} (ha:PE X o ta) (hv:PE X value tv) (hs:swapsWith value (some (.Attribute o f pos')) pos.line X.env=pure false):PS X (.Assign [.Attribute o f pos'] value pos) (qaD K ta tv f):=by subst hK;exact qaF ha hv hs
end
@[simp ↓] theorem qik (i:Nat) σ H Q:qak i σ H Q=(∃v,σ[i]? = some (some v)∧Q v H):=rfl
@[simp ↓] theorem qlz (v:V) z0 H Q:tC v z0 H Q=(Q v H):=rfl
@[simp ↓] theorem qlA (t:TE) σ H Q:tB t σ H Q=(t σ H fun x H1=>∃c,x = .bl c∧Q c H1):=rfl
@[simp ↓] theorem qil (t:TT) σ H Q:qcK t σ H Q=(t σ H fun c H1=>Q (!c) H1):=rfl
@[simp ↓] theorem qg4 (ta:TE) σ H Q:R0 ta σ H Q=(ta σ H fun x H1=>∃c,x = .bl c∧Q (.bl (!c)) H1):=rfl
@[simp ↓] theorem qg5 D σ H:Zd  D σ H=(D.nx σ H):=rfl
@[simp ↓] theorem qim (t u:TS) D σ H:qcL t u D σ H=(t {D with nx:=u D} σ H):=rfl
@[simp ↓] theorem qg6 (te:TE) D σ H:Ze te D σ H=(te σ H fun _ H1=>D.nx σ H1):=rfl
@[simp ↓] theorem qin (te:TE) D σ H:qcM te D σ H=(te σ H D.rt):=rfl
@[simp ↓] theorem qdd z0 z1 z2:R3  z0 z1 z2=(False):=rfl
@[simp ↓] theorem qg7 (i:Nat) v σ H Q:Nu i v σ H Q=(Q (σ.set i (some v)) H):=rfl
@[simp ↓] theorem qio vs σ H Q:qaq  vs σ H Q=(vs=[]∧Q σ H):=rfl
@[simp ↓] theorem qg8 (t:TG) (u:HS) vs σ H Q:R4 t u vs σ H Q=(∃v r,vs=v::r∧t v σ H fun σ' H'=>u r σ' H' Q):=rfl
@[simp ↓] theorem qip (K:W.Frag) (n:Nat) (t:HS) v σ H Q:WY K n t v σ H Q=(∃a xs,v = .ref a∧dz K H a xs∧xs.length=n∧t xs σ H Q):=rfl
@[simp ↓] theorem qiq (to ti:TE) (t:Py) v σ H Q:qcO to ti t v σ H Q=(to σ H fun o H1=>ti σ H1 fun i H2=>t o i v H2 fun H3=>Q σ H3):=rfl
@[simp ↓] theorem qir (te:TE) (g:TG) D σ H:W0 te g D σ H=(te σ H fun x H1=>g x σ H1 D.nx):=rfl
@[simp ↓] theorem qis (i:Nat) (te:TE) (ti:WX) D σ H:qas i te ti D σ H=(∃x,σ[i]? = some (some x)∧te σ H fun y H1=>ti x y H1 fun z H2=>D.nx (σ.set i (some z)) H2):=rfl
@[simp ↓] theorem qk6 (f:Int→Int→Int) x y H Q:ipI f x y H Q=(∃i j,x = .int i∧y = .int j∧Q (.int (f i j)) H):=rfl
@[simp ↓] theorem qg9 (K:W.Frag) (tl:TE) σ H R:Nv K tl σ H R=(tl σ H fun x H1=>∃a,x = .ref a∧(∃xs,aY K H1 a xs)∧R (RJ K a) H1):=rfl
@[simp ↓] theorem qg_ (ta:TA) σ H R:R8 ta σ H R=(ta σ H fun vs H1=>∃j:Int,vs=[.int j]∧-(2 ^ 62)≤j∧j<2 ^ 62∧R (Kh 0 j.toNat) H1):=rfl
@[simp ↓] theorem qha (ta:TA) σ H R:R9 ta σ H R=(ta σ H fun vs H1=>∃i j:Int,vs=[.int i,.int j]∧(-(2 ^ 62)≤i∧i<2 ^ 62∧-(2 ^ 62)≤j∧j<2 ^ 62)∧R (Kh i (j - i).toNat) H1):=rfl
@[simp ↓] theorem qk7 (r:R2) (ta tb:TE) σ H Q:Zg r ta tb σ H Q=(ta σ H fun x H1=>tb σ H1 fun y H2=>r x y H2 Q):=rfl
@[simp ↓] theorem qhb (t:TE) σ H Q:NK t σ H Q=(t σ H fun x H'=>∃k,x = .bl k∧Q k H'):=rfl
@[simp ↓] theorem qit (K:W.Frag) (ta:TE) (f:Str) σ H Q:W8 K ta f σ H Q=(ta σ H fun x H1=>∃a C dx fs v,x = .ref a∧H1 a=some (.ins C dx fs)∧Cls K C∧lB K C f∧fs.lookup f=some v∧Q v H1):=rfl
@[simp ↓] theorem qiu (K:W.Frag) (ta tv:TE) (f:Str) D σ H:qaD K ta tv f D σ H=(tv σ H fun y H1=>ta σ H1 fun x H2=>∃a C dx fs,x = .ref a∧H2 a=some (.ins C dx fs)∧Cls K C∧lB K C f∧fs.length<1000∧D.nx σ (upd H2 a (.ins C dx (jR f y fs)))):=rfl
@[simp ↓] theorem qiv z0 H Q:SJ  z0 H Q=(Q [] H):=rfl
@[simp ↓] theorem qhc (ta:TE) (tr:TA) σ H Q:NQ ta tr σ H Q=(ta σ H fun x H1=>tr σ H1 fun xs H2=>Q (x::xs) H2):=rfl
@[simp ↓] theorem qiw (t:TA) σ H Q:qcX t σ H Q=(t σ H fun xs H1=>xs.length≤sizeLine∧∀p,H1 p=none→Q (.ref p) (upd H1 p (.tup xs))):=rfl
@[simp ↓] theorem qix (t:TA) σ H Q:qcY t σ H Q=(t σ H fun xs H1=>xs.length≤sizeLine∧∀p,H1 p=none→Q (.ref p) (upd H1 p (.lst xs))):=rfl
@[simp ↓] theorem qk8 (r:List V→Hp→VK→Prop) (t:TA) σ H Q:tCB r t σ H Q=(t σ H fun vs H1=>r vs H1 Q):=rfl
@[simp ↓] theorem qcx z0 H Q:NT  z0 H Q=(Q none H):=rfl
@[simp ↓] theorem qhd (t:TE) σ H Q:S9 t σ H Q=(t σ H fun x H1=>∃i,x = .int i∧Q (some i) H1):=rfl
@[simp ↓] theorem qk9 (r:V→Option Int→Option Int→Hp→VK→Prop) (te:TE) (tl th:TO) σ H Q:tSl r te tl th σ H Q=(te σ H fun x H1=>tl σ H1 fun l H2=>th σ H2 fun u H3=>r x l u H3 Q):=rfl
@[simp ↓] theorem qiy (K:W.Frag) (T:String) (r:V→List V→Hp→VK→Prop) (to:TE) σ H Q:qaL K T r to σ H Q=(to σ H fun x H1=>Xd K T x H1∧r x [] H1 Q):=rfl
@[simp ↓] theorem qk_ (K:W.Frag) (T:String) (r:V→List V→Hp→VK→Prop) (to:TE) (t:TA) σ H Q:tBM K T r to t σ H Q=(to σ H fun x H1=>Xd K T x H1∧t σ H1 fun xs H2=>r x xs H2 Q):=rfl
@[simp ↓] theorem qiz z0 H Q:qc5  z0 H Q=(Q true H):=rfl
@[simp ↓] theorem qiA (tl:TE) σ H R:qaQ tl σ H R=(tl σ H fun x H1=>∃z,x = .str z∧R (Its z) H1):=rfl
@[simp ↓] theorem qiB (K:W.Frag) (t:TA) σ H R:Xh K t σ H R=(t σ H fun vs H1=>∃a b xs ys,vs=[.ref a,.ref b]∧aY K H1 a xs∧aY K H1 b ys∧R (Zk K a b) H1):=rfl
@[simp ↓] theorem qiC (K:W.Frag) (tl:TE) σ H R:qaX K tl σ H R=(tl σ H fun x H1=>∃b p,x = .ref p∧(∃xs,Zr b K H1 p xs)∧R (Itq b K p) H1):=rfl
structure qiD (Q:VK) where
  n:Nat
structure Ud (g:TG) (tb:TS) (D:Ends) where
  n:Nat
structure qde (c:TT) (tb:TS) (D:Ends) where
  n:Nat
structure Xr (g:TG) (tt:TT) (te:TE) (Q:Hp→Prop) where
  n:Nat
structure La (A B:Prop) where
  n:Nat
def Qv (sp:Sp) (vs:List V) (H:Hp) (Q:VK) (d:qiD Q) (E:XK):Prop:=sp vs H Q E
def tFr (J:It) (g:TG) (tb:TS) (D:Ends) (d:Ud g tb D) (σ:St) (H:Hp):Prop:=qaY J g tb D σ H
def tWh (c:TT) (tb:TS) (D:Ends) (d:qde c tb D) (σ:St) (H:Hp):Prop:=Fp c tb D σ H
def Zv (own:List Str) (caps:List Nat) (J:It) (g:TG) (tt:TT) (te:TE) (Q:Hp→Prop) (d:Xr g tt te Q) (D:Addr) (σ:St) (H:Hp):Prop:=lR own caps J g tt te D σ H Q
def gb (b:Bool) (A B:Prop) (d:La A B):Prop:=if b=true then A else B
@[simp] theorem qla (A B:Prop) (d:La A B):gb true A B d=A:=rfl
@[simp] theorem qlb (A B:Prop) (d:La A B):gb false A B d=B:=rfl
theorem gb.of {b:Bool} {A B:Prop} {d:La A B} (h1:b=true→A) (h2:b=false→B):gb b A B d:=by
  cases b with
  | true=>exact h1 rfl
  | false=>exact h2 rfl
theorem gb.pos {b:Bool} {A B:Prop} {d:La A B} (h:b=true) (h1:A):gb b A B d:=by subst h;exact h1
theorem gb.neg {b:Bool} {A B:Prop} {d:La A B} (h:b=false) (h1:B):gb b A B d:=by subst h;exact h1
@[simp ↓] theorem qhe (sp:Sp) (wX:List V) (E:XK) (t:TA) (σ:St) (H:Hp) (Q:VK):SM sp wX E t σ H Q=t σ H fun vs H1=>Qv sp (vs++wX) H1 Q ⟨0⟩ E:=rfl
@[simp ↓] theorem qhf (C:Addr) (m:Str) (sp:Sp) (wX:List V) (E:XK) (ta:TE) (t:TA) (σ:St) (H:Hp) (Q:VK):SN C m sp wX E ta t σ H Q=ta σ H fun x H1=>∃a dx fs,x = .ref a∧H1 a=some (.ins C dx fs)∧fs.lookup m=none∧t σ H1 fun vs H2=>Qv sp (x::(vs++wX)) H2 Q ⟨0⟩ E:=rfl
@[simp ↓] theorem qhg (C:Addr) (sp:Sp) (wX:List V) (E:XK) (t:TA) (σ:St) (H:Hp) (Q:VK):SQ C sp wX E t σ H Q=t σ H fun vs H1=>∀x dx,H1 x=none→H1 dx=none→dx≠x→
  Qv sp (.ref x::(vs++wX)) (upd (upd H1 dx (.own x)) x (.ins C dx [])) (fun v H2=>v = .non∧Q (.ref x) H2) ⟨0⟩ E:=rfl
@[simp ↓] theorem qiE (wi:TI) (g:TG) (tb:TS) (D:Ends) (σ:St) (H:Hp):qcP wi g tb D σ H=wi σ H fun J H1=>tFr J g tb D ⟨0⟩ σ H1:=rfl
@[simp ↓] theorem qdf (c:TT) (tb:TS) (D:Ends) (σ:St) (H:Hp):Fp c tb D σ H=tWh c tb D ⟨0⟩ σ H:=rfl
@[simp ↓] theorem qhh (own:List Str) (caps:List Nat) (wi:TI) (g:TG) (tt:TT) (te:TE) (σ:St) (H:Hp) (Q:VK):Tp own caps wi g tt te σ H Q=wi σ H fun J H1=>∀D,H1 D=none→Zv own caps J g tt te (Q (.ref D)) ⟨0⟩ D σ (upd H1 D (.lst [])):=rfl
@[simp ↓] theorem qiF (c:TT) (t u:TS) (D:Ends) (σ:St) (H:Hp):qcN c t u D σ H=c σ H fun b H1=>gb b (t D σ H1) (u D σ H1) ⟨0⟩:=rfl
@[simp ↓] theorem qlc (c:TT) (t u:TE) (σ:St) (H:Hp) (Q:VK):tIf c t u σ H Q=c σ H fun b H1=>gb b (t σ H1 Q) (u σ H1 Q) ⟨0⟩:=rfl
@[simp ↓] theorem qiG (t u:TT) (σ:St) (H:Hp) (Q:Bool→Hp→Prop):qcJ t u σ H Q=t σ H fun c H1=>gb c (u σ H1 Q) (Q false H1) ⟨0⟩:=rfl
@[simp ↓] theorem qld (t u:TT) (σ:St) (H:Hp) (Q:Bool→Hp→Prop):tOr t u σ H Q=t σ H fun c H1=>gb c (Q true H1) (u σ H1 Q) ⟨0⟩:=rfl
@[simp ↓] theorem qhi (ta tb:TE) (σ:St) (H:Hp) (Q:VK):RZ ta tb σ H Q=ta σ H fun x H1=>∃c,x = .bl c∧gb c (tb σ H1 Q) (Q (.bl false) H1) ⟨0⟩:=rfl
@[simp ↓] theorem qdg (r r':R2) (ta tb tc:TE) (σ:St) (H:Hp) (Q:VK):Fq r r' ta tb tc σ H Q=ta σ H fun x H1=>tb σ H1 fun y H2=>r x y H2 fun z H3=>∃k,z = .bl k∧gb k (tc σ H3 fun z H4=>r' y z H4 Q) (Q (.bl false) H3) ⟨0⟩:=rfl
def yt (g:TG) (tt:TT) (te:TE) (D:Addr) (N:St→Hp→Prop) (x:V) (σ:St) (H:Hp):Prop:=
  g x σ H fun σ2 H3=>tt σ2 H3 fun b H4=>gb b (te σ2 H4 fun y H5=>∃ys,H5 D=some (.lst ys)∧ys.length<sizeLine∧N σ2 (upd H5 D (.lst (ys++[y])))) (N σ2 H4) ⟨0⟩
@[simp ↓] theorem qhj (g:TG) (tt:TT) (te:TE) (D:Addr) (N:St→Hp→Prop) (x:V) (σ:St) (H:Hp):yt g tt te D N x σ H =
  (g x σ H fun σ2 H3=>tt σ2 H3 fun b H4=>gb b (te σ2 H4 fun y H5=>∃ys,H5 D=some (.lst ys)∧ys.length<sizeLine∧N σ2 (upd H5 D (.lst (ys++[y])))) (N σ2 H4) ⟨0⟩):=rfl
@[simp ↓] theorem qiH {α:Type} (a b:α) (R:α→α→Prop):(∃v w,[a,b]=[v,w]∧R v w)=R a b:=by
  refine propext ⟨?_,fun h=>⟨a,b,rfl,h⟩⟩;rintro⟨_,_,e,h⟩;cases e;exact h
@[simp] theorem qhk {α β:Type} (a:α) (b:β) (R:α→β→Prop):(∃v w,(a=v∧b=w)∧R v w)=R a b:=by
  refine propext ⟨?_,fun h=>⟨a,b,⟨rfl,rfl⟩,h⟩⟩;rintro⟨_,_,⟨rfl,rfl⟩,h⟩;exact h
@[simp] theorem sz0:(0≤sizeLine)=True:=eq_true (by decide)
@[simp] theorem sz1:(1≤sizeLine)=True:=eq_true (by decide)
@[simp] theorem sz2:(2≤sizeLine)=True:=eq_true (by decide)
@[simp] theorem sz3:(3≤sizeLine)=True:=eq_true (by decide)
@[simp] theorem sz4:(4≤sizeLine)=True:=eq_true (by decide)
@[simp] theorem sz5:(5≤sizeLine)=True:=eq_true (by decide)
@[simp] theorem sz6:(6≤sizeLine)=True:=eq_true (by decide)
@[simp] theorem sz7:(7≤sizeLine)=True:=eq_true (by decide)
@[simp] theorem sz8:(8≤sizeLine)=True:=eq_true (by decide)
@[simp] theorem sz9:(9≤sizeLine)=True:=eq_true (by decide)
@[simp] theorem qlB:(10≤sizeLine)=True:=eq_true (by decide)
@[simp] theorem qlC:(11≤sizeLine)=True:=eq_true (by decide)
@[simp] theorem qlD:(12≤sizeLine)=True:=eq_true (by decide)
@[simp] theorem qlE:(13≤sizeLine)=True:=eq_true (by decide)
@[simp] theorem qlF:(14≤sizeLine)=True:=eq_true (by decide)
@[simp] theorem qlG:(15≤sizeLine)=True:=eq_true (by decide)
@[simp] theorem qlH:(16≤sizeLine)=True:=eq_true (by decide)
@[simp] theorem qlI:(17≤sizeLine)=True:=eq_true (by decide)
@[simp] theorem qlJ:(18≤sizeLine)=True:=eq_true (by decide)
@[simp] theorem qlK:(19≤sizeLine)=True:=eq_true (by decide)
@[simp] theorem Gi:(20≤sizeLine)=True:=eq_true (by decide)
@[simp] theorem qhl (i j:Int):yU (.int i) (.int j)=true:=rfl
@[simp] theorem qhm (i j:Str):yU (.str i) (.str j)=true:=rfl
@[simp] theorem qhn (i j:Bool):yU (.bl i) (.bl j)=true:=rfl
@[simp] theorem qho (i:Int) (j:Str):yU (.int i) (.str j)=true:=rfl
@[simp] theorem qhp (i:Int) (j:Str):yU (.str j) (.int i)=true:=rfl
@[simp] theorem qdh (K:W.Frag) (p:Addr) (H:Hp):Xd K "list" (.ref p) H=(∃xs,aY K H p xs):=by simp[Xd]
@[simp] theorem qhq (K:W.Frag) (p:Str) (H:Hp):Xd K "str" (.str p) H=True:=by simp[Xd]
section
variable {K:W.Frag} {l:Addr} {xs:List V} {g:TG} {tb:TS} {D:Ends} {d:Ud g tb D} {σ:St} {H:Hp}
theorem frL (xs:List V) (Pv:Nat→St→Hp→Prop) (h0:Pv 0 σ H) (hl:∀i σ H,i≤xs.length→Pv i σ H→aY K H l xs)
    (hs:∀i x σ H,xs[i]? = some x→Pv i σ H→g x σ H fun σ2 H2=>tb {D with nx:=Pv (i+1),ct:=Pv (i+1),bk:=D.nx} σ2 H2) (hd:∀σ H,Pv xs.length σ H→D.nx σ H):tFr (RJ K l) g tb D d σ H:=R_ Pv h0 hl hs hd
theorem frR {lo:Int} {n:Nat} (Pv:Nat→St→Hp→Prop) (h0:Pv 0 σ H)
    (hs:∀i σ H,i<n→Pv i σ H→g (.int (lo+i)) σ H fun σ2 H2=>tb {D with nx:=Pv (i+1),ct:=Pv (i+1),bk:=D.nx} σ2 H2) (hd:∀σ H,Pv n σ H→D.nx σ H):tFr (Kh lo n) g tb D d σ H:=PK Pv h0 hs hd
end
section
variable {K:W.Frag} {own:List Str} {caps:List Nat} {g:TG} {tt:TT} {te:TE} {D l l1 l2:Addr} {σ:St} {H:Hp} {Q:Hp→Prop} {d:Xr g tt te Q}
theorem Xu (xs:List V) (Pv:Nat→St→Hp→Prop) (h0:Pv 0 (stC own caps σ) H) (hl:∀i σ H,i≤xs.length→Pv i σ H→aY K H l xs)
    (hs:∀i x σ H,xs[i]? = some x→Pv i σ H→yt g tt te D (Pv (i+1)) x σ H) (hd:∀σ H,Pv xs.length σ H→Q H):Zv own caps (RJ K l) g tt te Q d D σ H:=DW Pv h0 hl hs hd
theorem cmQ {b:Bool} (xs:List V) (Pv:Nat→St→Hp→Prop) (h0:Pv 0 (stC own caps σ) H) (hl:∀i σ H,i≤xs.length→Pv i σ H→Zr b K H l xs)
    (hs:∀i x σ H,xs[i]? = some x→Pv i σ H→yt g tt te D (Pv (i+1)) x σ H) (hd:∀σ H,Pv xs.length σ H→Q H):Zv own caps (Itq b K l) g tt te Q d D σ H:=TV Pv h0 hl hs hd
theorem cmR {lo:Int} {n:Nat} (Pv:Nat→St→Hp→Prop) (h0:Pv 0 (stC own caps σ) H)
    (hs:∀i σ H,i<n→Pv i σ H→yt g tt te D (Pv (i+1)) (.int (lo+i)) σ H) (hd:∀σ H,Pv n σ H→Q H):Zv own caps (Kh lo n) g tt te Q d D σ H:=K6 Pv h0 hs hd
theorem cmS {z:Str} (Pv:Nat→St→Hp→Prop) (h0:Pv 0 (stC own caps σ) H)
    (hs:∀i c σ H,z.cps[i]? = some c→Pv i σ H→yt g tt te D (Pv (i+1)) (.str ⟨#[c]⟩) σ H) (hd:∀σ H,Pv z.cps.size σ H→Q H):Zv own caps (Its z) g tt te Q d D σ H:=TJ Pv h0 hs hd
theorem cmZ (xs ys:List V) (Pv:Nat→St→Hp→Prop) (h0:Pv 0 (stC own caps σ) H) (he:xs.length=ys.length) (hl:∀i σ H,i≤xs.length→Pv i σ H→aY K H l1 xs∧aY K H l2 ys)
    (hs:∀i x y t σ H,xs[i]? = some x→ys[i]? = some y→H t=none→Pv i σ H→yt g tt te D (Pv (i+1)) (.ref t) σ (upd H t (.tup [x,y]))) (hd:∀σ H,Pv xs.length σ H→Q H):Zv own caps (Zk K l1 l2) g tt te Q d D σ H:=TQ Pv h0 he hl hs hd
end
theorem Ag {c:Bool} {t u:TS} {D:Ends} {σ:St} {H:Hp} {d:La (t D σ H) (u D σ H)} (R:St→Hp→Prop) (hc:∀σ H,R σ H→D.nx σ H)
    (h:∀N:St→Hp→Prop,(∀σ H,R σ H→N σ H)→gb c (t {D with nx:=N} σ H) (u {D with nx:=N} σ H) ⟨0⟩):gb c (t D σ H) (u D σ H) d:=h D.nx hc
theorem vC {α β:Type} {f:α→β} {ys zs:List β} (h:ys.Perm zs):∀l:List α,zs=l.map f→∃l':List α,l'.Perm l∧ys=l'.map f:=by
  induction h with
  | nil=>
    intro l e;cases l with
    | nil=>exact⟨[],.nil,rfl⟩
    | cons a l=>cases e
  | cons x _ ih=>
    intro l e;cases l with
    | nil=>cases e
    | cons a l=>
      simp only[List.map_cons,List.cons.injEq] at e;obtain⟨l',p,e'⟩:=ih l e.2;exact⟨a::l',p.cons a,by rw[e',e.1,List.map_cons]⟩
  | swap x y _=>
    intro l e
    match l,e with
    | a::b::l,e=>
      simp only[List.map_cons,List.cons.injEq] at e;exact⟨b::a::l,.swap ..,by rw[e.1,e.2.1,e.2.2];rfl⟩
  | trans _ _ ih1 ih2=>
    intro l e;obtain⟨l',p,e'⟩:=ih2 l e;obtain⟨l2,p2,e2⟩:=ih1 l' e';exact⟨l2,p2.trans p,e2⟩
theorem Ue {α:Type} {xs:List α} {k:Nat} (h2:2≤xs.length) (hk:k<xs.length):∃j x,j≠k∧xs[j]? = some x∧CJ xs ((k:Int) - 1)=some x:=by
  cases k with
  | zero=>
    have hj:xs.length - 1<xs.length:=by omega
    refine⟨xs.length - 1,xs[xs.length - 1],by omega,by simp[hj],?_⟩;unfold CJ Wz;rw[if_neg (by omega),if_pos (by omega)];have e:(((0:Nat):Int) - 1+xs.length).toNat=xs.length - 1:=by omega
    show xs[(((0:Nat):Int) - 1+xs.length).toNat]? = _;rw[e];simp[hj]
  | succ k=>
    have hj:k<xs.length:=by omega
    have e:((k+1:Nat):Int) - 1=(k:Int):=by omega
    rw[e];exact⟨k,xs[k],by omega,by simp[hj],aR (by simp[hj])⟩
end L2
namespace L2
open PySem
theorem tY (K:W.Frag):W.kitOne K (.type "list") (.type "list")=some true:=by simp[W.kitOne]
theorem yu (K:W.Frag):W.kitOne K (.type "str") (.type "str")=some true:=by simp[W.kitOne]
theorem yx (K:W.Frag):W.kitOne K (.type "int") (.type "int")=some true:=by simp[W.kitOne]
theorem pA (K:W.Frag):W.kitOne K (.type "int") (.type "bool")=some false:=by simp[W.kitOne];rfl
theorem CZ (K:W.Frag):W.kitOne K (.type "dict") (.type "dict")=some true:=by simp[W.kitOne]
end L2
namespace L2
open PySem PySem.Spec PyProof.Rows
section
variable {X:Cx} {K:W.Frag}
def qdi (K:W.Frag):R2:=fun x y H Q=>∃d e,Is K H d x∧Is K H e y∧d.canLay0=true∧e.canLay0=true∧d.depth≤64∧Q (.bl (PyData.eqv d e)) H
theorem qa4 (hK:X.K=K) (hu:X.A.units+64<cLine):iZ X (compareOp .Eq) (qdi K):=by
  subst hK;intro p_ s σ H x y v u Q I rx ry h;obtain⟨d,e,h1,h2,h3,h4,h5,q⟩:=h;exact qaT p_ s σ H x y v u Q I rx ry ⟨d,e,h1,h2,h3,h4,by omega,q⟩
end
def d9 (xs:List Str):List PyData:=xs.map PyData.str
theorem rZ {K:W.Frag} {H:Hp}:∀xs:List Str,qD K H (d9 xs) (xs.map V.str)
  | []=>rfl
  | x::xs=>⟨_,_,rfl,rfl,rZ xs⟩
theorem Xv (c:Nat):WD c=decide (c∈("abcdefghijklmnopqrstuvwxyz" : Str).cps.toList):=PySem.StrLaws.found_one _ c
theorem Ug {c:Nat} (h:WD c=true):c<128:=by
  rw[Xv] at h;have h':=of_decide_eq_true h;have key:∀x∈("abcdefghijklmnopqrstuvwxyz" : Str).cps.toList,x<128:=by decide+kernel
  exact key c h'
theorem Xw {x:Str} (h:nameB x=true):PyData.strOk x=true:=by
  unfold nameB at h;simp only[Bool.and_eq_true] at h;have h2:=h.2;unfold PyData.strOk;rw[← Array.all_toList];rw[List.all_eq_true] at h2 ⊢;intro c hc;have:=Ug (h2 c hc);exact decide_eq_true (by omega)
theorem IK:∀xs:List Str,(∀x∈xs,PyData.strOk x=true)→PyData.canLayAll0 (d9 xs)=true
  | [],_=>by simp[d9,PyData.canLayAll0]
  | x::xs,h=>by
    have:=IK xs fun y hy=>h y (List.mem_cons_of_mem _ hy);simp[d9] at this;simp[d9,PyData.canLayAll0,PyData.canLay0,this,h x List.mem_cons_self]
theorem IV:∀xs:List Str,PyData.depthAll (d9 xs)≤1
  | []=>by simp[d9,PyData.depthAll]
  | x::xs=>by
    have:=IV xs;simp[d9] at this;simp[d9,PyData.depthAll,PyData.depth,this]
@[simp ↓] theorem qhr (td ty:TE) (σ:St) (H:Hp) (Q:VK):T7 td ty σ H Q=(td σ H fun x H1=>ty σ H1 fun y H2=>∃a v,x = .ref a∧g8 H2 a y (some v)∧Q v H2):=rfl
@[simp ↓] theorem qiI (ty td:TE) (σ:St) (H:Hp) (Q:VK):qa0 ty td σ H Q=(ty σ H fun y H1=>td σ H1 fun x H2=>∃a o,x = .ref a∧g8 H2 a y o∧Q (.bl o.isSome) H2):=rfl
@[simp ↓] theorem qcy (ty td:TE) (σ:St) (H:Hp) (Q:VK):Gf ty td σ H Q=(ty σ H fun y H1=>td σ H1 fun x H2=>∃a o,x = .ref a∧g8 H2 a y o∧Q (.bl (!o.isSome)) H2):=rfl
@[simp ↓] theorem qhs (td ty tv:TE) (D:Ends) (σ:St) (H:Hp):T8 td ty tv D σ H=(tv σ H fun v H1=>td σ H1 fun x H2=>ty σ H2 fun y H3=>∃a H4,x = .ref a∧CW H3 a y v H4∧D.nx σ H4):=rfl
@[simp ↓] theorem qdj (σ:St) (H:Hp) (Q:VK):T9 σ H Q=(∀p,H p=none→Q (.ref p) (upd H p (.dK []))):=rfl
@[simp ↓] theorem qht (RL:List (TE×TE)) (σ:St) (H:Hp) (Q:VK):Zu RL σ H Q=(∀p,H p=none→uw RL σ (upd H p (.dK [])) fun ps H2=>H2 p=some (.dK [])∧∃kvs:List (Key×V),ps=kvs.map (fun kv=>(kV kv.1,kv.2))∧kvs.length≤15∧Q (.ref p) (upd H2 p (.dK (uy [] kvs)))):=rfl
@[simp ↓] theorem qdk (σ:St) (H:Hp) (Q:List (V×V)→Hp→Prop):uw [] σ H Q=Q [] H:=rfl
@[simp ↓] theorem qdl (tk tv:TE) (r:List (TE×TE)) (σ:St) (H:Hp) (Q:List (V×V)→Hp→Prop):uw ((tk,tv)::r) σ H Q=(tk σ H fun x H1=>tv σ H1 fun y H2=>uw r σ H2 fun ps H3=>Q ((x,y)::ps) H3):=rfl
@[simp ↓] theorem qdm (td ty tx:TE) (σ:St) (H:Hp) (Q:VK):K_ td ty tx σ H Q=(td σ H fun x H1=>∃a,x = .ref a∧IsD H1 a∧ty σ H1 fun y H2=>tx σ H2 fun z H3=>∃o,g8 H3 a y o∧Q (o.getD z) H3):=rfl
@[simp ↓] theorem qhu (K:W.Frag) (t:TA) (σ:St) (H:Hp) (R:It→Hp→Prop):Uc K t σ H R=(t σ H fun vs H1=>∃a xs,vs=[.ref a]∧aY K H1 a xs∧R (Ite K a) H1):=rfl
theorem qdn {H:Hp} {a:Addr} {kvs:List (Key×V)} (i:Int) (e:H a=some (.dK kvs)):g8 H a (.int i) (lC kvs (Sum.inl i)):=g8.k (k:=Sum.inl i) e
theorem qa5 {H:Hp} {a:Addr} {kvs:List (Key×V)} (x:Str) (e:H a=some (.dK kvs)):g8 H a (.str x) (lC kvs (Sum.inr x)):=g8.k (k:=Sum.inr x) e
theorem qiJ {H:Hp} {a:Addr} {kvs:List (Key×V)} {v:V} (x:Str) (e:H a=some (.dK kvs)) (hl:kvs.length<sizeLine):CW H a (.str x) v (upd H a (.dK (putK kvs (Sum.inr x) v))):=CW.k (k:=Sum.inr x) e hl
theorem isD {H:Hp} {a:Addr} {kvs:List (Key×V)} (e:H a=some (.dK kvs)):IsD H a:=.inl ⟨kvs,.inl e⟩
section
variable {K:W.Frag} {l:Addr} {g:TG} {tb:TS} {D:Ends} {d:Ud g tb D} {σ:St} {H:Hp}
theorem frE (xs:List V) (Pv:Nat→St→Hp→Prop) (h0:Pv 0 σ H) (hl:∀i σ H,i≤xs.length→Pv i σ H→aY K H l xs)
    (hs:∀i x t σ H,xs[i]? = some x→H t=none→Pv i σ H→g (.ref t) σ (upd H t (.tup [.int i,x])) fun σ2 H2=>tb {D with nx:=Pv (i+1),ct:=Pv (i+1),bk:=D.nx} σ2 H2) (hd:∀σ H,Pv xs.length σ H→D.nx σ H):tFr (Ite K l) g tb D d σ H:=by
  refine⟨fun i m σ H=>m=xs.length - i∧i≤xs.length∧Pv i σ H,⟨xs.length,by simp,Nat.zero_le _,h0⟩,?_⟩;rintro i m σ H ⟨rfl,hi,p⟩;have q:=hl i σ H hi p
  by_cases hlt:i<xs.length
  ·refine .inr ⟨⟨xs,xs[i],q,by simp[hlt]⟩,Pv (i+1),fun σ' H' p'=>⟨xs.length - (i+1),by omega,rfl,hlt,p'⟩,fun x H' y=>?_⟩;obtain⟨t,u,rfl,ht,rfl,e⟩:=y;exact hs i u t σ H (e xs q) ht p
  · have e:i=xs.length:=by omega
    subst e;exact .inl ⟨⟨xs,q,Nat.le_refl _⟩,hd σ H p⟩
end
section
variable {K:W.Frag} {own:List Str} {caps:List Nat} {g:TG} {tt:TT} {te:TE} {D l:Addr} {σ:St} {H:Hp} {Q:Hp→Prop} {d:Xr g tt te Q}
theorem cmE (xs:List V) (Pv:Nat→St→Hp→Prop) (h0:Pv 0 (stC own caps σ) H) (hl:∀i σ H,i≤xs.length→Pv i σ H→aY K H l xs)
    (hs:∀i x t σ H,xs[i]? = some x→H t=none→Pv i σ H→yt g tt te D (Pv (i+1)) (.ref t) σ (upd H t (.tup [.int i,x]))) (hd:∀σ H,Pv xs.length σ H→Q H):Zv own caps (Ite K l) g tt te Q d D σ H:=by
  refine⟨fun i m σ H=>m=xs.length - i∧i≤xs.length∧Pv i σ H,⟨xs.length,by simp,Nat.zero_le _,h0⟩,?_⟩;rintro i m σ H ⟨rfl,hi,p⟩;have q:=hl i σ H hi p
  by_cases hlt:i<xs.length
  ·refine .inr ⟨⟨xs,xs[i],q,by simp[hlt]⟩,Pv (i+1),fun σ' H' p'=>⟨xs.length - (i+1),by omega,rfl,hlt,p'⟩,fun x H' y=>?_⟩;obtain⟨t,u,rfl,ht,rfl,e⟩:=y;exact hs i u t σ H (e xs q) ht p
  · have e:i=xs.length:=by omega
    subst e;exact .inl ⟨⟨xs,q,Nat.le_refl _⟩,hd σ H p⟩
end
section
variable {c:TT} {tb:TS} {D:Ends} {d:qde c tb D} {σ:St} {H:Hp}
theorem whB (Pv:St→Hp→Prop) (μ:St→Hp→Nat) (h0:Pv σ H)
    (hs:∀σ H,Pv σ H→c σ H fun b H1=>gb b (tb {D with nx:=fun σ' H'=>Pv σ' H'∧μ σ' H'<μ σ H,ct:=fun σ' H'=>Pv σ' H'∧μ σ' H'<μ σ H,bk:=D.nx} σ H1) (D.nx σ H1) ⟨0⟩)
    (mono:∀σ H Q Q',(∀b H1,Q b H1→Q' b H1)→c σ H Q→c σ H Q'):tWh c tb D d σ H:=Sd Pv μ h0 hs mono
end
end L2
namespace L2
open PySem
inductive RT {α:Type} (R:α→α→Prop):α→α→Prop where
  | refl (a:α):RT R a a
  | tail {a b c:α}:RT R a b→R b c→RT R a c
theorem RT.one {α:Type} {R:α→α→Prop} {a b:α} (h:R a b):RT R a b:=.tail (.refl a) h
theorem RT.trans {α:Type} {R:α→α→Prop} {a b c:α} (h:RT R a b) (h2:RT R b c):RT R a c:=by
  induction h2 with
  | refl=>exact h
  | tail _ r ih=>exact .tail ih r
theorem RT.mono {α:Type} {R S:α→α→Prop} (h:∀a b,R a b→S a b) {a b:α} (r:RT R a b):RT S a b:=by
  induction r with
  | refl=>exact .refl _
  | tail _ q ih=>exact .tail ih (h _ _ q)
theorem RT.symm {α:Type} {R:α→α→Prop} (h:∀a b,R a b→R b a) {a b:α} (r:RT R a b):RT R b a:=by
  induction r with
  | refl=>exact .refl _
  | tail _ q ih=>exact(RT.one (h _ _ q)).trans ih
theorem RT.closed {α:Type} {R:α→α→Prop} {P:α→Prop} (hc:∀a b,R a b→P a→P b) {a b:α} (ha:P a) (r:RT R a b):P b:=by
  induction r with
  | refl=>exact ha
  | tail _ q ih=>exact hc _ _ q ih
abbrev iC:=Nat×Str×Str
def fu (S:List iC) (a b:Str):Prop:=∃n,(n,a,b)∈S
def jx (fx:Nat→Option Int) (e:Str×Str) (k:Nat):List iC:=
  (if (fx k).getD 0=0 then [(k,e.1,e.2)] else [])++(if (fx k).getD 1=1 then [(k,e.2,e.1)] else [])
def aC (fx:Nat→Option Int):List (Str×Str)→Nat→List iC
  | [],_=>[]
  | e::r,k=>jx fx e k++aC fx r (k+1)
theorem mK (fx:Nat→Option Int):∀(l m:List (Str×Str)) (k:Nat),aC fx (l++m) k=aC fx l k++aC fx m (k+l.length)
  | [],m,k=>by simp[aC]
  | e::l,m,k=>by
    simp only[List.cons_append,aC,mK fx l m (k+1),List.append_assoc,List.length_cons];rw[show k+1+l.length=k+(l.length+1) by omega]
theorem pB (fx:Nat→Option Int) {ps:List (Str×Str)} {i:Nat} {e:Str×Str} (h:ps[i]? = some e):aC fx (ps.take (i+1)) 0=aC fx (ps.take i) 0++jx fx e i:=by
  have hi:i<ps.length:=(List.getElem?_eq_some_iff.mp h).1;rw[take_one h,mK,List.length_take,Nat.min_eq_left (Nat.le_of_lt hi),Nat.zero_add];simp[aC]
theorem jT {fx:Nat→Option Int} {e:Str×Str} {k:Nat} {s:iC}:s∈jx fx e k↔s.1=k∧(((fx k).getD 0=0∧s.2.1=e.1∧s.2.2=e.2)∨((fx k).getD 1=1∧s.2.1=e.2∧s.2.2=e.1)):=by
  obtain⟨n,a,b⟩:=s;unfold jx;rw[List.mem_append];constructor
  · rintro(h | h)
    · split at h
      ·rename_i h0;simp at h;exact⟨h.1,.inl ⟨h0,h.2.1,h.2.2⟩⟩
      ·simp at h
    · split at h
      ·rename_i h0;simp at h;exact⟨h.1,.inr ⟨h0,h.2.1,h.2.2⟩⟩
      ·simp at h
  · rintro⟨rfl,⟨h0,rfl,rfl⟩ | ⟨h0,rfl,rfl⟩⟩
    ·exact .inl (by rw[if_pos h0];simp)
    ·exact .inr (by rw[if_pos h0];simp)
theorem jo {fx:Nat→Option Int}:∀{ps:List (Str×Str)} {k:Nat} {s:iC},s∈aC fx ps k↔∃j e,ps[j]? = some e∧s∈jx fx e (k+j)
  | [],k,s=>by simp[aC]
  | e::r,k,s=>by
    simp only[aC,List.mem_append,jo (ps:=r)];constructor
    · rintro(h | ⟨j,e',h1,h2⟩)
      ·exact⟨0,e,rfl,h⟩
      ·exact⟨j+1,e',by simpa using h1,by rw[show k+(j+1)=k+1+j by omega];exact h2⟩
    · rintro⟨j,e',h1,h2⟩;cases j with
      | zero=>simp at h1;subst h1;exact .inl h2
      | succ j=>exact .inr ⟨j,e',by simpa using h1,by rw[show k+1+j=k+(j+1) by omega];exact h2⟩
def gA (P:Nat→Prop) (ps:List (Str×Str)) (a b:Str):Prop:=∃k,P k∧(ps[k]? = some (a,b)∨ps[k]? = some (b,a))
theorem gA.symm {P:Nat→Prop} {ps:List (Str×Str)} {a b:Str} (h:gA P ps a b):gA P ps b a:=by
  obtain⟨k,hk,h⟩:=h;exact⟨k,hk,h.symm⟩
theorem Ah {P:Nat→Prop} [DecidablePred P] {ps:List (Str×Str)} {a b:Str}:fu ((aC (fun _=>none) ps 0).filter fun s=>decide (P s.1)) a b↔gA P ps a b:=by
  unfold fu gA;constructor
  · rintro⟨n,h⟩;obtain⟨h,hP⟩:=List.mem_filter.mp h;obtain⟨j,e,h1,h2⟩:=jo.mp h;rw[Nat.zero_add] at h2;obtain⟨rfl,h3⟩:=jT.mp h2;refine⟨_,of_decide_eq_true hP,?_⟩
    rcases h3 with⟨_,h3,h4⟩ | ⟨_,h3,h4⟩
    ·simp only at h3 h4;subst h3 h4;exact .inl h1
    ·simp only at h3 h4;subst h3 h4;exact .inr h1
  · rintro⟨k,hP,h⟩;refine⟨k,List.mem_filter.mpr ⟨jo.mpr ?_,decide_eq_true hP⟩⟩
    rcases h with h | h
    ·exact⟨k,_,h,by rw[Nat.zero_add];exact jT.mpr ⟨rfl,.inl ⟨rfl,rfl,rfl⟩⟩⟩
    ·exact⟨k,_,h,by rw[Nat.zero_add];exact jT.mpr ⟨rfl,.inr ⟨rfl,rfl,rfl⟩⟩⟩
end L2
namespace L2
open PySem PySem.Spec PyProof.Rows
def gW {β:Type} (R:Hp→V→β→Prop) (H:Hp) (vs:List V) (bs:List β):Prop:=vs.length=bs.length∧∀(i:Nat) v b,vs[i]? = some v→bs[i]? = some b→R H v b
section
variable {β:Type} {R:Hp→V→β→Prop} {H H':Hp} {vs:List V} {bs:List β}
theorem gW.nil:gW R H [] []:=⟨rfl,fun i v b h=>by simp at h⟩
theorem gW.keep (h:gW R H vs bs) (k:∀v b,R H v b→R H' v b):gW R H' vs bs:=⟨h.1,fun i v b h1 h2=>k v b (h.2 i v b h1 h2)⟩
theorem gW.at (h:gW R H vs bs) {i:Nat} {v:V} (hv:vs[i]? = some v):∃b,bs[i]? = some b∧R H v b:=by
  have hi:i<bs.length:=by rw[← h.1];exact(List.getElem?_eq_some_iff.mp hv).1
  exact⟨bs[i],by simp[hi],h.2 i v _ hv (by simp[hi])⟩
theorem gW.snoc {v:V} {b:β} (h:gW R H vs bs) (hv:R H v b):gW R H (vs++[v]) (bs++[b]):=by
  refine⟨by simp[h.1],fun i u d h1 h2=>?_⟩
  by_cases hi:i<vs.length
  ·rw[List.getElem?_append_left hi] at h1;rw[List.getElem?_append_left (by rw[← h.1];exact hi)] at h2;exact h.2 i u d h1 h2
  · rw[List.getElem?_append_right (by omega)] at h1;rw[List.getElem?_append_right (by rw[← h.1];omega),← h.1] at h2;cases hk:i - vs.length with
    | zero=>
      rw[hk] at h1 h2;cases h1;cases h2;exact hv
    | succ j=>
      rw[hk] at h1;simp at h1
end
def IW (H:Hp) (v:V) (s:iC):Prop:=∃t,v = .ref t∧H t=some (.tup [.int s.1,.str s.2.1,.str s.2.2])
abbrev eN:=gW IW
def cP (H H':Hp):Prop:=∀b xs,H b=some (.tup xs)→H' b=some (.tup xs)
theorem cP.of {H H':Hp} (s:Same H H'):cP H H':=fun b xs e=>s b _ e
theorem cP.set {H:Hp} {p:Addr} {o u:HO} (h:H p=some o) (hn:∀xs,o≠.tup xs):cP H (upd H p u):=fun b xs e=>by
  rw[aD (fun z=>by subst z;rw[h] at e;exact hn xs (Option.some.inj e))];exact e
theorem IW.keep {H H':Hp} (k:cP H H'):∀v s,IW H v s→IW H' v s:=fun v s ⟨t,e,h⟩=>⟨t,e,k _ _ h⟩
theorem eN.keep {H H':Hp} {vs:List V} {S:List iC} (h:eN H vs S) (k:cP H H'):eN H' vs S:=gW.keep h (IW.keep k)
def I_ (H:Hp) (d:Addr) (fx:Nat→Option Int):Prop:=∃kvs,H d=some (.dK kvs)∧∀k:Nat,lC kvs (Sum.inl (k:Int))=(fx k).map V.int
theorem Uh {H:Hp} {d:Addr} (h:H d=some (.dK [])):I_ H d (fun _=>none):=⟨[],h,fun _=>rfl⟩
theorem Ja (o:Option Int) (x:Int):(o.map V.int).getD (.int x) = .int (o.getD x):=by cases o <;> rfl
end L2
namespace L2
open PySem
inductive yC (S:List iC) (a:Str):List Nat→List Str→Str→Prop where
  | nil:yC S a [] [a] a
  | snoc {w:List Nat} {vs:List Str} {b c:Str} {n:Nat}:yC S a w vs b→(n,b,c)∈S→yC S a (w++[n]) (vs++[c]) c
theorem yC.reach {S:List iC} {a:Str} {w:List Nat} {vs:List Str} {b:Str} (h:yC S a w vs b):RT (fu S) a b:=by
  induction h with
  | nil=>exact .refl _
  | snoc _ q ih=>exact .tail ih ⟨_,q⟩
inductive Walk (S:List iC) (a:Str):Nat→Str→Prop where
  | nil:Walk S a 0 a
  | snoc {k:Nat} {b c:Str} {n:Nat}:Walk S a k b→(n,b,c)∈S→Walk S a (k+1) c
theorem Walk.of {S:List iC} {a b:Str} (h:RT (fu S) a b):∃k,Walk S a k b:=by
  induction h with
  | refl=>exact⟨0,.nil⟩
  | tail _ q ih=>
    obtain⟨k,hk⟩:=ih;obtain⟨n,hn⟩:=q;exact⟨k+1,.snoc hk hn⟩
abbrev BR:=List (Str×List Nat)
structure Kl (S:List iC) (a:Str) (at_:Nat) (R:BR):Prop where
  st:R[0]? = some (a,[])
  nd:(R.map (·.1)).Nodup
  Zw:∀y w,(y,w)∈R→∃vs,yC S a w vs y∧vs.Nodup∧∀v∈vs,v∈R.map (·.1)
  cl:∀(i:Nat) y w,i<at_→R[i]? = some (y,w)→∀n c,(n,y,c)∈S→∃w',(c,w')∈R∧w'.length≤w.length+1
  mono:∀(i j:Nat) y w z u,i≤j→R[i]? = some (y,w)→R[j]? = some (z,u)→w.length≤u.length
  bd:∀(y:Str) (w:List Nat) z u,R[at_]? = some (y,w)→(z,u)∈R→u.length≤w.length+1
structure lD (S T:List iC) (a:Str) (at_:Nat) (h:Str) (wh:List Nat) (R:BR):Prop where
  bf:Kl S a at_ R
  hr:R[at_]? = some (h,wh)
  md:∀n c,(n,h,c)∈T→∃w',(c,w')∈R∧w'.length≤wh.length+1
theorem Kl.begin (S:List iC) (a:Str):Kl S a 0 [(a,[])]:=by
  refine⟨rfl,by simp,?_,by intro i y w h;omega,?_,?_⟩
  ·intro y w h;simp at h;obtain⟨rfl,rfl⟩:=h;exact⟨[y],.nil,by simp,by simp⟩
  · intro i j y w z u hij h1 h2;have hi:i=0:=by have:=(List.getElem?_eq_some_iff.mp h1).1;simp at this;omega
    have hj:j=0:=by have:=(List.getElem?_eq_some_iff.mp h2).1;simp at this;omega
    subst hi hj;rw[h1] at h2;cases h2;exact Nat.le_refl _
  ·intro y w z u h1 h2;simp at h1 h2;rw[h2.2,← h1.2];simp
theorem lD.enter {S:List iC} {a:Str} {at_:Nat} {h:Str} {wh:List Nat} {R:BR} (b:Kl S a at_ R) (hr:R[at_]? = some (h,wh)):lD S [] a at_ h wh R:=⟨b,hr,by simp⟩
theorem lD.skip {S T:List iC} {a:Str} {at_:Nat} {h:Str} {wh:List Nat} {R:BR} (b:lD S T a at_ h wh R) {s:iC} (hs:s.2.1=h→s.2.2∈R.map (·.1)):lD S (T++[s]) a at_ h wh R:=by
  refine⟨b.bf,b.hr,fun n c hm=>?_⟩
  rcases List.mem_append.mp hm with q | q
  ·exact b.md n c q
  ·simp at q;subst q;obtain⟨⟨c',w'⟩,hw,e⟩:=List.mem_map.mp (hs rfl);simp only at e;subst e;exact⟨w',hw,b.bf.bd _ _ _ _ b.hr hw⟩
theorem lD.add {S T:List iC} {a:Str} {at_:Nat} {h:Str} {wh:List Nat} {R:BR} (b:lD S T a at_ h wh R) {n:Nat} {c:Str} (hS:(n,h,c)∈S) (hc:¬c∈R.map (·.1)):lD S (T++[(n,h,c)]) a at_ h wh (R++[(c,wh++[n])]):=by
  obtain⟨⟨st,nd,Zw,cl,mono,bd⟩,hr,md⟩:=b;have hat:at_<R.length:=(List.getElem?_eq_some_iff.mp hr).1;have ml:∀{i:Nat} {x},i<R.length→(R++[(c,wh++[n])])[i]? = some x→R[i]? = some x:=fun hi e=>by rwa [List.getElem?_append_left hi] at e
  have last:∀{i:Nat} {x},¬i<R.length→(R++[(c,wh++[n])])[i]? = some x→x=(c,wh++[n]):=fun hi e=>by
    rw[List.getElem?_append_right (by omega)] at e;cases hk:_ - R.length with
    | zero=>rw[hk] at e;simp at e;exact e.symm
    | succ k=>rw[hk] at e;simp at e
  refine⟨⟨?_,?_,?_,?_,?_,?_⟩,?_,?_⟩
  ·rw[List.getElem?_append_left (by omega)];exact st
  ·rw[List.map_append,List.nodup_append];refine⟨nd,by simp,?_⟩;intro x hx y hy e;simp at hy;subst hy;exact hc (e▸hx)
  · intro y w hy
    rcases List.mem_append.mp hy with q | q
    ·obtain⟨vs,h1,h2,h3⟩:=Zw y w q;exact⟨vs,h1,h2,fun v hv=>by rw[List.map_append];exact List.mem_append_left _ (h3 v hv)⟩
    · simp at q;obtain⟨rfl,rfl⟩:=q;obtain⟨vs,h1,h2,h3⟩:=Zw h wh (List.mem_of_getElem? hr);refine⟨vs++[y],.snoc h1 hS,?_,?_⟩
      ·rw[List.nodup_append];refine⟨h2,by simp,?_⟩;intro x hx z hz e;simp at hz;subst hz;exact hc (e▸h3 x hx)
      · intro v hv;rw[List.map_append]
        rcases List.mem_append.mp hv with q | q
        ·exact List.mem_append_left _ (h3 v q)
        ·simp at q;subst q;simp
  ·intro i y w hi e m c' hm;obtain⟨w',q1,q2⟩:=cl i y w hi (ml (by omega) e) m c' hm;exact⟨w',List.mem_append_left _ q1,q2⟩
  · intro i j y w z u hij h1 h2
    by_cases hj:j<R.length
    ·exact mono i j y w z u hij (ml (by omega) h1) (ml hj h2)
    · have e2:=last hj h2;cases e2
      by_cases hi:i<R.length
      ·have:=bd h wh y w hr (List.mem_of_getElem? (ml hi h1));simp;exact this
      ·have e1:=last hi h1;cases e1;exact Nat.le_refl _
  · intro y w z u h1 h2;have h1':=ml hat h1;rw[hr] at h1';cases h1'
    rcases List.mem_append.mp h2 with q | q
    ·exact bd _ _ z u hr q
    ·simp at q;rw[q.2];simp
  ·rw[List.getElem?_append_left hat];exact hr
  · intro m c' hm
    rcases List.mem_append.mp hm with q | q
    ·obtain⟨w',q1,q2⟩:=md m c' q;exact⟨w',List.mem_append_left _ q1,q2⟩
    ·simp at q;obtain⟨rfl,rfl⟩:=q;exact⟨wh++[m],by simp,by simp⟩
theorem lD.leave {S:List iC} {a:Str} {at_:Nat} {h:Str} {wh:List Nat} {R:BR} (b:lD S S a at_ h wh R):Kl S a (at_+1) R:=by
  obtain⟨⟨st,nd,Zw,cl,mono,bd⟩,hr,md⟩:=b;refine⟨st,nd,Zw,?_,mono,?_⟩
  · intro i y w hi e n c hm
    by_cases hia:i=at_
    ·subst hia;rw[hr] at e;cases e;exact md n c hm
    ·exact cl i y w (by omega) e n c hm
  ·intro y w z u h1 h2;have q1:=bd h wh z u hr h2;have q2:=mono at_ (at_+1) h wh y w (by omega) hr h1;omega
theorem Kl.all {S:List iC} {a:Str} {R:BR} (b:Kl S a R.length R) {k:Nat} {y:Str} (h:Walk S a k y):∃w,(y,w)∈R∧w.length≤k:=by
  induction h with
  | nil=>exact⟨[],List.mem_of_getElem? b.st,Nat.le_refl _⟩
  | @snoc k b' c n _ q ih=>
    obtain⟨w,h1,h2⟩:=ih;obtain⟨i,hi⟩:=List.mem_iff_getElem?.mp h1;obtain⟨w',h3,h4⟩:=b.cl i b' w (List.getElem?_eq_some_iff.mp hi).1 hi n c q;exact⟨w',h3,by omega⟩
theorem Kl.iff {S:List iC} {a:Str} {R:BR} (b:Kl S a R.length R) (y:Str):y∈R.map (·.1)↔RT (fu S) a y:=by
  constructor
  ·intro h;obtain⟨⟨z,w⟩,h1,e⟩:=List.mem_map.mp h;simp only at e;subst e;obtain⟨vs,p,_⟩:=b.Zw z w h1;exact p.reach
  ·intro h;obtain⟨k,hk⟩:=Walk.of h;obtain⟨w,h1,_⟩:=b.all hk;exact List.mem_map.mpr ⟨(y,w),h1,rfl⟩
theorem Kl.sub {S:List iC} {a:Str} {i:Nat} {R:BR} (b:Kl S a i R) {xs:List Str} (ha:a∈xs) (hS:∀s∈S,s.2.2∈xs):∀y∈R.map (·.1),y∈xs:=by
  intro y h;obtain⟨⟨z,w⟩,h1,e⟩:=List.mem_map.mp h;simp only at e;subst e;obtain⟨vs,p,_⟩:=b.Zw z w h1;cases p with
  | nil=>exact ha
  | snoc _ q=>exact hS _ q
theorem gQ {α:Type} [DecidableEq α]:∀{l xs:List α},l.Nodup→(∀y∈l,y∈xs)→l.length≤xs.length
  | [],_,_,_=>Nat.zero_le _
  | y::l,xs,hn,hs=>by
    obtain⟨h1,h2⟩:=List.nodup_cons.mp hn;have hy:y∈xs:=hs y List.mem_cons_self;have:=gQ (l:=l) (xs:=xs.erase y) h2 fun z hz=>(List.mem_erase_of_ne (fun(e:z=y)=>h1 (e▸hz))).mpr (hs z (List.mem_cons_of_mem _ hz));rw[List.length_erase_of_mem hy] at this;have h0:0<xs.length:=List.length_pos_of_mem hy;simp only[List.length_cons];omega
theorem yC.len {S:List iC} {a:Str} {w:List Nat} {vs:List Str} {b:Str} (h:yC S a w vs b):vs.length=w.length+1:=by
  induction h with
  | nil=>rfl
  | snoc _ _ ih=>simp[ih]
theorem Kl.qiK {S:List iC} {a:Str} {i:Nat} {R:BR} (b:Kl S a i R) {y:Str} {w:List Nat} (h:(y,w)∈R):w.length<R.length:=by
  obtain⟨vs,p,nd,sub⟩:=b.Zw y w h;have h1:=gQ nd sub;have h2:=p.len;simp at h1;omega
def qiL (H:Hp) (kv:Key×V) (yw:Str×List Nat):Prop:=kv.1=Sum.inr yw.1∧∃p,kv.2 = .ref p∧H p=some (.lst (yw.2.map fun n:Nat=>V.int n))
structure gk (H:Hp) (kvs:List (Key×V)) (R:BR):Prop where
  len:kvs.length=R.length
  ok:∀(i:Nat) kv yw,kvs[i]? = some kv→R[i]? = some yw→qiL H kv yw
theorem gk.keep {H H':Hp} {kvs:List (Key×V)} {R:BR} (h:gk H kvs R) (k:∀(p:Addr) (w:List Nat),H p=some (.lst (w.map fun n:Nat=>V.int n))→H' p=some (.lst (w.map fun n:Nat=>V.int n))):gk H' kvs R:=
  ⟨h.len,fun i kv yw h1 h2=>by
    obtain⟨e,p,e2,q⟩:=h.ok i kv yw h1 h2;exact⟨e,p,e2,k _ _ q⟩⟩
theorem gk.none {H:Hp} {kvs:List (Key×V)} {R:BR} (h:gk H kvs R) {y:Str} (hy:¬y∈R.map (·.1)):lC kvs (Sum.inr y)=Option.none:=by
  unfold lC;rw[List.find?_eq_none.mpr]
  ·rfl
  · intro kv hk;obtain⟨i,hi⟩:=List.mem_iff_getElem?.mp hk;have hl:i<R.length:=by rw[← h.len];exact(List.getElem?_eq_some_iff.mp hi).1
    obtain⟨e,_⟩:=h.ok i kv R[i] hi (by simp[hl]);simp only[decide_eq_true_eq];intro z;rw[e] at z;cases z;exact hy (List.mem_map.mpr ⟨R[i],List.getElem_mem hl,rfl⟩)
theorem gk.some {H:Hp} {kvs:List (Key×V)} {R:BR} (h:gk H kvs R) (nd:(R.map (·.1)).Nodup) {y:Str} {w:List Nat} (hy:(y,w)∈R):∃p,lC kvs (Sum.inr y)=Option.some (.ref p)∧H p=Option.some (.lst (w.map fun n:Nat=>V.int n)):=by
  obtain⟨i,hi⟩:=List.mem_iff_getElem?.mp hy;have hl:i<kvs.length:=by rw[h.len];exact(List.getElem?_eq_some_iff.mp hi).1
  have hk:kvs[i]? = Option.some kvs[i]:=by simp[hl]
  unfold lC;have hf:∃kv,kvs.find? (fun kv=>decide (kv.1=Sum.inr y))=Option.some kv:=by
    cases e:kvs.find? (fun kv=>decide (kv.1=Sum.inr y)) with
    | some kv=>exact⟨kv,rfl⟩
    | none=>
      have:=List.find?_eq_none.mp e kvs[i] (List.getElem_mem hl);obtain⟨e1,_⟩:=h.ok i _ _ hk hi;simp[e1] at this
  obtain⟨kv,hkv⟩:=hf;rw[hkv];have hm:=List.mem_of_find?_eq_some hkv;have hp:=List.find?_some hkv;simp only[decide_eq_true_eq] at hp;obtain⟨j,hj⟩:=List.mem_iff_getElem?.mp hm;have hlj:j<R.length:=by rw[← h.len];exact(List.getElem?_eq_some_iff.mp hj).1
  obtain⟨e1,p,e2,e3⟩:=h.ok j kv R[j] hj (by simp[hlj]);rw[hp] at e1;have ey:R[j].1=y:=(Sum.inr.inj e1).symm;have ej:j=i:=z8 nd (x:=y) (by rw[List.getElem?_map,show R[j]? = Option.some R[j] by simp[hlj]];simp[ey]) (by rw[List.getElem?_map,hi];rfl);subst ej;have:R[j]=(y,w):=by
    have:=hi;simp[hlj] at this;exact this
  rw[this] at e3;exact⟨p,by simp[e2],e3⟩
theorem gk.has {H:Hp} {kvs:List (Key×V)} {R:BR} (h:gk H kvs R) (nd:(R.map (·.1)).Nodup) (y:Str):(lC kvs (Sum.inr y)).isSome=decide (y∈R.map (·.1)):=by
  by_cases hy:y∈R.map (·.1)
  ·obtain⟨⟨z,w⟩,h1,e⟩:=List.mem_map.mp hy;simp only at e;subst e;obtain⟨p,e,_⟩:=h.some nd h1;rw[e,decide_eq_true hy];rfl
  ·rw[h.none hy,decide_eq_false hy];rfl
theorem gk.qiM {H:Hp} {kvs:List (Key×V)} {R:BR} (h:gk H kvs R) (nd:(R.map (·.1)).Nodup) (y:Str):(lC kvs (Sum.inr y)).isNone = !decide (y∈R.map (·.1)):=by
  rw[← h.has nd y];cases lC kvs (Sum.inr y) <;> rfl
theorem gk.snoc {H:Hp} {kvs:List (Key×V)} {R:BR} {y:Str} {w:List Nat} {p:Addr} (h:gk H kvs R) (hp:H p=Option.some (.lst (w.map fun n:Nat=>V.int n))):gk H (kvs++[(Sum.inr y,.ref p)]) (R++[(y,w)]):=by
  refine⟨by simp[h.len],fun i kv yw h1 h2=>?_⟩
  by_cases hi:i<kvs.length
  ·rw[List.getElem?_append_left hi] at h1;rw[List.getElem?_append_left (by rw[← h.len];exact hi)] at h2;exact h.ok i kv yw h1 h2
  · rw[List.getElem?_append_right (by omega)] at h1;rw[List.getElem?_append_right (by rw[← h.len];omega),← h.len] at h2;cases hk:i - kvs.length with
    | zero=>
      rw[hk] at h1 h2;cases h1;cases h2;exact⟨rfl,p,rfl,hp⟩
    | succ j=>
      rw[hk] at h1;simp at h1
def qdo (i:Nat) (σ:St):Nat:=match σ[i]? with | some (some (V.int n))=>(10 - n).toNat | _=>0
theorem bF (x:Str) (xs:List Str):inV (.str x) (xs.map V.str)=decide (x∈xs):=by
  unfold inV;rw[List.any_map,Bool.eq_iff_iff,List.any_eq_true,decide_eq_true_eq];constructor
  ·rintro⟨y,hy,e⟩;simp[Qd] at e;exact e▸hy
  ·intro h;exact⟨x,h,by simp[Qd]⟩
theorem bW (xs:List Str):(xs.map V.str).all jl=true:=by
  rw[List.all_map,List.all_eq_true];intro x _;rfl
open Classical in
def lK (S:List iC) (xs:List Str) (x:Str):List Str:=xs.filter fun y=>decide (RT (fu S) x y)
theorem mW {S:List iC} {xs:List Str} {x y:Str}:y∈lK S xs x↔y∈xs∧RT (fu S) x y:=by
  unfold lK;simp
theorem Gj {S:List iC} {xs:List Str} {x:Str}:(lK S xs x).length≤xs.length:=List.length_filter_le _ _
theorem Ui {S:List iC} {xs:List Str} {x y:Str} {i:Nat} (h:xs[i]? = some y) (b:Bool) (hb:b=true↔RT (fu S) x y):lK S (xs.take (i+1)) x=lK S (xs.take i) x++if b=true then [y] else []:=by
  unfold lK;rw[take_one h,List.filter_append];congr 1
  by_cases hr:RT (fu S) x y
  ·rw[if_pos (hb.mpr hr)];simp[hr]
  ·rw[if_neg fun z=>hr (hb.mp z)];simp[hr]
end L2
namespace L2
open PySem PySem.Spec PyProof.Rows
@[simp] theorem qhv (i:Int):yU (.int i) .non=true:=rfl
@[simp] theorem qhw (i:Int):yU .non (.int i)=true:=rfl
@[simp] theorem qhx (i:Str):yU (.str i) .non=true:=rfl
theorem Jb:∀a b:List Str,PyData.eqvAll (d9 a) (d9 b)=decide (a=b)
  | [],[]=>rfl
  | [],y::b=>by simp[d9,PyData.eqvAll]
  | x::a,[]=>by simp[d9,PyData.eqvAll]
  | x::a,y::b=>by
    show(PyData.eqv (.str x) (.str y) && PyData.eqvAll (d9 a) (d9 b))=_;rw[Jb a b,Bool.eq_iff_iff];simp[PyData.eqv]
end L2
namespace L2
open PySem
def jM {α β:Type} (f:α→Nat→List β):List α→Nat→List β
  | [],_=>[]
  | e::r,k=>f e k++jM f r (k+1)
theorem yD {α β:Type} (f:α→Nat→List β):∀(l m:List α) (k:Nat),jM f (l++m) k=jM f l k++jM f m (k+l.length)
  | [],m,k=>by simp[jM]
  | e::l,m,k=>by
    simp only[List.cons_append,jM,yD f l m (k+1),List.append_assoc,List.length_cons];rw[show k+1+l.length=k+(l.length+1) by omega]
theorem xu {α β:Type} (f:α→Nat→List β) {ps:List α} {i:Nat} {e:α} (h:ps[i]? = some e):jM f (ps.take (i+1)) 0=jM f (ps.take i) 0++f e i:=by
  have hi:i<ps.length:=(List.getElem?_eq_some_iff.mp h).1;rw[take_one h,yD,List.length_take,Nat.min_eq_left (Nat.le_of_lt hi),Nat.zero_add];simp[jM]
theorem vD {α β:Type} {f:α→Nat→List β} (hf:∀e k,(f e k).length≤1):∀(ps:List α) (k:Nat),(jM f ps k).length≤ps.length
  | [],_=>by simp[jM]
  | e::r,k=>by
    have h1:=vD hf r (k+1);have h2:=hf e k;simp only[jM,List.length_append,List.length_cons];omega
def Lb (k:Nat) (s:iC):Bool:=decide (s.1≠k)
def dO (ps:List (Str×Str)) (xs:List Str) (k:Nat) (b:Str):List Str:=lK ((aC (fun _=>none) ps 0).filter (Lb k)) xs b
def mX (ps:List (Str×Str)) (xs:List Str) (e:Str×Str) (k:Nat):List (Nat×List Str):=if e.1∈dO ps xs k e.2 then [] else [(k,dO ps xs k e.2)]
def nF (ps:List (Str×Str)) (xs:List Str):List (Nat×List Str):=jM (mX ps xs) ps 0
theorem Qw (ps:List (Str×Str)) (xs:List Str) (e:Str×Str) (k:Nat):(mX ps xs e k).length≤1:=by
  unfold mX;split <;> simp
theorem jq {ps:List (Str×Str)} {xs:List Str} {b y:Str} {k:Nat}:y∈dO ps xs k b↔y∈xs∧RT (gA (fun j=>j≠k) ps) b y:=by
  unfold dO;rw[mW];have:RT (fu ((aC (fun _=>none) ps 0).filter (Lb k))) b y↔RT (gA (fun j=>j≠k) ps) b y:=⟨RT.mono (S:=gA (fun j=>j≠k) ps) fun a b h=>Ah.mp h,RT.mono (R:=gA (fun j=>j≠k) ps) fun a b h=>Ah.mpr h⟩;rw[this]
theorem yE {ps:List (Str×Str)} {xs:List Str} {e:Str×Str} {k:Nat} (hk:ps[k]? = some e) (hx:e.2∈xs) (hps:∀e∈ps,e.1∈xs∧e.2∈xs) (hb:¬e.1∈dO ps xs k e.2) {j:Nat} {d:Str×Str} (hj:ps[j]? = some d) :
    ((d.1∈dO ps xs k e.2)↔(d.2∈dO ps xs k e.2))↔j≠k:=by
  obtain⟨m1,m2⟩:=hps d (List.mem_of_getElem? hj);constructor
  ·intro h z;subst z;rw[hk] at hj;cases hj;exact hb (h.mpr (jq.mpr ⟨hx,.refl _⟩))
  ·intro h;rw[jq,jq];exact⟨fun⟨_,q⟩=>⟨m2,.tail q ⟨j,h,.inl hj⟩⟩,fun⟨_,q⟩=>⟨m1,.tail q ⟨j,h,.inr hj⟩⟩⟩
def mL (c:List Str) (e:Str×Str) (k:Nat):List Nat:=if (e.1∈c↔e.2∈c) then [] else [k]
def jU (c:List Str) (ps:List (Str×Str)):List Nat:=jM (mL c) ps 0
theorem Ai (c:List Str) (e:Str×Str) (k:Nat):(mL c e k).length≤1:=by
  unfold mL;split <;> simp
def xG (H:Hp) (v:V) (z:Addr×Nat×List Str):Prop:=∃t,v = .ref t∧H t=some (.tup [.int z.2.1,.ref z.1])∧H z.1=some (.lst (z.2.2.map V.str))
theorem xG.same {H H':Hp} {vs:List V} {zs:List (Addr×Nat×List Str)} (h:gW xG H vs zs) (k:Same H H'):gW xG H' vs zs:=gW.keep h fun v s ⟨t,e,q,r⟩=>⟨t,e,k _ _ q,k _ _ r⟩
theorem xG.there {H:Hp} {vs:List V} {zs:List (Addr×Nat×List Str)} (h:gW xG H vs zs):∀z∈zs,H z.1=some (.lst (z.2.2.map V.str)):=fun z hz=>by
  obtain⟨i,hi⟩:=List.mem_iff_getElem?.mp hz;have hl:i<vs.length:=by rw[h.1];exact(List.getElem?_eq_some_iff.mp hi).1
  obtain⟨t,_,_,r⟩:=h.2 i vs[i] z (by simp[hl]) hi;exact r
end L2
set_option maxHeartbeats 4000000
namespace L2
open PySem PySem.Spec PyProof.Rows
section
variable {prog:Program} {w:World} {A:Around} {E:Value→Shared→Prop} {s:Shared}
end
structure Nm3 (mg:Str→Option Value):Prop where
  sum:mg "sum" = none
theorem Jc:∀{ys:List Str} {us:List Value},Vals (ys.map V.str) us→StrsAre us ys
  | [],_,r=>by rw[List.map_nil] at r;cases r;exact .nil
  | y::ys,_,r=>by
    rw[List.map_cons] at r;cases r with
    | cons h t=>
      obtain⟨k,rfl⟩:=h;exact .cons y k (Jc t)
section
variable {X:Cx} {K:W.Frag}
def rJoin:V→List V→Hp→VK→Prop:=fun x xs H Q=>∃(sep:Str) (l:Addr) (ys:List Str),x = .str sep∧xs=[.ref l]∧H l=some (.lst (ys.map V.str))∧(ys.map (·.length)).sum+ys.length * sep.length≤16777216∧Q (.str (Txt.join sep ys)) H
theorem Xx:KQ X "str.join" rJoin:=by
  intro p_ s σ H x xs v us Q I rx rs q;obtain⟨sep,l,ys,rfl,rfl,hl,hz,q⟩:=q;obtain⟨u,rfl,ru⟩:=rs.one;obtain rfl:u=Value.ref l:=ru;obtain⟨t,rfl⟩:=rx;obtain⟨its,rv,pl,hz1⟩:=I.list (aY.of hl);exact join_list pl.isList (by simpa using Jc rv) hz fun t' k=>⟨.str _,H,I.tok _,⟨t',rfl⟩,q⟩
theorem qiN (hK:X.K=K):SlR X (Xb K):=by subst hK;exact Xc
@[simp ↓] theorem qhy (K:W.Frag) x lo hi H Q:Xb K x lo hi H Q=(∃a xs,x = .ref a∧aY K H a xs∧∀p,H p=none→Q (.ref p) (upd H p (.lst (zW xs lo hi)))):=rfl
theorem Ea:∀(xs:List Str) (a:Array Nat),(xs.foldl (fun acc p=>acc++(Str.ofString "").cps++p.cps) a).toList=a.toList++xs.flatMap (·.cps.toList)
  | [],a=>by simp
  | x::xs,a=>by
    rw[List.foldl_cons,Ea xs];rw[show(Str.ofString "").cps = #[] from rfl,Array.append_empty];simp
theorem Qx (ys:List Str):(Txt.join (Str.ofString "") ys).cps.toList=ys.flatMap (·.cps.toList):=by
  cases ys with
  | nil=>rfl
  | cons x xs=>
    show(List.foldl _ x.cps xs).toList=_;exact(Ea xs x.cps).trans (by simp)
theorem q_:∀(ys:List Str),(∀y∈ys,∃n,n<26∧y=⟨#[97+n]⟩)→(ys.flatMap (·.cps.toList)).length=ys.length∧(ys.flatMap (·.cps.toList)).all WD=true∧(ys.map (·.length)).sum=ys.length
  | [],_=>by simp
  | y::ys,h=>by
    obtain⟨n,hn,rfl⟩:=h y (List.mem_cons_self ..);obtain⟨h1,h2,h3⟩:=q_ ys fun z hz=>h z (List.mem_cons_of_mem _ hz);refine⟨by simp only[List.flatMap_cons,List.length_append,List.length_cons,h1];simp;omega,by rw[List.flatMap_cons,List.all_append,h2];simp[TY n hn],?_⟩;rw[List.map_cons,List.sum_cons,h3,List.length_cons];show 1+_=_;omega
theorem pq.glue {c k:Nat} {x:Str} (h:pq c k x) (hk:0<k) {ys:List Str} (hy:∀y∈ys,∃n,n<26∧y=⟨#[97+n]⟩):pq c (k+ys.length) (x++Txt.join (Str.ofString "") ys):=by
  obtain⟨h1,h2,h3⟩:=h;obtain⟨y1,y2,_⟩:=q_ ys hy;have e:=Qx ys;have hs:x.cps.size=k:=h1;refine⟨?_,?_,?_⟩
  ·show(x.cps++(Txt.join (Str.ofString "") ys).cps).size=_;rw[Array.size_append,hs,← Array.length_toList,e,y1]
  ·show(x.cps++(Txt.join (Str.ofString "") ys).cps)[0]? = _;rw[Array.getElem?_append_left (by omega)];exact h2
  ·show(x.cps++(Txt.join (Str.ofString "") ys).cps).toList.all WD=true;rw[Array.toList_append,List.all_append,h3,e,y2];rfl
end
section
variable {K:W.Frag} {l1 l2:Addr} {g:TG} {tb:TS} {D:Ends} {d:Ud g tb D} {σ:St} {H:Hp}
theorem frZ (xs ys:List V) (Pv:Nat→St→Hp→Prop) (h0:Pv 0 σ H) (he:xs.length=ys.length) (hl:∀i σ H,i≤xs.length→Pv i σ H→aY K H l1 xs∧aY K H l2 ys)
    (hs:∀i x y t σ H,xs[i]? = some x→ys[i]? = some y→H t=none→Pv i σ H→g (.ref t) σ (upd H t (.tup [x,y])) fun σ2 H2=>tb {D with nx:=Pv (i+1),ct:=Pv (i+1),bk:=D.nx} σ2 H2) (hd:∀σ H,Pv xs.length σ H→D.nx σ H):tFr (Zk K l1 l2) g tb D d σ H:=by
  refine⟨fun i m σ H=>m=xs.length - i∧i≤xs.length∧Pv i σ H,⟨xs.length,by simp,Nat.zero_le _,h0⟩,?_⟩;rintro i m σ H ⟨rfl,hi,p⟩;obtain⟨q1,q2⟩:=hl i σ H hi p
  by_cases hlt:i<xs.length
  · have hlt2:i<ys.length:=by omega
    refine .inr ⟨⟨xs,ys,xs[i],ys[i],q1,q2,by simp[hlt],by simp[hlt2]⟩,Pv (i+1),fun σ' H' p'=>⟨xs.length - (i+1),by omega,rfl,hlt,p'⟩,fun x H' y=>?_⟩;obtain⟨t,u,v,rfl,ht,rfl,e1,e2⟩:=y;exact hs i u v t σ H (e1 xs q1) (e2 ys q2) ht p
  · have e:i=xs.length:=by omega
    subst e;exact .inl ⟨⟨xs,ys,q1,q2,.inl (Nat.le_refl _)⟩,hd σ H p⟩
end
def eX (ns:List Int):List PyData:=ns.map PyData.int
theorem su {K:W.Frag} {H:Hp}:∀ns:List Int,qD K H (eX ns) (ns.map V.int)
  | []=>rfl
  | n::ns=>⟨_,_,rfl,rfl,su ns⟩
theorem lay_ints:∀ns:List Int,PyData.canLayAll0 (eX ns)=true
  | []=>by simp[eX,PyData.canLayAll0]
  | x::xs=>by
    have:=lay_ints xs;simp[eX] at this;simp[eX,PyData.canLayAll0,PyData.canLay0,this]
theorem Jd:∀xs:List Int,PyData.depthAll (eX xs)≤1
  | []=>by simp[eX,PyData.depthAll]
  | x::xs=>by
    have:=Jd xs;simp[eX] at this;simp[eX,PyData.depthAll,PyData.depth,this]
theorem Je:∀a b:List Int,PyData.eqvAll (eX a) (eX b)=decide (a=b)
  | [],[]=>rfl
  | [],y::b=>by simp[eX,PyData.eqvAll]
  | x::a,[]=>by simp[eX,PyData.eqvAll]
  | x::a,y::b=>by
    show(PyData.eqv (.int x) (.int y) && PyData.eqvAll (eX a) (eX b))=_;rw[Je a b,Bool.eq_iff_iff];simp[PyData.eqv]
def Uj (n:Int) (e:Str×Str):Str:=if n=0 then e.2 else e.1
section
variable {X:Cx} {K:W.Frag}
def Zx (K:W.Frag):List V→Hp→VK→Prop:=fun xs H Q=>∃(v:V) (d:PyData),xs=[v]∧Is K H d v∧d.showable=true∧d.hasDict=false∧d.depth≤32∧d.shown.length≤sizeLine∧Q (.str d.shown) H
theorem boot_repr:bootBuiltins "repr" = some (.builtin "repr"):=by decide+kernel
theorem Ld (hK:X.K=K) (hg:X.A.guards=some []) (hu:X.A.units+64<cLine):cB X (.builtin "repr") (Zx K):=by
  subst hK;intro p_ s σ H xs us Q I r h;obtain⟨v,d,rfl,hi,hs,hnd,hd,hz,q⟩:=h;obtain⟨u,rfl,ru⟩:=r.one;have Uk:∀a:Addr,u = .ref a→wpAny (model X.prog X.w) X.A (call (.builtin "repr") [u]) (EP X p_ σ Q) X.xe s:=by
    rintro a rfl;obtain⟨as,rd⟩:=Is.reads I d v (.ref a) hi ru;exact repr_of_reads' (h₀:=s.heap) rd hs (PyData.noDict_hsm hnd) hg (by omega) (fun _ _ e=>e) (fun h' u tk hk=>⟨.str _,H,I.kept (t':=tk) hk,⟨u,rfl⟩,q⟩) hz
  cases d with
  | none=>
    simp only[Is] at hi;subst hi;cases ru;exact PySem.P.repr_of_none ⟨.str _,H,I.tok _,⟨_,rfl⟩,by simpa only[PyData.shown] using q⟩
  | bool b=>
    simp only[Is] at hi;subst hi;cases ru;exact PySem.P.repr_of_bool ⟨.str _,H,I.tok _,⟨_,rfl⟩,by simpa only[PyData.shown] using q⟩
  | int i=>
    simp only[Is] at hi;subst hi;obtain⟨t,rfl⟩:=ru;exact PySem.P.repr_of_int (by simpa [PyData.showable] using hs) ⟨.str _,H,I.tok _,⟨_,rfl⟩,by simpa only[PyData.shown] using q⟩
  | str x=>
    simp only[Is] at hi;subst hi;obtain⟨t,rfl⟩:=ru;exact PySem.P.repr_of_str ⟨.str _,H,I.tok _,⟨_,rfl⟩,by simpa only[PyData.shown] using q⟩ (by simpa only[PyData.shown] using hz)
  | list ds=>simp only[Is] at hi;obtain⟨a,_,rfl,_⟩:=id hi;exact Uk a (by cases ru;rfl)
  | tuple ds=>simp only[Is] at hi;obtain⟨a,_,rfl,_⟩:=id hi;exact Uk a (by cases ru;rfl)
  | dict kvs=>simp only[Is] at hi
end
def isInt (x:V) (R:Int→Prop):Prop:=match x with | .int i=>R i | _=>False
def isStr (x:V) (R:Str→Prop):Prop:=match x with | .str i=>R i | _=>False
def rm (x:V) (R:Bool→Prop):Prop:=match x with | .bl i=>R i | _=>False
def isRef (x:V) (R:Addr→Prop):Prop:=match x with | .ref i=>R i | _=>False
def Qy (x:V) (R:String→Prop):Prop:=match x with | .ty n=>R n | _=>False
def Xy (xs:List V) (R:Prop):Prop:=match xs with | []=>R | _=>False
def ar1 (xs:List V) (R:V→Prop):Prop:=match xs with | [x]=>R x | _=>False
def ar2 (xs:List V) (R:V→V→Prop):Prop:=match xs with | [x,y]=>R x y | _=>False
def arH (xs:List V) (R:V→List V→Prop):Prop:=match xs with | x::r=>R x r | []=>False
def getSt:St→Nat→(V→Prop)→Prop
  | [],_,_=>False
  | o::_,0,R=>match o with | some v=>R v | none=>False
  | _::σ,n+1,R=>getSt σ n R
@[simp ↓] theorem qhz (i:Int) R:isInt (.int i) R=R i:=rfl
@[simp ↓] theorem qhA (i:Str) R:isStr (.str i) R=R i:=rfl
@[simp ↓] theorem qiO (i:Bool) R:rm (.bl i) R=R i:=rfl
@[simp ↓] theorem qhB (i:Addr) R:isRef (.ref i) R=R i:=rfl
@[simp ↓] theorem qiP (i:String) R:Qy (.ty i) R=R i:=rfl
@[simp ↓] theorem qle R:Xy [] R=R:=rfl
@[simp ↓] theorem qlf x R:ar1 [x] R=R x:=rfl
@[simp ↓] theorem qlg x y R:ar2 [x,y] R=R x y:=rfl
@[simp ↓] theorem qlh x r R:arH (x::r) R=R x r:=rfl
@[simp ↓] theorem qhC v σ R:getSt (some v::σ) 0 R=R v:=rfl
@[simp ↓] theorem qhD o σ n R:getSt (o::σ) (n+1) R=getSt σ n R:=rfl
theorem isInt.out {x:V} {R} (h:isInt x R):∃i,x = .int i∧R i:=by cases x <;> first | exact⟨_,rfl,h⟩ | exact h.elim
theorem isStr.out {x:V} {R} (h:isStr x R):∃i,x = .str i∧R i:=by cases x <;> first | exact⟨_,rfl,h⟩ | exact h.elim
theorem rm.out {x:V} {R} (h:rm x R):∃i,x = .bl i∧R i:=by cases x <;> first | exact⟨_,rfl,h⟩ | exact h.elim
theorem isRef.out {x:V} {R} (h:isRef x R):∃i,x = .ref i∧R i:=by cases x <;> first | exact⟨_,rfl,h⟩ | exact h.elim
theorem Qy.out {x:V} {R} (h:Qy x R):∃i,x = .ty i∧R i:=by cases x <;> first | exact⟨_,rfl,h⟩ | exact h.elim
theorem Xy.out {xs:List V} {R} (h:Xy xs R):xs=[]∧R:=by cases xs <;> first | exact⟨rfl,h⟩ | exact h.elim
theorem ar1.out {xs:List V} {R} (h:ar1 xs R):∃x,xs=[x]∧R x:=by
  match xs,h with
  | [x],h=>exact⟨x,rfl,h⟩
theorem ar2.out {xs:List V} {R} (h:ar2 xs R):∃x y,xs=[x,y]∧R x y:=by
  match xs,h with
  | [x,y],h=>exact⟨x,y,rfl,h⟩
theorem arH.out {xs:List V} {R} (h:arH xs R):∃x r,xs=x::r∧R x r:=by cases xs <;> first | exact⟨_,_,rfl,h⟩ | exact h.elim
theorem getSt.out:∀{σ:St} {i:Nat} {R},getSt σ i R→∃v,σ[i]? = some (some v)∧R v
  | [],_,_,h=>h.elim
  | some v::_,0,_,h=>⟨v,rfl,h⟩
  | none::_,0,_,h=>h.elim
  | _::σ,n+1,R,h=>by
    obtain⟨v,e,q⟩:=getSt.out (σ:=σ) (i:=n) h;exact⟨v,by simpa using e,q⟩
section
variable {X:Cx}
theorem PE.mono {e:Expr} {t t':TE} (o:PE X e t) (h:∀{σ H Q},t' σ H Q→t σ H Q):PE X e t':=fun p_ s σ H Q I q=>o p_ s σ H Q I (h q)
theorem PS.mono {e:Stmt} {t t':TS} (o:PS X e t) (h:∀{D σ H},t' D σ H→t D σ H):PS X e t':=fun p_ s σ H D I q=>o p_ s σ H D I (h q)
theorem jg.mono {e:List Expr} {t t':HS} (o:jg X e t) (h:∀{v σ H Q},t' v σ H Q→t v σ H Q):jg X e t':=fun p_ s σ H v u Q I r q=>o p_ s σ H v u Q I r (h q)
theorem iZ.mono {f:Value→Value→Sem Value} {r r':R2} (o:iZ X f r) (h:∀{x y H Q},r' x y H Q→r x y H Q):iZ X f r':=fun p_ s σ H x y v u Q I rx ry q=>o p_ s σ H x y v u Q I rx ry (h q)
theorem cB.mono {f:Value} {r r':List V→Hp→VK→Prop} (o:cB X f r) (h:∀{x H Q},r' x H Q→r x H Q):cB X f r':=fun p_ s σ H x v Q I rx q=>o p_ s σ H x v Q I rx (h q)
theorem KQ.mono {f:String} {r r':V→List V→Hp→VK→Prop} (o:KQ X f r) (h:∀{x y H Q},r' x y H Q→r x y H Q):KQ X f r':=fun p_ s σ H x y v u Q I rx ry q=>o p_ s σ H x y v u Q I rx ry (h q)
theorem S_.mono {r r':R2} (o:S_ X r) (h:∀{x y H Q},r' x y H Q→r x y H Q):S_ X r':=fun a b p_ s σ H x y v u Q I rx ry q z=>o a b p_ s σ H x y v u Q I rx ry (h q) z
theorem SlR.mono {r r':V→Option Int→Option Int→Hp→VK→Prop} (o:SlR X r) (h:∀{x lo hi H Q},r' x lo hi H Q→r x lo hi H Q):SlR X r':=fun p_ s σ H x v vl vu lo hi sl Q I rx z1 z2 z3 q=>o p_ s σ H x v vl vu lo hi sl Q I rx z1 z2 z3 (h q)
theorem PIp.mono {op:Operator} {r r':WX} (o:PIp X op r) (h:∀{x y H Q},r' x y H Q→r x y H Q):PIp X op r':=fun p_ s σ H x y v u Q I rx ry q=>o p_ s σ H x y v u Q I rx ry (h q)
theorem Pz.mono {r r':Py} (o:Pz X r) (h:∀{x y z H Q},r' x y z H Q→r x y z H Q):Pz X r':=fun p_ s σ H o' i v ov iv u Q I a b c q=>o p_ s σ H o' i v ov iv u Q I a b c (h q)
end
def fVar (i:Nat):TE:=fun σ H Q=>getSt σ i fun v=>Q v H
@[simp ↓] theorem qiQ (i:Nat) σ H Q:fVar i σ H Q=getSt σ i (fun v=>Q v H):=rfl
theorem qa6 {i:Nat} {σ H Q} (h:fVar i σ H Q):qak i σ H Q:=getSt.out h
def lE:List Str→List V→St
  | _::N,v::vs=>some v::lE N vs
  | _::N,[]=>none::lE N []
  | [],_=>[]
@[simp ↓] theorem qcz n N v vs:lE (n::N) (v::vs)=some v::lE N vs:=rfl
@[simp ↓] theorem qcA n N:lE (n::N) []=none::lE N []:=rfl
@[simp ↓] theorem qdp vs:lE [] vs=[]:=by cases vs <;> rfl
theorem sy:∀(N:List Str) (vs:List V),vs.length≤N.length→lE N vs=start N vs
  | [],[],_=>rfl
  | [],_::_,h=>by simp at h
  | n::N,[],_=>by
    rw[lE,sy N [] (by simp)];simp[start,List.replicate_succ]
  | n::N,v::vs,h=>by
    rw[lE,sy N vs (by simpa using h)];simp[start]
def Xz (g:Int→Int→V):R2:=fun x y H Q=>isInt x fun i=>isInt y fun j=>Q (g i j) H
def fI (C:Int→Int→Prop) (g:Int→Int→V):R2:=fun x y H Q=>isInt x fun i=>isInt y fun j=>C i j∧Q (g i j) H
@[simp ↓] theorem qli g x y H Q:Xz g x y H Q=(isInt x fun i=>isInt y fun j=>Q (g i j) H):=rfl
@[simp ↓] theorem qlL C g x y H Q:fI C g x y H Q=(isInt x fun i=>isInt y fun j=>C i j∧Q (g i j) H):=rfl
theorem Jf {g:Int→Int→V} {x y H Q} (h:Xz g x y H Q):Zh g x y H Q:=by
  obtain⟨i,rfl,h1⟩:=isInt.out h;obtain⟨j,rfl,h2⟩:=isInt.out h1;exact⟨i,j,rfl,rfl,h2⟩
theorem XD {C} {g:Int→Int→V} {x y H Q} (h:fI C g x y H Q):rI C g x y H Q:=by
  obtain⟨i,rfl,h1⟩:=isInt.out h;obtain⟨j,rfl,h2⟩:=isInt.out h1;exact⟨i,j,rfl,rfl,h2⟩
def fEq:R2:=fun x y H Q=>match x,y with
  | .int i,.int j=>Q (.bl (decide (i=j))) H
  | .str i,.str j=>Q (.bl (decide (i=j))) H
  | .bl i,.bl j=>Q (.bl (decide (i=j))) H
  | x,y=>yU x y=true∧Q (.bl (decide (x=y))) H
def fNe:R2:=fun x y H Q=>match x,y with
  | .int i,.int j=>∃k,decide (i=j) = !k∧Q (.bl k) H
  | .str i,.str j=>∃k,decide (i=j) = !k∧Q (.bl k) H
  | .bl i,.bl j=>∃k,decide (i=j) = !k∧Q (.bl k) H
  | x,y=>yU x y=true∧∃k,decide (x=y) = !k∧Q (.bl k) H
@[simp ↓] theorem qlj i j H Q:fEq (.int i) (.int j) H Q=Q (.bl (decide (i=j))) H:=rfl
@[simp ↓] theorem qlk i j H Q:fEq (.str i) (.str j) H Q=Q (.bl (decide (i=j))) H:=rfl
@[simp ↓] theorem qll i j H Q:fEq (.bl i) (.bl j) H Q=Q (.bl (decide (i=j))) H:=rfl
@[simp ↓] theorem qlm i j H Q:fNe (.int i) (.int j) H Q=∃k,decide (i=j) = !k∧Q (.bl k) H:=rfl
@[simp ↓] theorem qln i j H Q:fNe (.str i) (.str j) H Q=∃k,decide (i=j) = !k∧Q (.bl k) H:=rfl
@[simp ↓] theorem qlo i j H Q:fNe (.bl i) (.bl j) H Q=∃k,decide (i=j) = !k∧Q (.bl k) H:=rfl
theorem Aj {b:Bool} {R:Bool→Prop} (h:∃k,b = !k∧R k):R (!b):=by
  obtain⟨k,e,q⟩:=h;rw[e,Bool.not_not];exact q
theorem qdq {x y H Q} (h:fEq x y H Q):rEq x y H Q:=by
  unfold fEq at h;split at h
  ·exact⟨rfl,by simpa using h⟩
  ·exact⟨rfl,by simpa using h⟩
  ·exact⟨rfl,by simpa using h⟩
  ·exact h
theorem qdr {x y H Q} (h:fNe x y H Q):rNe x y H Q:=by
  unfold fNe at h;split at h
  ·exact⟨rfl,by simpa using Aj (R:=fun k=>Q (.bl k) H) h⟩
  ·exact⟨rfl,by simpa using Aj (R:=fun k=>Q (.bl k) H) h⟩
  ·exact⟨rfl,by simpa using Aj (R:=fun k=>Q (.bl k) H) h⟩
  ·exact⟨h.1,Aj (R:=fun k=>Q (.bl k) H) h.2⟩
def Ul:R2:=fun x y H Q=>isStr x fun i=>isStr y fun j=>i.length+j.length≤sizeLine∧Q (.str (i++j)) H
@[simp ↓] theorem qhE x y H Q:Ul x y H Q=(isStr x fun i=>isStr y fun j=>i.length+j.length≤sizeLine∧Q (.str (i++j)) H):=rfl
theorem XF {x y H Q} (h:Ul x y H Q):qc7 x y H Q:=by
  obtain⟨i,rfl,h1⟩:=isStr.out h;obtain⟨j,rfl,h2⟩:=isStr.out h1;exact⟨i,j,rfl,rfl,h2⟩
def qa7:R2:=fun x y H Q=>isRef x fun l=>isRef y fun b=>∃xs,H l=some (.lst xs)∧∃zs,H b=some (.lst zs)∧xs.length+zs.length≤sizeLine∧∀p,H p=none→Q (.ref p) (upd H p (.lst (xs++zs)))
@[simp ↓] theorem qiR x y H Q:qa7 x y H Q=(isRef x fun l=>isRef y fun b=>∃xs,H l=some (.lst xs)∧∃zs,H b=some (.lst zs)∧xs.length+zs.length≤sizeLine∧∀p,H p=none→Q (.ref p) (upd H p (.lst (xs++zs)))):=rfl
theorem qa8 {x y H Q} (h:qa7 x y H Q):qc1 x y H Q:=by
  obtain⟨i,rfl,h0⟩:=isRef.out h;obtain⟨j,rfl,xs,h1,zs,h2,h3⟩:=isRef.out h0;exact⟨i,j,xs,zs,rfl,rfl,h1,h2,h3⟩
def qds:R2:=fun x y H Q=>isRef x fun l=>isInt y fun k=>∃xs,H l=some (.lst xs)∧-(2 ^ 63)≤k∧k<2 ^ 63∧xs.length * k.toNat≤sizeLine∧∀p,H p=none→Q (.ref p) (upd H p (.lst (List.replicate k.toNat xs).flatten))
def vG (t:TE):TT:=fun σ H Q=>t σ H fun x H'=>rm x fun k=>Q k H'
@[simp ↓] theorem qhF (t:TE) σ H Q:vG t σ H Q=(t σ H fun x H'=>rm x fun k=>Q k H'):=rfl
def Um (ta:TE):TE:=fun σ H Q=>ta σ H fun x H1=>rm x fun c=>Q (.bl (!c)) H1
@[simp ↓] theorem qhG (ta:TE) σ H Q:Um ta σ H Q=(ta σ H fun x H1=>rm x fun c=>Q (.bl (!c)) H1):=rfl
def Uo (ta tb:TE):TE:=fun σ H Q=>ta σ H fun x H1=>rm x fun c=>gb c (tb σ H1 Q) (Q (.bl false) H1) ⟨0⟩
@[simp ↓] theorem qhH (ta tb:TE) σ H Q:Uo ta tb σ H Q=(ta σ H fun x H1=>rm x fun c=>gb c (tb σ H1 Q) (Q (.bl false) H1) ⟨0⟩):=rfl
def Gk (r r':R2) (ta tb tc:TE):TE:=fun σ H Q=>ta σ H fun x H1=>tb σ H1 fun y H2=>r x y H2 fun z H3=>rm z fun k=>gb k (tc σ H3 fun w' H4=>r' y w' H4 Q) (Q (.bl false) H3) ⟨0⟩
@[simp ↓] theorem qdt (r r':R2) (ta tb tc:TE) σ H Q:Gk r r' ta tb tc σ H Q=(ta σ H fun x H1=>tb σ H1 fun y H2=>r x y H2 fun z H3=>rm z fun k=>gb k (tc σ H3 fun w' H4=>r' y w' H4 Q) (Q (.bl false) H3) ⟨0⟩):=rfl
section
variable {X:Cx} {K:W.Frag} {a b c:Expr} {ta tb tc:TE} {tA:TT} {pos:Pos}
theorem aL (i:Nat) {x:Str} {pos:Pos} (hN:X.N[i]? = some x:=by rfl) (hv:Vis X.env.scope x:=by first | exact Or.inl rfl | exact Or.inr (Or.inl rfl) | exact Or.inr (Or.inr rfl)) (hd:(x == ("__debug__" : Str))=false:=by decide)
    (hcd:(x == ("__classdict__" : Str))=false:=by decide):PE X (.Name x pos) (fVar i):=(qal hN hv hd hcd).mono qa6
theorem j4:iZ X (binaryOp .Add) (Xz fun i j=>.int (i+j)):=qax.mono Jf
theorem vH:iZ X (binaryOp .Sub) (Xz fun i j=>.int (i - j)):=qay.mono Jf
theorem uz:iZ X (compareOp .Lt) (Xz fun i j=>.bl (decide (i<j))):=qcU.mono Jf
theorem uD:iZ X (compareOp .LtE) (Xz fun i j=>.bl (decide (i≤j))):=qcV.mono Jf
theorem Ak:iZ X (compareOp .Gt) (Xz fun i j=>.bl (decide (j<i))):=qcW.mono Jf
theorem jV:iZ X (compareOp .Eq) fEq:=qcS.mono qdq
theorem nG:iZ X (compareOp .NotEq) fNe:=qcT.mono qdr
theorem Jg:iZ X (binaryOp .Add) Ul:=Kw.mono XF
theorem Oi:iZ X (binaryOp .Add) qa7:=qaO.mono qa8
theorem vI (x:V) (R:Bool→Prop):rm x R=(∃k,x = .bl k∧R k):=propext ⟨rm.out,fun⟨k,e,q⟩=>by subst e;exact q⟩
theorem Uq (x:V) (R:Int→Prop):isInt x R=(∃k,x = .int k∧R k):=propext ⟨isInt.out,fun⟨k,e,q⟩=>by subst e;exact q⟩
theorem Jh (x:V) (R:Addr→Prop):isRef x R=(∃k,x = .ref k∧R k):=propext ⟨isRef.out,fun⟨k,e,q⟩=>by subst e;exact q⟩
theorem Ur (x:V) (R:Str→Prop):isStr x R=(∃k,x = .str k∧R k):=propext ⟨isStr.out,fun⟨k,e,q⟩=>by subst e;exact q⟩
theorem qa9 (x:List V) (R:V→List V→Prop):arH x R=(∃k j,x=k::j∧R k j):=propext ⟨arH.out,fun⟨k,j,e,q⟩=>by subst e;exact q⟩
theorem Ji (t:TE):vG t=NK t:=by
  funext σ H Q
  exact congrArg (t σ H) (funext fun x=>funext fun H'=>vI _ _)
theorem Zy (t:TE):vG t=tB t:=by
  funext σ H Q
  exact congrArg (t σ H) (funext fun x=>funext fun H'=>vI _ _)
theorem Us (t:TE):Um t=R0 t:=by
  funext σ H Q
  exact congrArg (t σ H) (funext fun x=>funext fun H'=>vI _ _)
theorem Ut (t u:TE):Uo t u=RZ t u:=by
  funext σ H Q
  exact congrArg (t σ H) (funext fun x=>funext fun H'=>vI _ _)
theorem Eb (r r':R2) (ta tb tc:TE):Gk r r' ta tb tc=Fq r r' ta tb tc:=by
  funext σ H Q
  exact congrArg (ta σ H) (funext fun x=>funext fun H1=>congrArg (tb σ H1) (funext fun y=>funext fun H2=>congrArg (r x y H2) (funext fun z=>funext fun H3=>vI _ _)))
theorem bA {op:CmpOp} {r:R2} (ho:iZ X (compareOp op) r) (ha:PE X a ta) (hb:PE X b tb) (hm:behindInMarks op b=false):PT X (.Compare a [op] [b] pos) (vG (Zg r ta tb)):=Ji _▸W6 ho ha hb hm
theorem Gm {op:CmpOp} {t:TE} (h:PC X op a b t) (h1:behindInMarks op b=false:=by first | exact Ia _ (by decide) (by decide) | rfl):PT X (.Compare a [op] [b] pos) (vG t):=Zy _▸qam h h1
theorem cM {e:Expr} {t:TE} (h:PE X e t) (he:∀whole,isTrue e X.env whole=(do let v ← whole;standAt e.pos;holding [v] (truthy v)):=by intro _;rfl):PT X e (vG t):=Zy _▸qan h he
theorem xH {op op':CmpOp} {r r':R2} (ho:iZ X (compareOp op) r) (ho':iZ X (compareOp op') r') (ha:PE X a ta) (hb:PE X b tb) (hc:PE X c tc)
    (hm:lastMarks [op,op'] [b,c]=false:=by with_unfolding_all rfl):PE X (.Compare a [op,op'] [b,c] pos) (Gk r r' ta tb tc):=Eb _ _ _ _ _▸Ss ho ho' ha hb hc hm
theorem Ec {op op':CmpOp} {r r':R2} (ho:iZ X (compareOp op) r) (ho':iZ X (compareOp op') r') (ha:PE X a ta) (hb:PE X b tb) (hc:PE X c tc)
    (hm:lastMarks [op,op'] [b,c]=false:=by with_unfolding_all rfl):PT X (.Compare a [op,op'] [b,c] pos) (vG (Gk r r' ta tb tc)):=by
  rw[Ji,Eb];exact Sv ho ho' ha hb hc hm
theorem Gn (ha:PE X a ta):PE X (.UnaryOp .Not a pos) (Um ta):=Us _▸qap ha
theorem gY {rest:List Expr} (ha:PE X a ta) (hb:PE X (.BoolOp .And (b::rest) pos) tb):PE X (.BoolOp .And (a::b::rest) pos) (Uo ta tb):=Ut _ _▸qao ha hb
end
def qa_ (K:W.Frag):R2:=fun x y H Q=>isRef x fun p=>isInt y fun i=>∃xs,(aY K H p xs∨dz K H p xs)∧∃v,CJ xs i=some v∧Q v H
@[simp ↓] theorem qiS (K:W.Frag) x y H Q:qa_ K x y H Q=(isRef x fun p=>isInt y fun i=>∃xs,(aY K H p xs∨dz K H p xs)∧∃v,CJ xs i=some v∧Q v H):=rfl
theorem qba {K:W.Frag} {x y H Q} (h:qa_ K x y H Q):qaV K x y H Q:=by
  obtain⟨p,rfl,h1⟩:=isRef.out h;obtain⟨i,rfl,xs,h2,v,h3,h4⟩:=isInt.out h1;exact⟨p,xs,i,v,rfl,rfl,h2,h3,h4⟩
def qbb  : R2:=fun x y H Q=>isStr x fun z=>isInt y fun i=>z.length≤sizeLine∧∃c,CJ z.cps.toList i=some c∧Q (.str ⟨#[c]⟩) H
@[simp ↓] theorem qiT  x y H Q:qbb x y H Q=(isStr x fun z=>isInt y fun i=>z.length≤sizeLine∧∃c,CJ z.cps.toList i=some c∧Q (.str ⟨#[c]⟩) H):=rfl
theorem qbc  {x y H Q} (h:qbb x y H Q):qcZ x y H Q:=by
  obtain⟨z,rfl,h1⟩:=isStr.out h;obtain⟨i,rfl,h2,c,h3,h4⟩:=isInt.out h1;exact⟨z,i,c,rfl,rfl,h2,h3,h4⟩
def Jj (K:W.Frag):List V→Hp→VK→Prop:=fun xs H Q=>ar1 xs fun x=>isRef x fun p=>∃ys,(aY K H p ys∨dz K H p ys)∧Q (.int ys.length) H
@[simp ↓] theorem qhI (K:W.Frag) xs H Q:Jj K xs H Q=(ar1 xs fun x=>isRef x fun p=>∃ys,(aY K H p ys∨dz K H p ys)∧Q (.int ys.length) H):=rfl
theorem XH {K:W.Frag} {xs H Q} (h:Jj K xs H Q):Zm K xs H Q:=by
  obtain⟨x,rfl,h1⟩:=ar1.out h;obtain⟨p,rfl,ys,h2,h3⟩:=isRef.out h1;exact⟨p,ys,rfl,h2,h3⟩
def Uu  : List V→Hp→VK→Prop:=fun xs H Q=>ar1 xs fun x=>isStr x fun z=>z.length≤sizeLine∧Q (.int z.length) H
@[simp ↓] theorem qhJ  xs H Q:Uu xs H Q=(ar1 xs fun x=>isStr x fun z=>z.length≤sizeLine∧Q (.int z.length) H):=rfl
theorem XJ  {xs H Q} (h:Uu xs H Q):Zn xs H Q:=by
  obtain⟨x,rfl,h1⟩:=ar1.out h;obtain⟨p,rfl,h2⟩:=isStr.out h1;exact⟨p,rfl,h2⟩
def Gp (K:W.Frag):List V→Hp→VK→Prop:=fun xs H Q=>ar1 xs fun x=>isRef x fun p=>∃ys,(aY K H p ys∨dz K H p ys)∧∀l,H l=none→Q (.ref l) (upd H l (.lst ys))
@[simp ↓] theorem qcB (K:W.Frag) xs H Q:Gp K xs H Q=(ar1 xs fun x=>isRef x fun p=>∃ys,(aY K H p ys∨dz K H p ys)∧∀l,H l=none→Q (.ref l) (upd H l (.lst ys))):=rfl
theorem Qz {K:W.Frag} {xs H Q} (h:Gp K xs H Q):N_ K xs H Q:=by
  obtain⟨x,rfl,h1⟩:=ar1.out h;obtain⟨p,rfl,ys,h2,h3⟩:=isRef.out h1;exact⟨p,ys,rfl,h2,h3⟩
def Gq  : List V→Hp→VK→Prop:=fun xs H Q=>ar1 xs fun x=>isRef x fun p=>∃ys,Sq H p ys∧∀l H',H' l=some (.tup ys)→Same H H'→Q (.ref l) H'
@[simp ↓] theorem qcC  xs H Q:Gq xs H Q=(ar1 xs fun x=>isRef x fun p=>∃ys,Sq H p ys∧∀l H',H' l=some (.tup ys)→Same H H'→Q (.ref l) H'):=rfl
theorem QB  {xs H Q} (h:Gq xs H Q):Oa xs H Q:=by
  obtain⟨x,rfl,h1⟩:=ar1.out h;obtain⟨p,rfl,ys,h2,h3⟩:=isRef.out h1;exact⟨p,ys,rfl,h2,h3⟩
def Uv (K:W.Frag):List V→Hp→VK→Prop:=fun xs H Q=>ar2 xs fun x y=>Qy y fun n=>∃t,lQ K H x t∧∃b,W.kitOne K t (.type n)=some b∧Q (.bl b) H
@[simp ↓] theorem qhK (K:W.Frag) xs H Q:Uv K xs H Q=(ar2 xs fun x y=>Qy y fun n=>∃t,lQ K H x t∧∃b,W.kitOne K t (.type n)=some b∧Q (.bl b) H):=rfl
theorem XM {K:W.Frag} {xs H Q} (h:Uv K xs H Q):Zo K xs H Q:=by
  obtain⟨x,y,rfl,h1⟩:=ar2.out h;obtain⟨n,rfl,t,h2,b,h3,h4⟩:=Qy.out h1;exact⟨x,n,t,b,rfl,h2,h3,h4⟩
def Uw (K:W.Frag):List V→Hp→VK→Prop:=fun xs H Q=>ar2 xs fun x y=>isRef y fun p=>∃m n,H p=some (.tup [.ty m,.ty n])∧∃t,lQ K H x t∧∃b,W.kitAny K t [.type m,.type n]=some b∧Q (.bl b) H
@[simp ↓] theorem qhL (K:W.Frag) xs H Q:Uw K xs H Q=(ar2 xs fun x y=>isRef y fun p=>∃m n,H p=some (.tup [.ty m,.ty n])∧∃t,lQ K H x t∧∃b,W.kitAny K t [.type m,.type n]=some b∧Q (.bl b) H):=rfl
theorem XQ {K:W.Frag} {xs H Q} (h:Uw K xs H Q):Zq K xs H Q:=by
  obtain⟨x,y,rfl,h1⟩:=ar2.out h;obtain⟨p,rfl,m,n,h0,t,h2,b,h3,h4⟩:=isRef.out h1;exact⟨x,p,m,n,t,b,rfl,h0,h2,h3,h4⟩
def fIn (K:W.Frag):R2:=fun x y H Q=>isRef y fun p=>∃xs,(aY K H p xs∨dz K H p xs)∧jl x=true∧(∀z∈xs,jl z=true)∧Q (.bl (inV x xs)) H
@[simp ↓] theorem qlp (K:W.Frag) x y H Q:fIn K x y H Q=(isRef y fun p=>∃xs,(aY K H p xs∨dz K H p xs)∧jl x=true∧(∀z∈xs,jl z=true)∧Q (.bl (inV x xs)) H):=rfl
theorem qdu {K:W.Frag} {x y H Q} (h:fIn K x y H Q):Xl K x y H Q:=by
  obtain⟨p,rfl,xs,h1,h2,h3,h4⟩:=isRef.out h;exact .inl ⟨p,xs,rfl,h1,h2,List.all_eq_true.mpr h3,h4⟩
def Le (K:W.Frag):R2:=fun x y H Q=>isRef y fun p=>∃xs,(aY K H p xs∨dz K H p xs)∧jl x=true∧(∀z∈xs,jl z=true)∧∃k,inV x xs = !k∧Q (.bl k) H
@[simp ↓] theorem qdv (K:W.Frag) x y H Q:Le K x y H Q=(isRef y fun p=>∃xs,(aY K H p xs∨dz K H p xs)∧jl x=true∧(∀z∈xs,jl z=true)∧∃k,inV x xs = !k∧Q (.bl k) H):=rfl
theorem Ux {K:W.Frag} {x y H Q} (h:Le K x y H Q):Gb K x y H Q:=by
  obtain⟨p,rfl,xs,h1,h2,h3,h4⟩:=isRef.out h;exact .inl ⟨p,xs,rfl,h1,h2,List.all_eq_true.mpr h3,Aj (R:=fun k=>Q (.bl k) H) h4⟩
def qbd (K:W.Frag):R2:=fun x y H Q=>isStr x fun i=>isStr y fun j=>Q (.bl (!(Builtin.Str.occurrences j i 0 j.length 1).isEmpty)) H
@[simp ↓] theorem qiU (K:W.Frag) x y H Q:qbd K x y H Q=(isStr x fun i=>isStr y fun j=>Q (.bl (!(Builtin.Str.occurrences j i 0 j.length 1).isEmpty)) H):=rfl
theorem qbe {K:W.Frag} {x y H Q} (h:qbd K x y H Q):Xl K x y H Q:=by
  obtain⟨i,rfl,h1⟩:=isStr.out h;obtain⟨j,rfl,h2⟩:=isStr.out h1;exact .inr ⟨i,j,rfl,rfl,h2⟩
def Gs  : V→List V→Hp→VK→Prop:=fun x vs H Q=>isRef x fun l=>ar1 vs fun y=>∃xs,H l=some (.lst xs)∧xs.length<sizeLine∧Q .non (upd H l (.lst (xs++[y])))
@[simp ↓] theorem qcD  x vs H Q:Gs x vs H Q=(isRef x fun l=>ar1 vs fun y=>∃xs,H l=some (.lst xs)∧xs.length<sizeLine∧Q .non (upd H l (.lst (xs++[y])))):=rfl
theorem QC  {x vs H Q} (h:Gs x vs H Q):FP x vs H Q:=by
  obtain⟨l,rfl,h1⟩:=isRef.out h;obtain⟨y,rfl,xs,h2,h3⟩:=ar1.out h1;exact⟨l,xs,y,rfl,rfl,h2,h3⟩
def Gu  : V→List V→Hp→VK→Prop:=fun x vs H Q=>isRef x fun l=>ar2 vs fun j y=>isInt j fun i=>∃xs,H l=some (.lst xs)∧0≤i∧i≤xs.length∧xs.length<sizeLine∧Q .non (upd H l (.lst (xs.take i.toNat++y::xs.drop i.toNat)))
@[simp ↓] theorem qcE  x vs H Q:Gu x vs H Q=(isRef x fun l=>ar2 vs fun j y=>isInt j fun i=>∃xs,H l=some (.lst xs)∧0≤i∧i≤xs.length∧xs.length<sizeLine∧Q .non (upd H l (.lst (xs.take i.toNat++y::xs.drop i.toNat)))):=rfl
theorem QD  {x vs H Q} (h:Gu x vs H Q):FT x vs H Q:=by
  obtain⟨l,rfl,h1⟩:=isRef.out h;obtain⟨j,y,rfl,h2⟩:=ar2.out h1;obtain⟨i,rfl,xs,h3⟩:=isInt.out h2;exact⟨l,xs,i,y,rfl,rfl,h3⟩
def Lg  : V→List V→Hp→VK→Prop:=fun x vs H Q=>isRef x fun l=>Xy vs (∃xs,H l=some (.lst xs)∧Q .non (upd H l (.lst [])))
@[simp ↓] theorem qdw  x vs H Q:Lg x vs H Q=(isRef x fun l=>Xy vs (∃xs,H l=some (.lst xs)∧Q .non (upd H l (.lst [])))):=rfl
theorem Uy  {x vs H Q} (h:Lg x vs H Q):K1 x vs H Q:=by
  obtain⟨l,rfl,h1⟩:=isRef.out h;obtain⟨rfl,xs,h2⟩:=Xy.out h1;exact⟨l,xs,rfl,rfl,h2⟩
def Uz  : V→List V→Hp→VK→Prop:=fun x vs H Q=>isStr x fun sep=>ar1 vs fun y=>isRef y fun l=>∃ys:List Str,H l=some (.lst (ys.map V.str))∧(ys.map (·.length)).sum+ys.length * sep.length≤16777216∧Q (.str (Txt.join sep ys)) H
@[simp ↓] theorem qhM  x vs H Q:Uz x vs H Q=(isStr x fun sep=>ar1 vs fun y=>isRef y fun l=>∃ys:List Str,H l=some (.lst (ys.map V.str))∧(ys.map (·.length)).sum+ys.length * sep.length≤16777216∧Q (.str (Txt.join sep ys)) H):=rfl
theorem XR  {x vs H Q} (h:Uz x vs H Q):rJoin x vs H Q:=by
  obtain⟨sep,rfl,h1⟩:=isStr.out h;obtain⟨y,rfl,h2⟩:=ar1.out h1;obtain⟨l,rfl,ys,h3⟩:=isRef.out h2;exact⟨sep,l,ys,rfl,rfl,h3⟩
def UG (K:W.Frag):List V→Hp→VK→Prop:=fun xs H Q=>ar1 xs fun v=>∃d:PyData,Is K H d v∧d.showable=true∧d.hasDict=false∧d.depth≤32∧d.shown.length≤sizeLine∧Q (.str d.shown) H
@[simp ↓] theorem qhN (K:W.Frag) xs H Q:UG K xs H Q=(ar1 xs fun v=>∃d:PyData,Is K H d v∧d.showable=true∧d.hasDict=false∧d.depth≤32∧d.shown.length≤sizeLine∧Q (.str d.shown) H):=rfl
theorem XS {K:W.Frag} {xs H Q} (h:UG K xs H Q):Zx K xs H Q:=by
  obtain⟨x,rfl,d,h1⟩:=ar1.out h;exact⟨x,d,rfl,h1⟩
def qbf (K:W.Frag):R2:=fun x y H Q=>∃d,Is K H d x∧∃e,Is K H e y∧d.canLay0=true∧e.canLay0=true∧d.depth≤64∧Q (.bl (PyData.eqv d e)) H
@[simp ↓] theorem qiV (K:W.Frag) x y H Q:qbf K x y H Q=(∃d,Is K H d x∧∃e,Is K H e y∧d.canLay0=true∧e.canLay0=true∧d.depth≤64∧Q (.bl (PyData.eqv d e)) H):=rfl
theorem qbg {K:W.Frag} {x y H Q} (h:qbf K x y H Q):qdi K x y H Q:=by
  obtain⟨d,h1,e,h2,h3,h4,h5,h6⟩:=h;exact⟨d,e,h1,h2,h3,h4,h5,h6⟩
def qbh  : List V→Hp→VK→Prop:=fun xs H Q=>ar1 xs fun x=>isInt x fun i=>Q (.int (if i<0 then -i else i)) H
@[simp ↓] theorem qiW  xs H Q:qbh xs H Q=(ar1 xs fun x=>isInt x fun i=>Q (.int (if i<0 then -i else i)) H):=rfl
theorem qbi  {xs H Q} (h:qbh xs H Q):(fun xs H Q=>∃i,xs=[.int i]∧Q (.int (if i<0 then -i else i)) H:List V→Hp→VK→Prop) xs H Q:=by
  obtain⟨x,rfl,h1⟩:=ar1.out h;obtain⟨i,rfl,h2⟩:=isInt.out h1;exact⟨i,rfl,h2⟩
def UJ  : List V→Hp→VK→Prop:=fun xs H Q=>ar2 xs fun x y=>isInt x fun i=>isInt y fun j=>Q (.int (if j > i then j else i)) H
@[simp ↓] theorem qhO  xs H Q:UJ xs H Q=(ar2 xs fun x y=>isInt x fun i=>isInt y fun j=>Q (.int (if j > i then j else i)) H):=rfl
theorem X3  {xs H Q} (h:UJ xs H Q):(fun xs H Q=>∃i j,xs=[.int i,.int j]∧Q (.int (if j > i then j else i)) H:List V→Hp→VK→Prop) xs H Q:=by
  obtain⟨x,y,rfl,h1⟩:=ar2.out h;obtain⟨i,rfl,h2⟩:=isInt.out h1;obtain⟨j,rfl,h3⟩:=isInt.out h2;exact⟨i,j,rfl,h3⟩
def UL  : List V→Hp→VK→Prop:=fun xs H Q=>ar2 xs fun x y=>isInt x fun i=>isInt y fun j=>Q (.int (if j<i then j else i)) H
@[simp ↓] theorem qhP  xs H Q:UL xs H Q=(ar2 xs fun x y=>isInt x fun i=>isInt y fun j=>Q (.int (if j<i then j else i)) H):=rfl
theorem X4  {xs H Q} (h:UL xs H Q):(fun xs H Q=>∃i j,xs=[.int i,.int j]∧Q (.int (if j<i then j else i)) H:List V→Hp→VK→Prop) xs H Q:=by
  obtain⟨x,y,rfl,h1⟩:=ar2.out h;obtain⟨i,rfl,h2⟩:=isInt.out h1;obtain⟨j,rfl,h3⟩:=isInt.out h2;exact⟨i,j,rfl,h3⟩
def Gv  : List V→Hp→VK→Prop:=fun xs H Q=>ar2 xs fun x y=>isInt x fun i=>isInt y fun j=>PL i j∧∀p,H p=none→Q (.ref p) (upd H p (.tup [.int (i / j),.int (i % j)]))
@[simp ↓] theorem qcF  xs H Q:Gv xs H Q=(ar2 xs fun x y=>isInt x fun i=>isInt y fun j=>PL i j∧∀p,H p=none→Q (.ref p) (upd H p (.tup [.int (i / j),.int (i % j)]))):=rfl
theorem QF  {xs H Q} (h:Gv xs H Q):(fun xs H Q=>∃i j,xs=[.int i,.int j]∧PL i j∧∀p,H p=none→Q (.ref p) (upd H p (.tup [.int (i / j),.int (i % j)])):List V→Hp→VK→Prop) xs H Q:=by
  obtain⟨x,y,rfl,h1⟩:=ar2.out h;obtain⟨i,rfl,h2⟩:=isInt.out h1;obtain⟨j,rfl,h3⟩:=isInt.out h2;exact⟨i,j,rfl,h3⟩
def qbj  : List V→Hp→VK→Prop:=fun xs H Q=>ar1 xs fun x=>isRef x fun a=>∃ys,H a=some (.lst ys)∧∃bs,tV ys bs∧Q (.bl (bs.all id)) H
@[simp ↓] theorem qiX  xs H Q:qbj xs H Q=(ar1 xs fun x=>isRef x fun a=>∃ys,H a=some (.lst ys)∧∃bs,tV ys bs∧Q (.bl (bs.all id)) H):=rfl
theorem qbk  {xs H Q} (h:qbj xs H Q):(fun xs H Q=>∃a ys bs,xs=[.ref a]∧H a=some (.lst ys)∧tV ys bs∧Q (.bl (bs.all id)) H:List V→Hp→VK→Prop) xs H Q:=by
  obtain⟨x,rfl,h1⟩:=ar1.out h;obtain⟨a,rfl,ys,h2,bs,h3,h4⟩:=isRef.out h1;exact⟨a,ys,bs,rfl,h2,h3,h4⟩
def Oj:List V→Hp→VK→Prop:=fun xs H Q=>ar1 xs fun x=>match x with | .int i=>Q (.int i) H | .bl k=>Q (.int (if k=true then 1 else 0)) H | _=>False
@[simp ↓] theorem qhQ i H Q:Oj [.int i] H Q=Q (.int i) H:=rfl
@[simp ↓] theorem qhR k H Q:Oj [.bl k] H Q=Q (.int (if k=true then 1 else 0)) H:=rfl
theorem X5 {xs H Q} (h:Oj xs H Q):(fun xs H Q=>(∃i,xs=[.int i]∧Q (.int i) H)∨∃k,xs=[.bl k]∧Q (.int (if k then 1 else 0)) H:List V→Hp→VK→Prop) xs H Q:=by
  obtain⟨x,rfl,h1⟩:=ar1.out h;cases x with
  | int i=>exact .inl ⟨i,rfl,h1⟩
  | bl k=>exact .inr ⟨k,rfl,h1⟩
  | _=>exact h1.elim
def UW:Py:=fun o i v H Q=>isRef o fun p=>isInt i fun k=>∃xs,H p=some (.lst xs)∧∃j,Wz xs.length k=some j∧Q (upd H p (.lst (xs.set j v)))
@[simp ↓] theorem qhS o i v H Q:UW o i v H Q=(isRef o fun p=>isInt i fun k=>∃xs,H p=some (.lst xs)∧∃j,Wz xs.length k=some j∧Q (upd H p (.lst (xs.set j v)))):=rfl
theorem X6 {o i v H Q} (h:UW o i v H Q):Zj o i v H Q:=by
  obtain⟨p,rfl,h1⟩:=isRef.out h;obtain⟨k,rfl,xs,h2,j,h3,h4⟩:=isInt.out h1;exact⟨p,xs,k,j,rfl,rfl,h2,h3,h4⟩
def qbl (K:W.Frag):V→Option Int→Option Int→Hp→VK→Prop:=fun x lo hi H Q=>isRef x fun a=>∃xs,aY K H a xs∧∀p,H p=none→Q (.ref p) (upd H p (.lst (zW xs lo hi)))
@[simp ↓] theorem qiY (K:W.Frag) x lo hi H Q:qbl K x lo hi H Q=(isRef x fun a=>∃xs,aY K H a xs∧∀p,H p=none→Q (.ref p) (upd H p (.lst (zW xs lo hi)))):=rfl
theorem qbm {K:W.Frag} {x lo hi H Q} (h:qbl K x lo hi H Q):Xb K x lo hi H Q:=by
  obtain⟨a,rfl,xs,h1⟩:=isRef.out h;exact⟨a,xs,rfl,h1⟩
def qdx:HS:=fun vs σ H Q=>Xy vs (Q σ H)
def Zz (t:TG) (u:HS):HS:=fun vs σ H Q=>arH vs fun v r=>t v σ H fun σ' H'=>u r σ' H' Q
def qdy (K:W.Frag) (n:Nat) (t:HS):TG:=fun v σ H Q=>isRef v fun a=>∃xs,dz K H a xs∧xs.length=n∧t xs σ H Q
@[simp ↓] theorem qiZ vs σ H Q:qdx vs σ H Q=Xy vs (Q σ H):=rfl
@[simp ↓] theorem qhT t u vs σ H Q:Zz t u vs σ H Q=(arH vs fun v r=>t v σ H fun σ' H'=>u r σ' H' Q):=rfl
@[simp ↓] theorem qi0 K n t v σ H Q:qdy K n t v σ H Q=(isRef v fun a=>∃xs,dz K H a xs∧xs.length=n∧t xs σ H Q):=rfl
theorem g_ {vs σ H Q} (h:qdx vs σ H Q):qaq vs σ H Q:=Xy.out h
theorem bx (t:TG) (u:HS):Zz t u=R4 t u:=by
  funext vs σ H Q
  exact qa9 _ _
theorem fB (K:W.Frag) (n:Nat) (t:HS):qdy K n t=WY K n t:=by
  funext v σ H Q
  refine propext ⟨fun h=>?_,fun⟨a,xs,e,h⟩=>by subst e;exact⟨xs,h⟩⟩;obtain⟨a,rfl,xs,h1⟩:=isRef.out h;exact⟨a,xs,rfl,h1⟩
def qbn (f:Int→Int→Int):WX:=fun x y H Q=>isInt x fun i=>isInt y fun j=>Q (.int (f i j)) H
@[simp ↓] theorem qi1 f x y H Q:qbn f x y H Q=(isInt x fun i=>isInt y fun j=>Q (.int (f i j)) H):=rfl
theorem qbo {f:Int→Int→Int} {x y H Q} (h:qbn f x y H Q):ipI f x y H Q:=by
  obtain⟨i,rfl,h1⟩:=isInt.out h;obtain⟨j,rfl,h2⟩:=isInt.out h1;exact⟨i,j,rfl,rfl,h2⟩
def qdz (i:Nat) (te:TE) (ti:WX):TS:=fun D σ H=>getSt σ i fun x=>te σ H fun y H1=>ti x y H1 fun z H2=>D.nx (σ.set i (some z)) H2
@[simp ↓] theorem qi2 i te ti D σ H:qdz i te ti D σ H=(getSt σ i fun x=>te σ H fun y H1=>ti x y H1 fun z H2=>D.nx (σ.set i (some z)) H2):=rfl
theorem qbp {i:Nat} {te:TE} {ti:WX} {D σ H} (h:qdz i te ti D σ H):qas i te ti D σ H:=getSt.out h
def U0 (K:W.Frag) (tl:TE):TI:=fun σ H R=>tl σ H fun x H1=>isRef x fun a=>(∃xs,aY K H1 a xs)∧R (RJ K a) H1
def ZC (K:W.Frag) (tl:TE):TI:=fun σ H R=>tl σ H fun x H1=>isRef x fun p=>∃b,(∃xs,Zr b K H1 p xs)∧R (Itq b K p) H1
def ZD (tl:TE):TI:=fun σ H R=>tl σ H fun x H1=>isStr x fun z=>R (Its z) H1
def U3 (ta:TA):TI:=fun σ H R=>ta σ H fun vs H1=>ar1 vs fun v=>isInt v fun j=>-(2 ^ 62)≤j∧j<2 ^ 62∧R (Kh 0 j.toNat) H1
def U4 (ta:TA):TI:=fun σ H R=>ta σ H fun vs H1=>ar2 vs fun v w=>isInt v fun i=>isInt w fun j=>(-(2 ^ 62)≤i∧i<2 ^ 62∧-(2 ^ 62)≤j∧j<2 ^ 62)∧R (Kh i (j - i).toNat) H1
def ZF (K:W.Frag) (t:TA):TI:=fun σ H R=>t σ H fun vs H1=>ar2 vs fun x y=>isRef x fun a=>isRef y fun b=>(∃xs,aY K H1 a xs)∧(∃ys,aY K H1 b ys)∧R (Zk K a b) H1
def U5 (K:W.Frag) (t:TA):TI:=fun σ H R=>t σ H fun vs H1=>ar1 vs fun x=>isRef x fun a=>(∃xs,aY K H1 a xs)∧R (Ite K a) H1
@[simp ↓] theorem qdA K tl σ H R:U0 K tl σ H R=(tl σ H fun x H1=>isRef x fun a=>(∃xs,aY K H1 a xs)∧R (RJ K a) H1):=rfl
@[simp ↓] theorem qhU K tl σ H R:ZC K tl σ H R=(tl σ H fun x H1=>isRef x fun p=>∃b,(∃xs,Zr b K H1 p xs)∧R (Itq b K p) H1):=rfl
@[simp ↓] theorem qhV tl σ H R:ZD tl σ H R=(tl σ H fun x H1=>isStr x fun z=>R (Its z) H1):=rfl
@[simp ↓] theorem qdB ta σ H R:U3 ta σ H R=(ta σ H fun vs H1=>ar1 vs fun v=>isInt v fun j=>-(2 ^ 62)≤j∧j<2 ^ 62∧R (Kh 0 j.toNat) H1):=rfl
@[simp ↓] theorem qdC ta σ H R:U4 ta σ H R=(ta σ H fun vs H1=>ar2 vs fun v w=>isInt v fun i=>isInt w fun j=>(-(2 ^ 62)≤i∧i<2 ^ 62∧-(2 ^ 62)≤j∧j<2 ^ 62)∧R (Kh i (j - i).toNat) H1):=rfl
@[simp ↓] theorem qhW K t σ H R:ZF K t σ H R=(t σ H fun vs H1=>ar2 vs fun x y=>isRef x fun a=>isRef y fun b=>(∃xs,aY K H1 a xs)∧(∃ys,aY K H1 b ys)∧R (Zk K a b) H1):=rfl
@[simp ↓] theorem qdD K t σ H R:U5 K t σ H R=(t σ H fun vs H1=>ar1 vs fun x=>isRef x fun a=>(∃xs,aY K H1 a xs)∧R (Ite K a) H1):=rfl
theorem cO (K:W.Frag) (tl:TE):U0 K tl=Nv K tl:=by
  funext σ H R
  exact congrArg (tl σ H) (funext fun x=>funext fun H1=>Jh _ _)
theorem vJ (K:W.Frag) (tl:TE):ZC K tl=qaX K tl:=by
  funext σ H R
  refine congrArg (tl σ H) (funext fun x=>funext fun H1=>propext ⟨fun h=>?_,fun⟨b,p,e,h⟩=>by subst e;exact⟨b,h⟩⟩);obtain⟨p,rfl,b,h1⟩:=isRef.out h;exact⟨b,p,rfl,h1⟩
theorem U6 (tl:TE):ZD tl=qaQ tl:=by
  funext σ H R
  exact congrArg (tl σ H) (funext fun x=>funext fun H1=>Ur _ _)
theorem jr (ta:TA):U3 ta=R8 ta:=by
  funext σ H R
  refine congrArg (ta σ H) (funext fun x=>funext fun H1=>propext ⟨fun h=>?_,fun⟨b,e,h⟩=>by subst e;exact h⟩);obtain⟨v,rfl,h1⟩:=ar1.out h;obtain⟨i,rfl,h2⟩:=isInt.out h1;exact⟨i,rfl,h2⟩
theorem QG (ta:TA):U4 ta=R9 ta:=by
  funext σ H R
  refine congrArg (ta σ H) (funext fun x=>funext fun H1=>propext ⟨fun h=>?_,fun⟨b,c,e,h⟩=>by subst e;exact h⟩);obtain⟨v,w,rfl,h1⟩:=ar2.out h;obtain⟨i,rfl,h2⟩:=isInt.out h1;obtain⟨j,rfl,h3⟩:=isInt.out h2;exact⟨i,j,rfl,h3⟩
theorem Jk (K:W.Frag) (t:TA):ZF K t=Xh K t:=by
  funext σ H R
  refine congrArg (t σ H) (funext fun x=>funext fun H1=>propext ⟨fun h=>?_,fun⟨a,b,xs,ys,e,h1,h2,h3⟩=>by subst e;exact⟨⟨xs,h1⟩,⟨ys,h2⟩,h3⟩⟩);obtain⟨v,w,rfl,h1⟩:=ar2.out h;obtain⟨i,rfl,h2⟩:=isRef.out h1;obtain⟨j,rfl,⟨xs,h3⟩,⟨ys,h4⟩,h5⟩:=isRef.out h2;exact⟨i,j,xs,ys,rfl,h3,h4,h5⟩
theorem xJ (K:W.Frag) (t:TA):U5 K t=Uc K t:=by
  funext σ H R
  refine congrArg (t σ H) (funext fun x=>funext fun H1=>propext ⟨fun h=>?_,fun⟨a,xs,e,h1,h3⟩=>by subst e;exact⟨⟨xs,h1⟩,h3⟩⟩);obtain⟨v,rfl,h1⟩:=ar1.out h;obtain⟨i,rfl,⟨xs,h3⟩,h5⟩:=isRef.out h1;exact⟨i,xs,rfl,h3,h5⟩
def ZG (sp:Sp) (E:XK) (t:TA):TE:=fun σ H Q=>t σ H fun vs H1=>Qv sp vs H1 Q ⟨0⟩ E
@[simp ↓] theorem qhX sp E t σ H Q:ZG sp E t σ H Q=(t σ H fun vs H1=>Qv sp vs H1 Q ⟨0⟩ E):=rfl
theorem aK (sp:Sp) (E:XK) (t:TA):ZG sp E t=SM sp [] E t:=by
  funext σ H Q
  exact congrArg (t σ H) (funext fun vs=>funext fun H1=>by rw[List.append_nil];rfl)
def ZJ (C:Addr) (m:Str) (sp:Sp) (E:XK) (ta:TE) (t:TA):TE:=fun σ H Q=>ta σ H fun x H1=>isRef x fun a=>∃dx fs,H1 a=some (.ins C dx fs)∧fs.lookup m=none∧t σ H1 fun vs H2=>Qv sp (.ref a::vs) H2 Q ⟨0⟩ E
@[simp ↓] theorem qhY C m sp E ta t σ H Q:ZJ C m sp E ta t σ H Q=(ta σ H fun x H1=>isRef x fun a=>∃dx fs,H1 a=some (.ins C dx fs)∧fs.lookup m=none∧t σ H1 fun vs H2=>Qv sp (.ref a::vs) H2 Q ⟨0⟩ E):=rfl
theorem mO (C:Addr) (m:Str) (sp:Sp) (E:XK) (ta:TE) (t:TA):ZJ C m sp E ta t=SN C m sp [] E ta t:=by
  funext σ H Q
  refine congrArg (ta σ H) (funext fun x=>funext fun H1=>propext ⟨fun h=>?_,fun⟨a,dx,fs,e,h1,h2,h3⟩=>?_⟩)
  ·obtain⟨a,rfl,dx,fs,h1,h2,h3⟩:=isRef.out h;refine⟨a,dx,fs,rfl,h1,h2,?_⟩;simp only[List.append_nil];exact h3
  ·subst e;refine⟨dx,fs,h1,h2,?_⟩;simp only[List.append_nil] at h3;exact h3
def ZK (C:Addr) (sp:Sp) (E:XK) (t:TA):TE:=fun σ H Q=>t σ H fun vs H1=>∀x dx,H1 x=none→H1 dx=none→dx≠x→
  Qv sp (.ref x::vs) (upd (upd H1 dx (.own x)) x (.ins C dx [])) (fun v H2=>v = .non∧Q (.ref x) H2) ⟨0⟩ E
@[simp ↓] theorem qhZ C sp E t σ H Q:ZK C sp E t σ H Q=(t σ H fun vs H1=>∀x dx,H1 x=none→H1 dx=none→dx≠x→
  Qv sp (.ref x::vs) (upd (upd H1 dx (.own x)) x (.ins C dx [])) (fun v H2=>v = .non∧Q (.ref x) H2) ⟨0⟩ E):=rfl
theorem U7 (C:Addr) (sp:Sp) (E:XK) (t:TA):ZK C sp E t=SQ C sp [] E t:=by
  funext σ H Q
  refine congrArg (t σ H) (funext fun vs=>funext fun H1=>?_);simp only[List.append_nil];rfl
def qdE (K:W.Frag) (ta:TE) (f:Str):TE:=fun σ H Q=>ta σ H fun x H1=>isRef x fun a=>∃C dx fs,H1 a=some (.ins C dx fs)∧Cls K C∧lB K C f∧∃v,fs.lookup f=some v∧Q v H1
@[simp ↓] theorem qi3 K ta f σ H Q:qdE K ta f σ H Q=(ta σ H fun x H1=>isRef x fun a=>∃C dx fs,H1 a=some (.ins C dx fs)∧Cls K C∧lB K C f∧∃v,fs.lookup f=some v∧Q v H1):=rfl
theorem Gw (K:W.Frag) (ta:TE) (f:Str):qdE K ta f=W8 K ta f:=by
  funext σ H Q
  refine congrArg (ta σ H) (funext fun x=>funext fun H1=>propext ⟨fun h=>?_,fun⟨a,C,dx,fs,v,e,h1,h2,h3,h4⟩=>by subst e;exact⟨C,dx,fs,h1,h2,h3,v,h4⟩⟩);obtain⟨a,rfl,C,dx,fs,h1,h2,h3,v,h4⟩:=isRef.out h;exact⟨a,C,dx,fs,v,rfl,h1,h2,h3,h4⟩
def ZL (td ty:TE):TE:=fun σ H Q=>td σ H fun x H1=>ty σ H1 fun y H2=>isRef x fun a=>∃v,g8 H2 a y (some v)∧Q v H2
def qdF (ty td:TE):TE:=fun σ H Q=>ty σ H fun y H1=>td σ H1 fun x H2=>isRef x fun a=>∃o,g8 H2 a y o∧Q (.bl o.isSome) H2
def Ol (ty td:TE):TE:=fun σ H Q=>ty σ H fun y H1=>td σ H1 fun x H2=>isRef x fun a=>∃o,g8 H2 a y o∧Q (.bl o.isNone) H2
def ZM (td ty tv:TE):TS:=fun D σ H=>tv σ H fun v H1=>td σ H1 fun x H2=>ty σ H2 fun y H3=>isRef x fun a=>∃H4,CW H3 a y v H4∧D.nx σ H4
def U8 (td ty tx:TE):TE:=fun σ H Q=>td σ H fun x H1=>isRef x fun a=>IsD H1 a∧ty σ H1 fun y H2=>tx σ H2 fun z H3=>∃o,g8 H3 a y o∧Q (o.getD z) H3
@[simp ↓] theorem qh0 td ty σ H Q:ZL td ty σ H Q=(td σ H fun x H1=>ty σ H1 fun y H2=>isRef x fun a=>∃v,g8 H2 a y (some v)∧Q v H2):=rfl
@[simp ↓] theorem qi4 ty td σ H Q:qdF ty td σ H Q=(ty σ H fun y H1=>td σ H1 fun x H2=>isRef x fun a=>∃o,g8 H2 a y o∧Q (.bl o.isSome) H2):=rfl
@[simp ↓] theorem qcG ty td σ H Q:Ol ty td σ H Q=(ty σ H fun y H1=>td σ H1 fun x H2=>isRef x fun a=>∃o,g8 H2 a y o∧Q (.bl o.isNone) H2):=rfl
@[simp ↓] theorem qh1 td ty tv D σ H:ZM td ty tv D σ H=(tv σ H fun v H1=>td σ H1 fun x H2=>ty σ H2 fun y H3=>isRef x fun a=>∃H4,CW H3 a y v H4∧D.nx σ H4):=rfl
@[simp ↓] theorem qdG td ty tx σ H Q:U8 td ty tx σ H Q=(td σ H fun x H1=>isRef x fun a=>IsD H1 a∧ty σ H1 fun y H2=>tx σ H2 fun z H3=>∃o,g8 H3 a y o∧Q (o.getD z) H3):=rfl
theorem Gx {x:V} {β:Type} {R:Addr→β→Prop}:(isRef x fun a=>∃b,R a b)=(∃a b,x = .ref a∧R a b):=propext ⟨fun h=>by obtain⟨a,rfl,b,h1⟩:=isRef.out h;exact⟨a,b,rfl,h1⟩,fun⟨a,b,e,h⟩=>by subst e;exact⟨b,h⟩⟩
theorem Al (td ty:TE):ZL td ty=T7 td ty:=by
  funext σ H Q
  exact congrArg (td σ H) (funext fun x=>funext fun H1=>congrArg (ty σ H1) (funext fun y=>funext fun H2=>Gx))
theorem X7 (ty td:TE):qdF ty td=qa0 ty td:=by
  funext σ H Q
  exact congrArg (ty σ H) (funext fun x=>funext fun H1=>congrArg (td σ H1) (funext fun y=>funext fun H2=>Gx))
theorem Am (ty td:TE):Ol ty td=Gf ty td:=by
  funext σ H Q
  refine congrArg (ty σ H) (funext fun x=>funext fun H1=>congrArg (td σ H1) (funext fun y=>funext fun H2=>?_));rw[Gx];simp only[Option.not_isSome]
theorem vK (td ty tv:TE):ZM td ty tv=T8 td ty tv:=by
  funext D σ H
  exact congrArg (tv σ H) (funext fun v=>funext fun H1=>congrArg (td σ H1) (funext fun x=>funext fun H2=>congrArg (ty σ H2) (funext fun y=>funext fun H3=>Gx)))
theorem xK (td ty tx:TE):U8 td ty tx=K_ td ty tx:=by
  funext σ H Q
  exact congrArg (td σ H) (funext fun x=>funext fun H1=>Jh _ _)
def ZP (t:TE):TO:=fun σ H Q=>t σ H fun x H1=>isInt x fun i=>Q (some i) H1
@[simp ↓] theorem qh2 t σ H Q:ZP t σ H Q=(t σ H fun x H1=>isInt x fun i=>Q (some i) H1):=rfl
theorem Jl (t:TE):ZP t=S9 t:=by
  funext σ H Q
  exact congrArg (t σ H) (funext fun x=>funext fun H1=>Uq _ _)
section
variable {X:Cx} {K:W.Frag}
theorem PE.eqv {e:Expr} {t t':TE} (o:PE X e t) (h:t'=t):PE X e t':=h▸o
theorem PC.eqv {op:CmpOp} {a b:Expr} {t t':TE} (o:PC X op a b t) (h:t'=t):PC X op a b t':=h▸o
theorem PS.eqv {e:Stmt} {t t':TS} (o:PS X e t) (h:t'=t):PS X e t':=h▸o
theorem PG.eqv {e:Expr} {t t':TG} (o:PG X e t) (h:t'=t):PG X e t':=h▸o
theorem jg.eqv {e:List Expr} {t t':HS} (o:jg X e t) (h:t'=t):jg X e t':=h▸o
theorem PI.eqv {tg e:Expr} {t t':TI} (o:PI X tg e t) (h:t'=t):PI X tg e t':=h▸o
theorem PO.eqv {e:Option Expr} {t t':TO} (o:PO X e t) (h:t'=t):PO X e t':=h▸o
theorem zp:iZ X (binaryOp .Mult) (fI W3 fun i j=>.int (i * j)):=qaz.mono XD
theorem U9:iZ X (binaryOp .FloorDiv) (fI PL fun i j=>.int (i / j)):=W4.mono XD
theorem sE:iZ X (binaryOp .Mod) (fI (fun _ j=>0<j) fun i j=>.int (i % j)):=qaA.mono XD
theorem X8:iZ X (binaryOp .Pow) (fI qcR fun i j=>.int (i ^ j.toNat)):=qaB.mono XD
theorem bM (hK:X.K=K):S_ X (qa_ K):=(qii hK).mono qba
theorem Om:S_ X qbb:=qaI.mono qbc
theorem Jm (hK:X.K=K):iZ X (compareOp .In) (fIn K):=(inK hK).mono qdu
theorem qi5 (hK:X.K=K):iZ X (compareOp .In) (qbd K):=(inK hK).mono qbe
theorem sG (hK:X.K=K):iZ X (compareOp .NotIn) (Le K):=(qaW hK).mono Ux
theorem Lh (hK:X.K=K) (hu:X.A.units+64<cLine):iZ X (compareOp .Eq) (qbf K):=(qa4 hK hu).mono qbg
theorem cD (hK:X.K=K):cB X (.builtin "len") (Jj K):=(qc8 hK).mono XH
theorem qbq:cB X (.builtin "len") Uu:=qc9.mono XJ
theorem vL (hK:X.K=K):cB X (.type "list") (Gp K):=(Xm hK).mono Qz
theorem Ed:cB X (.type "tuple") Gq:=TX.mono QB
theorem nH (hK:X.K=K):cB X (.builtin "isinstance") (Uv K):=(qc_ hK).mono XM
theorem qbr (hK:X.K=K):cB X (.builtin "isinstance") (Uw K):=(qda hK).mono XQ
theorem jt (hc:X.calm=true):cB X (.builtin "all") qbj:=(Qm hc).mono qbk
theorem Li:cB X (.type "int") Oj:=P_.mono X5
theorem Ef:cB X (.builtin "abs") qbh:=Sw.mono qbi
theorem Ao (hc:X.calm=true):cB X (.builtin "max") UJ:=(PX hc).mono X3
theorem Lj (hc:X.calm=true):cB X (.builtin "min") UL:=(P0 hc).mono X4
theorem Gy:cB X (.builtin "divmod") Gv:=Ig.mono QF
theorem Aq (hK:X.K=K) (hg:X.A.guards=some []) (hu:X.A.units+64<cLine):cB X (.builtin "repr") (UG K):=(Ld hK hg hu).mono XS
theorem h_:KQ X "list.append" Gs:=KQ.mono (r:=FP) DN QC
theorem Lk:KQ X "list.insert" Gu:=KQ.mono (r:=FT) Ql QD
theorem Eh:KQ X "list.clear" Lg:=KQ.mono (r:=K1) Ti Uy
theorem U_:KQ X "str.join" Uz:=Xx.mono XR
theorem ZQ (hK:X.K=K):SlR X (qbl K):=(qiN hK).mono qbm
theorem Ei:Pz X UW:=set_list.mono X6
theorem X_:PIp X .Add (qbn fun i j=>i+j):=qau.mono qbo
end
theorem getSt.imp {σ:St} {i:Nat} {R R':V→Prop} (f:∀v,R v→R' v):getSt σ i R→getSt σ i R':=by
  induction σ generalizing i with
  | nil=>exact fun h=>h.elim
  | cons o σ ih=>
    cases i with
    | zero=>cases o with
      | none=>exact fun h=>h.elim
      | some v=>exact f v
    | succ n=>exact ih
theorem isInt.imp {x:V} {R R':Int→Prop} (f:∀v,R v→R' v):isInt x R→isInt x R':=by cases x <;> first | exact f _ | exact fun h=>h.elim
theorem isRef.imp {x:V} {R R':Addr→Prop} (f:∀v,R v→R' v):isRef x R→isRef x R':=by cases x <;> first | exact f _ | exact fun h=>h.elim
theorem rm.imp {x:V} {R R':Bool→Prop} (f:∀v,R v→R' v):rm x R→rm x R':=by cases x <;> first | exact f _ | exact fun h=>h.elim
theorem Jo {K:W.Frag} {g:Int→Int→V} {i j:Nat}:∀(σ:St) (H:Hp) (Q Q':Bool→Hp→Prop),(∀(b:Bool) (H1:Hp),Q b H1→Q' b H1)→vG (Zg (Xz g) (fVar i) (tCB (Jj K) (NQ (fVar j) SJ))) σ H Q→vG (Zg (Xz g) (fVar i) (tCB (Jj K) (NQ (fVar j) SJ))) σ H Q':=
  fun _ _ _ _ f h=>getSt.imp (fun _ h=>getSt.imp (fun _ h=>isRef.imp (fun _ ⟨ys,h1,h2⟩=>⟨ys,h1,isInt.imp (fun _ h=>isInt.imp (fun _ h=>rm.imp (fun _ h=>f _ _ h) h) h) h2⟩) h) h) h
theorem jO.nJ {P:Program} {w:World} {K:W.Frag} {mg:Str→Option Value} {base:Heap} {x qual:Str} {st:Stmt} {f:Addr} {fd:FuncData} {N ps:List Str} {k:Nat} {sp:Sp} (F:jO K x qual st f fd) (S:aU N ps (ak st)) (len:∀vs H Q E,sp vs H Q E→vs.length=ps.length)
    (hbody:∀(cdv:Value) (A:Around) (outer:List Env) (s:Shared) (H:Hp) (vs:List V) (Q:VK) (E:XK),jw k (A.deeper (envOfC qual (ak st) s.heap.objs.size f cdv))→sp vs H Q E→
      ∃t,Dt (au jN P w K mg base N qual (ak st) f cdv A outer s H E).RG (aF st) t∧t {nx:=fun _ H'=>Q .non H',rt:=Q} (lE N vs) H):bV P w K mg base jN (k+1) f fd ps sp:=by
  refine F.ok S len fun cdv A outer s H vs Q E hr h=>?_;obtain⟨t,h1,h2⟩:=hbody cdv A outer s H vs Q E hr h;refine⟨t,h1,?_⟩;have hl:=len _ _ _ _ h;have hp:ps.length≤N.length:=by have:=congrArg List.length S.pre;rw[List.length_take] at this;omega
  rw[sy N vs (by omega)] at h2;exact h2
end L2
namespace L2
open PySem
def vM (T:List iC) (h:Str) (wh:List Nat) (R:BR):BR:=T.foldl (fun R s=>if s.2.1=h∧¬s.2.2∈R.map (·.1) then R++[(s.2.2,wh++[s.1])] else R) R
def xM (S:List iC) (a:Str):Nat→BR
  | 0=>[(a,[])]
  | n+1=>match (xM S a n)[n]? with
    | some x=>vM S x.1 x.2 (xM S a n)
    | none=>xM S a n
theorem Ln (T:List iC) (s:iC) (h:Str) (wh:List Nat) (R:BR):vM (T++[s]) h wh R=if s.2.1=h∧¬s.2.2∈(vM T h wh R).map (·.1) then vM T h wh R++[(s.2.2,wh++[s.1])] else vM T h wh R:=by
  unfold vM;rw[List.foldl_append];rfl
theorem QH {S:List iC} {a:Str} {n:Nat} {h:Str} {wh:List Nat} (e:(xM S a n)[n]? = some (h,wh)):xM S a (n+1)=vM S h wh (xM S a n):=by
  show(match (xM S a n)[n]? with | some x=>vM S x.1 x.2 (xM S a n) | none=>xM S a n)=_
  rw[e]
def qi6 (S:List iC) (a:Str) (R:BR):Prop:=xM S a R.length=R
def pC (H:Hp) (kvs:List (Key×V)):Prop:=∀kv∈kvs,∀p,kv.2 = .ref p→H p=none
theorem pC.snoc {H:Hp} {kvs:List (Key×V)} (h:pC H kvs) {k:Key} {p:Addr} (hp:H p=none):pC H (kvs++[(k,.ref p)]):=by
  intro kv hkv q hq
  rcases List.mem_append.mp hkv with z | z
  ·exact h kv z q hq
  ·simp at z;subst z;cases hq;exact hp
theorem Walk.in {S:List iC} {a y:Str} {k:Nat} (h:Walk S a k y) {xs:List Str} (ha:a∈xs) (hS:∀s∈S,s.2.2∈xs):y∈xs:=by
  cases h with
  | nil=>exact ha
  | snoc _ hs=>exact hS _ hs
def mY (S:List iC) (f:List Str):Prop:=∀s∈S,s.2.1∈f→s.2.2∈f
structure Km (S:List iC) (x:Str) (f:List Str):Prop where
  st:x∈f
  nd:f.Nodup
  rt:∀y∈f,RT (fu S) x y
theorem Km.begin (S:List iC) (x:Str):Km S x [x]:=⟨by simp,by simp,fun y hy=>by simp at hy;subst hy;exact .refl _⟩
theorem Km.add {S:List iC} {x:Str} {f:List Str} (h:Km S x f) {s:iC} (hs:s∈S) (h1:s.2.1∈f) (h2:¬s.2.2∈f):Km S x (f++[s.2.2]):=by
  refine⟨List.mem_append_left _ h.st,?_,fun y hy=>?_⟩
  ·rw[List.nodup_append];exact⟨h.nd,by simp,fun a ha b hb=>by simp at hb;subst hb;exact fun z=>h2 (z▸ha)⟩
  · rcases List.mem_append.mp hy with z | z
    ·exact h.rt y z
    ·simp at z;subst z;exact .tail (h.rt _ h1) ⟨s.1,hs⟩
theorem Km.closed {S:List iC} {x:Str} {f:List Str} (h:Km S x f) (hc:mY S f) (y:Str):y∈f↔RT (fu S) x y:=by
  refine⟨h.rt y,fun q=>?_⟩
  induction q with
  | refl=>exact h.st
  | tail _ q ih=>
    obtain⟨n,hn⟩:=q;exact hc _ hn ih
theorem Km.len {S:List iC} {x:Str} {f xs:List Str} (h:Km S x f) (hx:x∈xs) (hS:∀s∈S,s.2.2∈xs):f.length≤xs.length:=
  gQ h.nd fun y hy=>by
    obtain⟨k,hk⟩:=Walk.of (h.rt y hy);exact hk.in hx hS
structure gB (S T:List iC) (x:Str) (f0 f:List Str):Prop where
  r0:f0.Nodup
  r:Km S x f
  sub:∀y∈f0,y∈f
  le:f0.length≤f.length
  md:∀s∈T,s.2.1∈f0→s.2.2∈f
  cl:mY S f0→f=f0
theorem gB.enter {S:List iC} {x:Str} {f:List Str} (h:Km S x f):gB S [] x f f:=⟨h.nd,h,fun _ z=>z,Nat.le_refl _,by simp,fun _=>rfl⟩
theorem gB.skip {S T:List iC} {x:Str} {f0 f:List Str} (h:gB S T x f0 f) {s:iC} (hs:s.2.1∈f→s.2.2∈f):gB S (T++[s]) x f0 f:=by
  refine⟨h.r0,h.r,h.sub,h.le,fun s' hs'=>?_,h.cl⟩
  rcases List.mem_append.mp hs' with z | z
  ·exact h.md s' z
  ·simp at z;subst z;exact fun q=>hs (h.sub _ q)
theorem gB.add {S T:List iC} {x:Str} {f0 f:List Str} (h:gB S T x f0 f) {s:iC} (hS:s∈S) (h1:s.2.1∈f) (h2:¬s.2.2∈f):gB S (T++[s]) x f0 (f++[s.2.2]):=by
  refine⟨h.r0,h.r.add hS h1 h2,fun y hy=>List.mem_append_left _ (h.sub y hy),by have:=h.le;simp;omega,fun s' hs' q=>?_,fun hc=>?_⟩
  · rcases List.mem_append.mp hs' with z | z
    ·exact List.mem_append_left _ (h.md s' z q)
    ·simp at z;subst z;exact List.mem_append_right _ (by simp)
  ·have:=h.cl hc;subst this;exact absurd (hc s hS h1) h2
theorem gB.leave {S:List iC} {x:Str} {f0 f:List Str} {i:Nat} (h:gB S S x f0 f) (h0:mY S f0∨i+1≤f0.length):Km S x f∧(mY S f∨i+1+1≤f.length):=by
  refine⟨h.r,?_⟩
  by_cases hc:mY S f0
  ·rw[h.cl hc];exact .inl hc
  · rcases h0 with z | z
    ·exact absurd z hc
    · refine .inr ?_;obtain⟨s,hs⟩:∃s,s∈S∧s.2.1∈f0∧¬s.2.2∈f0:=by
        by_cases q:∃s,s∈S∧s.2.1∈f0∧¬s.2.2∈f0
        ·exact q
        · exact absurd (fun s hs h1=>by
            by_cases w:s.2.2∈f0
            ·exact w
            ·exact absurd ⟨s,hs,h1,w⟩ q) hc
      have hg:=h.md s hs.1 hs.2.1
      by_cases w:i+1+1≤f.length
      ·exact w
      ·
        exfalso;have hle:=h.le;have hl:f.length=f0.length:=by omega
        have nd0:(s.2.2::f0).Nodup:=List.nodup_cons.mpr ⟨hs.2.2,h.r0⟩;have:=gQ nd0 (xs:=f) fun y hy=>by
          rcases List.mem_cons.mp hy with z | z
          ·rw[z];exact hg
          ·exact h.sub y z
        simp at this;omega
open Classical in
theorem Km.lK {S:List iC} {x:Str} {f xs:List Str} (h:Km S x f) (hc:mY S f) (nd:xs.Nodup) (hx:x∈xs) (hS:∀s∈S,s.2.2∈xs):f.length=(L2.lK S xs x).length:=by
  have h1:f.length≤(L2.lK S xs x).length:=gQ h.nd fun y hy=>by
    rw[mW];have:=h.rt y hy;obtain⟨k,hk⟩:=Walk.of this;exact⟨hk.in hx hS,this⟩
  have h2:(L2.lK S xs x).length≤f.length:=by
    have nd2:(L2.lK S xs x).Nodup:=by
      unfold L2.lK;exact nd.filter _
    exact gQ nd2 fun y hy=>(h.closed hc y).mpr (mW.mp hy).2
  omega
def cF (S:List iC) (xs ys:List Str):Option Str:=ys.find? fun x=>decide ((L2.lK S xs x).length<xs.length)
def restOf (S:List iC) (xs:List Str) (x:Str):List Str:=xs.filter fun y=>!decide (y∈L2.lK S xs x)
theorem Jp {S:List iC} {xs:List Str} {i:Nat} {x:Str} (h0:cF S xs (xs.take i)=none) (hx:xs[i]? = some x) (h:(L2.lK S xs x).length<xs.length):cF S xs xs=some x:=by
  have e:xs=xs.take i++x::xs.drop (i+1):=by
    have hi:=(List.getElem?_eq_some_iff.mp hx);obtain⟨h1,h2⟩:=hi;rw[← h2,List.getElem_cons_drop,List.take_append_drop]
  unfold cF at h0 ⊢;generalize hp:(fun x=>decide ((L2.lK S xs x).length<xs.length))=p at h0 ⊢;have hpx:p x=true:=by rw[← hp];exact decide_eq_true h
  conv=>lhs;arg 2;rw[e]
  rw[List.find?_append,h0];simp[List.find?_cons,hpx]
theorem Jq {S:List iC} {xs:List Str} {i:Nat} {x:Str} (h0:cF S xs (xs.take i)=none) (hx:xs[i]? = some x) (h:¬(L2.lK S xs x).length<xs.length):cF S xs (xs.take (i+1))=none:=by
  unfold cF at h0 ⊢;rw[List.take_add_one,hx,List.find?_append,h0];simp[List.find?_cons,h]
theorem Jr {S:List iC} {xs:List Str} (h:cF S xs xs=none):∀x∈xs,(L2.lK S xs x).length=xs.length:=by
  intro x hx;unfold cF at h;have:=List.find?_eq_none.mp h x hx;have h2:=Gj (S:=S) (xs:=xs) (x:=x);simp at this;omega
theorem Js {S:List iC} {xs:List Str} {x:Str} (h:cF S xs xs=some x):x∈xs∧(L2.lK S xs x).length<xs.length:=by
  unfold cF at h;have h1:=List.mem_of_find?_eq_some h;have h2:=List.find?_some h;exact⟨h1,by simpa using h2⟩
theorem ji {S:List iC} {xs:List Str} {x y:Str}:y∈restOf S xs x↔y∈xs∧¬RT (fu S) x y:=by
  unfold restOf;rw[List.mem_filter,Bool.not_eq_true',decide_eq_false_iff_not,mW];constructor
  ·rintro⟨h1,h2⟩;exact⟨h1,fun z=>h2 ⟨h1,z⟩⟩
  ·rintro⟨h1,h2⟩;exact⟨h1,fun z=>h2 z.2⟩
theorem Lq {S:List iC} {xs:List Str} {x:Str} (nd:xs.Nodup) (hx:x∈xs) (hl:(L2.lK S xs x).length<xs.length):0<(restOf S xs x).length∧(restOf S xs x).length<xs.length∧xs.filter (fun y=>decide (y∈restOf S xs x))=restOf S xs x:=by
  have h1:(restOf S xs x).length<xs.length:=by
    have hn:¬x∈restOf S xs x:=fun z=>(ji.mp z).2 (.refl _);have hle:(restOf S xs x).length≤xs.length:=List.length_filter_le _ _
    by_cases q:(restOf S xs x).length=xs.length
    ·unfold restOf at q hn;have:=List.length_filter_eq_length_iff.mp q x hx;exact absurd (List.mem_filter.mpr ⟨hx,this⟩) hn
    ·omega
  have h2:0<(restOf S xs x).length:=by
    by_cases q:0<(restOf S xs x).length
    ·exact q
    · have q0:restOf S xs x=[]:=List.length_eq_zero_iff.mp (by omega);have hall:∀y∈xs,y∈L2.lK S xs x:=fun y hy=>by
        rw[mW];refine⟨hy,?_⟩
        by_cases w:RT (fu S) x y
        ·exact w
        ·have:=ji.mpr ⟨hy,w⟩;rw[q0] at this;simp at this
      have:=gQ nd hall;omega
  refine⟨h2,h1,?_⟩
  conv=>rhs;unfold restOf
  refine List.filter_congr fun y hy=>?_;rw[Bool.eq_iff_iff,decide_eq_true_iff,ji,Bool.not_eq_true',decide_eq_false_iff_not,mW];constructor
  ·rintro⟨_,h⟩ z;exact h z.2
  ·intro h;exact⟨hy,fun z=>h ⟨hy,z⟩⟩
end L2
namespace L2
open PySem
theorem qi7 {m:Nat} (h:1≤m):(0:Int)<m:=by omega
theorem zlt {m b:Nat} {c:Int} (h:m≤b) (hb:(b:Int)<c):(m:Int)<c:=by omega
theorem zlo {f:Int} (h:0≤f) : -4611686018427387904≤f:=by omega
theorem qi8 {f:Nat} : -4611686018427387904≤(f:Int):=by omega
theorem ztn {d:Int} {m b:Nat} (h0:0≤d) (h:d<m) (hb:m≤b):d.toNat+1≤b:=by omega
theorem qi9 {d:Int} (h:0≤d) (c:Int):c+d=max d 0+c:=by omega
theorem zsz {a b:Nat} (h:a<b) (hb:b≤20):a<sizeLine:=Nat.lt_of_lt_of_le h (Nat.le_trans hb (of_eq_true Gi))
theorem z01 {d:Int} (h:0≤d) (h2:d<2):d=0∨d=1:=by omega
theorem z2 {n:Nat} (h:(1:Int)<n):2≤n:=by omega
theorem zk1 {k t:Nat} (h:t≤k):(0:Int)<k - t+1:=by omega
theorem zk2 {k t:Nat} {c:Int} (h:k≤20) (hc:21<c):(k:Int) - t+1<c:=by omega
theorem zk3 {f:Int} {k t p:Nat} (h0:0≤f) (h:f<k - t+1) (e:t=p):p+f.toNat≤k+0:=by omega
theorem zk4 {t p f k i:Nat} (e:t=p) (h:p+f≤k+i) (hi:i<f) (hk:k≤20):t<sizeLine:=by
  have:=of_eq_true Gi;omega
theorem zk5 {p f k i:Nat} (h:p+f≤k+i) (hi:i<f) (hk:k≤20):p≤19:=by omega
theorem zk6 {p f k i:Nat} (h:p+f≤k+i):p+1+f≤k+(i+1):=by omega
theorem zk7 {p f k:Nat} (h:p+f≤k+f):p≤k:=Nat.le_of_add_le_add_right h
theorem qi_ {lo i n:Nat} (h:i<n - lo):lo+i<n:=by omega
theorem zpa (c:Int):0≤if 1000000000000000000<c then c - 1000000000000000000 else 0:=by split <;> omega
theorem zpb (c:Int) (k:Nat):0≤c % 2147483629+977 * (k:Int)+1:=by omega
theorem zpc (c:Int) {k:Nat} (h:k<100):c % 2147483629+977 * (k:Int)+1<4294967296:=by omega
theorem zs1 {s i t p:Nat} (h:s≤2 * i+1) (hi:i<t) (e:t=p) (hp:p≤20):s<sizeLine:=by
  have:60<sizeLine:=by decide
  omega
theorem zs2 {s i:Nat} (h:s≤2 * i+1):s+1≤2 * (i+1):=by omega
theorem zs3 {s t p:Nat} (h:s≤2 * t) (e:t=p) (hp:p≤20):s≤40:=by omega
end L2
namespace L2
open PySem PySem.Spec PyProof.Rows
mutual
def Ar (H:Hp):PyData→V→Prop
  | .none,v=>v = .non
  | .bool b,v=>v = .bl b
  | .int i,v=>v = .int i
  | .str x,v=>v = .str x
  | .list ds,v=>∃a xs,v = .ref a∧H a=some (.lst xs)∧gV H ds xs
  | .tuple ds,v=>∃a xs,v = .ref a∧H a=some (.tup xs)∧gV H ds xs
  | .dict kvs,v=>kvs=[]∧∃a,v = .ref a∧H a=some (.dK [])
def gV (H:Hp):List PyData→List V→Prop
  | [],vs=>vs=[]
  | d::ds,vs=>∃v r,vs=v::r∧Ar H d v∧gV H ds r
end
mutual
theorem Ar.same {H H':Hp} (s:Same H H'):∀(d:PyData) (v:V),Ar H d v→Ar H' d v
  | .none,v,h=>by simp only[Ar] at h ⊢;exact h
  | .bool b,v,h=>by simp only[Ar] at h ⊢;exact h
  | .int i,v,h=>by simp only[Ar] at h ⊢;exact h
  | .str x,v,h=>by simp only[Ar] at h ⊢;exact h
  | .list ds,v,h=>by
    simp only[Ar] at h ⊢;obtain⟨a,xs,e,h1,h2⟩:=h;exact⟨a,xs,e,s _ _ h1,gV.same s ds xs h2⟩
  | .tuple ds,v,h=>by
    simp only[Ar] at h ⊢;obtain⟨a,xs,e,h1,h2⟩:=h;exact⟨a,xs,e,s _ _ h1,gV.same s ds xs h2⟩
  | .dict kvs,v,h=>by
    simp only[Ar] at h ⊢;obtain⟨e0,a,e,h1⟩:=h;exact⟨e0,a,e,s _ _ h1⟩
theorem gV.same {H H':Hp} (s:Same H H'):∀(ds:List PyData) (vs:List V),gV H ds vs→gV H' ds vs
  | [],vs,h=>by simp only[gV] at h ⊢;exact h
  | d::ds,vs,h=>by
    simp only[gV] at h ⊢;obtain⟨v,r,e,h1,h2⟩:=h;exact⟨v,r,e,Ar.same s d v h1,gV.same s ds r h2⟩
end
def hid (p:Addr) (H:Hp):Hp:=fun b=>if b=p then none else H b
theorem uE {p b:Addr} {H:Hp} {o:HO} (h:b≠p) (e:H b=some o):hid p H b=some o:=by
  unfold hid;rw[if_neg h];exact e
section
variable {X:Cx} {p_:List (Addr×Obj)} {σ:St} {H:Hp} {s:Shared} {K:W.Frag}
theorem Lr {P:Program} {w:World} {h:Heap} {a:Addr} (ok:qx P w H h) (e:H a=some (.dK [])):Reads h (.ref a) (.dict []) [a]∧(a == sysModules)=false:=by
  obtain⟨_,hd,vs,kv,o,es,ep,h1,h2,h3,_,h5,_⟩:=Oc ok e;refine⟨?_,hd⟩;have ev:vs=[]:=by cases kv;rfl
  subst ev;have el:es.toList=[]:=by
    generalize es.toList=l at h5;cases h5;rfl
  have:=Reads.dict (kvs:=[]) (as:=[]) (bs:=[]) h1 h2.1 h3 (by rw[el];exact .nil) (by rw[el];exact .nil);exact this
mutual
theorem Ar.reads (I:Inv X p_ σ H s):∀(d:PyData) (v:V) (u:Value),Ar H d v→RelV v u→∃as,Reads s.heap u d as
  | .none,v,u,h,r=>by
    simp only[Ar] at h;subst h;cases r;exact⟨_,.none⟩
  | .bool b,v,u,h,r=>by
    simp only[Ar] at h;subst h;cases r;exact⟨_,.bool b⟩
  | .int i,v,u,h,r=>by
    simp only[Ar] at h;subst h;obtain⟨t,rfl⟩:=r;exact⟨_,.int i t⟩
  | .str x,v,u,h,r=>by
    simp only[Ar] at h;subst h;obtain⟨t,rfl⟩:=r;exact⟨_,.str x t⟩
  | .list ds,v,u,h,r=>by
    simp only[Ar] at h;obtain⟨a,xs,rfl,hq,hs⟩:=h;cases r;obtain⟨its,rv,pl,hz⟩:=I.list (aY.of hq);obtain⟨o,e,c,n,dt⟩:=pl.isList;obtain⟨as,ra⟩:=gV.reads I ds xs its hs rv;exact⟨_,.list e c dt (by simpa using ra)⟩
  | .tuple ds,v,u,h,r=>by
    simp only[Ar] at h;obtain⟨a,xs,rfl,hq,hs⟩:=h;cases r;obtain⟨its,rv,pl,hz⟩:=I.tuple (dz.of hq);obtain⟨o,e,c,n,dt⟩:=pl;obtain⟨as,ra⟩:=gV.reads I ds xs its hs rv;exact⟨_,.tuple e c dt (by simpa using ra)⟩
  | .dict kvs,v,u,h,r=>by
    simp only[Ar] at h;obtain⟨rfl,a,rfl,h1⟩:=h;cases r;exact⟨_,(Lr I.hok h1).1⟩
theorem gV.reads (I:Inv X p_ σ H s):∀(ds:List PyData) (vs:List V) (us:List Value),gV H ds vs→Vals vs us→∃as,ReadsAll s.heap us ds as
  | [],vs,us,h,r=>by
    simp only[gV] at h;subst h;cases r;exact⟨_,.nil⟩
  | d::ds,vs,us,h,r=>by
    simp only[gV] at h;obtain⟨v,vr,rfl,h1,h2⟩:=h;cases r with
    | cons r1 r2=>
      obtain⟨as,ra⟩:=Ar.reads I d v _ h1 r1;obtain⟨bs,rb⟩:=gV.reads I ds vr _ h2 r2;exact⟨_,.cons ra rb⟩
end
def tLR (ta:TA):TE:=fun σ H Q=>ta σ H fun vs H1=>ar1 vs fun v=>isInt v fun n=>0≤n∧n≤1000∧∀p,H1 p=none→Q (.ref p) (upd H1 p (.lst ((List.range n.toNat).map fun i=>V.int (i:Nat))))
@[simp ↓] theorem qlq ta σ H Q:tLR ta σ H Q=ta σ H fun vs H1=>ar1 vs fun v=>isInt v fun n=>0≤n∧n≤1000∧∀p,H1 p=none→Q (.ref p) (upd H1 p (.lst ((List.range n.toNat).map fun i=>V.int (i:Nat)))):=rfl
theorem Av:∀(n lo:Nat) (l:List Value),l.length=n→(∀(j:Nat) v,l[j]? = some v→∃t,v = .int (((lo+j:Nat):Int)) t)→Vals ((List.range' lo n).map fun i=>V.int (i:Nat)) l
  | 0,lo,l,h,_=>by
    cases l with
    | nil=>exact .nil
    | cons _ _=>cases h
  | n+1,lo,l,h,q=>by
    cases l with
    | nil=>cases h
    | cons x r=>
      rw[List.range'_succ,List.map_cons];refine .cons ?_ (Av n (lo+1) r (by simpa using h) fun j v e=>?_)
      ·obtain⟨t,rfl⟩:=q 0 x rfl;exact⟨t,rfl⟩
      ·obtain⟨t,rfl⟩:=q (j+1) v (by simpa using e);exact⟨t,by rw[show lo+(j+1)=lo+1+j by omega]⟩
theorem Gz (hc:X.calm=true) {a:Expr} {ta:TA} {p p2 pos pos2:Pos} (hg1:Gl X "list") (hm1:X.mg "list" = none) (hg2:Gl X "range") (hm2:X.mg "range" = none) (ha:PA X [a] ta)
    (hs:starEach [a] X.env=[(false,eval a X.env)]:=by rfl)
    (hs1:starEach [.Call (.Name "range" p2) [a] [] pos2] X.env=[(false,eval (.Call (.Name "range" p2) [a] [] pos2) X.env)]:=by rfl) :
    PE X (.Call (.Name "list" p) [.Call (.Name "range" p2) [a] [] pos2] [] pos) (tLR ta):=by
  intro p_ s σ H Q I h;refine wpAny_Call_Name_kw (oZ I hg1 hm1 boot_list ?_ (by decide) (by decide));refine PyProof.Rows.callWith_type1 ?_ (by rw[hs1];rfl) (by rfl);rw[hs1];show wpAny _ _ (spliced ((false,eval (.Call (.Name "range" p2) [a] [] pos2) X.env)::[])) _ _ s;refine Calls.spliced_cons ?_;refine wpAny_Call_Name_kw (oZ I hg2 hm2 boot_range ?_ (by decide) (by decide));refine PyProof.Rows.callWith_type1 (cL (ha pos2 p_ s σ H _ I h) fun us s1 z=>?_) (by rw[hs];rfl) (by rfl);obtain⟨vs,H1,I1,r1,q1⟩:=z;obtain⟨v,rfl,q2⟩:=ar1.out q1;obtain⟨n,rfl,h0,h1,q⟩:=isInt.out q2;obtain⟨u,rfl,r⟩:=vals1 r1;obtain⟨t,rfl⟩:=r;refine call_range_1 (Calls.spliced_nil ?_);have hsz:(1000:Nat)≤sizeLine:=by decide
  have en:Builtin.Range.rangeSize 0 n 1=(n.toNat:Int):=by
    rw[rangeSize_one];split <;> omega
  refine call_list_range (n:=n.toNat) (I1.ok.hd hc) (IsRange.new ..) (small_one (by decide) (by decide) (by omega) (by omega)) en (by omega) fun h' tk acc' c' hk hD hit=>?_;have hle:s1.heap.objs.size≤(s1.heap.push {cls:=.type "range",data:=.fields #[.int 0 s1.toks,.int n t,.int 1 (s1.toks+1)]}).objs.size:=by rw[Heap.size_push];exact Nat.le_succ _
  have hf:=I1.hok.fresh hle;refine⟨.ref _,_,I1.laid (t':=tk) (fun b o e=>hk b o (Heap.get?_push_of_some _ e)) hle ?_,rfl,q _ hf⟩;refine(show bY _ _ _ _ _ (.lst _) from⟨by simp;omega,acc'.toList,c',?_,by simpa using hD⟩);rw[List.range_eq_range'];refine Av _ 0 _ (by simpa using hit.1) fun j v e=>?_;obtain⟨t,rfl⟩:=hit.2 j v (by simpa using e);exact⟨t,by simp⟩
end
theorem Aw {f:Array Value→Array Value} {o:Obj}:(Obj.mapFields f o).dict=o.dict:=by
  obtain⟨c,d,dat,sl⟩:=o;cases dat <;> rfl
def Trc (base h:Heap) (e:Addr) (cls:Value×Option Addr) (fl:Value) (T:Addr):Prop:=
  ∃oe vs oT ts,h.get? e=some oe∧(oe.cls,oe.dict)=cls∧oe.data = .fields vs∧vs[2]? = some .none∧vs[1]? = some (.ref T)∧base.get? T=none∧T≠e∧h.get? T=some oT∧oT.data = .fields ts∧ts[3]? = some fl
structure Stn (base:Heap) (l:List Env) (e:Addr) (cls:Value×Option Addr) (fl:Value) (h h':Heap):Prop where
  stays:base.StaysIn h'
  frames:h'.FunFrames base l
  trc:∃T,Trc base h' e cls fl T
  slots:h.UpToSlots h'
section
variable {M:Model} {A:Around} {E:Value→Shared→Prop} {s:Shared} {base:Heap} {env:Env} {outer l:List Env} {L e:Addr} {Q:Unit→Shared→Prop}
theorem Oo {oe:Obj} {vs:Array Value} {head:Value} {had:Bool} (fr:A.frames=some (env::outer)) (ff:s.heap.FunFrames base (env::outer)) (lf:env.frame=some L) (ee:s.heap.get? e=some oe)
    (st:base.StaysIn s.heap) (nb:base.get? e=none) (de:oe.data = .fields vs) (v2:vs[2]? = some .none) (hq:∀h',Stn base (env::outer) e (oe.cls,oe.dict) (rawInt L) s.heap h'→Q () {s with heap:=h'}) :
    wpAny M A (do let a ← frameOf env;let pl ← entryPlaceOf L had;let b ← EntryCells.newEntry head a .none (rawInt L) .none pl;setField (.ref e) 1 b) Q E s:=by
  have sz2:2<vs.size:=(Array.getElem?_eq_some_iff.mp v2).1;have ne:e∉frs (env::outer):=fun z=>by
    obtain⟨_,o,y,d⟩:=ff.mem z;rw[ee] at y;cases y;exact d vs de
  refine wpAny_bind (wpAny_frameOf_fun fr ff lf fun g1 x1=>?_);refine wpAny_bind (wpAny_entryPlaceOf fun pl okp=>?_);unfold EntryCells.newEntry newFields;refine wpAny_bind (wpAny_newObj_type ?_ (okp.sizeOk5 _ _ _ _ _));have e1:g1.get? e=some oe:=(x1.2.1 e ne).trans ee;have st1:base.StaysIn g1:=fun b o z=>(x1.2.1 b fun y=>by rw[(ff.mem y).1] at z;cases z).trans (st b o z);generalize hR:({cls:=.type "traceback",dict:=none,data:=.fields ([head,.ref L,.none,rawInt L,.none]++(if pl.isEmpty then List.replicate 6 Value.none else pl)).toArray}:Obj)=R
  have dR:∃ts,R.data = .fields ts∧ts[3]? = some (rawInt L)∧R.isFreed=false:=by
    subst hR;exact⟨_,rfl,by simp,rfl⟩
  obtain⟨ts,dR,tR,fR⟩:=dR;have e2:=Heap.get?_push_of_some (h:=g1) R e1;refine wpAny_setField e2 de (Nat.lt_of_succ_lt sz2) (hq _ ?_);have Te:g1.objs.size≠e:=Nat.ne_of_gt (Heap.lt_size e1);have keep:∀{b o},b≠e→g1.get? b=some o→((g1.push R).update e (Obj.mapFields (·.setIfInBounds 1 (Value.ref g1.objs.size)))).get? b=some o:=fun {b o} nb z=>by
    rw[Heap.get?_update_other _ _ (Ne.symm nb)];exact Heap.get?_push_of_some _ z
  have nr:∀{b o},s.heap.get? b=some o→(∀us,o.data≠.fields us)→b≠e:=fun {b o} z d y=>by
    rw[y,ee] at z;cases z;exact d vs de
  have d3:=Obj.data_mapFields de (·.setIfInBounds 1 (Value.ref g1.objs.size));refine⟨fun b o z=>keep (fun y=>by rw[y,nb] at z;cases z) (st1 b o z),ff.of_keeps fun b o z d=>?_,⟨g1.objs.size,?_⟩,fun b o z d=>?_⟩
  ·obtain⟨sl,y⟩:=x1.2.2 b o z;exact⟨_,keep (nr z d) y,rfl⟩
  · refine⟨_,_,R,ts,Heap.get?_update_self _ e2 (Obj.isFreed_of_fields d3),by rw[Obj.cls_mapFields,Aw],d3,?_,?_,st1.fresh,Te,?_,dR,tR⟩
    ·rw[Array.getElem?_setIfInBounds_ne (by decide)];exact v2
    ·simp[Nat.lt_of_succ_lt sz2]
    ·rw[Heap.get?_update_other _ _ (Ne.symm Te)];exact Heap.get?_push_size g1 fR
  ·obtain⟨sl,y⟩:=x1.2.2 b o z;exact⟨sl,keep (nr z d) y⟩
theorem Ls {oe:Obj} {vs:Array Value} (fr:A.frames=some (env::outer)) (ff:s.heap.FunFrames base (env::outer)) (lf:env.frame=some L) (ee:s.heap.get? e=some oe)
    (st:base.StaysIn s.heap) (nb:base.get? e=none) (de:oe.data = .fields vs) (v1:vs[1]? = some .none) (v2:vs[2]? = some .none) (hq:∀h',Stn base (env::outer) e (oe.cls,oe.dict) (rawInt L) s.heap h'→Q () {s with heap:=h'}) :
    wpAny M A (noteFrame (.ref e) env) Q E s:=by
  unfold noteFrame;simp only[lf];refine wpAny_bind (wpAny_field ee de v1 ?_);rw[if_neg (by decide)];exact Oo fr ff lf ee st nb de v2 hq
theorem Ej {cls:Value×Option Addr} {T:Addr} (fr:A.frames=some (env::outer)) (ff:s.heap.FunFrames base (env::outer)) (lf:env.frame=some L) (tr:Trc base s.heap e cls .none T)
    (st:base.StaysIn s.heap) (nb:base.get? e=none) (hq:∀h',Stn base (env::outer) e cls (rawInt L) s.heap h'→Q () {s with heap:=h'}) :
    wpAny M A (noteFrame (.ref e) env) Q E s:=by
  obtain⟨oe,vs,oT,ts,ee,rfl,de,v2,v1,nT,Te,eT,dT,t3⟩:=tr;unfold noteFrame;simp only[lf];refine wpAny_bind (wpAny_field ee de v1 ?_);rw[if_pos (by simp)];refine wpAny_bind (wpAny_field eT dT t3 ?_);rw[if_neg (by simp[rawInt])];refine wpAny_bind (wpAny_setField eT dT (Array.getElem?_eq_some_iff.mp t3).1 ?_);have oth:∀{b},b≠T→(s.heap.update T (Obj.mapFields (·.setIfInBounds 3 Value.none))).get? b=s.heap.get? b:=fun n=>Heap.get?_update_other _ _ (Ne.symm n);have nr:∀{b o},s.heap.get? b=some o→(∀us,o.data≠.fields us)→b≠T:=fun {b o} z d y=>by
    rw[y,eT] at z;cases z;exact d ts dT
  refine Oo (s:={s with heap:=s.heap.update T (Obj.mapFields (·.setIfInBounds 3 Value.none))}) fr (ff.of_keeps fun b o z d=>⟨o,(oth (nr z d)).trans z,rfl⟩) lf ((oth (Ne.symm Te)).trans ee) (fun b o z=>(oth fun y=>by rw[y,nT] at z;cases z).trans (st b o z)) nb de v2 fun h' x=>hq h' ⟨x.stays,x.frames,x.trc,fun b o z d=>x.slots b o ((oth (nr z d)).trans z) d⟩
theorem Ax {cls:Value×Option Addr} {fl:Value} {T:Addr} (ff:s.heap.FunFrames base l) (tr:Trc base s.heap e cls fl T) (st:base.StaysIn s.heap) (hq:∀h',Stn base l e cls .none s.heap h'→Q () {s with heap:=h'}) :
    wpAny M A (setFlight (.ref e) none) Q E s:=by
  obtain⟨oe,vs,oT,ts,ee,rfl,de,v2,v1,nT,Te,eT,dT,t3⟩:=tr;have z3:3<ts.size:=(Array.getElem?_eq_some_iff.mp t3).1;unfold setFlight;refine wpAny_bind (wpAny_field ee de v1 ?_);rw[if_pos (by simp)];refine wpAny_setField eT dT z3 (hq _ ?_);have oth:∀{b} (f:Obj→Obj),b≠T→(s.heap.update T f).get? b=s.heap.get? b:=fun f n=>Heap.get?_update_other _ _ (Ne.symm n);have nr:∀{b o},s.heap.get? b=some o→(∀us,o.data≠.fields us)→b≠T:=fun {b o} z d y=>by
    rw[y,eT] at z;cases z;exact d ts dT
  refine⟨fun b o z=>(oth _ fun y=>by rw[y,nT] at z;cases z).trans (st b o z),ff.of_keeps fun b o z d=>⟨o,(oth _ (nr z d)).trans z,rfl⟩,⟨T,oe,vs,_,_,(oth _ (Ne.symm Te)).trans ee,rfl,de,v2,v1,nT,Te,Heap.get?_update_self _ eT (Obj.isFreed_of_fields (Obj.data_mapFields dT _)),Obj.data_mapFields dT _,?_⟩,fun b o z d=>⟨o.slots,(oth _ (nr z d)).trans z⟩⟩;simp[z3]
theorem Oq {cls:Value×Option Addr} (note:∀Q':Unit→Shared→Prop,(∀h',Stn base (env::outer) e cls (rawInt L) s.heap h'→Q' () {s with heap:=h'})→wpAny M A (noteFrame (.ref e) env) Q' E s)
    (hq:∀h',Stn base (env::outer) e cls .none s.heap h'→Q () {s with heap:=h'}):wpAny M A (leaving env (.ref e)) Q E s:=by
  unfold leaving;refine wpAny_bind (note _ fun h1 x1=>?_);obtain⟨T,tr⟩:=x1.trc;exact Ax (s:={s with heap:=h1}) x1.frames tr x1.stays fun h2 x2=>hq h2 ⟨x2.stays,x2.frames,x2.trc,x1.slots.trans x2.slots⟩
end
structure Ek (h0 h:Heap) (H:Hp) (a C:Addr) (od:Option Addr):Prop where
  new:h0.get? a=none
  un:H a=none
  ob:∃oe vs,h.get? a=some oe∧(oe.cls,oe.dict)=(Value.ref C,od)∧oe.data = .fields vs∧vs[2]? = some .none∧(vs[1]? = some .none∨
    ∃T oT ts,vs[1]? = some (.ref T)∧T≠a∧h0.get? T=none∧H T=none∧h.get? T=some oT∧oT.data = .fields ts∧ts[3]? = some .none)
structure Va (h0 h:Heap) (H:Hp) (a C:Addr) (od:Option Addr) (T:Addr):Prop where
  new:h0.get? a=none
  newT:h0.get? T=none
  un:H a=none
  unT:H T=none
  ob:∃oe vs oT ts,h.get? a=some oe∧(oe.cls,oe.dict)=(Value.ref C,od)∧oe.data = .fields vs∧vs[2]? = some .none∧vs[1]? = some (.ref T)∧T≠a∧h.get? T=some oT∧oT.data = .fields ts∧ts[3]? = some .none
theorem Va.in {h0 h:Heap} {H:Hp} {a C T:Addr} {od:Option Addr} (x:Va h0 h H a C od T):Ek h0 h H a C od:=by
  obtain⟨h1,h2,h3,h4,oe,vs,oT,ts,t1,t2,t3,t4,t5,t6,t7⟩:=x;exact⟨h1,h3,oe,vs,t1,t2,t3,t4,.inr ⟨T,oT,ts,t5,t6,h2,h4,t7⟩⟩
def Vb (P:Program) (w:World):RK:=fun outer H s E e s'=>∃(a C:Addr) (od:Option Addr) (H':Hp),e = .ref a∧s'.os=s.os∧AllBare s'.gens∧Un (frs outer) [] H H' s.heap s'.heap∧qx P w H' s'.heap∧(∃T,Va s.heap s'.heap H' a C od T)∧E (.ref C) od H'
theorem Vc {P:Program} {w:World} {H:Hp} {h:Heap} (x:qx P w H h) {b:Addr} (e:h.get? b=none):H b=none:=by
  cases q:H b with
  | none=>rfl
  | some u=>
    obtain⟨o,eo⟩:∃o,h.get? b=some o:=by
      have:=x b u q;cases u with
      | lst xs=>obtain⟨_,_,_,_,e⟩:=this;exact⟨_,e⟩
      | tup xs=>obtain⟨_,_,_,o,e,_⟩:=this;exact⟨_,e⟩
      | dK kvs=>obtain⟨_,_,_,_,o,_,_,e,_⟩:=this;exact⟨_,e⟩
      | dT kvs=>obtain⟨_,_,_,_,o,_,_,e,_⟩:=this;exact⟨_,e⟩
      | set S n=>obtain⟨o,_,_,_,e,_⟩:=this;exact⟨_,e⟩
      | ins C dx fs=>obtain⟨_,_,_,e,_⟩:=this;exact⟨_,e⟩
      | own y=>obtain⟨_,e⟩:=this;exact⟨_,e⟩
      | xd fs=>obtain⟨_,⟨_,_,_,e,_⟩,_⟩:=this;exact⟨_,e⟩
      | rng lo hi=>obtain⟨_,_,_,e⟩:=this;exact⟨_,e⟩
      | gZ ob u=>obtain⟨e,_⟩:=this;exact⟨_,e⟩
      | Zc ps=>exact⟨_,(show h.get? b=some _ from this)⟩
      | met f y=>exact⟨_,(show h.get? b=some _ from this)⟩
      | ext φ=>obtain⟨_,⟨o,e⟩,_⟩:=this;exact⟨_,e⟩
    rw[e] at eo;cases eo
section
variable {X:Cx} {p_:List (Addr×Obj)} {σ:St} {H:Hp} {s:Shared}
theorem Inv.old (I:Inv X p_ σ H s) (hex:X.ex=[]) {b:Addr} (e:s.heap.get? b=none):X.s₀.heap.get? b=none:=by
  cases q:X.s₀.heap.get? b with
  | none=>rfl
  | some o=>
    obtain⟨o',eo⟩:=I.base.there b o q (by rw[hex];simp);rw[e] at eo;cases eo
theorem Ot (I:Inv X p_ σ H s) (hex:X.ex=[]) {a C:Addr} {od:Option Addr} {l:List Addr} (hl:∀b∈l,b∈frs X.stack∨(X.s₀.heap.get? b=none∧H b=none)) (ha:X.s₀.heap.get? a=none) (hH:H a=none) (hs:∀b∈frs X.stack,b∈l)
    {E:XK} (hE:E (.ref C) od H) {h':Heap} (x:Stn (W.hideAll s.heap l) X.stack a (.ref C,od) .none s.heap h'):Vb X.prog X.w X.outer X.H₀ X.s₀ E (.ref a) {s with heap:=h'}:=by
  obtain⟨k1,k2,⟨T,oe,vs,oT,ts,t1,t2,t3,t4,tt,t5,t6,t7,t8,t9⟩,k4⟩:=x;have nl:∀{b:Addr} {o:Obj},b∉l→s.heap.get? b=some o→h'.get? b=some o:=fun hb e=>k1 _ _ (W.hideAll_get _ e hb);have qdH:∀{b:Addr} {o:Obj},X.s₀.heap.get? b=some o→b∉X.fs→b∉l:=fun {b o} e hb hm=>by
    rcases hl b hm with z | ⟨z,_⟩
    · rcases List.mem_cons.mp (I.uh b z) with z | z
      ·rw[z] at e;exact absurd (Heap.lt_size e) (Nat.not_lt.mpr I.ok.above)
      ·exact hb z
    ·rw[z] at e;cases e
  have trL:∀{b:Addr} {u:HO},H b=some u→b∉l:=fun {b u} e hm=>by
    rcases hl b hm with z | ⟨_,z⟩
    ·rw[I.yZ b z] at e;cases e
    ·rw[z] at e;cases e
  have fsl:∀{b:Addr} {o:Obj},b∈X.fs→s.heap.get? b=some o→∃sl,h'.get? b=some {o with slots:=sl}:=fun {b o} hb e=>by
    obtain⟨_,o2,e2,hd⟩:=I.tQ.mem hb;rw[e] at e2;cases e2;exact k4 b o e hd
  have RG:∀b:Addr,b∉X.ex:=fun b=>by rw[hex];simp
  refine⟨a,C,od,H,rfl,I.os,I.bare,⟨fun b o e n hb _=>?_,fun b o e n hb _=>?_,fun b o e n _=>I.base.free b o e n (RG b),fun b o e _=>?_,I.base.tups,I.base.oY,I.base.qK⟩,fun b u e=>?_,⟨T,ha,?_,hH,?_,oe,vs,oT,ts,t1,t2,t3,t4,tt,t6,t7,t8,t9⟩,hE⟩
  ·exact nl (qdH e hb) (I.base.keep b o e n hb (RG b))
  ·obtain⟨sl,e2⟩:=I.base.slot b o e n hb (RG b);obtain⟨sl',e3⟩:=fsl hb e2;exact⟨sl',e3⟩
  · obtain⟨o',e2⟩:=I.base.there b o e (RG b)
    by_cases hb:b∈X.fs
    ·obtain⟨sl,e3⟩:=fsl hb e2;exact⟨_,e3⟩
    ·exact⟨o',nl (qdH e hb) e2⟩
  · refine(I.hok b u e).stay (fun c v hc q=>?_) (fun c q=>q) fun c xs q=>q
    rcases hc with rfl | hc
    ·exact nl (trL e) q
    ·exact nl (trL hc) q
  all_goals
    have hT:T∉frs X.stack:=fun hm=>by
      obtain⟨_,o2,e2,hd⟩:=k2.mem hm;rw[t7] at e2;cases e2;exact hd _ t8
    have cs:s.heap.get? T=none∨(X.s₀.heap.get? T=none∧H T=none):=by
      cases q:s.heap.get? T with
      | none=>exact .inl rfl
      | some o=>
        by_cases hm:T∈l
        ·exact .inr ((hl T hm).resolve_left hT)
        ·rw[W.hideAll_get _ q hm] at t5;cases t5
  ·exact cs.elim (fun z=>I.old hex z) fun z=>z.1
  ·exact cs.elim (fun z=>Vc I.hok z) fun z=>z.2
theorem Vd (I:Inv X p_ σ H s) (hst:X.stack=X.env::X.outer) (hfr:X.env.frame=some X.env.locals) (hex:X.ex=[]) {a C:Addr} {od:Option Addr} (x:Ek X.s₀.heap s.heap H a C od) {E:XK} (hE:E (.ref C) od H) {E':Value→Shared→Prop} :
    wpAny (model X.prog X.w) X.A (leaving X.env (.ref a)) (fun _ s''=>Vb X.prog X.w X.outer X.H₀ X.s₀ E (.ref a) s'') E' s:=by
  obtain⟨new,un,oe,vs,he,hc,hd,h0,hT⟩:=x;have fr:=I.ok.frames;rw[hst] at fr;have ZR:∀l:List Addr,s.heap.FunFrames (W.hideAll s.heap (frs X.stack++l)) (X.env::X.outer):=fun l=>by
    rw[← hst];exact W.funFrames_hide I.stack fun env he b hb=>List.mem_append_left _ (List.mem_filterMap.mpr ⟨env,he,hb⟩)
  rcases hT with h1 | ⟨T,oT,ts,h1,h2,h3,h4,h5,h6,h7⟩
  · refine Oq (base:=W.hideAll s.heap (frs X.stack++[a])) (fun Q' q=>Ls fr (ZR _) hfr he (fun b o e=>W.of_hideAll _ e) (W.hideAll_none _ (by simp)) hd h1 h0 q) fun h' hL=>?_;rw[hc,← hst] at hL;refine Ot I hex (fun b hb=>?_) new un (fun b hb=>List.mem_append_left _ hb) hE hL
    rcases List.mem_append.mp hb with z | z
    ·exact .inl z
    ·rw[List.mem_singleton.mp z];exact .inr ⟨new,un⟩
  · refine Oq (base:=W.hideAll s.heap (frs X.stack++[a,T])) (cls:=(.ref C,od)) (fun Q' q=>Ej fr (ZR _) hfr (T:=T) ⟨oe,vs,oT,ts,he,hc,hd,h0,h1,W.hideAll_none _ (by simp),h2,h5,h6,h7⟩ (fun b o e=>W.of_hideAll _ e) (W.hideAll_none _ (by simp)) q) fun h' hL=>?_;rw[← hst] at hL;refine Ot I hex (fun b hb=>?_) new un (fun b hb=>List.mem_append_left _ hb) hE hL
    rcases List.mem_append.mp hb with z | z
    ·exact .inl z
    · simp only[List.mem_cons,List.not_mem_nil,or_false] at z
      rcases z with rfl | rfl
      ·exact .inr ⟨new,un⟩
      ·exact .inr ⟨h3,h4⟩
theorem Ek.back {h0 h1 h:Heap} {H:Hp} {a C:Addr} {od:Option Addr} (x:Ek h1 h H a C od) (k:∀b,h1.get? b=none→h0.get? b=none):Ek h0 h H a C od:=by
  obtain⟨new,un,oe,vs,he,hc,hd,h2,hT⟩:=x;refine⟨k _ new,un,oe,vs,he,hc,hd,h2,?_⟩
  rcases hT with h1 | ⟨T,oT,ts,h1,h2,h3,h4,h5⟩
  ·exact .inl h1
  ·exact .inr ⟨T,oT,ts,h1,h2,k _ h3,h4,h5⟩
def Lets (X:Cx) (E:XK):Prop:=∀(p_:List (Addr×Obj)) (σ:St) (H:Hp) (s:Shared) (a C:Addr) (od:Option Addr),Inv X p_ σ H s→Ek X.s₀.heap s.heap H a C od→E (.ref C) od H→X.xe (.ref a) s
theorem GC {P:Program} {w:World} {K:W.Frag} {mg:Str→Option Value} {base:Heap} {N:List Str} {qual:Str} {scope:Scope} {f:Addr} {cd:Value} {A:Around} {outer:List Env} {s:Shared} {H:Hp} {E:XK} :
    Lets (au (Vb P w) P w K mg base N qual scope f cd A outer s H E) E:=fun p_ σ H1 s1 a C od I x hE=>Vd I rfl rfl rfl x hE
theorem Lets.passes {X:Cx} {E:XK} (h:Lets X E) (hex:X.ex=[]):Passes (Vb X.prog X.w) X E:=fun p_ σ H s e s' I hx=>by
  obtain⟨a,C,od,H',rfl,ho,hg,un,hok,⟨T,ex⟩,hE⟩:=hx;have I':Inv X p_ σ H' s':=I.call' (ch:=[]) ho un hok hg fun b z=>(nomatch z);exact h p_ σ H' s' a C od I' (ex.in.back fun b e=>I.old hex e) hE
theorem Yb {K:W.Frag} {h:Heap} {C:Addr} {bmB:List Value} {newId:String} (X:K.In h) (q:W.excIn K C bmB newId=true) :
    ∃bm N nm q bs hdct sn sub ab col dd k0 k1 k2 k3 k5 mN,h.get? C=some (excClassObj nm q C N bs bm hdct sn sub ab col dd k0 k1 k2 k3 k5 newId)∧h.Ns N mN∧mN "__init__" = none∧OwnTail h bmB bm∧∀v b,W.mroIn K C v=some b→(Value.ref C::bm).contains v=b:=by
  unfold W.excIn at q;split at q
  · rename_i dd cd sl ho;split at q
    · rename_i C' bm k0 k1 k2 k3 n k5 hm hs;simp only[Bool.and_eq_true,beq_iff_eq,Bool.not_eq_true'] at q;obtain⟨⟨⟨⟨⟨rfl,rfl⟩,hdel⟩,ht⟩,hok⟩,hni⟩:=q;obtain⟨nm,bs,mro,ns,qn,hd,sn,sub,ab,col,del⟩:=cd;dsimp only at hm hdel hok hni;subst hm hdel;obtain rfl:sl = #[k0,k1,k2,k3,some (.builtin n),k5]:=by
        obtain⟨l⟩:=sl;simp only at hs;rw[hs]
      exact⟨bm,ns,nm,qn,bs,hd,sn,sub,ab,col,dd,k0,k1,k2,k3,k5,_,X _ _ ho,.of_isNs (W.isNs_of_in X hok),W.nsMap_none_of_in X hok hni,W.tail_of_in X ht,fun v b e=>by
        unfold W.mroIn W.clsIn at e;rw[ho] at e;simpa using e⟩
    ·cases q
  ·cases q
abbrev lM:List Value:=[.type "ValueError",.type "Exception",.type "BaseException",.type "object"]
def GD (K:W.Frag) (C:Addr):Prop:=W.excIn K C lM "ValueError.__new__" = true
theorem jO.okE {P:Program} {w:World} {K:W.Frag} {mg:Str→Option Value} {base:Heap} {x qual:Str} {st:Stmt} {f:Addr} {fd:FuncData} {N ps:List Str} {k:Nat} {sp:Sp} (F:jO K x qual st f fd) (S:aU N ps (ak st)) (len:∀vs H Q E,sp vs H Q E→vs.length=ps.length)
    (hbody:∀(cdv:Value) (A:Around) (outer:List Env) (s:Shared) (H:Hp) (vs:List V) (Q:VK) (E:XK),jw k (A.deeper (envOfC qual (ak st) s.heap.objs.size f cdv))→sp vs H Q E→
      ∃t,Dt (au (Vb P w) P w K mg base N qual (ak st) f cdv A outer s H E) (aF st) t∧t {nx:=fun _ H'=>Q .non H',rt:=Q} (start N vs) H):bV P w K mg base (Vb P w) (k+1) f fd ps sp:=by
  obtain⟨oc,od,kV,doc,pm,an,cdv,ct,osl,rfl,lk,hcd⟩:=F.ex;exact Zi lk hcd S len fun A outer s H vs Q E hr hsp=>hbody cdv A outer s H vs Q E hr hsp
theorem Inv.gone {X:Cx} {p_:List (Addr×Obj)} {σ:St} {H:Hp} {s:Shared} {h':Heap} {t':Nat} {ch:List Addr} (I:Inv X p_ σ H s) (hex:X.ex=[])
    (hch:∀b∈ch,X.s₀.heap.get? b=none∧H b=none∧(∀vs o,s.heap.get? b=some o→o.data = .fields vs→True)∧(∃o vs,s.heap.get? b=some o∧o.data = .fields vs)∧∀p∈X.pn++p_,p.1≠b)
    (k1:∀b o,b∉frs X.stack→b∉ch→s.heap.get? b=some o→h'.get? b=some o) (k2:∀b o,s.heap.get? b=some o→(∀vs,o.data≠.fields vs)→∃sl,h'.get? b=some {o with slots:=sl}) :
    Inv X p_ σ H {s with heap:=h',toks:=t'}:=by
  have nf:∀{b o},s.heap.get? b=some o→(∀vs,o.data≠.fields vs)→b∉ch:=fun {b o} e hd hb=>by
    obtain⟨_,_,_,⟨o2,vs,e2,d2⟩,_⟩:=hch b hb;rw[e] at e2;cases e2;exact hd vs d2
  have fsl:∀{b:Addr} {o:Obj},b∈frs X.stack→s.heap.get? b=some o→∃sl,h'.get? b=some {o with slots:=sl}:=fun {b o} hb e=>by
    obtain⟨_,o2,e2,hd⟩:=I.stack.mem hb;rw[e] at e2;cases e2;exact k2 b o e hd
  have ex1:∀{b:Addr} {o:Obj},b∉ch→s.heap.get? b=some o→∃o',h'.get? b=some o':=fun {b o} hb e=>by
    by_cases hf:b∈frs X.stack
    ·obtain⟨sl,z⟩:=fsl hf e;exact⟨_,z⟩
    ·exact⟨o,k1 b o hf hb e⟩
  have old:∀{b:Addr} {o:Obj},X.s₀.heap.get? b=some o→b∉ch:=fun e hb=>by
    rw[(hch _ hb).1] at e;cases e
  have qja:∀{b:Addr} {o:Obj},X.s₀.heap.get? b=some o→b∉X.fs→b∉frs X.stack:=fun {b o} e hb hm=>by
    rcases List.mem_cons.mp (I.uh b hm) with z | z
    ·rw[z] at e;exact absurd (Heap.lt_size e) (Nat.not_lt.mpr I.ok.above)
    ·exact hb z
  have RG:∀b:Addr,b∉X.ex:=fun b=>by rw[hex];simp
  have cells:∀{c:Addr} {v:Option Value},s.heap.IsCell c v→h'.IsCell c v:=fun {c v} ⟨o,e,d⟩=>by
    obtain⟨sl,z⟩:=k2 c o e (fun vs q=>by rw[d] at q;cases q);exact⟨_,z,d⟩
  have subs:∀{b:Addr},b∈X.fs→b∈frs X.stack:=fun {b} hb=>by
    rcases I.ok.stk with e | ⟨e,hf⟩
    ·rw[e];exact hb
    ·rw[e];show b∈List.filterMap _ (X.env::X.outer);rw[List.filterMap_cons,hf];exact List.mem_cons_of_mem _ hb
  refine⟨I.ok,I.os,I.bare,⟨fun b o e n hb hx=>?_,fun b o e n hb hx=>?_,I.base.free,fun b o e hx=>?_,I.base.tups,I.base.oY,I.base.qK⟩,?_,fun x c e=>?_,I.free,I.iU,fun p hp=>?_,fun b u e=>?_,I.len⟩
  ·exact k1 b o (qja e hb) (old e) (I.base.keep b o e n hb hx)
  ·obtain⟨sl,z⟩:=I.base.slot b o e n hb hx;obtain⟨sl',z'⟩:=fsl (subs hb) z;exact⟨sl',z'⟩
  ·obtain⟨o',z⟩:=I.base.there b o e hx;exact ex1 (old e) z
  · obtain⟨m,⟨o,es,ep,e,d,r⟩,q⟩:=I.loc;obtain⟨sl,z⟩:=k2 _ o e (fun vs y=>by rw[d] at y;cases y);refine⟨m,⟨_,es,ep,z,d,r⟩,fun i x v e1 e2 e3=>?_⟩;obtain⟨u,rv,l⟩:=q i x v e1 e2 e3;refine⟨u,rv,?_⟩
    rcases l with l | ⟨kd,c,ec,y⟩
    ·exact .inl l
    ·exact .inr ⟨kd,c,ec,cells y⟩
  ·obtain⟨v,z⟩:=I.cell x c e;exact⟨v,cells z⟩
  · obtain⟨e,n,ne,nfs,d⟩:=I.pin p hp;refine⟨k1 _ _ (fun hm=>?_) (fun hm=>(hch _ hm).2.2.2.2 p hp rfl) e,n,ne,nfs,d⟩
    rcases List.mem_cons.mp (I.uh _ hm) with z | z
    ·exact ne z
    ·exact nfs z
  · have no:∀{c:Addr} {u:HO},H c=some u→c∉frs X.stack∧c∉ch:=fun {c u} q=>⟨fun hm=>(by rw[I.yZ _ hm] at q;cases q),fun hm=>(by rw[(hch _ hm).2.1] at q;cases q)⟩;refine(I.hok b u e).stay (fun c v hc q=>?_) (fun c q=>q) fun c xs q=>q
    rcases hc with rfl | hc
    ·exact k1 _ _ (no e).1 (no e).2 q
    ·exact k1 _ _ (no hc).1 (no hc).2 q
end
end L2
namespace L2
open PySem PySem.Spec PySem.W PyProof.Rows
section
variable {prog:Program} {w:World} {A:Around} {E:Value→Shared→Prop} {K:W.Frag} {h:Heap} {g:Array GenState} {d:Drawn} {t:Nat} {os:OsState} {x C:Addr}
def uF (x C:Addr) (h:Heap):Prop:=∃ox vs,h.get? x=some ox∧ox.cls = .ref C∧ox.data = .fields vs∧vs[2]? = some .none
theorem uF.type {M:Model} (e:uF x C h):Looks M h (typeOf (.ref x)) (.ref C):=by
  obtain⟨ox,vs,h1,h2,_⟩:=e;exact h2▸(Looks.ld h1).andThen .now
end
end L2
namespace L2
open PySem PySem.Spec PyProof.Rows
def Cx.caught (X:Cx) (a:Addr):Cx:={X with A:=X.A.mark (some (.ref a)),calm:=false,xe:=fun _ _=>False}
def Cx.tried (X:Cx) (pn:List (Addr×Obj)) (xe:Value→Shared→Prop):Cx:={X with pn:=pn,xe:=xe}
section
variable {X:Cx} {p_:List (Addr×Obj)} {σ:St} {H:Hp} {s:Shared}
theorem Inv.caught (I:Inv X p_ σ H s) (a:Addr):Inv (X.caught a) p_ σ H s:=
  ⟨⟨I.ok.mod,I.ok.kind,I.ok.glob,I.ok.blt,I.ok.above,I.ok.inj,I.ok.has,I.ok.cab,fun z=>(nomatch z),I.ok.frames,I.ok.stk,I.ok.exf,I.ok.bs,I.ok.RD,I.ok.HY,I.ok.H_,I.ok.tQ,I.ok.Wy⟩,I.os,I.bare,I.base,I.loc,I.cell,I.free,I.iU,I.pin,I.hok,I.len⟩
theorem Inv.uncaught {a:Addr} {s':Shared} (I:Inv X p_ σ H s) {σ':St} {H':Hp} (J:Inv (X.caught a) p_ σ' H' s'):Inv X p_ σ' H' s':=
  ⟨I.ok,J.os,J.bare,J.base,J.loc,J.cell,J.free,J.iU,J.pin,J.hok,J.len⟩
theorem Inv.tried (I:Inv X p_ σ H s) (xe:Value→Shared→Prop):Inv (X.tried (X.pn++p_) xe) [] σ H s:=
  ⟨⟨I.ok.mod,I.ok.kind,I.ok.glob,I.ok.blt,I.ok.above,I.ok.inj,I.ok.has,I.ok.cab,I.ok.hd,I.ok.frames,I.ok.stk,I.ok.exf,I.ok.bs,I.ok.RD,I.ok.HY,I.ok.H_,I.ok.tQ,I.ok.Wy⟩,I.os,I.bare,I.base,I.loc,I.cell,I.free,I.iU,fun p hp=>I.pin p (by rw[List.append_nil] at hp;exact hp),I.hok,I.len⟩
theorem Inv.vN {xe:Value→Shared→Prop} {yp:List (Addr×Obj)} {s':Shared} (I:Inv X p_ σ H s) {σ':St} {H':Hp} (J:Inv (X.tried (X.pn++p_) xe) yp σ' H' s'):Inv X p_ σ' H' s':=
  ⟨I.ok,J.os,J.bare,J.base,J.loc,J.cell,J.free,J.iU,fun p hp=>J.pin p (List.mem_append_left _ hp),J.hok,J.len⟩
def Takes (X:Cx) (pn:List (Addr×Obj)) (xe:Value→Shared→Prop) (R:St→Addr→Option Addr→Hp→Prop):Prop:=
  ∀(p_:List (Addr×Obj)) (σ:St) (H:Hp) (s:Shared) (a C:Addr) (od:Option Addr) (T:Addr),Inv (X.tried pn xe) p_ σ H s→Va X.s₀.heap s.heap H a C od T→(∀p∈pn,p.1≠a∧p.1≠T)→R σ C od H→xe (.ref a) s
def Ve (sp:Sp) (R:St→Addr→Option Addr→Hp→Prop) (t:TA):TE:=fun σ H Q=>t σ H fun vs H1=>Qv sp vs H1 Q ⟨0⟩ (fun v od H'=>∃C,v = .ref C∧R σ C od H')
@[simp ↓] theorem qdI sp R t σ H Q:Ve sp R t σ H Q=t σ H fun vs H1=>Qv sp vs H1 Q ⟨0⟩ (fun v od H'=>∃C,v = .ref C∧R σ C od H'):=rfl
theorem Vf {k:Nat} {f:Addr} {fd:FuncData} {ps:List Str} {sp:Sp} {x:Str} {p pos:Pos} {e:Expr} {es:List Expr} {t:TA} {pn:List (Addr×Obj)} {xe:Value→Shared→Prop} {R:St→Addr→Option Addr→Hp→Prop}
    (hx:Takes X pn xe R) (hex:X.ex=[]) (F:bV X.prog X.w X.K X.mg X.base (Vb X.prog X.w) k f fd ps sp) (hr:jw k X.A) (hg:Gl X x) (hm:X.mg x=some (.ref f)) (hk:W.keepIn X.K (.ref f)=true) (hb:Binds X.K fd ps [])
    (ha:PA (X.tried pn xe) (e::es) t) (hdb:(x == ("__debug__" : Str))=false:=by decide) (he:starEach (e::es) X.env=(false,eval e X.env)::starEach es X.env:=by rfl) (hpl:(backTo pos (starEach es X.env)).any (·.1)=false:=by rfl) :
    PE (X.tried pn xe) (.Call (.Name x p) (e::es) [] pos) (Ve sp R t):=by
  intro p_ s σ H Q I h;refine wpAny_Call_Name_kw (lO I hg hm ?_ hdb);refine W.callWith_K (h₀:=X.base) I.ok.mod.Nr hk (cL (ha pos p_ s σ H _ I h) fun us s1 zz=>?_) he hpl;obtain⟨vs,H1,I1,r,q⟩:=zz;refine⟨I1.nq,?_⟩;have hl:us.length=ps.length:=by rw[← r.length];exact F.len _ _ _ _ q
  have hbd:=hb s1 us I1.nq (by rw[List.append_nil];exact hl);rw[List.append_nil] at hbd;refine wpAny_call (codeAny_mono (F.run X.A X.stack s1 H1 ⟨us,[]⟩ us vs Q _ hr I1.env0 hbd r q) fun rr s' hq=>?_);cases rr with
  | error e=>
    obtain⟨a,C,od,H',rfl,ho,hgn,un,hok,⟨T,ex⟩,C',e2,hR⟩:=hq;cases e2;have I':Inv (X.tried pn xe) p_ σ H' s':=I1.call' (ch:=[]) ho un hok hgn fun b z=>(nomatch z);have old:∀b,s1.heap.get? b=none→X.s₀.heap.get? b=none:=fun b z=>I1.old hex z;refine hx p_ σ H' s' a C od T I' ⟨old _ ex.new,old _ ex.newT,ex.un,ex.unT,ex.ob⟩ (fun p hp=>?_) hR;have e1:=(I1.pin p (List.mem_append_left _ hp)).1;exact⟨fun z=>(by rw[z,ex.new] at e1;cases e1),fun z=>(by rw[z,ex.newT] at e1;cases e1)⟩
  | ok fl=>
    cases fl with
    | ret u=>exact I1.after hq
    | next=>exact False.elim hq
    | brk=>exact False.elim hq
    | cont=>exact False.elim hq
def uG (x C:Addr) (od:Option Addr) (h:Heap):Prop:=∃ox vs,h.get? x=some ox∧(ox.cls,ox.dict)=(Value.ref C,od)∧ox.data = .fields vs∧vs[2]? = some .none
theorem uG.at {x C:Addr} {od:Option Addr} {h:Heap} (e:uG x C od h):uF x C h:=by
  obtain⟨ox,vs,h1,h2,h3,h4⟩:=e;exact⟨ox,vs,h1,congrArg Prod.fst h2,h3,h4⟩
def xO (a C:Addr) (od:Option Addr):HO:=.ext fun h=>uG a C od h
def Ay (K:W.Frag) (C:Addr):Prop:=∀h,K.In h→∃bm N nm q bs hdct sn sub ab col dd k0 k1 k2 k3 k5,h.get? C=some (excClassObj nm q C N bs bm hdct sn sub ab col dd k0 k1 k2 k3 k5 "ValueError.__new__")∧∀v b,W.mroIn K C v=some b→(Value.ref C::bm).contains v=b
theorem Inv.track {a C:Addr} {od:Option Addr} (I:Inv X p_ σ H s) (hex:X.ex=[]) (new:X.s₀.heap.get? a=none) (un:H a=none) (e:uG a C od s.heap) (hp:∀p∈X.pn++p_,p.1≠a):Inv X p_ σ (upd H a (xO a C od)) s:=by
  have nf:∀{b o},s.heap.get? b=some o→(∀vs,o.data≠.fields vs)→b≠a:=fun {b o} eb hd z=>by
    subst z;obtain⟨ox,vs,h1,_,h3,_⟩:=e;rw[eb] at h1;cases h1;exact hd vs h3
  have RG:∀b:Addr,b∉X.ex:=fun b=>by rw[hex];simp
  have old:∀{b o},X.s₀.heap.get? b=some o→b≠a:=fun {b o} eb z=>by
    rw[z,new] at eb;cases eb
  have ne:∀{b:Addr} {u:HO},H b=some u→b≠a:=fun {b u} q z=>by
    rw[z,un] at q;cases q
  refine⟨I.ok,I.os,I.bare,⟨fun b o eb n hb hx=>I.base.keep b o eb n hb hx,I.base.slot,fun b o eb n hx=>?_,I.base.there,fun b xs q=>?_,fun b o u q=>?_,fun b ps q=>?_⟩,I.loc,I.cell,?_,fun x c q=>?_,fun p hpp=>?_,fun b u q=>?_,I.len⟩
  ·rw[aD (old eb)];exact I.base.free b o eb n hx
  ·have z:=I.base.tups b xs q;rw[aD (ne z)];exact z
  ·have z:=I.base.oY b o u q;rw[aD (ne z)];exact z
  ·obtain⟨m,z⟩:=I.base.qK b ps q;exact⟨m,by rw[aD (ne z)];exact z⟩
  ·obtain⟨m,⟨o,es,ep,eo,d,r⟩,_⟩:=I.loc;rw[aD (nf eo fun vs y=>by rw[d] at y;cases y)];exact I.free
  ·obtain⟨v,o,eo,d⟩:=I.cell x c q;rw[aD (nf eo fun vs y=>by rw[d] at y;cases y)];exact I.iU x c q
  ·obtain⟨f1,f2,f3⟩:=I.pin p hpp;refine⟨f1,?_,f3⟩;rw[aD (hp p hpp)];exact f2
  · by_cases hb:b=a
    ·subst hb;rw[ao] at q;cases q;obtain⟨ox,vs,h1,h2,h3,_⟩:=id e;exact⟨e,⟨ox,h1⟩,fun h1 h2 ⟨ox,vs,a1,a2,a3⟩ k=>⟨ox,vs,k _ a1,a2,a3⟩⟩
    · rw[aD hb] at q;refine(I.hok b u q).stay (fun c v _ z=>z) (fun c z=>?_) fun c xs z=>?_
      ·rw[aD (ne z)];exact z
      ·rw[aD (ne z)];exact z
theorem QJ {M:Model} {A:Around} {E:Value→Shared→Prop} {i:Nat} {n:Str} {v:V} {Q:Unit→Shared→Prop} (I:Inv X p_ σ H s) (hN:X.N.Nodup) (hi:X.N[i]? = some n) (hl:X.env.scope.names.lookup n=some .local) (hv:σ[i]? = some (some v))
    (h:∀s',Inv X p_ (σ.set i none) H s'→Q () s'):wpAny M A (unbindName X.env n) Q E s:=by
  obtain⟨m,hn,q⟩:=id I.loc;obtain⟨u,rv,l⟩:=q i n v hi hv (.inl hl);have hm:m n=some u:=by
    rcases l with⟨_,l⟩ | ⟨k,c,_⟩
    ·exact l
    · rcases k with k | k
      ·have:X.env.kindOf n=some .local:=hl;rw[k] at this;cases this
      ·have:X.env.kindOf n=some .local:=hl;rw[k] at this;cases this
  have hcls:(X.env.scope.kind == .class || (X.env.scope.kind == .module && X.env.locals != X.env.globals))=false:=by rw[I.ok.kind];rfl
  have hiσ:i<σ.length:=by rw[I.len];exact(List.getElem?_eq_some_iff.mp hi).1
  refine wpAny_unbindName_local hl hn hm hcls fun h' u' hn' hs=>?_;obtain⟨oL,_,_,hoL,_⟩:=id hn;have loc:∀b o,X.s₀.heap.get? b=some o→b≠X.env.locals:=fun b o e=>Nat.ne_of_lt (Nat.lt_of_lt_of_le (Heap.lt_size e) I.ok.above);refine h _ ⟨I.ok,I.os,I.bare,⟨fun b o e n hb hx=>?_,fun b o e n hb hx=>?_,I.base.free,fun b o e hx=>?_,I.base.tups,I.base.oY,I.base.qK⟩,⟨_,hn',fun j y v' e1 e2 e3=>?_⟩,fun y c e=>?_,I.free,I.iU,fun p hp=>?_,fun b ob e=>?_,by simpa using I.len⟩
  ·exact(hs.2 b (loc b o e)).trans (I.base.keep b o e n hb hx)
  ·obtain⟨sl,z⟩:=I.base.slot b o e n hb hx;exact⟨sl,(hs.2 b (loc b o e)).trans z⟩
  ·obtain⟨o',z⟩:=I.base.there b o e hx;exact⟨o',(hs.2 b (loc b o e)).trans z⟩
  · have hj:j≠i:=fun z=>by
      subst z;rw[List.getElem?_set_self hiσ] at e2;cases e2
    rw[List.getElem?_set_ne (Ne.symm hj)] at e2;obtain⟨u2,r2,l2⟩:=q j y v' e1 e2 e3;refine⟨u2,r2,?_⟩
    rcases l2 with⟨k,e⟩ | ⟨k,c,e,z⟩
    ·have:y≠n:=fun e=>hj (zT hN e1 (e▸hi));exact .inl ⟨k,by simp[this,e]⟩
    ·exact .inr ⟨k,c,e,z.sameBut hs (I.WW y c e)⟩
  ·obtain⟨w',z⟩:=I.cell y c e;exact⟨w',z.sameBut hs (I.WW y c e)⟩
  ·obtain⟨e,n,ne,nf,d⟩:=I.pin p hp;exact⟨(hs.2 p.1 ne).trans e,n,ne,nf,d⟩
  · have no:∀{c:Addr} {u:HO},H c=some u→c≠X.env.locals:=fun {c u} q z=>by
      rw[z,I.free] at q;cases q
    refine(I.hok b ob e).stay (fun c w' hc q=>(hs.2 c ?_).trans q) (fun _ q=>q) fun _ _ q=>q
    rcases hc with rfl | hc
    ·exact no e
    ·exact no hc
end
section
variable {X:Cx} {p_:List (Addr×Obj)} {σ:St} {H:Hp} {s:Shared} {a:Addr}
end
theorem jO.qdJ {P:Program} {w:World} {K:W.Frag} {mg:Str→Option Value} {base:Heap} {x qual:Str} {st:Stmt} {f:Addr} {fd:FuncData} {N ps:List Str} {k:Nat} {sp:Sp} (F:jO K x qual st f fd) (S:aU N ps (ak st)) (len:∀vs H Q E,sp vs H Q E→vs.length=ps.length)
    (hbody:∀(cdv:Value) (A:Around) (outer:List Env) (s:Shared) (H:Hp) (vs:List V) (Q:VK) (E:XK),jw k (A.deeper (envOfC qual (ak st) s.heap.objs.size f cdv))→sp vs H Q E→
      ∃t,Dt (au (Vb P w) P w K mg base N qual (ak st) f cdv A outer s H E) (aF st) t∧t {nx:=fun _ H'=>Q .non H',rt:=Q} (lE N vs) H):bV P w K mg base (Vb P w) (k+1) f fd ps sp:=by
  refine F.okE S len fun cdv A outer s H vs Q E hr h=>?_;obtain⟨t,h1,h2⟩:=hbody cdv A outer s H vs Q E hr h;refine⟨t,h1,?_⟩;have hl:=len _ _ _ _ h;have hp:ps.length≤N.length:=by have:=congrArg List.length S.pre;rw[List.length_take] at this;omega
  rw[sy N vs (by omega)] at h2;exact h2
inductive Lf:V→PyData→Prop
  | non:Lf .non .none
  | bl (b):Lf (.bl b) (.bool b)
  | int (i):Lf (.int i) (.int i)
  | str (x):Lf (.str x) (.str x)
inductive Ou:List (Str×V)→List (PyData×PyData)→Prop
  | nil:Ou [] []
  | cons {x v d ks kvs}:Lf v d→Ou ks kvs→Ou ((x,v)::ks) ((.str x,d)::kvs)
section
variable {X:Cx} {p_:List (Addr×Obj)} {σ:St} {H:Hp} {s:Shared}
inductive Shw (H:Hp):PyData→V→Prop
  | thg {d v}:Ar H d v→d.hasDict=false→Shw H d v
  | dic {a ks kvs}:Ou ks kvs→H a=some (.dK (ks.map fun e=>((Sum.inr e.1:Key),e.2)))→Shw H (.dict kvs) (.ref a)
end
structure Az (k n:Nat) (d:PyData):Prop where
  sh:d.showable=true
  dp:d.depth≤k
  ln:d.shown.length≤n
theorem Az.mono {k n k' n':Nat} {d:PyData} (h:Az k n d) (hk:k≤k') (hn:n≤n'):Az k' n' d:=⟨h.sh,Nat.le_trans h.dp hk,Nat.le_trans h.ln hn⟩
theorem GF {k n:Nat}:∀{ds:List PyData},(∀c∈ds,Az k n c)→PyData.showableAll ds=true∧PyData.depthAll ds≤k∧(PyData.shownAll ds).length=ds.length∧((PyData.shownAll ds).map (·.length)).sum≤n * ds.length
  | [],_=>by simp[PyData.showableAll,PyData.depthAll,PyData.shownAll]
  | c::ds,h=>by
    obtain⟨h1,h2,h3⟩:=h c List.mem_cons_self;obtain⟨i1,i2,i3,i4⟩:=GF fun e he=>h e (List.mem_cons_of_mem _ he);simp only[PyData.showableAll,PyData.depthAll,PyData.shownAll,h1,i1,List.length_cons,List.map_cons,List.sum_cons,i3];refine⟨rfl,Nat.max_le.mpr ⟨h2,i2⟩,trivial,?_⟩;rw[Nat.mul_succ];omega
theorem Az.list {k n m:Nat} {ds:List PyData} (h:∀c∈ds,Az k n c) (hl:n * ds.length+2 * ds.length+3≤m):Az (k+1) m (.list ds):=by
  obtain⟨h1,h2,h3,h4⟩:=GF h;have:=listText_len_le (PyData.shownAll ds);refine⟨by simpa [PyData.showable] using h1,by simp only[PyData.depth];omega,?_⟩;simp only[PyData.shown];omega
theorem Az.tuple {k n m:Nat} {ds:List PyData} (h:∀c∈ds,Az k n c) (hl:n * ds.length+2 * ds.length+3≤m):Az (k+1) m (.tuple ds):=by
  obtain⟨h1,h2,h3,h4⟩:=GF h;have:=tupleText_len_le (PyData.shownAll ds);refine⟨by simpa [PyData.showable] using h1,by simp only[PyData.depth];omega,?_⟩;simp only[PyData.shown];omega
theorem Az.str {x:Str} {n:Nat} (hx:∀c∈x.cps.toList,c<16 ^ 8) (hn:10 * x.length+2≤n):Az 0 n (.str x):=by
  refine⟨rfl,Nat.le_of_eq rfl,?_⟩;simp only[PyData.shown];exact Nat.le_trans (StrLaws.reprText_len x hx) hn
def vO (fs:List (Int×Int)):PyData:=.dict (fs.map fun e=>(.int e.1,.int e.2))
section
variable {X:Cx} {p_:List (Addr×Obj)} {σ:St} {H:Hp} {s:Shared}
theorem El {P:Program} {w:World} {h:Heap}:∀{fs:List (Int×Int)} {vs:List (Key×Value)} {es:List DictEntry},KV (fs.map fun e=>((Sum.inl e.1:Key),V.int e.2)) vs→Pairs (bL P w) es vs→
    ReadsAll h (es.map (·.key)) ((fs.map fun e=>(PyData.int e.1,PyData.int e.2)).map (·.1)) []∧ReadsAll h (es.map (·.val)) ((fs.map fun e=>(PyData.int e.1,PyData.int e.2)).map (·.2)) []
  | [],_,_,kv,ps=>by
    cases kv;cases ps;exact⟨.nil,.nil⟩
  | f::fs,_,_,kv,ps=>by
    cases kv with
    | cons r rs=>
      cases ps with
      | cons h1 h2 h3=>
        obtain⟨i1,i2⟩:=El (h:=h) rs h3;obtain⟨r1,r2⟩:=r;simp only at r1 r2;rw[← r1] at h1;rw[Kr] at h1
        rcases cJ h1 with⟨i,t,e,ek⟩ | ⟨x,t,e,_⟩
        ·cases e;obtain⟨t2,r2⟩:=r2;simp only[List.map_cons];rw[ek,h2,r2];exact⟨.cons (.int _ t) i1,.cons (.int _ t2) i2⟩
        ·cases e
def Vg:List V→Hp→VK→Prop:=fun xs H Q=>ar1 xs fun v=>isRef v fun a=>∃fs:List (Int×Int),H a=some (.dK (fs.map fun e=>((Sum.inl e.1:Key),V.int e.2)))∧(vO fs).showable=true∧(vO fs).depth≤32∧(vO fs).shown.length≤sizeLine∧Q (.str (vO fs).shown) H
@[simp ↓] theorem qdK xs H Q:Vg xs H Q=(ar1 xs fun v=>isRef v fun a=>∃fs:List (Int×Int),H a=some (.dK (fs.map fun e=>((Sum.inl e.1:Key),V.int e.2)))∧(vO fs).showable=true∧(vO fs).depth≤32∧(vO fs).shown.length≤sizeLine∧Q (.str (vO fs).shown) H):=rfl
theorem yF (hg:X.A.guards=some []) (hu:X.A.units+64<cLine):cB X (.builtin "repr") Vg:=by
  intro p_ s σ H xs us Q I r h;obtain⟨v,rfl,h⟩:=ar1.out h;obtain⟨a,rfl,fs,he,h1,h2,h3,q⟩:=isRef.out h;obtain⟨u,rfl,ru⟩:=r.one;cases ru;obtain⟨_,hd,vs,kv,o,es,ep,q1,q2,q3,_,q5,_⟩:=Oc I.hok he;obtain⟨r1,r2⟩:=El (h:=s.heap) kv q5;have ra:Reads s.heap (.ref a) (vO fs) [a]:=Reads.dict (as:=[]) (bs:=[]) q1 q2.1 q3 r1 r2;refine repr_of_reads' (h₀:=s.heap) ra h1 (fun _ hm=>?_) hg (by omega) (fun _ _ e=>e) (fun h' u tk hk=>⟨.str _,H,I.kept (t':=tk) hk,⟨u,rfl⟩,q⟩) h3;rw[List.mem_singleton] at hm;rw[← hm] at hd;simp at hd
end
theorem Jt (ts:List Str):(dictText ts).length≤(ts.map (·.length)).sum+2 * ts.length+3:=by
  have la:∀x y:Str,(x++y).length=x.length+y.length:=fun x y=>Array.size_append;unfold dictText;rw[la,la,show("{" : Str).length=1 from rfl,show("}" : Str).length=1 from rfl];have h:(Str.join ", " ts).length≤(ts.map (·.length)).sum+ts.length * 2:=StrLaws.join_length_le ", " ts;omega
theorem Yc {i:Int} (h0:0≤i) (h1:i≤20):Az 0 100 (.int i):=by
  obtain⟨n,rfl⟩:∃n:Nat,i=(n:Int):=⟨i.toNat,by omega⟩;have h:n≤20:=by omega
  have z:∀n,n≤20→(PyData.int (n:Nat)).showable=true∧(PyData.int (n:Nat)).depth≤0∧(PyData.int (n:Nat)).shown.length≤100:=by decide+kernel
  exact⟨(z n h).1,(z n h).2.1,(z n h).2.2⟩
theorem Yd {fs:List (Int×Int)} (h:∀e∈fs,(0≤e.1∧e.1≤20)∧0≤e.2∧e.2≤20) (hl:fs.length≤20):Az 1 10000 (vO fs):=by
  have la:∀x y:Str,(x++y).length=x.length+y.length:=fun x y=>Array.size_append;have key:∀fs:List (Int×Int),(∀e∈fs,(0≤e.1∧e.1≤20)∧0≤e.2∧e.2≤20)→PyData.showableKv (fs.map fun e=>(.int e.1,.int e.2))=true∧PyData.depthKv (fs.map fun e=>(.int e.1,.int e.2))≤0∧(PyData.shownKv (fs.map fun e=>(.int e.1,.int e.2))).length=fs.length∧((PyData.shownKv (fs.map fun e=>(.int e.1,.int e.2))).map (·.length)).sum≤202 * fs.length:=by
    intro fs
    induction fs with
    | nil=>intro _;simp[PyData.showableKv,PyData.depthKv,PyData.shownKv]
    | cons e r ih=>
      intro h;obtain⟨⟨a1,a2⟩,b1,b2⟩:=h e List.mem_cons_self;obtain⟨s1,s2,s3⟩:=Yc a1 a2;obtain⟨t1,t2,t3⟩:=Yc b1 b2;obtain⟨i1,i2,i3,i4⟩:=ih fun e he=>h e (List.mem_cons_of_mem _ he);simp only[List.map_cons,PyData.showableKv,PyData.depthKv,PyData.shownKv,s1,t1,i1,List.length_cons,List.sum_cons,i3,la];refine⟨rfl,by simp only[Nat.max_le];omega,trivial,?_⟩;rw[show(": " : Str).length=2 from rfl,Nat.mul_succ];omega
  obtain⟨h1,h2,h3,h4⟩:=key fs h;have:=Jt (PyData.shownKv (fs.map fun e=>(.int e.1,.int e.2)));refine⟨by simpa [vO,PyData.showable] using h1,by simp only[vO,PyData.depth];omega,?_⟩;simp only[vO,PyData.shown];omega
end L2
namespace L2
open PySem PySem.Spec PySem.W PyProof.Rows
section
variable {prog:Program} {w:World} {A:Around} {E:Value→Shared→Prop} {K:W.Frag} {h:Heap} {g:Array GenState} {d:Drawn} {t:Nat} {os:OsState}
variable {nm q:Str} {C N:Addr} {bs bm:List Value} {hdct:Bool} {sn:List Str} {sub:List Value} {ab:Bool} {col:Option Bool} {dd:Option Addr} {k0 k1 k2 k3 k5:Option Value}
theorem GJ {rest:List Value} {f:Addr} {Q:PySem.Fin→Shared→Prop} (X:K.In h) (T:OwnTail h lM bm) (hi:findIn K (.ref C) "__init__" = some (some (.ref f))) (hf:typeIn K (.ref f)=some (.type "function"))
    (hC:h.get? C=some (excClassObj nm q C N bs bm hdct sn sub ab col dd k0 k1 k2 k3 k5 "ValueError.__new__"))
    (hq:∀h' e,Heap.MadeExcOf h h' e (.ref C) rest→wpAny (model prog w) A (call (.ref f) (.ref e::rest)) (fun r s'=>r = .none∧Q (.done (.ret (.ref e))) s') E ⟨h',g,d,t,os⟩) (hz:rest.length≤sizeLine) :
    wpAny (model prog w) A (Builtin.«type.__call__» ⟨.ref C::rest,[]⟩) Q E ⟨h,g,d,t,os⟩:=by
  have F:=PySem.F.excBase_ValueError
  repeat (first | with_reducible refine wpAny_loadPart_at hC ?_ | with_reducible refine wpAny_madeBy_exc hC ?_ | wp_step)
  refine codeAny_call_builtin_code (Code.quiet_builtin _ F.quiet) (wpAny_check_new_subT F T hC (codeAny_exc_new_subT F T hC ?_ hz));show wpAny _ _ _ _ _ _;generalize hG:(h.push {cls:=.type "tuple",data:=.seq rest.toArray}).push {cls:=.ref C,data:=.fields #[.ref h.objs.size,.none,.none,.none,.bool false,.none]}=G;have kp:∀b o,h.get? b=some o→G.get? b=some o:=fun b o e=>by
    rw[← hG];exact Heap.get?_push_of_some _ (Heap.get?_push_of_some _ e)
  have hget:G.get? (h.objs.size+1)=some {cls:=.ref C,data:=.fields #[.ref h.objs.size,.none,.none,.none,.bool false,.none]}:=by
    rw[← hG]
    heap_get
  have hT:G.get? h.objs.size=some {cls:=.type "tuple",data:=.seq rest.toArray}:=by
    rw[← hG];exact Heap.get?_push_of_some _ (Heap.get?_push_at rfl rfl)
  have X1:K.In G:=fun b o e=>kp b o (X b o e);have hC1:=kp _ _ hC;have hcC:(Value.ref C::bm).contains (.ref C)=true:=by simp
  unfold isInstance
  repeat (first | with_reducible refine wpAny_loadPart_at hget ?_ | (with_reducible refine wpAny_isSubtype_exc hC1 ?_;rw[hcC]) | wp_step)
  show wpAny _ _ (typeLookup (.ref C) _) _ _ _;refine(looks_findIn (M:=model prog w) X1 hi).at ?_;refine wpAny_holding (wpAny_bind ?_);unfold bindSpecial;refine wpAny_bind ((looks_typeIn (M:=model prog w) X1 hf).at ?_);rw[if_pos (by decide)];refine wpAny_pure (wpAny_bind (wpAny_mono (hq G (h.objs.size+1) ⟨kp,Heap.get?_none_of_le (Nat.le_succ _),h.objs.size,hget,Heap.get?_none_of_le (Nat.le_refl _),hT⟩) (fun r s' hr=>?_) fun _ _ x=>x));obtain⟨rfl,hQ⟩:=hr
  wp_walk
  exact hQ
theorem Ye {rest:List Value} {f:Addr} {Q:Value→Shared→Prop} (X:K.In h) (T:OwnTail h lM bm) (hi:findIn K (.ref C) "__init__" = some (some (.ref f))) (hf:typeIn K (.ref f)=some (.type "function"))
    (hC:h.get? C=some (excClassObj nm q C N bs bm hdct sn sub ab col dd k0 k1 k2 k3 k5 "ValueError.__new__"))
    (hq:∀h' e,Heap.MadeExcOf h h' e (.ref C) rest→wpAny (model prog w) (A.under (.builtin "type.__call__" ⟨.ref C::rest,[]⟩)) (call (.ref f) (.ref e::rest)) (fun r s'=>r = .none∧Q (.ref e) s') E ⟨h',g,d,t,os⟩) (hz:rest.length≤sizeLine) :
    wpAny (model prog w) A (call (.ref C) rest) Q E ⟨h,g,d,t,os⟩:=by
  have f1:=tc_lookup;have f2:=tc_bind (.ref C);have hT:(⟨h,g,d,t,os⟩:Shared).TypeIs (.ref C) "type" :=⟨_,hC,rfl⟩;refine wpAny_call (codeAny_of_tree ?_);show wpAny _ _ (callAny (.ref C) _) _ _ _
  repeat (any_goals (first | assumption | with_reducible refine wpAny_loadPart_at hC ?_ | wp_step))
  refine⟨rfl,codeAny_call_builtin_at (Code.quiet_builtin _ (by decide+kernel)) entry_typeCall (wpAny_check_type_call_sub hC (GJ X T hi hf hC (fun h' e hm=>?_) hz))⟩;exact hq h' e hm
theorem Yg {rest:List Value} {e t0:Addr} {oe:Obj} {vs:Array Value} {Q:Value→Shared→Prop} (T:OwnTail h lM bm)
    (hC:h.get? C=some (excClassObj nm q C N bs bm hdct sn sub ab col dd k0 k1 k2 k3 k5 "ValueError.__new__")) (he:h.get? e=some oe) (hc:oe.cls = .ref C) (hd:oe.data = .fields vs) (h0:vs[0]? = some (.ref t0))
    (hq:∀h' t1,(∀b o,b≠e→h.get? b=some o→h'.get? b=some o)→h'.get? e=some {oe with data:=.fields (vs.setIfInBounds 0 (.ref t1))}→Q .none ⟨h',g,d,t,os⟩) (hz:rest.length≤sizeLine) :
    wpAny (model prog w) A (call (.builtin "ValueError.__init__") (.ref e::rest)) Q E ⟨h,g,d,t,os⟩:=by
  have F:=PySem.F.excBase_ValueError;refine wpAny_call (codeAny_call_builtin F.init.plain F.initEntry (wpAny_check_init_subT F T hC he hc ?_));have he1:(h.push {cls:=.type "tuple",data:=.seq rest.toArray}).get? e=some oe:=Heap.get?_push_of_some _ he;unfold Builtin.«BaseException.__init__» Builtin.BaseException.bexcPut
  repeat (first | with_reducible refine wpAny_field he1 hd h0 ?_ | with_reducible refine wpAny_setField he1 hd (Array.getElem?_eq_some_iff.mp h0).1 ?_ | wp_step)
  have d3:=Obj.data_mapFields hd (·.setIfInBounds 0 (Value.ref h.objs.size));refine hq _ h.objs.size (fun b o hb z=>?_) ?_
  ·rw[Heap.get?_update_other _ _ (Ne.symm hb)];exact Heap.get?_push_of_some _ z
  ·refine(Heap.get?_update_self _ he1 (Obj.isFreed_of_fields d3)).trans (congrArg some ?_);obtain⟨c,dct,dat,sl⟩:=oe;cases hd;rfl
def GK (x C:Addr) (od:Option Addr) (h:Heap):Prop:=∃ox vs t0,h.get? x=some ox∧ox.cls = .ref C∧ox.data = .fields vs∧vs[0]? = some (.ref t0)∧vs[1]? = some .none∧vs[2]? = some .none∧ox.dict=od
theorem GK.at {x C:Addr} {od:Option Addr} {h:Heap} (e:GK x C od h):uF x C h:=by
  obtain⟨ox,vs,t0,h1,h2,h3,_,_,h5,_⟩:=e;exact⟨ox,vs,h1,h2,h3,h5⟩
structure Lw (K:W.Frag) (C:Addr):Prop where
  ga:findIn K (.ref C) "__getattribute__" = some (some (.builtin "BaseException.__getattribute__"))
  gn:findIn K (.ref C) "__getattr__" = some none
  mb:mroIn K C (.type "BaseException")=some true
  hd:hasDictIn K C=true
theorem Vh {M:Model} {x:Addr} {nameV:Value} {Q:Unit→Shared→Prop} (X:K.In h) (I:uF x C h) (hb:mroIn K C (.type "BaseException")=some true) (hq:Q () ⟨h,g,d,t,os⟩) :
    wpAny M A (checkBuiltinCall "BaseException.__getattribute__" ⟨[.ref x,nameV],[]⟩) Q E ⟨h,g,d,t,os⟩:=by
  have hk:builtinKind "BaseException.__getattribute__" = some .slot:=by decide+kernel
  have hs:splitId "BaseException.__getattribute__" = some ("BaseException", "__getattribute__"):=by decide+kernel
  have L0:=I.type (M:=M);have L1:=looks_mroIn (M:=M) X hb;have ha:=F.args_bexc_ga (.ref x) nameV;simp only[checkBuiltinCall,hk,hs];refine wpAny_bind ?_;unfold isInstance
  repeat (first | with_reducible refine L0.at ?_ | with_reducible refine L1.at ?_ | wp_step)
  exact hq
theorem Yh {x dx:Addr} {mA:Str→Option Value} (e:uG x C (some dx) h) (hn:h.Ns1 dx mA):∃ox od,W.InstAt h x ox C (some od)∧∀name,W.lookIn name od=some (mA name):=by
  obtain⟨ox,vs,h1,h26,h3,_⟩:=e;have h2:ox.cls = .ref C:=congrArg Prod.fst h26;have h6:ox.dict=some dx:=congrArg Prod.snd h26;obtain⟨od,ho,hl⟩:=Dv hn;refine⟨ox,od,⟨h1,h2,?_,?_⟩,hl⟩
  ·unfold W.notCls;rw[h3]
  ·rw[h6];exact ho
theorem qbs {x dx:Addr} {mA:Str→Option Value} {name:Str} {v:Value} {expr:Bool} {Q:Value→Shared→Prop} {s:Shared} (X:K.In s.heap) (e:uG x C (some dx) s.heap) (hn:s.heap.Ns1 dx mA) (G:Lw K C) (ha:findIn K (.ref C) name=some none)
    (hv:mA name=some v) (hv':handedIn v=true) (h:Q v {s with toks:=s.toks+1}):wpAny (model prog w) A (getAttr (.ref x) name expr) Q E s:=by
  obtain⟨ox,od,I,hl⟩:=Yh e hn;obtain⟨hp,g,d,t,os⟩:=s;dsimp only at X e hn h I;have hf:findObj K C (some od) name=some (.value v):=findObj_own G.hd ha rfl (by rw[hl,hv]);have L0:=I.type (M:=model prog w);have L1:=looks_findIn (M:=model prog w) X G.ga;have L2:=looks_findIn (M:=model prog w) X G.gn;have L3:=looks_find (M:=model prog w) X I hf;have f3:=(F.attrBase_ValueError.ga).bind (.ref x);have hx2:(Value.builtin "BaseException.__getattribute__" == Value.builtin "object.__getattribute__")=false:=by decide+kernel
  have hx1:(onTheHeap (Value.ref C) && Value.builtin "BaseException.__getattribute__" == Value.builtin "object.__getattribute__")=false:=by rw[hx2];rfl
  unfold getAttr getAttrBy
  repeat (any_goals (first | assumption | with_reducible refine L0.at ?_ | with_reducible refine L1.at ?_ | with_reducible refine L2.at ?_ | wp_step))
  rw[show(expr && onTheHeap (Value.builtin "BaseException.__getattribute__"))=false from Bool.and_false _,if_neg (by decide)];unfold boundAndCalled;rw[f3];refine wpAny_bind (wpAny_pure ?_);show wpAny _ _ (call (.builtin "BaseException.__getattribute__") [.ref x,.str name t]) _ _ _;refine wpAny_call (codeAny_call_builtin F.attrBase_ValueError.ga.plain F.entry_bexc_ga (Vh X e.at G.mb ?_))
  repeat (any_goals (first | assumption | with_reducible refine L0.at ?_ | with_reducible refine L3.at ?_ | wp_step))
  show wpAny _ _ (handedOut v) _ _ _;rw[handedOut_of hv'];exact wpAny_pure h
structure uH (K:W.Frag) (C PE:Addr):Prop where
  sa:findIn K (.ref C) "__setattr__" = some (some (.builtin "object.__setattr__"))
  mo:mroIn K C (.type "object")=some true
  cl:∃cd,clsIn K C=some cd∧cd.mro = .ref C::.ref PE::lM∧cd.hasDict=true
theorem qbt {x PE:Addr} {name:Str} {tk:Tok} {v:Value} {R:Result→Shared→Prop} (X:K.In h) (I:uF x C h) (S:uH K C PE) (ha:findIn K (.ref C) name=some none)
    (hq:wpAny (model prog w) A.in1 (Builtin.ObjectAttr.storeInOwnDict (.ref x) (.ref C) (.str name tk) name v false)
      (fun fin s'=>match fin with | .done f=>R (.ok f) s' | .again c'=>c'.quiet=true∧codeAny (model prog w) A c' R s') (fun e s'=>R (.error e) s') ⟨h,g,d,t,os⟩) :
    codeAny (model prog w) A (.call (.builtin "object.__setattr__") ⟨[.ref x,.str name tk,v],[]⟩) R ⟨h,g,d,t,os⟩:=by
  have SF:=PySem.F.store_object;obtain⟨cd,hc,hm,_⟩:=S.cl;have L0:=I.type (M:=model prog w);have sub:Looks (model prog w) h (isInstance (.ref x) (.type "object")) true:=L0.andThen (looks_mroIn X S.mo);refine codeAny_call_builtin SF.slot.plain SF.entry (@check_slot (model prog w) _ _ ⟨h,g,d,t,os⟩ "object.__setattr__" "object" "__setattr__" (.ref x) [.str name tk,v] [] _ SF.kind SF.split sub (SF.args (.ref x) (.str name tk) v) ?_);have Lm:Looks (model prog w) h (mroOf (.ref C)) cd.mro:=(looks_clsIn X hc).andThen .now;rw[osa_eq,refuse_eq];refine wpAny_bind (wpAny_bind (Looks.here (s:=⟨h,g,d,t,os⟩) L0 (wpAny_bind (Looks.here (s:=⟨h,g,d,t,os⟩) Lm ?_))));rw[hm,refuseLoop_ref,refuseLoop_ref,PySem.F.store_ValueError.passes];exact wpAny_pure (wpAny_bind (Looks.here (s:=⟨h,g,d,t,os⟩) L0 (wpAny_bind (Looks.here (s:=⟨h,g,d,t,os⟩) (looks_findIn X ha) (wpAny_bind (wpAny_pure hq))))))
theorem Vi {x PE:Addr} {name:Str} {v:Value} {Q:Unit→Shared→Prop} {s:Shared} (X:K.In s.heap) (I:uF x C s.heap) (S:uH K C PE) (ha:findIn K (.ref C) name=some none)
    (hq:∀A':Around,wpAny (model prog w) A' (Builtin.ObjectAttr.storeInOwnDict (.ref x) (.ref C) (.str name s.toks) name v false) (fun fin s'=>fin = .done (.ret .none)∧Q () s') (fun e s'=>False) {s with toks:=s.toks+1}) :
    wpAny (model prog w) A (setAttr (.ref x) name v) Q E s:=by
  have L0:=I.type (M:=model prog w);refine wpAny_bind (wpAny_mkText (wpAny_bind (wpAny_bind (wpAny_bind (L0 _ _ _ _ (fun _ _ e=>e) (looks_findIn X S.sa _ _ _ _ (fun _ _ e=>e) (wpAny_holding ?_)))))));rw[PySem.F.store_object.slot.bind];refine wpAny_bind (wpAny_pure (wpAny_bind (wpAny_call (codeAny_mono (qbt (A:=A) (tk:=s.toks) (v:=v) (R:=fun r s'=>match r with | .ok (.ret _)=>Q () s' | .ok _=>False | .error e=>False) X I S ha (wpAny_mono (hq _) (fun fin s' z=>?_) fun e s' z=>z)) fun r s' z=>?_))))
  ·obtain⟨rfl,z⟩:=z;exact z
  ·rcases r with e | (v | _ | _ | _) <;> first | exact z.elim | exact wpAny_pure (wpAny_pure z)
theorem Yi {x dx:Addr} {ns:List Str} {mA:Str→Option Value} {name:Str} {tk:Tok} {v:Value} {Q:PySem.Fin→Shared→Prop} {cd:ClassData} (X:K.In h) (e:GK x C (some dx) h) (hn:h.Ns1 dx mA) (hc:clsIn K C=some cd) (hd:cd.hasDict=true)
    (hw:PySem.Within mA ns) (hsz:ns.length≤sizeLine) (hq:∀h' t',h'.Ns1 dx (fun y=>if y=name then some v else mA y)→Heap.SameBut dx h h'→Q (.done (.ret .none)) ⟨h',g,d,t',os⟩) :
    wpAny (model prog w) A (Builtin.ObjectAttr.storeInOwnDict (.ref x) (.ref C) (.str name tk) name v false) Q E ⟨h,g,d,t,os⟩:=by
  obtain⟨ox,vs,t0,h1,h2,h3,_,_,_,h6⟩:=e;obtain⟨oc,odi,oda,osl⟩:=ox;cases h2;cases h3;cases h6;refine wpAny_bind (wpAny_pure (wpAny_bind (wpAny_bind (wpAny_loadPart h1 (wpAny_bind (Looks.here (s:=⟨h,g,d,t,os⟩) (looks_clsIn X hc) ?_))))));rw[hd];refine wpAny_pure (a:=some dx) (wpAny_bind (wpAny_pure (wpAny_bind ?_)));refine wpAny_nsSet1 (s:=⟨h,g,d,t,os⟩) hn fun h' hn2 hs2=>?_;obtain⟨oD,esD,epD,hoD,hdD,hcD⟩:=hn2.count (PySem.Within.cons name v hw);refine wpAny_bind (wpAny_lookBehind hoD (by rw[hdD];exact pastItsLine_dict (Nat.le_trans hcD (by rw[List.length_cons];omega))) ?_);exact wpAny_pure (hq _ _ hn2 hs2)
theorem Yj {x:Addr} {name:Str} {tk:Tok} {v:Value} {Q:PySem.Fin→Shared→Prop} {cd:ClassData} (X:K.In h) (e:GK x C none h) (hc:clsIn K C=some cd) (hd:cd.hasDict=true)
    (hq:∀h' t',h'.Ns1 h.objs.size (fun y=>if y=name then some v else none)→(∀b o,b≠x→h.get? b=some o→h'.get? b=some o)→GK x C (some h.objs.size) h'→Q (.done (.ret .none)) ⟨h',g,d,t',os⟩) :
    wpAny (model prog w) A (Builtin.ObjectAttr.storeInOwnDict (.ref x) (.ref C) (.str name tk) name v false) Q E ⟨h,g,d,t,os⟩:=by
  obtain⟨ox,vs,t0,h1,h2,h3,h40,h41,h42,h6⟩:=e;obtain⟨oc,odi,oda,osl⟩:=ox;cases h2;cases h3;cases h6;refine wpAny_bind (wpAny_pure (wpAny_bind (wpAny_bind (wpAny_loadPart h1 (wpAny_bind (Looks.here (s:=⟨h,g,d,t,os⟩) (looks_clsIn X hc) ?_))))));rw[hd,if_neg (by decide)];show wpAny _ _ (if (!true || !typeHasDict (Value.ref C))=true then pure none else _) _ _ _
  rw[if_neg (by simp[typeHasDict])];have hxs:x≠h.objs.size:=Nat.ne_of_lt (Heap.lt_size h1);have h1':(h.push {cls:=.type "dict",data:=.dict #[]}).get? x=some ⟨.ref C,none,.fields vs,osl⟩:=Heap.get?_push_of_some _ h1;refine wpAny_bind (wpAny_alloc' ?_);refine wpAny_bind (wpAny_update' h1' ?_);refine wpAny_pure ?_;generalize hG:((h.push {cls:=.type "dict",data:=.dict #[]}).update x fun o=>{cls:=o.cls,dict:=some h.objs.size,data:=o.data,slots:=o.slots})=G;have g1:G.get? h.objs.size=some {cls:=.type "dict",data:=.dict #[]}:=by
    rw[← hG];exact(Heap.get?_update_ne _ _ _ _ hxs.symm).trans (Heap.get?_push_at rfl rfl)
  have g2:G.get? x=some ⟨.ref C,some h.objs.size,.fields vs,osl⟩:=by
    rw[← hG];exact Heap.get?_update_self _ h1' rfl
  have g3:∀b o,b≠x→h.get? b=some o→G.get? b=some o:=fun b o hb z=>by
    rw[← hG];exact(Heap.get?_update_ne _ _ _ _ hb).trans (Heap.get?_push_of_some _ z)
  have hnd:G.Ns h.objs.size (fun _=>none):=⟨_,#[],_,g1,rfl,fun e he=>absurd he (by simp),fun _=>rfl⟩;show wpAny _ _ (Builtin.ObjectAttr.storeInDict h.objs.size (.str name tk) name v) _ _ _;unfold Builtin.ObjectAttr.storeInDict Builtin.ObjectAttr.newKeyGuard;refine wpAny_bind (wpAny_pure (wpAny_bind (wpAny_nsSet1 (Heap.Ns1.of_empty hnd) fun h' hn' hs=>?_)));obtain⟨oD,esD,epD,hoD,hdD,hcD⟩:=hn'.count (Within.cons name v Within.nil);refine wpAny_bind (wpAny_lookBehind hoD (by rw[hdD];exact pastItsLine_dict (Nat.le_trans hcD (by rw[List.length_cons,List.length_nil,sizeLine_eq];omega))) ?_);exact wpAny_pure (hq _ _ hn' (fun b o hb z=>(hs.2 b (Nat.ne_of_lt (Heap.lt_size z))).trans (g3 b o hb z)) ⟨_,vs,t0,(hs.2 x hxs).trans g2,rfl,rfl,h40,h41,h42,rfl⟩)
end
end L2
namespace L2
open PySem PySem.Spec PyProof.Rows
def dY (x C:Addr) (od:Option Addr):HO:=.ext fun h=>GK x C od h
def iY (dx:Addr) (fs:List (Str×V)):HO:=.ext fun h=>fs.length≤1000∧∃mA,h.Ns1 dx mA∧(∀f,lN (fs.lookup f) (mA f))∧PySem.Within mA (fs.map (·.1))
section
variable {P:Program} {w:World} {H:Hp} {h:Heap} {x C dx:Addr} {od:Option Addr} {fs:List (Str×V)}
theorem GP (e:GK x C od h):bY P w H h x (dY x C od):=by
  obtain⟨ox,vs,t0,h1,h2⟩:=id e;exact⟨e,⟨ox,h1⟩,fun g1 g2 ⟨ox,vs,t0,a1,a2⟩ k=>⟨ox,vs,t0,k _ a1,a2⟩⟩
theorem zq (ok:qx P w H h) (e:H x=some (dY x C od)):GK x C od h:=((show bY P w H h x (dY x C od) from ok _ _ e)).1
theorem Ov {mA:Str→Option Value} (hl:fs.length≤1000) (hn:h.Ns1 dx mA) (hr:∀f,lN (fs.lookup f) (mA f)) (hw:PySem.Within mA (fs.map (·.1))):bY P w H h dx (iY dx fs):=by
  obtain⟨o,es,ep,h1,h2⟩:=id hn;exact⟨⟨hl,mA,hn,hr,hw⟩,⟨o,h1⟩,fun g1 g2 ⟨c,mB,⟨o,es,ep,a1,a2⟩,b⟩ k=>⟨c,mB,⟨o,es,ep,k _ a1,a2⟩,b⟩⟩
theorem Ow (ok:qx P w H h) (e:H dx=some (iY dx fs)):fs.length≤1000∧∃mA,h.Ns1 dx mA∧(∀f,lN (fs.lookup f) (mA f))∧PySem.Within mA (fs.map (·.1)):=((show bY P w H h dx (iY dx fs) from ok _ _ e)).1
theorem Lx {o:HO} (e:H x=some o):upd H x o=H:=funext fun b=>by
  by_cases hb:b=x
  ·subst hb;rw[ao,e]
  ·rw[aD hb]
end
section
variable {X:Cx} {p_:List (Addr×Obj)} {σ:St} {H:Hp} {s:Shared}
theorem Inv.qbu {a:Addr} {ob:HO} (I:Inv X p_ σ H s) (hex:X.ex=[]) (new:X.s₀.heap.get? a=none) (un:H a=none) (e:∃ox vs,s.heap.get? a=some ox∧ox.data = .fields vs) (ok:bY X.prog X.w (upd H a ob) s.heap a ob) (hp:∀p∈X.pn++p_,p.1≠a):Inv X p_ σ (upd H a ob) s:=by
  have nf:∀{b o},s.heap.get? b=some o→(∀vs,o.data≠.fields vs)→b≠a:=fun {b o} eb hd z=>by
    subst z;obtain⟨ox,vs,h1,h3⟩:=e;rw[eb] at h1;cases h1;exact hd vs h3
  have old:∀{b o},X.s₀.heap.get? b=some o→b≠a:=fun {b o} eb z=>by
    rw[z,new] at eb;cases eb
  have ne:∀{b:Addr} {u:HO},H b=some u→b≠a:=fun {b u} q z=>by
    rw[z,un] at q;cases q
  refine⟨I.ok,I.os,I.bare,⟨fun b o eb n hb hx=>I.base.keep b o eb n hb hx,I.base.slot,fun b o eb n hx=>?_,I.base.there,fun b xs q=>?_,fun b o u q=>?_,fun b ps q=>?_⟩,I.loc,I.cell,?_,fun x c q=>?_,fun p hpp=>?_,fun b u q=>?_,I.len⟩
  ·rw[aD (old eb)];exact I.base.free b o eb n hx
  ·have z:=I.base.tups b xs q;rw[aD (ne z)];exact z
  ·have z:=I.base.oY b o u q;rw[aD (ne z)];exact z
  ·obtain⟨m,z⟩:=I.base.qK b ps q;exact⟨m,by rw[aD (ne z)];exact z⟩
  ·obtain⟨m,⟨o,es,ep,eo,d,r⟩,_⟩:=I.loc;rw[aD (nf eo fun vs y=>by rw[d] at y;cases y)];exact I.free
  ·obtain⟨v,o,eo,d⟩:=I.cell x c q;rw[aD (nf eo fun vs y=>by rw[d] at y;cases y)];exact I.iU x c q
  ·obtain⟨f1,f2,f3⟩:=I.pin p hpp;refine⟨f1,?_,f3⟩;rw[aD (hp p hpp)];exact f2
  · by_cases hb:b=a
    ·subst hb;rw[ao] at q;cases q;exact ok
    · rw[aD hb] at q;refine(I.hok b u q).stay (fun c v _ z=>z) (fun c z=>?_) fun c xs z=>?_
      ·rw[aD (ne z)];exact z
      ·rw[aD (ne z)];exact z
theorem Inv.qdL {e C:Addr} {args:List Value} {h':Heap} (I:Inv X p_ σ H s) (hex:X.ex=[]) (mk:Heap.MadeExcOf s.heap h' e (.ref C) args):H e=none∧Inv X p_ σ (upd H e (dY e C none)) {s with heap:=h'}:=by
  have un:=Vc I.hok mk.new;obtain⟨t0,ht,_⟩:=mk.there;have I2:Inv X p_ σ H {s with heap:=h',toks:=s.toks}:=I.kept mk.keeps;refine⟨un,I2.qbu hex (I.old hex mk.new) un ⟨_,_,ht,rfl⟩ (GP ⟨_,_,t0,ht,rfl,rfl,rfl,rfl,rfl,rfl⟩) fun p hp z=>?_⟩;have e1:=(I.pin p hp).1;rw[z,mk.new] at e1;cases e1
end
structure ZS (K:W.Frag) (C B f:Addr):Prop where
  ob:∃nm q N bs hdct sn sub ab col dd k0 k1 k2 k3 k5,K.lookup C=some (excClassObj nm q C N bs (.ref B::lM) hdct sn sub ab col dd k0 k1 k2 k3 k5 "ValueError.__new__")
  pe:GD K B
  pm:∃cd,W.clsIn K B=some cd∧cd.mro = .ref B::lM
  init:W.findIn K (.ref C) "__init__" = some (some (.ref f))
  fn:W.typeIn K (.ref f)=some (.type "function")
  kp:W.keepIn K (.ref C)=true
theorem ZS.tail {K:W.Frag} {C B f:Addr} {h:Heap} (M:ZS K C B f) (X:K.In h):OwnTail h lM (.ref B::lM):=by
  obtain⟨bm,N,nm,qn,bs,hdct,sn,sub,ab,col,dd,k0,k1,k2,k3,k5,mN,hC0,hN0,hni,T0,_⟩:=Yb X M.pe;obtain⟨cd,h1,h2⟩:=M.pm;have e:bm=lM:=by
    unfold W.clsIn at h1;split at h1
    ·rename_i c' d' cd' sl' ho;cases h1;have z:=X _ _ ho;rw[hC0] at z;cases z;simpa using h2
    ·cases h1
  subst e;exact .own hC0 hN0 hni .base
section
variable {X:Cx} {C B f:Addr} {x:Str} {np p pos apos:Pos} {e:Expr} {es:List Expr} {t:TA}
structure qdM (K:W.Frag) (B:Addr):Prop where
  sg:W.specialIn K (.ref B) "__getattribute__" = some (some (.builtin "type.__getattribute__"))
  rd:W.readsIn K B (.type "type")=true
  fc:W.findCls K (.ref B) (.type "type") "__init__" = some (.val (.builtin "ValueError.__init__"))
def ZV (C:Addr) (t:TA):TE:=fun σ H Q=>t σ H fun vs H1=>ar2 vs fun v y=>isRef v fun a=>∃od,H1 a=some (dY a C od)∧Q .non H1
@[simp ↓] theorem qh3 C t σ H Q:ZV C t σ H Q=t σ H fun vs H1=>ar2 vs fun v y=>isRef v fun a=>∃od,H1 a=some (dY a C od)∧Q .non H1:=rfl
theorem Ox {pl:Sem Bool} (M:ZS X.K C B f) (N:qdM X.K B) (hg:Gl X x) (hm:X.mg x=some (.ref B)) (ha:PA X (e::es) t) (hdb:(x == ("__debug__" : Str))=false:=by decide)
    (he:starEach (e::es) X.env=(false,eval e X.env)::starEach es X.env:=by rfl) (hpl:(backTo pos (starEach es X.env)).any (·.1)=false:=by rfl)
    (ht:eval (.Call (.Attribute (.Name x np) "__init__" apos) (e::es) [] pos) X.env=(do
      let ov ← eval (.Name x np) X.env
      standAt apos.atName
      let (f,first) ← holding [ov] (getMethod ov "__init__" pl)
      callWith pos f first (backTo pos (starEach (e::es) X.env)) (backToKw pos (keywordEach [] X.env))):=by rfl) :
    PE X (.Call (.Attribute (.Name x np) "__init__" apos) (e::es) [] pos) (ZV C t):=by
  intro p_ s σ H Q I h;refine W.methodCall_KW (pl:=pl) (lO I hg hm ?_ hdb) ht;refine W.method_cls I.nq N.sg (W.cls_value I.nq N.rd N.fc rfl ?_);have I0:Inv X p_ σ H {s with toks:=s.toks+1}:=I.tok _;refine PyProof.Rows.callWith_builtin1 (cL (ha pos p_ _ σ H _ I0 h) fun us s1 zz=>?_) he hpl;obtain⟨vs,H1,I1,r,q⟩:=zz;obtain⟨v,y,rfl,q⟩:=ar2.out q;obtain⟨a,rfl,od,ea,q⟩:=isRef.out q;obtain⟨u1,u2,rfl,r1,r2⟩:=r.two;obtain rfl:u1=Value.ref a:=r1;obtain⟨nm,qn,N,bs,hdct,sn,sub,ab,col,dd,k0,k1,k2,k3,k5,hC⟩:=M.ob;have T:=M.tail I1.nq;have hC1:=I1.nq _ _ hC;obtain⟨ox,vs,t0,h1,h2,h3,h4,h5,h6,h7⟩:=zq I1.hok ea;obtain⟨hh,g,d,tk,os⟩:=s1;refine Yg T hC1 h1 h2 h3 h4 (fun h' t1 keep he'=>?_) (by show 1≤sizeLine;decide);have sz:0<vs.size:=(Array.getElem?_eq_some_iff.mp h4).1;have new:GK a C od h':=⟨_,vs.setIfInBounds 0 (.ref t1),t1,he',h2,rfl,by simp[sz],by rw[Array.getElem?_setIfInBounds_ne (by decide)];exact h5,by rw[Array.getElem?_setIfInBounds_ne (by decide)];exact h6,h7⟩;have I2:Inv X p_ σ (upd H1 a (dY a C od)) {(⟨hh,g,d,tk,os⟩:Shared) with heap:=h',toks:=tk}:=I1.write (x:=a) (e:=a) (by rw[ea];exact True.intro) (.inl rfl) keep ⟨_,he'⟩ (GP new);rw[Lx ea] at I2;exact⟨.non,H1,I2,rfl,q⟩
end
section
variable {X:Cx} {C B:Addr} {o value:Expr} {f:Str} {pos pos':Pos} {ta tv:TE}
def sX0 (C:Addr) (ta tv:TE) (f:Str):TS:=fun D σ H=>tv σ H fun y H1=>ta σ H1 fun x H2=>isRef x fun a=>H2 a=some (dY a C none)∧∀dx,H2 dx=none→D.nx σ (upd (upd H2 dx (iY dx [(f,y)])) a (dY a C (some dx)))
@[simp ↓] theorem qlr C ta tv f D σ H:sX0 C ta tv f D σ H=tv σ H fun y H1=>ta σ H1 fun x H2=>isRef x fun a=>H2 a=some (dY a C none)∧∀dx,H2 dx=none→D.nx σ (upd (upd H2 dx (iY dx [(f,y)])) a (dY a C (some dx))):=rfl
theorem ZW (S:uH X.K C B) (hn:W.findIn X.K (.ref C) f=some none) (ha:PE X o ta) (hv:PE X value tv) (hs:swapsWith value (some (.Attribute o f pos')) pos.line X.env=pure false):PS X (.Assign [.Attribute o f pos'] value pos) (sX0 C ta tv f):=by
  intro p_ s σ H D I h;refine plainObj_wpAny_Assign_Attribute (cL (hv p_ s σ H _ I h) fun u s1 z1=>?_) hs;obtain⟨y,H1,I1,ry,q⟩:=z1;refine cL (ha p_ s1 σ H1 _ I1 q) fun ov s2 z2=>?_;obtain⟨x,H2,I2,rx,q2⟩:=z2;obtain⟨a,rfl,ea,q2⟩:=isRef.out q2;obtain rfl:ov=Value.ref a:=rx;have E0:=zq I2.hok ea;obtain⟨cd,hc,_,hd⟩:=S.cl;have Nr:=I2.nq;refine Vi Nr E0.at S hn fun A'=>?_;obtain⟨hh,g,d,tk,os⟩:=s2;refine Yj Nr E0 hc hd fun h' t' hns keep E1=>⟨rfl,?_⟩;have hf:H2 hh.objs.size=none:=I2.hok.fresh (Nat.le_refl _);obtain⟨oD,es,ep,eD,rest⟩:=id hns;obtain⟨ox,_,_,ex1,_⟩:=id E0;have axs:a≠hh.objs.size:=Nat.ne_of_lt (Heap.lt_size ex1);have nfr:oD.isFreed=false:=(Heap.get?_some_iff.mp eD).2;have hgD:(hh.push oD).get? hh.objs.size=some oD:=Heap.get?_push_size hh nfr;have hns':(hh.push oD).Ns1 hh.objs.size (fun y'=>if y'=f then some u else none):=⟨oD,es,ep,hgD,rest⟩
  have rel:∀f',lN ([(f,y)].lookup f') (if f'=f then some u else none):=fun f'=>by
    have e:=mU f f' y [];rw[show[(f,y)].lookup f'=(jR f y []).lookup f' from rfl,e]
    by_cases z:f'=f
    ·rw[if_pos z,if_pos z];exact ry
    ·rw[if_neg z,if_neg z];exact True.intro
  have wi:PySem.Within (fun y'=>if y'=f then some u else none) ([(f,y)].map (·.1)):=Within.cons f u Within.nil
  have I3:Inv X p_ σ (upd H2 hh.objs.size (iY hh.objs.size [(f,y)])) {(⟨hh,g,d,tk,os⟩:Shared) with heap:=hh.push oD,toks:=tk}:=I2.laid (fun b o z=>Heap.get?_push_of_some _ z) (Nat.le_refl _) (Ov (by show(1:Nat)≤1000;decide) hns' rel wi);have I4:Inv X p_ σ (upd (upd H2 hh.objs.size (iY hh.objs.size [(f,y)])) a (dY a C (some hh.objs.size))) {(⟨hh.push oD,g,d,tk,os⟩:Shared) with heap:=h',toks:=t'}:=by
    refine I3.write (x:=a) (e:=a) (by rw[aD axs,ea];exact True.intro) (.inl rfl) (fun b o hb z=>?_) ?_ (GP E1)
    · by_cases hbs:b=hh.objs.size
      ·subst hbs;rw[hgD] at z;cases z;exact eD
      ·rw[Heap.get?_push_ne _ _ _ hbs] at z;exact keep b o hb z
    ·obtain⟨ox',_,_,z,_⟩:=id E1;exact⟨_,z⟩
  exact⟨σ,_,I4,q2 _ hf⟩
def sX1 (C:Addr) (ta tv:TE) (f:Str):TS:=fun D σ H=>tv σ H fun y H1=>ta σ H1 fun x H2=>isRef x fun a=>∃dx fs,H2 a=some (dY a C (some dx))∧H2 dx=some (iY dx fs)∧fs.length<1000∧D.nx σ (upd H2 dx (iY dx (jR f y fs)))
@[simp ↓] theorem qls C ta tv f D σ H:sX1 C ta tv f D σ H=tv σ H fun y H1=>ta σ H1 fun x H2=>isRef x fun a=>∃dx fs,H2 a=some (dY a C (some dx))∧H2 dx=some (iY dx fs)∧fs.length<1000∧D.nx σ (upd H2 dx (iY dx (jR f y fs))):=rfl
theorem qdN (S:uH X.K C B) (hn:W.findIn X.K (.ref C) f=some none) (ha:PE X o ta) (hv:PE X value tv) (hs:swapsWith value (some (.Attribute o f pos')) pos.line X.env=pure false):PS X (.Assign [.Attribute o f pos'] value pos) (sX1 C ta tv f):=by
  intro p_ s σ H D I h;refine plainObj_wpAny_Assign_Attribute (cL (hv p_ s σ H _ I h) fun u s1 z1=>?_) hs;obtain⟨y,H1,I1,ry,q⟩:=z1;refine cL (ha p_ s1 σ H1 _ I1 q) fun ov s2 z2=>?_;obtain⟨x,H2,I2,rx,q2⟩:=z2;obtain⟨a,rfl,dx,fs,ea,ed,hl,q2⟩:=isRef.out q2;obtain rfl:ov=Value.ref a:=rx;have E0:=zq I2.hok ea;obtain⟨hl0,mA,hns,hr,hw⟩:=Ow I2.hok ed;obtain⟨cd,hc,_,hd⟩:=S.cl;have Nr:=I2.nq;refine Vi Nr E0.at S hn fun A'=>?_;obtain⟨hh,g,d,tk,os⟩:=s2;refine Yi Nr E0 hns hc hd hw (by rw[List.length_map,sizeLine_eq];omega) fun h' t' hns' sb=>⟨rfl,?_⟩;have he:∃o,h'.get? dx=some o:=let ⟨o,_,_,e',_⟩:=hns';⟨o,e'⟩;have I4:Inv X p_ σ (upd H2 dx (iY dx (jR f y fs))) {(⟨hh,g,d,tk,os⟩:Shared) with heap:=h',toks:=t'}:=by
    refine I2.write (x:=dx) (e:=dx) (by rw[ed];exact True.intro) (.inl rfl) (fun b o hb z=>(sb.2 b hb).trans z) he (Ov ?_ hns' (fun g'=>?_) fun g' hg=>?_)
    ·have:=qR f y fs;omega
    · show lN ((jR f y fs).lookup g') (if g'=f then some u else mA g')
      rw[mU]
      by_cases z:g'=f
      ·rw[if_pos z,if_pos z];exact ry
      ·rw[if_neg z,if_neg z];exact hr g'
    · by_cases z:g'=f
      ·rw[z];exact(oA f y fs).1
      · refine(oA f y fs).2 g' (hw g' fun y'=>hg ?_);show(if g'=f then some u else mA g')=none
        rw[if_neg z];exact y'
  exact⟨σ,_,I4,q2⟩
end
end L2
namespace L2
open PySem PySem.Spec
section
variable {σ:St} {H:Hp} {p:Addr}
variable {φ:PyData→Prop}
structure big (t:TE) (σ:St) (H:Hp) (Q:VK):Prop where
  out:t σ H Q
end
end L2
namespace L2
open PySem
end L2
namespace L2
open PySem PySem.Spec PyProof.Rows PySem.SeqAt
structure XC (K:W.Frag) (C B:Addr):Prop where
  cl:∃cd,W.clsIn K C=some cd∧cd.mro = .ref C::.ref B::lM∧cd.hasDict=true
  ty:W.typeIn K (.ref C)=some (.type "type")
  ga:W.findIn K (.ref C) "__getattribute__" = some (some (.builtin "BaseException.__getattribute__"))
  gn:W.findIn K (.ref C) "__getattr__" = some none
  gc:W.findIn K (.ref C) "__class__" = some (some (.builtin "object.__class__"))
  kp:W.keepIn K (.ref C)=true
section
variable {K:W.Frag} {C D B:Addr}
theorem XC.mro (c:XC K C B) (v:Value):W.mroIn K C v=some ((Value.ref C::Value.ref B::lM).contains v):=by
  obtain⟨cd,h1,h2,_⟩:=c.cl;unfold W.mroIn;rw[h1,Option.bind_some,h2];rfl
theorem XC.get (c:XC K C B):Lw K C:=by
  obtain⟨cd,h1,_,h3⟩:=c.cl;refine⟨c.ga,c.gn,by rw[c.mro];simp,?_⟩;unfold W.hasDictIn;rw[h1];exact h3
theorem XC.set (c:XC K C B) (sa:W.findIn K (.ref C) "__setattr__" = some (some (.builtin "object.__setattr__"))):uH K C B:=by
  obtain⟨cd,h1,h2,h3⟩:=c.cl;exact⟨sa,by rw[c.mro];simp,cd,h1,h2,h3⟩
end
def GQ:List Addr→Bool
  | []=>true
  | a::l=>!l.contains a && GQ l
theorem Em:∀{l:List Addr},GQ l=true→l.Nodup
  | [],_=>List.Pairwise.nil
  | a::l,h=>by
    simp only[GQ,Bool.and_eq_true,Bool.not_eq_true',List.contains_eq_mem,decide_eq_false_iff_not] at h;exact List.nodup_cons.mpr ⟨h.1,Em h.2⟩
def ar3 (vs:List V) (R:V→V→V→Prop):Prop:=match vs with
  | [u,v,w]=>R u v w
  | _=>False
@[simp ↓] theorem qlt u v w R:ar3 [u,v,w] R=R u v w:=rfl
end L2
namespace L2
open PySem PySem.Spec PyProof.Rows
section
variable {M:Model} {A:Around} {E:Value→Shared→Prop} {s:Shared} {env:Env}
variable {nm q:Str} {C N:Addr} {bs bm:List Value} {hdct:Bool} {sn:List Str} {sub:List Value} {ab:Bool} {col:Option Bool} {dd:Option Addr} {k0 k1 k2 k3 k5:Option Value} {newId:String}
theorem Yk {x:Sem Value} {Q:Flow→Shared→Prop} (hh:A.handled=none)
    (h:wpAny M A x (fun v s1=>∃(a C:Addr) (oe:Obj) (vs:Array Value) (nm q:Str) (N:Addr) (bs bm:List Value) (hdct:Bool) (sn:List Str) (sub:List Value) (ab:Bool) (col:Option Bool) (dd:Option Addr) (k0 k1 k2 k3 k5:Option Value) (newId:String),v = .ref a∧bm.contains (.type "BaseException")=true∧
      s1.heap.get? C=some (excClassObj nm q C N bs bm hdct sn sub ab col dd k0 k1 k2 k3 k5 newId)∧s1.heap.get? a=some oe∧oe.cls = .ref C∧oe.data = .fields vs∧vs[1]? = some .none∧E (.ref a) s1) E s) :
    wpAny M A (raiseStmt env (some x) none) Q E s:=by
  unfold raiseStmt;refine wpAny_bind (wpAny_mono h (fun v s1 z=>?_) fun _ _ x=>x);obtain⟨a,C,oe,vs,nm,q,N,bs,bm,hdct,sn,sub,ab,col,dd,k0,k1,k2,k3,k5,newId,rfl,hb,hC,he,hc,hd,h1,hE⟩:=z;have hcB:(Value.ref C::bm).contains (.type "BaseException")=true:=by rw[List.contains_cons,hb,Bool.or_true]
  obtain⟨hp,g,d,tk,os⟩:=s1;obtain⟨oc,odd,oda,osl⟩:=oe;cases hc;cases hd
  repeat (first | with_reducible refine wpAny_loadPart_at he ?_ | with_reducible refine wpAny_loadPart_at hC ?_ | (with_reducible refine wpAny_isSubtype_exc hC ?_;rw[hcB]) | wp_step)
  rw[h1];refine wpAny_pure ?_;rw[if_neg (by decide)];exact wpAny_pure (wpAny_raiseNew_none hh hE)
end
section
variable {X:Cx} {p_:List (Addr×Obj)} {σ:St} {H:Hp} {s:Shared}
theorem Inv.qjb {a:Addr} {φ:Heap→Prop} (I:Inv X p_ σ H s) (ea:H a=some (.ext φ)):Inv X p_ σ (hid a H) s:=by
  have ne:∀{b:Addr} {u:HO},hid a H b=some u→b≠a∧H b=some u:=fun {b u} z=>by
    unfold hid at z;split at z
    ·cases z
    ·rename_i h;exact⟨h,z⟩
  have kp:∀{b:Addr} {u:HO},b≠a→H b=some u→hid a H b=some u:=fun h z=>uE h z;have nn:∀{b:Addr},H b=none→hid a H b=none:=fun {b} z=>by
    unfold hid;split
    ·rfl
    ·exact z
  refine⟨I.ok,I.os,I.bare,⟨I.base.keep,I.base.slot,fun b o eb n hx=>nn (I.base.free b o eb n hx),I.base.there,fun b xs q=>?_,fun b o u q=>?_,fun b ps q=>?_⟩,I.loc,I.cell,nn I.free,fun x c q=>nn (I.iU x c q),fun p hpp=>?_,fun b u q=>?_,I.len⟩
  ·have z:=I.base.tups b xs q;exact kp (fun y=>by rw[y,ea] at z;cases z) z
  ·have z:=I.base.oY b o u q;exact kp (fun y=>by rw[y,ea] at z;cases z) z
  ·obtain⟨m,z⟩:=I.base.qK b ps q;exact⟨m,kp (fun y=>by rw[y,ea] at z;cases z) z⟩
  ·obtain⟨f1,f2,f3⟩:=I.pin p hpp;exact⟨f1,nn f2,f3⟩
  · obtain⟨hb,q'⟩:=ne q;refine(I.hok b u q').stay (fun c v _ z=>z) (fun c z=>?_) fun c xs z=>?_
    ·exact kp (fun y=>by rw[y,ea] at z;cases z) z
    ·exact kp (fun y=>by rw[y,ea] at z;cases z) z
end
section
variable {X:Cx} {E:XK} {k:Nat} {C B f:Addr} {fd:FuncData} {ps:List Str} {sp:Sp} {x:Str} {np cpos pos:Pos} {e:Expr} {es:List Expr} {t:TA}
def Oz (C:Addr) (sp:Sp) (E:XK) (t:TA):TS:=fun _ σ H=>t σ H fun vs H1=>vs.length≤sizeLine∧∀a,H1 a=none→Qv sp (.ref a::vs) (upd H1 a (dY a C none)) (fun v H2=>v = .non∧∃od,H2 a=some (dY a C od)∧E (.ref C) od (hid a H2)) ⟨0⟩ E0
@[simp ↓] theorem qcH C sp E t D σ H:Oz C sp E t D σ H=t σ H fun vs H1=>vs.length≤sizeLine∧∀a,H1 a=none→Qv sp (.ref a::vs) (upd H1 a (dY a C none)) (fun v H2=>v = .non∧∃od,H2 a=some (dY a C od)∧E (.ref C) od (hid a H2)) ⟨0⟩ E0:=rfl
theorem En (hL:Lets X E) (hex:X.ex=[]) (hc:X.calm=true) (M:ZS X.K C B f) (F:bV X.prog X.w X.K X.mg X.base jN k f fd ps sp) (hr:jw (k+1) X.A) (hg:Gl X x) (hm:X.mg x=some (.ref C)) (hb:Binds X.K fd ps [])
    (ha:PA X (e::es) t) (hdb:(x == ("__debug__" : Str))=false:=by decide) (he:starEach (e::es) X.env=(false,eval e X.env)::starEach es X.env:=by rfl) (hpl:(backTo cpos (starEach es X.env)).any (·.1)=false:=by rfl) :
    PS X (.Raise (some (.Call (.Name x np) (e::es) [] cpos)) none pos) (Oz C sp E t):=by
  intro p_ s σ H D I h;show wpAny _ _ (do standAt pos;raiseStmt X.env (some (do let v ← eval (.Call (.Name x np) (e::es) [] cpos) X.env;standAt pos;pure v)) none) _ _ s
  refine wpAny_bind (wpAny_standAt (Yk (I.ok.hd hc) (wpAny_bind ?_)));refine wpAny_mono (Q:=fun v s1=>∃(a C:Addr) (oe:Obj) (vs:Array Value) (nm q:Str) (N:Addr) (bs bm:List Value) (hdct:Bool) (sn:List Str) (sub:List Value) (ab:Bool) (col:Option Bool) (dd:Option Addr) (k0 k1 k2 k3 k5:Option Value) (newId:String),v = .ref a∧bm.contains (.type "BaseException")=true∧
      s1.heap.get? C=some (excClassObj nm q C N bs bm hdct sn sub ab col dd k0 k1 k2 k3 k5 newId)∧s1.heap.get? a=some oe∧oe.cls = .ref C∧oe.data = .fields vs∧vs[1]? = some .none∧X.xe (.ref a) s1) ?_ (fun v s1 z=>wpAny_bind (wpAny_standAt (wpAny_pure z))) fun _ _ z=>z
  refine wpAny_Call_Name_kw (lO I hg hm ?_ hdb);refine W.callWith_K (h₀:=X.base) I.ok.mod.Nr M.kp (cL (ha cpos p_ s σ H _ I h) fun us s1 zz=>?_) he hpl;obtain⟨vs,H1,I1,r,hz,q⟩:=zz;refine⟨I1.nq,?_⟩;obtain⟨nm,qn,N,bs,hdct,sn,sub,ab,col,dd,k0,k1,k2,k3,k5,hC⟩:=M.ob;have T:=M.tail I1.nq;have hC1:=I1.nq _ _ hC;have Nr:=I1.nq;obtain⟨hh,g,d,tk,os⟩:=s1;refine Ye Nr T M.init M.fn hC1 (fun h' a mk=>?_) (by show us.length≤_;rw[← r.length];exact hz);have new:X.s₀.heap.get? a=none:=I1.old hex mk.new;obtain⟨un,I2⟩:=I1.qdL hex mk;have hq:=q a un;have r2:Vals (V.ref a::vs) (Value.ref a::us):=.cons rfl r;have hl:(Value.ref a::us).length=ps.length:=by rw[← r2.length];exact F.len _ _ _ _ hq
  have hbd:=hb _ (Value.ref a::us) I2.nq (by rw[List.append_nil];exact hl);rw[List.append_nil] at hbd;refine wpAny_call (codeAny_mono (F.run _ X.stack _ _ ⟨Value.ref a::us,[]⟩ (Value.ref a::us) _ _ _ (hr.make C us []) (I2.env0.make C us []) hbd r2 hq) fun rr s' hq'=>?_);cases rr with
  | error z=>exact False.elim hq'
  | ok fl=>
    cases fl with
    | ret u=>
      obtain⟨v,H',I3,rv,ev,od,ea,hE⟩:=I2.after hq';subst ev;obtain⟨ox,ws,t0,g1,g2,g3,g4,g5,g6,g7⟩:=zq I3.hok ea;refine⟨rv,a,C,ox,ws,nm,qn,N,bs,_,hdct,sn,sub,ab,col,dd,k0,k1,k2,k3,k5,_,rfl,?_,I3.nq _ _ hC,g1,g2,g3,g5,?_⟩
      ·simp[lM]
      ·refine hL p_ σ (hid a H') s' a C od (I3.qjb ea) ⟨new,?_,ox,ws,g1,by rw[g2,g7],g3,g6,.inl g5⟩ hE;unfold hid;rw[if_pos rfl]
    | next=>exact False.elim hq'
    | brk=>exact False.elim hq'
    | cont=>exact False.elim hq'
end
theorem Ay.ofX {K:W.Frag} {C B f:Addr} (M:ZS K C B f) (c:XC K C B):Ay K C:=fun h X=>by
  obtain⟨nm,qn,N,bs,hdct,sn,sub,ab,col,dd,k0,k1,k2,k3,k5,hC⟩:=M.ob;exact⟨_,N,nm,qn,bs,hdct,sn,sub,ab,col,dd,k0,k1,k2,k3,k5,X _ _ hC,fun v b e=>by rw[c.mro] at e;exact Option.some.inj e⟩
end L2
namespace L2
open PySem PySem.Spec PyProof.Rows
variable {X:Cx}
@[simp ↓] theorem qjc x y H Q:qds x y H Q=(isRef x fun l=>isInt y fun k=>∃xs,H l=some (.lst xs)∧-(2 ^ 63)≤k∧k<2 ^ 63∧xs.length * k.toNat≤sizeLine∧∀p,H p=none→Q (.ref p) (upd H p (.lst (List.replicate k.toNat xs).flatten))):=rfl
theorem Yl:iZ X (binaryOp .Mult) qds:=by
  refine qaP.mono fun {x y H Q} h=>?_;obtain⟨l,rfl,h1⟩:=isRef.out h;obtain⟨k,rfl,xs,h2⟩:=isInt.out h1;exact⟨l,k,xs,rfl,rfl,h2⟩
def Vj:List V→Hp→VK→Prop:=fun xs H Q=>ar1 xs fun x=>isRef x fun a=>∃kvs,Rd H a (.dK kvs)∧∀p,H p=none→Q (.ref p) (upd H p (.dK kvs))
@[simp ↓] theorem qdO xs H Q:Vj xs H Q=(ar1 xs fun x=>isRef x fun a=>∃kvs,Rd H a (.dK kvs)∧∀p,H p=none→Q (.ref p) (upd H p (.dK kvs))):=rfl
theorem Vk:cB X (.type "dict") Vj:=by
  intro p_ s σ H xs us Q I rs q;obtain⟨v,rfl,q1⟩:=ar1.out q;obtain⟨a,rfl,kvs,hd,q2⟩:=isRef.out q1;obtain⟨u,rfl,ru⟩:=rs.one;obtain rfl:u=Value.ref a:=ru;exact Ub I hd fun p s' hp I'=>⟨.ref p,_,I',rfl,q2 p hp⟩
end L2
namespace L2
open PySem PySem.Spec PyProof.Rows
section
variable {X:Cx} {p_ yp:List (Addr×Obj)} {σ σ':St} {H H':Hp} {s s':Shared} {a:Addr} {kvs:List (Key×V)} {o:Obj}
theorem Inv.freeze (I:Inv X p_ σ H s) (e:H a=some (.dK kvs)) (ho:s.heap.get? a=some o):Inv X p_ σ (upd H a (.gZ o (.dK kvs))) s:=by
  have nn:∀b,H b=none→upd H a (.gZ o (.dK kvs)) b=none:=fun b hb=>by rw[aD (fun z=>by rw[z,e] at hb;cases hb)];exact hb
  refine⟨I.ok,I.os,I.bare,⟨I.base.keep,I.base.slot,fun c q h1 h2 h3=>nn c (I.base.free c q h1 h2 h3),I.base.there,fun c zs h=>?_,fun c q v h=>?_,fun c qs h=>?_⟩,I.loc,I.cell,nn _ I.free,fun x c h=>nn c (I.iU x c h),fun p hp=>?_,?_,I.len⟩
  ·have h':=I.base.tups c zs h;rw[aD (fun z=>by rw[z,e] at h';cases h')];exact h'
  ·have h':=I.base.oY c q v h;rw[aD (fun z=>by rw[z,e] at h';cases h')];exact h'
  ·obtain⟨m,h'⟩:=I.base.qK c qs h;exact⟨m,by rw[aD (fun z=>by rw[z,e] at h';cases h')];exact h'⟩
  ·obtain⟨f1,f2,f3⟩:=I.pin p hp;exact⟨f1,nn _ f2,f3⟩
  · have st:∀c v,bY X.prog X.w H s.heap c v→bY X.prog X.w (upd H a (.gZ o (.dK kvs))) s.heap c v:=fun c v x=>
      x.stay (fun _ _ _ q=>q) (fun b q=>by rw[aD (fun z=>by rw[z,e] at q;cases q)];exact q) fun b zs q=>by rw[aD (fun z=>by rw[z,e] at q;cases q)];exact q
    intro c v h
    by_cases hc:c=a
    ·subst hc;rw[ao] at h;cases h;exact⟨ho,st _ _ (I.hok _ _ e)⟩
    ·rw[aD hc] at h;exact st _ _ (I.hok _ _ h)
def nM (H H':Hp):Hp:=fun b=>match H' b,H b with
  | some (.gZ o u),some (.gZ _ _)=>some (.gZ o u)
  | some (.gZ o u),none=>some (.gZ o u)
  | some (.gZ _ u),some _=>some u
  | x,_=>x
theorem Eo {b:Addr} (h:H' b=none):nM H H' b=none:=by unfold nM;rw[h]
theorem A_ {b:Addr} {o o':Obj} {u u':HO} (h:H' b=some (.gZ o u)) (h0:H b=some (.gZ o' u')):nM H H' b=some (.gZ o u):=by unfold nM;rw[h,h0]
theorem QK {b:Addr} {o:Obj} {u:HO} (h:H' b=some (.gZ o u)) (h0:H b=none):nM H H' b=some (.gZ o u):=by unfold nM;rw[h,h0]
theorem OD {b:Addr} {o:Obj} {u v:HO} (h:H' b=some (.gZ o u)) (h0:H b=some v) (hv:∀o' u',v≠.gZ o' u'):nM H H' b=some u:=by
  unfold nM;rw[h,h0];cases v <;> first | rfl | exact absurd rfl (hv _ _)
theorem oG {b:Addr} {v:HO} (h:H' b=some v) (hv:∀o u,v≠.gZ o u):nM H H' b=some v:=by
  unfold nM;rw[h];cases v <;> first | rfl | exact absurd rfl (hv _ _)
theorem Ym {b:Addr} {v:HO} (h:nM H H' b=some v):H' b=some v∨∃o,H' b=some (.gZ o v):=by
  cases q:H' b with
  | none=>rw[Eo q] at h;cases h
  | some x=>
    by_cases hx:∃o u,x = .gZ o u
    · obtain⟨o,u,rfl⟩:=hx;cases q0:H b with
      | none=>rw[QK q q0] at h;exact .inl h
      | some y=>
        by_cases hy:∃o u,y = .gZ o u
        ·obtain⟨o',u',rfl⟩:=hy;rw[A_ q q0] at h;exact .inl h
        ·rw[OD q q0 fun o' u' z=>hy ⟨o',u',z⟩] at h;cases h;exact .inr ⟨o,rfl⟩
    ·rw[oG q fun o u z=>hx ⟨o,u,z⟩] at h;exact .inl h
end
def Itd (a:Addr) (o:Obj) (kvs:List (Key×V)):It:=
  ⟨fun i H=>H a=some (.gZ o (.dK kvs))∧i<kvs.length,
   fun i H v H'=>∃t k x,v = .ref t∧H t=none∧H'=upd H t (.tup [kV k,x])∧kvs[i]? = some (k,x),
   fun i H=>H a=some (.gZ o (.dK kvs))∧kvs.length≤i⟩
theorem KV.get {κ:Type}:∀{kvs:List (κ×V)} {vs:List (κ×Value)},KV kvs vs→∀{i:Nat} {k:κ} {x:V},kvs[i]? = some (k,x)→∃u,vs[i]? = some (k,u)∧RelV x u
  | _,_,.nil,_,_,_,h=>by simp at h
  | _,_,.cons (b:=(_,u)) ⟨e,r⟩ _,0,_,_,h=>by
    simp only[List.getElem?_cons_zero,Option.some.injEq] at h;subst h;cases e;exact⟨u,rfl,r⟩
  | _,_,.cons _ t,i+1,_,_,h=>KV.get (κ:=κ) t (i:=i) (by simpa using h)
theorem KV.len {κ:Type}:∀{kvs:List (κ×V)} {vs:List (κ×Value)},KV kvs vs→vs.length=kvs.length
  | _,_,.nil=>rfl
  | _,_,.cons _ t=>congrArg (· + 1) (KV.len t)
theorem Ep {P:Program} {w:World} {k:Key} {u:Value} (h:(bL P w).is k u=true):RelV (kV k) u:=by
  rcases cJ h with⟨i,t,rfl,rfl⟩ | ⟨x,t,rfl,rfl⟩
  ·exact⟨t,rfl⟩
  ·exact⟨t,rfl⟩
theorem Ly {P:Program} {w:World} {K:W.Frag} {es:List Expr} {k:Nat} {pos:Pos} {it a:Addr} {o:Obj} {kvs:List (Key×V)} {ep:Nat} {ds:Array _} (Yn:o.data = .dict ds ep) :
    Turn P w K (.Tuple es k pos) (Itd a o kvs) [it] it (fun i h=>∃ok ov,IsItemIter h it a i kvs.length ep ok ov) where
  mem:=by simp
  obj:=fun i h st c hc=>by
    obtain⟨ok,ov,e⟩:=st;have e':c=it:=by simpa using hc
    subst e';exact⟨_,e,fun v z=>nomatch z⟩
  keep:=fun i h h' st kk=>by
    obtain⟨ok,ov,e⟩:=st;exact⟨ok,ov,kk it (by simp) _ e⟩
  item:=by
    intro X hP hw hK hc i p_ s σ H E I hf st hg;subst hP hw hK;obtain⟨hz,hi⟩:=hg;obtain⟨ok,ov,hit⟩:=st;obtain⟨hob,z,hd,vs,rel,o',es',ep',e',ex,dat,RM,prs,Lz⟩:=I.hok _ _ hz;rw[hob] at e';cases e';rw[Yn] at dat;cases dat;have hx:kvs[i]? = some kvs[i]:=List.getElem?_eq_getElem hi;obtain⟨u,hu,ru⟩:=rel.get (k:=kvs[i].1) (x:=kvs[i].2) hx;have dd:s.heap.DictAt (bL X.prog X.w) a vs ep:=⟨_,_,hob,ex,Yn,RM,prs,Lz⟩;have hl:=rel.len;rw[← hl] at hit;refine wpAny_pyNext_items_item hit dd hu fun key h' hkey out ht hsz kk=>?_;refine⟨_,rfl,wpAny_letOwnedTupleGo_items out fun h2 b1 sb=>?_⟩;have lt:s.heap.objs.size≠it:=Nat.ne_of_gt (Heap.lt_size hit);have hn:H s.heap.objs.size=none:=I.hok.fresh (Nat.le_refl _);have kk2:∀c o,c∉[it]→s.heap.get? c=some o→h2.get? c=some o:=fun c o hc z=>by
      have hc':c≠it:=by simpa using hc
      exact(sb.2 c hc').trans (kk c o hc' z)
    have I1:Inv X p_ σ H {s with heap:=h2,toks:=s.toks}:=I.rY kk2 hf;have z6:=sb.extBut _ _ lt ht;have I2:Inv X p_ σ (upd H s.heap.objs.size (.tup [kV kvs[i].1,kvs[i].2])) {s with heap:=h2,toks:=s.toks}:=I.Od I1 (Ep hkey) ru z6;refine⟨.ref s.heap.objs.size,_,I2,rfl,⟨s.heap.objs.size,_,_,rfl,hn,rfl,hx⟩,?_,fun c hcm=>?_⟩
    ·rw[hl] at b1;exact⟨_,_,b1⟩
    · have hne:c≠s.heap.objs.size:=by
        have e':c=it:=by simpa using hcm
        rw[e'];exact lt.symm
      rw[aD hne];exact(hf c hcm).1
  done:=by
    intro X hP hw hK hc i p_ s σ H E I hf st hg;subst hP hw hK;obtain⟨hz,hi⟩:=hg;obtain⟨ok,ov,hit⟩:=st;obtain⟨hob,z,hd,vs,rel,o',es',ep',e',ex,dat,RM,prs,Lz⟩:=I.hok _ _ hz;rw[hob] at e';cases e';rw[Yn] at dat;cases dat;have dd:s.heap.DictAt (bL X.prog X.w) a vs ep:=⟨_,_,hob,ex,Yn,RM,prs,Lz⟩;have hl:=rel.len;rw[← hl] at hit;refine wpAny_pyNext_items_end (I.ok.hd hc) hit dd (by simp;omega) fun h' kk=>⟨rfl,I.rY (t':=s.toks) (fun c o hcm z=>?_) hf⟩;exact kk c o (by simpa using hcm) z
  self:=fun A i s Q E st h=>by
    obtain⟨ok,ov,hit⟩:=st;exact W.kcp_self hit h
section
variable {X:Cx}
def qdP (td:TE):TI:=fun σ H R=>td σ H fun x H1=>∃a kvs,x = .ref a∧Rd H1 a (.dK kvs)∧∀o,(∀o' u,H1 a=some (.gZ o' u)→o=o')→R (Itd a o kvs) (upd H1 a (.gZ o (.dK kvs)))
theorem Vl {es:List Expr} {k:Nat} {pos':Pos} {d:Expr} {td:TE} {apos cpos:Pos} (hd:PE X d td)
    (hbase:attributeBase d "items" X.env (eval d X.env)=eval d X.env:=by rfl) (hline:(apos.endLine == cpos.line)=true:=by rfl) :
    PI X (.Tuple es k pos') (.Call (.Attribute d "items" apos) [] [] cpos) (qdP td):=by
  intro p_ s σ H R I h;refine wpAny_Call_method0_late hbase hline (cL (hd p_ s σ H _ I h) fun v s1 zz=>?_);obtain⟨x,H1,I1,r1,a,kvs,ex,rd,q⟩:=zz;subst ex;obtain rfl:v=Value.ref a:=r1;obtain⟨t1,t2,t3⟩:=Ua I1 (.inl ⟨kvs,rd⟩);refine⟨"dict", "dict.items",PySem.F.plainAttrs_dict,PySem.F.slot_dict_items,PySem.F.type_dict_items,t1,t2,Calls.callWith_builtin rfl (PySem.evalArgs_none ?_)⟩;obtain⟨z,hd',vs,rel,o,ds,ep,ho,ex,dat,RM,prs,Lz⟩:=tW I1.hok rd;refine call_meetsIn PySem.F.slot_dict_items t1 PySem.F.entry_dict_items (PySem.F.args_dict_items_1 _) (meets_dict_items (bL X.prog X.w) a hd') ⟨⟨vs,o,ds,ep,ho,ex,dat,RM,prs,Lz⟩,?_⟩;have I2:Inv X p_ σ (upd H1 a (.gZ o (.dK kvs))) s1:=by
    rcases rd with e | ⟨o',e⟩
    ·exact I1.freeze e ho
    ·have ho':=(I1.hok _ _ e).1;rw[ho] at ho';cases ho';rw[Lx e];exact I1
  have hq:R (Itd a o kvs) (upd H1 a (.gZ o (.dK kvs))):=q o fun o' u e=>by
    have ho':=(I1.hok _ _ e).1;rw[ho] at ho';cases ho';rfl
  have p1:=Heap.get?_push_of_some (h:=s1.heap) {cls:=.type "dict_items",data:=.fields #[.ref a]} ho;refine wpAny_pyIter_items (kvs:=vs) (knd:=bL X.prog X.w) (d:=a) (ep:=ep) ⟨_,Heap.get?_push_size _ rfl,rfl,rfl⟩ ⟨o,ds,p1,ex,dat,RM,prs,Lz⟩ ?_;rw[rel.len];have hz:(s1.heap.push {cls:=.type "dict_items",data:=.fields #[.ref a]}).objs.size=s1.heap.objs.size+1:=Heap.size_push ..;have I3:=I2.kept (t':=s1.toks) (h':=(s1.heap.push {cls:=.type "dict_items",data:=.fields #[.ref a]}).push {cls:=.type "dict_itemiterator",data:=.fields #[.none,.bool false,.ref a,.int 0 0,.int kvs.length 0,.int ep 0,.none,.none]})
    fun b u e=>Heap.get?_push_of_some _ (Heap.get?_push_of_some _ e)
  refine⟨(s1.heap.push {cls:=.type "dict_items",data:=.fields #[.ref a]}).objs.size,[(s1.heap.push {cls:=.type "dict_items",data:=.fields #[.ref a]}).objs.size],_,_,_,rfl,I3,Ly (ep:=ep) (ds:=ds) dat,⟨.none,.none,Heap.get?_push_size _ rfl⟩,fun c hc=>?_,hq⟩;have hle:s1.heap.objs.size≤c:=by
    have e':=List.mem_singleton.mp hc;rw[e',hz];exact Nat.le_succ _
  exact I2.CN hle (I2.hok.fresh hle)
end
def ZX (td:TE):TI:=fun σ H R=>td σ H fun x H1=>isRef x fun a=>∃kvs,Rd H1 a (.dK kvs)∧∀o,(∀o' u,H1 a=some (.gZ o' u)→o=o')→R (Itd a o kvs) (upd H1 a (.gZ o (.dK kvs)))
@[simp ↓] theorem qh4 td σ H R:ZX td σ H R=(td σ H fun x H1=>isRef x fun a=>∃kvs,Rd H1 a (.dK kvs)∧∀o,(∀o' u,H1 a=some (.gZ o' u)→o=o')→R (Itd a o kvs) (upd H1 a (.gZ o (.dK kvs)))):=rfl
theorem Vm (t:TE):ZX t=qdP t:=by
  funext σ H R
  refine congrArg (t σ H) (funext fun x=>funext fun H1=>propext ⟨fun h=>?_,fun⟨a,kvs,e,h1,h2⟩=>by subst e;exact⟨kvs,h1,h2⟩⟩);obtain⟨i,rfl,kvs,h1,h2⟩:=isRef.out h;exact⟨i,kvs,rfl,h1,h2⟩
section
variable {a:Addr} {o:Obj} {kvs:List (Key×V)} {g:TG} {tb:TS} {D:Ends} {d:Ud g tb D} {σ:St} {H:Hp}
theorem frD (Pv:Nat→St→Hp→Prop) (h0:Pv 0 σ H) (hl:∀i σ H,i≤kvs.length→Pv i σ H→H a=some (.gZ o (.dK kvs)))
    (hs:∀i k x t σ H,kvs[i]? = some (k,x)→H t=none→Pv i σ H→g (.ref t) σ (upd H t (.tup [kV k,x])) fun σ2 H2=>tb {D with nx:=Pv (i+1),ct:=Pv (i+1),bk:=D.nx} σ2 H2) (hd:∀σ H,Pv kvs.length σ H→D.nx σ H):tFr (Itd a o kvs) g tb D d σ H:=by
  refine⟨fun i m σ H=>m=kvs.length - i∧i≤kvs.length∧Pv i σ H,⟨kvs.length,by simp,Nat.zero_le _,h0⟩,?_⟩;rintro i m σ H ⟨rfl,hi,p⟩;have q:=hl i σ H hi p
  by_cases hlt:i<kvs.length
  ·refine .inr ⟨⟨q,hlt⟩,Pv (i+1),fun σ' H' p'=>⟨kvs.length - (i+1),by omega,rfl,hlt,p'⟩,fun x H' y=>?_⟩;obtain⟨t,k,u,rfl,ht,rfl,e⟩:=y;exact hs i k u t σ H e ht p
  · have e:i=kvs.length:=by omega
    subst e;exact .inl ⟨⟨q,Nat.le_refl _⟩,hd σ H p⟩
end
section
variable {P:Program} {w:World} {H H':Hp} {h h':Heap}
theorem qx.nM (J:qx P w H' h'):qx P w (nM H H') h':=fun c v e=>by
  have st:bY P w H' h' c v→bY P w (L2.nM H H') h' c v:=fun x=>
    x.stay (fun _ _ _ q=>q) (fun b q=>oG q (fun _ _ z=>nomatch z)) fun b zs q=>oG q (fun _ _ z=>nomatch z)
  rcases Ym e with e | ⟨o,e⟩
  ·exact st (J _ _ e)
  ·obtain⟨_,x⟩:=J _ _ e;exact st x
theorem Un.nM {fs ex:List Addr} (u:Un fs ex H H' h h'):Un fs ex H (nM H H') h h':=
  ⟨u.keep,u.slot,fun c q h1 h2 h3=>Eo (u.free c q h1 h2 h3),u.there,fun c zs e=>oG (u.tups c zs e) (fun _ _ z=>nomatch z),fun c q v e=>A_ (u.oY c q v e) e,fun c qs e=>by
    obtain⟨m,e'⟩:=u.qK c qs e;exact⟨m,oG e' (fun _ _ z=>nomatch z)⟩⟩
def qbw (sp:Sp):Sp:=fun vs H Q E=>sp vs H (fun v H'=>Q v (nM H H')) fun C od H'=>E C od (nM H H')
theorem Er {H H':Hp} (h:∀b u,H b=some u→H' b=some u∨((∀o v,u≠.gZ o v)∧∃o,H' b=some (.gZ o u))):Same H (nM H H'):=fun b u e=>by
  rcases h b u e with q | ⟨hu,o,q⟩
  · by_cases hx:∃o v,u = .gZ o v
    ·obtain⟨o,v,rfl⟩:=hx;exact A_ q e
    ·exact oG q fun o v z=>hx ⟨o,v,z⟩
  ·exact OD q e hu
end
def arT (xs:List V) (R:V→V→V→Prop):Prop:=match xs with | [x,y,z]=>R x y z | _=>False
@[simp ↓] theorem qlu x y z R:arT [x,y,z] R=R x y z:=rfl
section
variable {X:Cx} {C B:Addr} {o:Expr} {f:Str} {pos:Pos} {ta:TE}
theorem Yo {P:Program} {w:World} {H:Hp} {h:Heap} {x C:Addr} {od:Option Addr} (hok:∀b u,H b=some u→bY P w H h b u) (e:H x=some (xO x C od)):uG x C od h:=(hok x _ e).1
def Vn (C:Addr) (ta:TE) (f:Str):TE:=fun σ H Q=>ta σ H fun x H1=>isRef x fun a=>∃dx fs,H1 a=some (xO a C (some dx))∧H1 dx=some (iY dx fs)∧∃v,fs.lookup f=some v∧Q v H1
@[simp ↓] theorem qdQ C ta f σ H Q:Vn C ta f σ H Q=ta σ H fun x H1=>isRef x fun a=>∃dx fs,H1 a=some (xO a C (some dx))∧H1 dx=some (iY dx fs)∧∃v,fs.lookup f=some v∧Q v H1:=rfl
theorem Bb (G:Lw X.K C) (hn:W.findIn X.K (.ref C) f=some none) (he:PE X o ta) (hb:attributeBase o f X.env (eval o X.env)=eval o X.env):PE X (.Attribute o f pos) (Vn C ta f):=by
  intro p_ s σ H Q I h;refine NP hb (cL (he p_ s σ H _ I h) fun u s1 z1=>?_);obtain⟨x,H1,I1,rx,q⟩:=z1;obtain⟨a,rfl,dx,fs,ea,ed,v,hv,q⟩:=isRef.out q;obtain rfl:u=Value.ref a:=rx;obtain⟨hl0,mA,hns,hr,hw⟩:=Ow I1.hok ed;obtain⟨u',hu,ru⟩:=lN.some_of (v:=v) (o:=mA f) (by rw[← hv];exact hr f);exact qbs I1.nq (Yo I1.hok ea) hns G hn hu (Dw ru) ⟨v,H1,I1.tok _,ru,q⟩
end
section
variable {M:Model} {A:Around} {E:Value→Shared→Prop} {h:Heap} {g:Array GenState} {d:Drawn} {t:Nat} {os:OsState}
variable {nm q:Str} {C N:Addr} {bs bm:List Value} {hdct:Bool} {sn:List Str} {sub:List Value} {ab:Bool} {col:Option Bool} {dd:Option Addr} {k0 k1 k2 k3 k5:Option Value} {newId:String}
variable {nm' q':Str} {D N':Addr} {bs' bm':List Value} {qdR:Bool} {sn':List Str} {sub':List Value} {ab':Bool} {col':Option Bool} {T3:Option Addr} {j0 j1 j2 j3 j5:Option Value} {newId':String}
theorem uI {e:Addr} {oe:Obj} {b:Bool} {Q:Bool→Shared→Prop} (hC:h.get? C=some (excClassObj nm q C N bs bm hdct sn sub ab col dd k0 k1 k2 k3 k5 newId))
    (hD:h.get? D=some (excClassObj nm' q' D N' bs' bm' qdR sn' sub' ab' col' T3 j0 j1 j2 j3 j5 newId')) (he:h.get? e=some oe) (hcls:oe.cls = .ref C) (hDB:(Value.ref D::bm').contains (.type "BaseException")=true) (hCD:(Value.ref C::bm).contains (.ref D)=b)
    (hq:Q b ⟨h,g,d,t,os⟩):wpAny M A (excMatches (.ref e) (.ref D)) Q E ⟨h,g,d,t,os⟩:=by
  have f:=tc_notTuple;unfold excMatches;cases b with
  | true=>
    repeat (first | (with_reducible refine wpAny_loadPart_at he ?_;rw[hcls]) | with_reducible refine wpAny_loadPart_at hD ?_ | (with_reducible refine wpAny_isSubtype_exc hD ?_;rw[hDB]) | (with_reducible refine wpAny_isSubtype_exc hC ?_;rw[hCD]) | wp_step)
    exact hq
  | false=>
    repeat (first | (with_reducible refine wpAny_loadPart_at he ?_;rw[hcls]) | with_reducible refine wpAny_loadPart_at hD ?_ | (with_reducible refine wpAny_isSubtype_exc hD ?_;rw[hDB]) | (with_reducible refine wpAny_isSubtype_exc hC ?_;rw[hCD]) | wp_step)
    exact hq
end
structure Clause (K:W.Frag) (D:Addr):Prop where
  ob:Ay K D
  be:W.mroIn K D (.type "BaseException")=some true
theorem Clause.of {K:W.Frag} {C B f:Addr} (M:ZS K C B f) (c:XC K C B):Clause K C:=⟨Ay.ofX M c,by rw[c.mro];simp⟩
def Vo (i:Nat) (ts:Addr→TS) (Dn:Ends) (σ1:St) (C:Addr) (od:Option Addr) (H1:Hp):Prop:=∀a,H1 a=none→
    ts a {nx:=fun σ2 H2=>Dn.nx (σ2.set i none) H2,rt:=Dn.rt,bk:=fun σ2 H2=>Dn.bk (σ2.set i none) H2,ct:=fun σ2 H2=>Dn.ct (σ2.set i none) H2} (σ1.set i (some (.ref a))) (upd H1 a (xO a C od))
def Ju (i:Nat) (K:W.Frag) (D1 D2:Addr) (t1 t2:Addr→TS) (Dn:Ends):St→Addr→Option Addr→Hp→Prop:=fun σ1 C od H1=>Ay K C∧
  ((W.mroIn K C (.ref D1)=some true∧Vo i t1 Dn σ1 C od H1)∨(W.mroIn K C (.ref D1)=some false∧W.mroIn K C (.ref D2)=some true∧Vo i t2 Dn σ1 C od H1))
def Z0 (i:Nat) (K:W.Frag) (D1 D2:Addr) (t1 t2:Addr→TS) (tb:(St→Addr→Option Addr→Hp→Prop)→TS):TS:=fun Dn σ H=>tb (Ju i K D1 D2 t1 t2 Dn) Dn σ H
@[simp ↓] theorem qh5 i K D1 D2 t1 t2 tb Dn σ H:Z0 i K D1 D2 t1 t2 tb Dn σ H=tb (Ju i K D1 D2 t1 t2 Dn) Dn σ H:=rfl
section
variable {X:Cx} {body su1 su2:List Stmt} {b1 b2:Stmt} {i:Nat} {n c1 c2:Str} {np1 np2 hp1 hp2 pos:Pos} {D1 D2:Addr} {t1 t2:Addr→TS} {tb:(St→Addr→Option Addr→Hp→Prop)→TS}
theorem Yp (hst:X.stack=X.env::X.outer) (hfr:X.env.frame=some X.env.locals) (hex:X.ex=[]) (hN:X.N.Nodup) (hi:X.N[i]? = some n) (hl:X.env.scope.names.lookup n=some .local)
    (hb:∀R pn xe,Takes X pn xe R→Dt (X.tried pn xe) body (tb R)) (hg1:Gl X c1) (hm1:X.mg c1=some (.ref D1)) (cl1:Clause X.K D1) (hg2:Gl X c2) (hm2:X.mg c2=some (.ref D2)) (cl2:Clause X.K D2)
    (hs1:∀a,Dt (X.caught a) (b1::su1) (t1 a)) (hs2:∀a,Dt (X.caught a) (b2::su2) (t2 a)) (qdS:(c1 == ("__debug__" : Str))=false:=by decide) (qjd:(c2 == ("__debug__" : Str))=false:=by decide) :
    PS X (.Try body [.ExceptHandler (some (.Name c1 np1)) (some n) (b1::su1) hp1,.ExceptHandler (some (.Name c2 np2)) (some n) (b2::su2) hp2] [] [] pos) (Z0 i X.K D1 D2 t1 t2 tb):=by
  intro p_ s σ H Dn I h;have hiσ:∀{σ':St} {H':Hp} {s':Shared},Inv X p_ σ' H' s'→i<σ'.length:=fun J=>by rw[J.len];exact(List.getElem?_eq_some_iff.mp hi).1
  refine wpAny_Try_except (wpAny_mono (hb (Ju i X.K D1 D2 t1 t2 Dn) (X.pn++p_) (fun e s1=>∃a C od T σ1 H1,e = .ref a∧Inv X p_ σ1 H1 s1∧Va X.s₀.heap s1.heap H1 a C od T∧(∀p∈X.pn++p_,p.1≠a∧p.1≠T)∧Ju i X.K D1 D2 t1 t2 Dn σ1 C od H1) ?_ [] s σ H Dn (I.tried _) h) (fun f s1 hf=>?_) fun e s1 hx=>?_)
  ·intro yp σ1 H1 s1 a C od T J ex hp hR;exact⟨a,C,od,T,σ1,H1,rfl,I.vN J,ex,hp,hR⟩
  · cases f with
    | next=>obtain⟨σ',H',J,q⟩:=hf;exact wpAny_execs_nil ⟨σ',H',I.vN J,q⟩
    | brk=>obtain⟨σ',H',J,q⟩:=hf;exact⟨σ',H',I.vN J,q⟩
    | cont=>obtain⟨σ',H',J,q⟩:=hf;exact⟨σ',H',I.vN J,q⟩
    | ret u=>obtain⟨v,σ',H',J,r,q⟩:=hf;exact⟨v,σ',H',I.vN J,r,q⟩
  · obtain⟨a,C,od,T,σ1,H1,rfl,J,ex,hp,clC,hR⟩:=hx;obtain⟨new,newT,un,unT,oe,vs,oT,tts,t1',t2',t3,t4,t5,t6,t7,t8,t9⟩:=ex;have fr:=J.ok.frames;rw[hst] at fr;have st0:(W.hideAll s1.heap (frs X.stack++[a,T])).StaysIn s1.heap:=fun b o e=>W.of_hideAll _ e;have na:(W.hideAll s1.heap (frs X.stack++[a,T])).get? a=none:=W.hideAll_none _ (by simp);have ff:s1.heap.FunFrames (W.hideAll s1.heap (frs X.stack++[a,T])) (X.env::X.outer):=by
      rw[← hst];exact W.funFrames_hide J.stack fun env he b hb=>List.mem_append_left _ (List.mem_filterMap.mpr ⟨env,he,hb⟩)
    have tr0:Trc (W.hideAll s1.heap (frs X.stack++[a,T])) s1.heap a (.ref C,od) .none T:=⟨oe,vs,oT,tts,t1',t2',t3,t4,t5,W.hideAll_none _ (by simp),t6,t7,t8,t9⟩;have gone:∀(h':Heap),(W.hideAll s1.heap (frs X.stack++[a,T])).StaysIn h'→s1.heap.UpToSlots h'→Inv X p_ σ1 H1 {s1 with heap:=h'}:=fun h' k1 k2=>by
      refine J.gone (t':=s1.toks) (ch:=[a,T]) hex (fun b hb=>?_) (fun b o hf hc e=>k1 b o (W.hideAll_get _ e (by rw[List.mem_append];exact fun z=>z.elim hf hc))) fun b o e hd=>k2 b o e hd;simp only[List.mem_cons,List.not_mem_nil,or_false] at hb
      rcases hb with rfl | rfl
      ·exact⟨new,un,fun _ _ _ _=>trivial,⟨oe,vs,t1',t3⟩,fun p q=>(hp p q).1⟩
      ·exact⟨newT,unT,fun _ _ _ _=>trivial,⟨oT,tts,t7,t8⟩,fun p q=>(hp p q).2⟩
    refine Ej fr ff hfr tr0 st0 na fun h4 x4=>?_;obtain⟨T4,tr4⟩:=x4.trc;refine Ax (s:={s1 with heap:=h4}) x4.frames tr4 x4.stays fun h5 x5=>?_;obtain⟨T5,tr5⟩:=x5.trc;have J5:=gone h5 x5.stays (x4.slots.trans x5.slots);obtain⟨oe5,vs5,oT5,ts5,u1,u2,u3,_⟩:=id tr5;obtain⟨bm,N,nm,q,bs,hdct,sn,sub,ab,col,dd,k0,k1,k2,k3,k5,hC,hmro⟩:=clC _ J5.nq;obtain⟨bm1,N1,nm1,q1,bs1,qlv,sn1,qlM,ab1,qlN,dd1,j0,j1,j2,j3,j5,hD1,qdT⟩:=cl1.ob _ J5.nq;obtain⟨bm2,N2,LC,q2,bs2,qlw,sn2,qlO,ab2,qlP,dd2,i0,i1,i2,i3,i5,hD2,qje⟩:=cl2.ob _ J5.nq;have run:∀{b₀:Stmt} {suite:List Stmt} {hpos:Pos} {ts:Addr→TS},(∀a,Dt (X.caught a) (b₀::suite) (ts a))→Vo i ts Dn σ1 C od H1→
        codeAny (model X.prog X.w) (X.A.mark (some (.ref a))) (.handlers (.ref a) [.ExceptHandler none (some n) (b₀::suite) hpos] X.env) (fun r s₂=>match r with
          | .ok f=>wpAny (model X.prog X.w) X.A (do bindName X.env n .none;unbindBehindTheSuite X.env n hpos) (fun _ s₃=>SP X p_ Dn f s₃) X.xe s₂
          | .error x=>cameBackBy (model X.prog X.w) X.A X.env X.xe x s₂) {s1 with heap:=h5}:=by
      intro b₀ suite hpos ts hsu hR;refine codeAny_handlers_suite_as ?_;refine Ax (s:={s1 with heap:=h5}) x5.frames tr5 x5.stays fun h6 x6=>?_;have J6:=gone h6 x6.stays ((x4.slots.trans x5.slots).trans x6.slots);obtain⟨T6,oe6,vs6,oT6,ts6,v1,v2,v3,v4,_⟩:=x6.trc;have J7:=J6.track hex new un ⟨oe6,vs6,v1,v2,v3,v4⟩ fun p q=>(hp p q).1;refine rW J7 hN hi (.inl hl) (v:=.ref a) rfl (fun s8 J8 _=>?_) (.inr hl);refine wpAny_mono (hsu a p_ s8 _ _ _ (J8.caught a) (hR a un)) (fun f s9 hf=>?_) fun _ _ z=>False.elim z;show wpAny (model X.prog X.w) X.A (do bindName X.env n .none;unbindBehindTheSuite X.env n hpos) (fun _ s₃=>SP X p_ Dn f s₃) X.xe s9
      have go:∀{σ':St} {H':Hp} (Q':Shared→Prop),Inv X p_ σ' H' s9→(∀s',Inv X p_ (σ'.set i none) H' s'→Q' s')→wpAny (model X.prog X.w) X.A (do bindName X.env n .none;unbindBehindTheSuite X.env n hpos) (fun _ s₃=>Q' s₃) X.xe s9:=fun {σ' H'} Q' J9 hq=>by
        refine wpAny_bind ?_;unfold bindName;refine wpAny_bind (wpAny_holding (wpAny_point (wpAny_bind (rW J9 hN hi (.inl hl) (v:=.non) rfl (fun s10 J10 _=>wpAny_point ?_) (.inr hl)))));unfold unbindBehindTheSuite;refine wpAny_onRaise (QJ (v:=.non) J10 hN hi hl (List.getElem?_set_self (hiσ J9)) fun s11 J11=>?_);rw[List.set_set] at J11;exact hq s11 J11
      cases f with
      | next=>obtain⟨σ',H',J9,q⟩:=hf;exact go _ (I.uncaught J9) fun s' J'=>⟨_,H',J',q⟩
      | brk=>obtain⟨σ',H',J9,q⟩:=hf;exact go _ (I.uncaught J9) fun s' J'=>⟨_,H',J',q⟩
      | cont=>obtain⟨σ',H',J9,q⟩:=hf;exact go _ (I.uncaught J9) fun s' J'=>⟨_,H',J',q⟩
      | ret u=>obtain⟨v,σ',H',J9,r,q⟩:=hf;exact go _ (I.uncaught J9) fun s' J'=>⟨v,_,H',J',r,q⟩
    rcases hR with⟨hCD,hR⟩ | ⟨hC1,hCD,hR⟩
    ·refine wpAny_handleBy_cons (codeAny_handlers_test (lO (J5.caught a) hg1 hm1 ?_ qdS)) (by intro q;cases q);exact uI hC hD1 u1 (congrArg Prod.fst u2) (qdT _ _ cl1.be) (hmro _ _ hCD) (run hs1 hR)
    ·refine wpAny_handleBy_cons (codeAny_handlers_test (lO (J5.caught a) hg1 hm1 ?_ qdS)) (by intro q;cases q);refine uI hC hD1 u1 (congrArg Prod.fst u2) (qdT _ _ cl1.be) (hmro _ _ hC1) ?_;refine wpAny_handleBy_cons (codeAny_handlers_test (lO (J5.caught a) hg2 hm2 ?_ qjd)) (by intro q;cases q);exact uI hC hD2 u1 (congrArg Prod.fst u2) (qje _ _ cl2.be) (hmro _ _ hCD) (run hs2 hR)
end
def Itk (a:Addr) (o:Obj) (kvs:List (Key×V)):It:=
  ⟨fun i H=>H a=some (.gZ o (.dK kvs))∧i<kvs.length,
   fun i H v H'=>∃k x,v=kV k∧H'=H∧kvs[i]? = some (k,x),
   fun i H=>H a=some (.gZ o (.dK kvs))∧kvs.length≤i⟩
theorem QL {P:Program} {w:World} {K:W.Frag} {tg:Expr} {it a:Addr} {o:Obj} {kvs:List (Key×V)} {ep:Nat} {ds:Array _} (Yn:o.data = .dict ds ep) :
    Turn P w K tg (Itk a o kvs) [it] it (fun i h=>h.IsKeyIter it a i kvs.length ep) where
  mem:=by simp
  obj:=fun i h st c hc=>by
    have e':c=it:=by simpa using hc
    subst e';obtain⟨u,e,_,d⟩:=st;exact⟨_,e,fun v z=>by rw[d] at z;cases z⟩
  keep:=fun i h h' st kk=>st.at fun o e=>kk it (by simp) o e
  item:=by
    intro X hP hw hK hc i p_ s σ H E I hf st hg;subst hP hw hK;obtain⟨hz,hi⟩:=hg;obtain⟨hob,z,hd,vs,rel,o',es',ep',e',ex,dat,RM,prs,Lz⟩:=I.hok _ _ hz;rw[hob] at e';cases e';rw[Yn] at dat;cases dat;have hx:kvs[i]? = some kvs[i]:=List.getElem?_eq_getElem hi;obtain⟨u,hu,ru⟩:=rel.get (k:=kvs[i].1) (x:=kvs[i].2) hx;have dd:s.heap.DictAt (bL X.prog X.w) a vs ep:=⟨_,_,hob,ex,Yn,RM,prs,Lz⟩;have hl:=rel.len;rw[← hl] at st;obtain⟨f0,f1,f2,f3,f4,f5⟩:=hf it (by simp);refine wpAny_pyNext_dict_item st dd hu fun key h' hkey st' sb=>?_;have I1:Inv X p_ σ H {s with heap:=h'}:=I.turned (t':=s.toks) (fun b o hb e=>(sb.2 b hb).trans e) f0 f1 f3 f4 f5;refine⟨key,rfl,letGo_keyiter st' ⟨kV kvs[i].1,H,I1,Ep hkey,⟨_,_,rfl,rfl,hx⟩,?_,fun b hb=>?_⟩⟩
    ·rw[hl] at st';exact st'
    ·rw[List.mem_singleton] at hb;subst hb;exact f0
  done:=by
    intro X hP hw hK hc i p_ s σ H E I hf st hg;subst hP hw hK;obtain⟨hz,hi⟩:=hg;obtain⟨hob,z,hd,vs,rel,o',es',ep',e',ex,dat,RM,prs,Lz⟩:=I.hok _ _ hz;rw[hob] at e';cases e';rw[Yn] at dat;cases dat;have dd:s.heap.DictAt (bL X.prog X.w) a vs ep:=⟨_,_,hob,ex,Yn,RM,prs,Lz⟩;have hl:=rel.len;rw[← hl] at st;obtain⟨f0,f1,f2,f3,f4,f5⟩:=hf it (by simp);exact wpAny_pyNext_dict_end (I.ok.hd hc) st dd (by simp;omega) fun h' kk=>⟨rfl,I.turned (t':=s.toks) (fun b o hb e=>kk b o hb e) f0 f1 f3 f4 f5⟩
  self:=fun A i s Q E st h=>wpAny_pyIter_keyiter st h
section
variable {X:Cx}
def Z1 (td:TE):TI:=fun σ H R=>td σ H fun x H1=>isRef x fun a=>∃kvs,Rd H1 a (.dK kvs)∧∀o,(∀o' u,H1 a=some (.gZ o' u)→o=o')→R (Itk a o kvs) (upd H1 a (.gZ o (.dK kvs)))
@[simp ↓] theorem qh6 td σ H R:Z1 td σ H R=(td σ H fun x H1=>isRef x fun a=>∃kvs,Rd H1 a (.dK kvs)∧∀o,(∀o' u,H1 a=some (.gZ o' u)→o=o')→R (Itk a o kvs) (upd H1 a (.gZ o (.dK kvs)))):=rfl
theorem Yq {tg d:Expr} {td:TE} (hd:PE X d td):PI X tg d (Z1 td):=by
  intro p_ s σ H R I h;refine cL (hd p_ s σ H _ I h) fun v s1 zz=>?_;obtain⟨x,H1,I1,r1,q1⟩:=zz;obtain⟨a,rfl,kvs,rd,q⟩:=isRef.out q1;obtain rfl:v=Value.ref a:=r1;obtain⟨z,hd',vs,rel,o,ds,ep,ho,ex,dat,RM,prs,Lz⟩:=tW I1.hok rd;have I2:Inv X p_ σ (upd H1 a (.gZ o (.dK kvs))) s1:=by
    rcases rd with e | ⟨o',e⟩
    ·exact I1.freeze e ho
    ·have ho':=(I1.hok _ _ e).1;rw[ho] at ho';cases ho';rw[Lx e];exact I1
  have hq:R (Itk a o kvs) (upd H1 a (.gZ o (.dK kvs))):=q o fun o' u e=>by
    have ho':=(I1.hok _ _ e).1;rw[ho] at ho';cases ho';rfl
  refine wpAny_pyIter_dict (knd:=bL X.prog X.w) (kvs:=vs) (ep:=ep) hd' ⟨o,ds,ho,ex,dat,RM,prs,Lz⟩ ?_;rw[rel.len];have I3:=I2.kept (t':=s1.toks) (h':=s1.heap.push {cls:=.type "dict_keyiterator",data:=.fields #[.ref a,.int 0 0,.int kvs.length 0,.int ep 0]}) fun b u e=>Heap.get?_push_of_some _ e;refine⟨s1.heap.objs.size,[s1.heap.objs.size],_,_,_,rfl,I3,QL (ep:=ep) (ds:=ds) dat,⟨_,Heap.get?_push_size _ rfl,rfl,rfl⟩,fun c hc=>?_,hq⟩;have hle:s1.heap.objs.size≤c:=by
    have e':=List.mem_singleton.mp hc;rw[e'];exact Nat.le_refl _
  exact I2.CN hle (I2.hok.fresh hle)
end
section
variable {own:List Str} {caps:List Nat} {g:TG} {tt:TT} {te:TE} {D a:Addr} {o:Obj} {kvs:List (Key×V)} {σ:St} {H:Hp} {Q:Hp→Prop}
theorem cmK {d:Xr g tt te Q} (Pv:Nat→St→Hp→Prop) (h0:Pv 0 (stC own caps σ) H) (hl:∀i σ H,i≤kvs.length→Pv i σ H→H a=some (.gZ o (.dK kvs)))
    (hs:∀i k x σ H,kvs[i]? = some (k,x)→Pv i σ H→yt g tt te D (Pv (i+1)) (kV k) σ H) (hd:∀σ H,Pv kvs.length σ H→Q H):Zv own caps (Itk a o kvs) g tt te Q d D σ H:=by
  refine⟨fun i m σ H=>m=kvs.length - i∧i≤kvs.length∧Pv i σ H,⟨kvs.length,by simp,Nat.zero_le _,h0⟩,?_⟩;rintro i m σ H ⟨rfl,hi,p⟩;have q:=hl i σ H hi p
  by_cases hlt:i<kvs.length
  ·refine .inr ⟨⟨q,hlt⟩,Pv (i+1),fun σ' H' p'=>⟨kvs.length - (i+1),by omega,rfl,hlt,p'⟩,fun x H' y=>?_⟩;obtain⟨k,u,rfl,rfl,e⟩:=y;exact hs i k u σ _ e p
  · have e:i=kvs.length:=by omega
    subst e;exact .inl ⟨⟨q,Nat.le_refl _⟩,hd σ H p⟩
end
theorem bV.Z2 {P:Program} {w:World} {K:W.Frag} {mg:Str→Option Value} {base:Heap} {k:Nat} {f:Addr} {fd:FuncData} {ps:List Str} {sp:Sp} (F:bV P w K mg base jN k f fd ps sp):bV P w K mg base jN k f fd ps (qbw sp):=
  ⟨fun vs H Q E h=>F.len vs H _ _ h,fun A outer s H args us vs Q E hr h0 hb hv h=>codeAny_mono (F.run A outer s H args us vs _ _ hr h0 hb hv h) fun r s' q=>by
    cases r with
    | ok fl=>cases fl with
      | ret u=>
        obtain⟨v,H',q1,q2,q3,q4,q5,q6⟩:=q;exact⟨v,_,q1,q2,q3.nM,q4.nM,q5,q6⟩
      | _=>exact q
    | error e=>exact q.elim⟩
end L2
namespace L2
open PySem
section
variable {α:Type} {R Z4:α→α→Prop} {u v:α}
def Both (R:α→α→Prop) (u v:α) (x y:α):Prop:=R x y∨(x=u∧y=v)∨(x=v∧y=u)
def xP (R:α→α→Prop) (u v:α) (x y:α):Prop:=R x y∨(x=u∧y=v)
theorem QM {y:α} (h:RT (Both R u v) u y):RT R u y∨RT R v y:=by
  induction h with
  | refl=>exact .inl (.refl _)
  | tail _ st ih=>
    rcases st with st | ⟨_,rfl⟩ | ⟨_,rfl⟩
    ·exact ih.imp (fun h=>.tail h st) fun h=>.tail h st
    ·exact .inr (.refl _)
    ·exact .inl (.refl _)
theorem Yr {x z:α} (h:RT (Both R u v) x z):RT R x z∨RT R x u∨RT R x v:=by
  induction h with
  | refl=>exact .inl (.refl _)
  | tail _ st ih=>
    rcases ih with ih | ih
    · rcases st with st | ⟨rfl,_⟩ | ⟨rfl,_⟩
      ·exact .inl (.tail ih st)
      ·exact .inr (.inl ih)
      ·exact .inr (.inr ih)
    ·exact .inr ih
theorem Ys (qbx:∀x y,Z4 x y→R x y∨R y x) (back:∀w,RT (Both R u v) u w→RT (Both R u v) w u) (to:∀x y,RT (Both R u v) u x→Z4 x y→RT (Both R u v) u y) (con:RT Z4 u v):RT R u v∨RT R v u:=by
  apply Classical.byContradiction;intro hno;have h1:¬RT R u v:=fun h=>hno (.inl h);have h2:¬RT R v u:=fun h=>hno (.inr h);have lift:∀{a b:α},RT R a b→RT (Both R u v) a b:=fun h=>by
    induction h with
    | refl=>exact .refl _
    | tail _ st ih=>exact .tail ih (.inl st)
  have dis:∀w,RT R u w→RT R v w→False:=fun w ha hb=>by
    rcases Yr (back w (lift ha)) with h | h | h
    ·exact h2 (hb.trans h)
    ·exact h2 (hb.trans h)
    ·exact h1 (ha.trans h)
  have all:∀y,RT Z4 u y→RT R u y:=fun y hy=>by
    induction hy with
    | refl=>exact .refl _
    | tail _ st ih=>
      rcases qbx _ _ st with r | r
      ·exact .tail ih r
      · rcases QM (to _ _ (lift ih) st) with h | h
        ·exact h
        ·exact(dis _ ih (.tail h r)).elim
  exact h1 (all v con)
theorem Es (h:RT R v u) {x y:α} (hb:RT (Both R u v) x y):RT (xP R u v) x y:=by
  have lift:∀{a b:α},RT R a b→RT (xP R u v) a b:=fun h=>by
    induction h with
    | refl=>exact .refl _
    | tail _ st ih=>exact .tail ih (.inl st)
  induction hb with
  | refl=>exact .refl _
  | tail _ st ih=>
    rcases st with st | ⟨rfl,rfl⟩ | ⟨rfl,rfl⟩
    ·exact .tail ih (.inl st)
    ·exact .tail ih (.inr ⟨rfl,rfl⟩)
    ·exact ih.trans (lift h)
theorem QS (qbx:∀x y,Z4 x y→R x y∨R y x) (back:∀w,RT (Both R u v) u w→RT (Both R u v) w u) (to:∀x y,RT (Both R u v) u x→Z4 x y→RT (Both R u v) u y) (con:RT Z4 u v) :
    (∀x y,RT (Both R u v) x y→RT (xP R u v) x y)∨∀x y,RT (Both R u v) x y→RT (xP R v u) x y:=by
  rcases Ys qbx back to con with h | h
  · refine .inr fun x y hb=>Es h ?_;have sw:∀{a b:α},RT (Both R u v) a b→RT (Both R v u) a b:=fun h=>by
      induction h with
      | refl=>exact .refl _
      | tail _ st ih=>exact .tail ih (st.imp_right Or.symm)
    exact sw hb
  ·exact .inl fun x y hb=>Es h hb
end
def Vp (fx:Nat→Option Int) (k:Nat) (d:Int):Nat→Option Int:=fun j=>if j=k then some d else fx j
theorem dh {fx:Nat→Option Int} {ps:List (Str×Str)} {n:Nat} {a b:Str}:(n,a,b)∈aC fx ps 0↔∃e,ps[n]? = some e∧(((fx n).getD 0=0∧a=e.1∧b=e.2)∨((fx n).getD 1=1∧a=e.2∧b=e.1)):=by
  rw[jo];constructor
  ·rintro⟨j,e,h1,h2⟩;obtain⟨h3,h4⟩:=jT.mp h2;rw[Nat.zero_add] at h3 h4;simp only at h3 h4;subst h3;exact⟨e,h1,h4⟩
  ·rintro⟨e,h1,h2⟩;exact⟨n,e,h1,jT.mpr ⟨by simp,by rw[Nat.zero_add];exact h2⟩⟩
theorem Jv {fx:Nat→Option Int} {ps:List (Str×Str)} {k:Nat} {u v:Str} {xs:List Str} (hfree:fx k=none) (hk:ps[k]? = some (u,v)) (hf:∀j d,fx j=some d→d=0∨d=1)
    (strong:∀x∈xs,∀y∈xs,RT (fu (aC fx ps 0)) x y) (hps:∀e∈ps,e.1∈xs∧e.2∈xs) (con:RT (gA (fun j=>j≠k) ps) u v) :
    (∀x∈xs,∀y∈xs,RT (fu (aC (Vp fx k 0) ps 0)) x y)∨∀x∈xs,∀y∈xs,RT (fu (aC (Vp fx k 1) ps 0)) x y:=by
  have mono:∀{A B:Str→Str→Prop},(∀a b,A a b→B a b)→∀{a b:Str},RT A a b→RT B a b:=by
    intro A B f a b h
    induction h with
    | refl=>exact .refl _
    | tail _ st ih=>exact .tail ih (f _ _ st)
  let R:Str→Str→Prop:=fun x y=>∃n,n≠k∧(n,x,y)∈aC fx ps 0
  have toB:∀a b,fu (aC fx ps 0) a b→Both R u v a b:=fun a b ⟨n,hn⟩=>by
    by_cases e:n=k
    · subst e;obtain⟨e,h1,h2⟩:=dh.mp hn;rw[hk] at h1;cases h1
      rcases h2 with⟨_,h2⟩ | ⟨_,h2⟩
      ·exact .inr (.inl h2)
      ·exact .inr (.inr h2)
    ·exact .inl ⟨n,e,hn⟩
  have ofB:∀a b,Both R u v a b→fu (aC fx ps 0) a b:=fun a b h=>by
    rcases h with⟨n,_,hn⟩ | ⟨rfl,rfl⟩ | ⟨rfl,rfl⟩
    ·exact⟨n,hn⟩
    ·exact⟨k,dh.mpr ⟨_,hk,.inl ⟨by rw[hfree];rfl,rfl,rfl⟩⟩⟩
    ·exact⟨k,dh.mpr ⟨_,hk,.inr ⟨by rw[hfree];rfl,rfl,rfl⟩⟩⟩
  have keep:∀(d:Int) (a b:Str),R a b→fu (aC (Vp fx k d) ps 0) a b:=fun d a b ⟨n,hn,h⟩=>by
    refine⟨n,dh.mpr ?_⟩;unfold Vp;rw[if_neg hn];exact dh.mp h
  have o0:∀a b,xP R u v a b→fu (aC (Vp fx k 0) ps 0) a b:=fun a b h=>by
    rcases h with h | ⟨rfl,rfl⟩
    ·exact keep 0 a b h
    ·exact⟨k,dh.mpr ⟨_,hk,.inl ⟨by unfold Vp;rw[if_pos rfl];rfl,rfl,rfl⟩⟩⟩
  have o1:∀a b,xP R v u a b→fu (aC (Vp fx k 1) ps 0) a b:=fun a b h=>by
    rcases h with h | ⟨rfl,rfl⟩
    ·exact keep 1 a b h
    ·exact⟨k,dh.mpr ⟨_,hk,.inr ⟨by unfold Vp;rw[if_pos rfl];rfl,rfl,rfl⟩⟩⟩
  have ux:u∈xs:=(hps _ (List.mem_of_getElem? hk)).1;have inx:∀w,RT (Both R u v) u w→w∈xs:=fun w h=>by
    induction h with
    | refl=>exact ux
    | tail _ st _=>
      obtain⟨n,hn⟩:=ofB _ _ st;obtain⟨e,h1,h2⟩:=dh.mp hn;have:=hps e (List.mem_of_getElem? h1)
      rcases h2 with⟨_,_,rfl⟩ | ⟨_,_,rfl⟩
      ·exact this.2
      ·exact this.1
  have jin:∀x y,gA (fun j=>j≠k) ps x y→y∈xs∧(R x y∨R y x):=fun x y h=>by
    obtain⟨j,hj,h⟩:=h;have dir:(fx j).getD 0=0∨(fx j).getD 1=1:=by
      cases hj:fx j with
      | none=>exact .inl rfl
      | some d=>exact hf j d hj
    rcases h with h | h
    ·refine⟨(hps _ (List.mem_of_getElem? h)).2,dir.imp (fun z=>⟨j,hj,dh.mpr ⟨_,h,.inl ⟨z,rfl,rfl⟩⟩⟩) fun z=>⟨j,hj,dh.mpr ⟨_,h,.inr ⟨z,rfl,rfl⟩⟩⟩⟩
    ·refine⟨(hps _ (List.mem_of_getElem? h)).1,(dir.imp (fun z=>⟨j,hj,dh.mpr ⟨_,h,.inl ⟨z,rfl,rfl⟩⟩⟩) fun z=>⟨j,hj,dh.mpr ⟨_,h,.inr ⟨z,rfl,rfl⟩⟩⟩).symm⟩
  rcases QS (R:=R) (Z4:=gA (fun j=>j≠k) ps) (u:=u) (v:=v) (fun x y h=>(jin x y h).2) (fun w h=>mono toB (strong w (inx w h) u ux)) (fun x y _ h=>mono toB (strong u ux y (jin x y h).1)) con with h | h
  ·exact .inl fun x hx y hy=>mono o0 (h x y (mono toB (strong x hx y hy)))
  ·exact .inr fun x hx y hy=>mono o1 (h x y (mono toB (strong x hx y hy)))
end L2
namespace K41
open PySem L2
def top (i:Nat):Stmt:=PySem.Challenge.pw_pointways_k41_whole_kept_or_shut_or_barr.main.body.getD i (.Pass ⟨0,0,0,0⟩)
abbrev cQ:Stmt:=top 1
abbrev dD:Stmt:=top 2
abbrev cG:Stmt:=top 3
abbrev nO:Stmt:=top 4
abbrev fC:Stmt:=inClass (top 9) 0
abbrev cR:Stmt:=inClass (top 10) 0
abbrev iD:Stmt:=top 16
abbrev gC:Stmt:=top 17
abbrev gR:Stmt:=top 18
abbrev cT:Stmt:=top 19
abbrev jc:Stmt:=top 20
abbrev fM:Stmt:=top 21
abbrev fO:Stmt:=inClass (top 22) 0
abbrev dF:Stmt:=inClass (top 22) 1
abbrev gD:Stmt:=inClass (top 22) 2
abbrev gF:Stmt:=inClass (top 22) 3
abbrev fD:Stmt:=top 23
abbrev iG:Stmt:=top 25
abbrev bB:Stmt:=top 27
abbrev cg:Stmt:=top 29
abbrev cj:Stmt:=top 30
abbrev cU:Stmt:=top 31
abbrev bG:Stmt:=top 32
abbrev dU:Stmt:=top 33
abbrev b_:Stmt:=top 34
abbrev vP:Stmt:=top 36
abbrev pD:Stmt:=top 37
abbrev j6:Stmt:=top 38
abbrev lU:Stmt:=top 39
abbrev vQ:Stmt:=top 40
abbrev qF:Stmt:=top 41
abbrev iH:Stmt:=top 42
abbrev dW:Stmt:=top 43
abbrev ig:Stmt:=top 44
abbrev fP:Stmt:=top 45
abbrev gG:Stmt:=top 46
abbrev lV:Stmt:=top 47
abbrev j7:Stmt:=top 48
abbrev jy:Stmt:=top 49
abbrev gU:Stmt:=top 50
abbrev jz:Stmt:=top 51
abbrev pF:Stmt:=top 52
abbrev j8:Stmt:=top 53
abbrev dG:Stmt:=top 54
abbrev vR:Stmt:=top 55
theorem iu:aU ["web", "fixed", "steps", "number", "first", "second"] ["web", "fixed"] (ak cQ):=⟨rfl,rfl,rfl,by decide+kernel,rfl,by decide+kernel,by decide+kernel⟩
theorem cV:aU ["start", "steps", "ways", "row", "at", "here", "number", "origin", "goal"] ["start", "steps"] (ak dD):=⟨rfl,rfl,rfl,by decide+kernel,rfl,by decide+kernel,by decide+kernel⟩
theorem rA:aU ["web", "start", "steps", "ways"] ["web", "start", "steps"] (ak cG):=⟨rfl,rfl,rfl,by decide+kernel,rfl,by decide+kernel,by decide+kernel⟩
theorem pG:aU ["web", "steps", "told", "number", "first", "second", "lot"] ["web"] (ak nO):=⟨rfl,rfl,rfl,by decide+kernel,rfl,by decide+kernel,by decide+kernel⟩
theorem GR:aU ["self", "lot"] ["self", "lot"] (ak fC):=⟨rfl,rfl,rfl,by decide+kernel,rfl,by decide+kernel,by decide+kernel⟩
theorem Bc:aU ["self", "tie", "lot"] ["self", "tie", "lot"] (ak cR):=⟨rfl,rfl,rfl,by decide+kernel,rfl,by decide+kernel,by decide+kernel⟩
theorem LK:aU ["thing"] ["thing"] (ak iD):=⟨rfl,rfl,rfl,by decide+kernel,rfl,by decide+kernel,by decide+kernel⟩
theorem Jw:aU ["thing"] ["thing"] (ak gC):=⟨rfl,rfl,rfl,by decide+kernel,rfl,by decide+kernel,by decide+kernel⟩
theorem LQ:aU ["thing"] ["thing"] (ak gR):=⟨rfl,rfl,rfl,by decide+kernel,rfl,by decide+kernel,by decide+kernel⟩
theorem C_:aU ["thing"] ["thing"] (ak cT):=⟨rfl,rfl,rfl,by decide+kernel,rfl,by decide+kernel,by decide+kernel⟩
theorem QT:aU ["thing", "points"] ["thing", "points"] (ak jc):=⟨rfl,rfl,rfl,by decide+kernel,rfl,by decide+kernel,by decide+kernel⟩
theorem Jx:aU ["thing", "points"] ["thing", "points"] (ak fM):=⟨rfl,rfl,rfl,by decide+kernel,rfl,by decide+kernel,by decide+kernel⟩
theorem Jy:aU ["self", "points", "ties"] ["self", "points", "ties"] (ak fO):=⟨rfl,rfl,rfl,by decide+kernel,rfl,by decide+kernel,by decide+kernel⟩
theorem Dc:aU ["self"] ["self"] (ak dF):=⟨rfl,rfl,rfl,by decide+kernel,rfl,by decide+kernel,by decide+kernel⟩
theorem Jz:aU ["self"] ["self"] (ak gD):=⟨rfl,rfl,rfl,by decide+kernel,rfl,by decide+kernel,by decide+kernel⟩
theorem JB:aU ["self"] ["self"] (ak gF):=⟨rfl,rfl,rfl,by decide+kernel,rfl,by decide+kernel,by decide+kernel⟩
theorem GX:aU ["web", "thing"] ["web", "thing"] (ak fD):=⟨rfl,rfl,rfl,by decide+kernel,rfl,by decide+kernel,by decide+kernel⟩
theorem LR:aU ["thing"] ["thing"] (ak iG):=⟨rfl,rfl,rfl,by decide+kernel,rfl,by decide+kernel,by decide+kernel⟩
theorem eO:aU ["web", "steps", "points", "point", "found"] ["web", "steps"] (ak bB):=⟨rfl,rfl,rfl,by decide+kernel,rfl,by decide+kernel,by decide+kernel⟩
theorem jW:aU ["web", "thing", "number", "lead"] ["web", "thing"] (ak cg):=⟨rfl,rfl,rfl,by decide+kernel,rfl,by decide+kernel,by decide+kernel⟩
theorem oH:aU ["fixed", "number", "lead", "more"] ["fixed", "number", "lead"] (ak cj):=⟨rfl,rfl,rfl,by decide+kernel,rfl,by decide+kernel,by decide+kernel⟩
theorem Bd:aU ["web", "fixed"] ["web", "fixed"] (ak cU):=⟨rfl,rfl,rfl,by decide+kernel,rfl,by decide+kernel,by decide+kernel⟩
theorem cN:aU ["web", "fixed", "lot", "barring", "number", "side"] ["web", "fixed"] (ak bG):=⟨rfl,rfl,rfl,by decide+kernel,rfl,by decide+kernel,by decide+kernel⟩
theorem GZ:aU ["web", "fixed"] ["web", "fixed"] (ak dU):=⟨rfl,rfl,rfl,by decide+kernel,rfl,by decide+kernel,by decide+kernel⟩
theorem lF:aU ["web", "fixed", "kept", "number"] ["web", "fixed"] (ak b_):=⟨rfl,rfl,rfl,by decide+kernel,rfl,by decide+kernel,by decide+kernel⟩
theorem Vq:aU ["_law_script", "_law_k", "_law_cell"] ["_law_script", "_law_k"] (ak vP):=⟨rfl,rfl,rfl,by decide+kernel,rfl,by decide+kernel,by decide+kernel⟩
theorem OJ:aU ["_law_pot_here", "_law_many", "_law_digit"] ["_law_pot_here", "_law_many"] (ak pD):=⟨rfl,rfl,rfl,by decide+kernel,rfl,by decide+kernel,by decide+kernel⟩
theorem oJ:aU ["_law_pot_here", "_law_many", "_law_letters", "_law_begin", "_law_found", "_law_k", "_law_more"] ["_law_pot_here", "_law_many"] (ak j6):=⟨rfl,rfl,rfl,by decide+kernel,rfl,by decide+kernel,by decide+kernel⟩
theorem Bf:aU ["_law_pot_here", "_law_things", "_law_found", "_law_thing"] ["_law_pot_here", "_law_things"] (ak lU):=⟨rfl,rfl,rfl,by decide+kernel,rfl,by decide+kernel,by decide+kernel⟩
theorem L_:aU ["_law_pot_here", "_law_names_here", "_law_a", "_law_b"] ["_law_pot_here", "_law_names_here"] (ak vQ):=⟨rfl,rfl,rfl,by decide+kernel,rfl,by decide+kernel,by decide+kernel⟩
theorem pH:aU ["_law_pot_here", "_law_points", "_law_most", "_law_names_here", "_law_kind", "_law_ties", "_law_row", "_law_k", "_law_turns"] ["_law_pot_here", "_law_points", "_law_most"] (ak qF):=⟨rfl,rfl,rfl,by decide+kernel,rfl,by decide+kernel,by decide+kernel⟩
theorem jX:aU ["_law_web_here", "_law_pointing", "_law_start", "_law_found", "_law_here", "_law_a", "_law_b", "_law_turn"] ["_law_web_here", "_law_pointing", "_law_start"] (ak iH):=⟨rfl,rfl,rfl,by decide+kernel,rfl,by decide+kernel,by decide+kernel⟩
theorem pI:aU ["_law_web_here", "_law_pointing", "_law_there", "_law_back"] ["_law_web_here", "_law_pointing"] (ak dW):=⟨rfl,rfl,rfl,by decide+kernel,rfl,by decide+kernel,by decide+kernel⟩
theorem QV:aU ["_law_web_here", "_law_lot"] ["_law_web_here", "_law_lot"] (ak ig):=⟨rfl,rfl,rfl,by decide+kernel,rfl,by decide+kernel,by decide+kernel⟩
theorem JC:aU ["_law_web_here", "_law_lot"] ["_law_web_here", "_law_lot"] (ak fP):=⟨rfl,rfl,rfl,by decide+kernel,rfl,by decide+kernel,by decide+kernel⟩
theorem JD:aU ["_law_web_here", "_law_lot", "_law_k", "_law_turn"] ["_law_web_here", "_law_lot", "_law_k", "_law_turn"] (ak gG):=⟨rfl,rfl,rfl,by decide+kernel,rfl,by decide+kernel,by decide+kernel⟩
theorem vU:aU ["_law_pot_here", "_law_web_here", "_law_often", "_law_found", "_law_k"] ["_law_pot_here", "_law_web_here"] (ak lV):=⟨rfl,rfl,rfl,by decide+kernel,rfl,by decide+kernel,by decide+kernel⟩
theorem Vr:aU ["_law_web_here", "_law_fixed_here"] ["_law_web_here", "_law_fixed_here"] (ak j7):=⟨rfl,rfl,rfl,by decide+kernel,rfl,by decide+kernel,by decide+kernel⟩
theorem sH:aU ["_law_web_here", "_law_k", "_law_a", "_law_b", "_law_rest"] ["_law_web_here", "_law_k"] (ak jy):=⟨rfl,rfl,rfl,by decide+kernel,rfl,by decide+kernel,by decide+kernel⟩
theorem Ma:aU ["_law_web_here", "_law_state_here", "_law_lot"] ["_law_web_here", "_law_state_here", "_law_lot"] (ak gU):=⟨rfl,rfl,rfl,by decide+kernel,rfl,by decide+kernel,by decide+kernel⟩
theorem Vs:aU ["_law_web_here", "_law_fixed_here", "_law_row"] ["_law_web_here", "_law_fixed_here", "_law_row"] (ak jz):=⟨rfl,rfl,rfl,by decide+kernel,rfl,by decide+kernel,by decide+kernel⟩
theorem vV:aU ["_law_made", "_law_fixed_here", "_law_found", "e"] ["_law_made", "_law_fixed_here"] (ak pF):=⟨rfl,rfl,rfl,by decide+kernel,rfl,by decide+kernel,by decide+kernel⟩
theorem rB:aU ["_law_made", "_law_web_here", "_law_fixed_here", "_law_state_here", "_law_word", "_law_told", "_law_barring"] ["_law_made", "_law_web_here", "_law_fixed_here"] (ak j8):=⟨rfl,rfl,rfl,by decide+kernel,rfl,by decide+kernel,by decide+kernel⟩
theorem j9:aU ["_law_made", "_law_fixed_here", "_law_word", "_law_told", "_law_kept"] ["_law_made", "_law_fixed_here"] (ak dG):=⟨rfl,rfl,rfl,by decide+kernel,rfl,by decide+kernel,by decide+kernel⟩
theorem uJ:aU ["_law_script", "_law_k", "_law_pot_here", "_law_web_here", "_law_made", "_law_fixed_here", "_law_kept"] ["_law_script"] (ak vR):=⟨rfl,rfl,rfl,by decide+kernel,rfl,by decide+kernel,by decide+kernel⟩
set_option genInjectivity false in
structure Adr where
  cW:Addr
  jA:FuncData
  dH:Addr
  j_:FuncData
  cX:Addr
  jB:FuncData
  pJ:Addr
  zu:FuncData
  dX:Addr
  lW:FuncData
  cH:Addr
  jC:FuncData
  iI:Addr
  pK:FuncData
  gH:Addr
  mZ:FuncData
  iJ:Addr
  pL:FuncData
  dI:Addr
  kh:FuncData
  jD:Addr
  sI:FuncData
  gJ:Addr
  m5:FuncData
  fQ:Addr
  m6:FuncData
  cY:Addr
  kj:FuncData
  fU:Addr
  m7:FuncData
  fV:Addr
  m8:FuncData
  fG:Addr
  lX:FuncData
  iK:Addr
  pO:FuncData
  bH:Addr
  eU:FuncData
  bU:Addr
  gq:FuncData
  cu:Addr
  iM:FuncData
  cZ:Addr
  jE:FuncData
  bI:Addr
  eV:FuncData
  fH:Addr
  lY:FuncData
  cI:Addr
  jf:FuncData
  vW:Addr
  G3:FuncData
  pP:Addr
  zx:FuncData
  lZ:Addr
  vX:FuncData
  mj:Addr
  vY:FuncData
  vZ:Addr
  G4:FuncData
  wg:Addr
  G5:FuncData
  iQ:Addr
  pQ:FuncData
  fJ:Addr
  mq:FuncData
  jF:Addr
  sJ:FuncData
  gK:Addr
  m9:FuncData
  gM:Addr
  m_:FuncData
  mz:Addr
  wj:FuncData
  mC:Addr
  wk:FuncData
  jG:Addr
  sO:FuncData
  iR:Addr
  pR:FuncData
  kE:Addr
  rC:FuncData
  pU:Addr
  zy:FuncData
  mD:Addr
  wu:FuncData
  dJ:Addr
  kI:FuncData
  yG:Addr
  G6:FuncData
  jY:Value
  eE:Value
  fW:Value
  iw:Value
  bT:Addr
  aN:Addr
  fK:Addr
  cC:Addr
  bR:Addr
  aW:Addr
def qby (a:Adr):List Addr:=[a.fK,a.cC,a.bR,a.aW]
structure Txt (K:W.Frag) (mg:Str→Option Value) (a:Adr):Prop where
  kJ:jO K "steps_along" "steps_along" cQ a.cW a.jA
  nP:Binds K a.jA ["web", "fixed"] []
  nQ:mg "steps_along" = some (.ref a.cW)
  pW:jO K "ways_along" "ways_along" dD a.dH a.j_
  wz:Binds K a.j_ ["start", "steps"] []
  wA:mg "ways_along" = some (.ref a.dH)
  kO:jO K "found_along" "found_along" cG a.cX a.jB
  nR:Binds K a.jB ["web", "start", "steps"] []
  nU:mg "found_along" = some (.ref a.cX)
  Mf:jO K "bars" "bars" nO a.pJ a.zu
  Vt:Binds K a.zu ["web"] []
  Vu:mg "bars" = some (.ref a.pJ)
  yH:jO K "__init__" "Shut.__init__" fC a.dX a.lW
  yI:Binds K a.lW ["self", "lot"] []
  tZ:jO K "__init__" "Barred.__init__" cR a.cH a.jC
  t_:Binds K a.jC ["self", "tie", "lot"] []
  oK:jO K "is_list" "is_list" iD a.iI a.pK
  sS:Binds K a.pK ["thing"] []
  sU:mg "is_list" = some (.ref a.iI)
  pX:jO K "is_whole" "is_whole" gC a.gH a.mZ
  uK:Binds K a.mZ ["thing"] []
  uL:mg "is_whole" = some (.ref a.gH)
  sV:jO K "is_name" "is_name" gR a.iJ a.pL
  xQ:Binds K a.pL ["thing"] []
  xR:mg "is_name" = some (.ref a.iJ)
  pY:jO K "are_points" "are_points" cT a.dI a.kh
  wB:Binds K a.kh ["thing"] []
  wC:mg "are_points" = some (.ref a.dI)
  Bg:jO K "is_tie" "is_tie" jc a.jD a.sI
  JF:Binds K a.sI ["thing", "points"] []
  JG:mg "is_tie" = some (.ref a.jD)
  uM:jO K "are_ties" "are_ties" fM a.gJ a.m5
  Bh:Binds K a.m5 ["thing", "points"] []
  Bj:mg "are_ties" = some (.ref a.gJ)
  Bk:jO K "__init__" "Web.__init__" fO a.fQ a.m6
  Bl:Binds K a.m6 ["self", "points", "ties"] []
  wD:jO K "points" "Web.points" dF a.cY a.kj
  pZ:Binds K a.kj ["self"] []
  Bm:jO K "ties" "Web.ties" gD a.fU a.m7
  uN:Binds K a.m7 ["self"] []
  Bo:jO K "many" "Web.many" gF a.fV a.m8
  p7:Binds K a.m8 ["self"] []
  rD:jO K "is_number" "is_number" fD a.fG a.lX
  yJ:Binds K a.lX ["web", "thing"] []
  yK:mg "is_number" = some (.ref a.fG)
  xT:jO K "is_lead" "is_lead" iG a.iK a.pO
  Et:Binds K a.pO ["thing"] []
  Eu:mg "is_lead" = some (.ref a.iK)
  iy:jO K "lot_without_way_in" "lot_without_way_in" bB a.bH a.eU
  k_:Binds K a.eU ["web", "steps"] []
  lg:mg "lot_without_way_in" = some (.ref a.bH)
  lG:jO K "sure_of_fixed" "sure_of_fixed" cg a.bU a.gq
  qG:Binds K a.gq ["web", "thing"] []
  qH:mg "sure_of_fixed" = some (.ref a.bU)
  lH:jO K "with_one_more" "with_one_more" cj a.cu a.iM
  qI:Binds K a.iM ["fixed", "number", "lead"] []
  qJ:mg "with_one_more" = some (.ref a.cu)
  kW:jO K "lot_shut_by" "lot_shut_by" cU a.cZ a.jE
  nW:Binds K a.jE ["web", "fixed"] []
  nY:mg "lot_shut_by" = some (.ref a.cZ)
  iz:jO K "sure_of_a_pointing" "sure_of_a_pointing" bG a.bI a.eV
  lq:Binds K a.eV ["web", "fixed"] []
  lu:mg "sure_of_a_pointing" = some (.ref a.bI)
  rE:jO K "free_ties" "free_ties" dU a.fH a.lY
  yL:Binds K a.lY ["web", "fixed"] []
  yM:mg "free_ties" = some (.ref a.fH)
  mQ:jO K "pointed_with" "pointed_with" b_ a.cI a.jf
  rF:Binds K a.jf ["web", "fixed"] []
  rG:mg "pointed_with" = some (.ref a.cI)
  Vv:jO K "_law_pot" "_law_pot" vP a.vW a.G3
  Z5:Binds K a.G3 ["_law_script", "_law_k"] []
  Z6:mg "_law_pot" = some (.ref a.vW)
  jj:jO K "_law_take" "_law_take" pD a.pP a.zx
  jH:Binds K a.zx ["_law_pot_here", "_law_many"] []
  jJ:mg "_law_take" = some (.ref a.pP)
  G7:jO K "_law_names" "_law_names" j6 a.lZ a.vX
  O1:Binds K a.vX ["_law_pot_here", "_law_many"] []
  O2:mg "_law_names" = some (.ref a.lZ)
  wF:jO K "_law_mixed" "_law_mixed" lU a.mj a.vY
  zA:Binds K a.vY ["_law_pot_here", "_law_things"] []
  zB:mg "_law_mixed" = some (.ref a.mj)
  Vw:jO K "_law_tie" "_law_tie" vQ a.vZ a.G4
  Z7:Binds K a.G4 ["_law_pot_here", "_law_names_here"] []
  Z8:mg "_law_tie" = some (.ref a.vZ)
  Vx:jO K "_law_web" "_law_web" qF a.wg a.G5
  Z9:Binds K a.G5 ["_law_pot_here", "_law_points", "_law_most"] []
  Z_:mg "_law_web" = some (.ref a.wg)
  oM:jO K "_law_reached" "_law_reached" iH a.iQ a.pQ
  sW:Binds K a.pQ ["_law_web_here", "_law_pointing", "_law_start"] []
  sX:mg "_law_reached" = some (.ref a.iQ)
  ni:jO K "_law_is_strong" "_law_is_strong" dW a.fJ a.mq
  rJ:Binds K a.mq ["_law_web_here", "_law_pointing"] []
  rK:mg "_law_is_strong" = some (.ref a.fJ)
  wG:jO K "_law_is_lot" "_law_is_lot" ig a.jF a.sJ
  Bp:Binds K a.sJ ["_law_web_here", "_law_lot"] []
  Bq:mg "_law_is_lot" = some (.ref a.jF)
  qe:jO K "_law_crossing" "_law_crossing" fP a.gK a.m9
  uO:Binds K a.m9 ["_law_web_here", "_law_lot"] []
  uP:mg "_law_crossing" = some (.ref a.gK)
  uQ:jO K "_law_leads_in" "_law_leads_in" gG a.gM a.m_
  Br:Binds K a.m_ ["_law_web_here", "_law_lot", "_law_k", "_law_turn"] []
  Bs:mg "_law_leads_in" = some (.ref a.gM)
  G8:jO K "_law_fixed" "_law_fixed" lV a.mz a.wj
  O4:Binds K a.wj ["_law_pot_here", "_law_web_here"] []
  O5:mg "_law_fixed" = some (.ref a.mz)
  G9:jO K "_law_state" "_law_state" j7 a.mC a.wk
  O6:Binds K a.wk ["_law_web_here", "_law_fixed_here"] []
  O7:mg "_law_state" = some (.ref a.mC)
  Bt:jO K "_law_bars" "_law_bars" jy a.jG a.sO
  JH:Binds K a.sO ["_law_web_here", "_law_k"] []
  JK:mg "_law_bars" = some (.ref a.jG)
  xU:jO K "_law_is_left" "_law_is_left" gU a.iR a.pR
  Ew:Binds K a.pR ["_law_web_here", "_law_state_here", "_law_lot"] []
  Ey:mg "_law_is_left" = some (.ref a.iR)
  G_:jO K "_law_keeps" "_law_keeps" jz a.kE a.rC
  O8:Binds K a.rC ["_law_web_here", "_law_fixed_here", "_law_row"] []
  O9:mg "_law_keeps" = some (.ref a.kE)
  Bu:jO K "_law_said" "_law_said" pF a.pU a.zy
  Hg:Binds K a.zy ["_law_made", "_law_fixed_here"] []
  Hh:mg "_law_said" = some (.ref a.pU)
  wH:jO K "_law_right" "_law_right" j8 a.mD a.wu
  zE:Binds K a.wu ["_law_made", "_law_web_here", "_law_fixed_here"] []
  zF:mg "_law_right" = some (.ref a.mD)
  qg:jO K "_law_told_again" "_law_told_again" dG a.dJ a.kI
  wI:Binds K a.kI ["_law_made", "_law_fixed_here"] []
  wJ:mg "_law_told_again" = some (.ref a.dJ)
  qaa:jO K "law" "law" vR a.yG a.G6
  qdU:Binds K a.G6 ["_law_script"] []
  qdV:mg "law" = some (.ref a.yG)
  Ez:mg "LETTERS" = some a.jY
  EY:RelV (.str "abcdefghijklmnopqrstuvwxyz") a.jY
  rM:mg "MOST_LETTERS" = some a.eE
  rN:RelV (.int 4) a.eE
  uc:mg "MOST_POINTS" = some a.fW
  ud:RelV (.int 9) a.fW
  yN:mg "MOST_TIES" = some a.iw
  yO:RelV (.int 20) a.iw
  qab:mg "Web" = some (.ref a.bT)
  oN:Cls K a.bT
  Hi:lB K a.bT "names"
  zG:lB K a.bT "pairs"
  qac:Mk K a.bT a.fQ
  qj:Meth K a.bT "points" a.cY
  uR:Meth K a.bT "ties" a.fU
  ql:Meth K a.bT "many" a.fV
  qm:mg "PointError" = some (.ref a.aN)
  Yt:mg "NoWeb" = some (.ref a.fK)
  QW:mg "NoFixed" = some (.ref a.cC)
  Mg:mg "Shut" = some (.ref a.bR)
  Bv:mg "Barred" = some (.ref a.aW)
  gO:GD K a.aN
  wK:GD K a.fK
  oO:GD K a.cC
  Vy:XC K a.fK a.aN
  Mh:XC K a.cC a.aN
  wL:XC K a.bR a.aN
  jZ:XC K a.aW a.aN
  ib:W.isClsIn K a.aN=true
  tb:W.typeIn K (.ref a.aN)=some (.type "type")
  ini:qdM K a.aN
  JL:W.specialIn K (.builtin "object.__class__") "__get__" = some (some (.builtin "getset_descriptor.__get__"))
  JM:W.takesIn K (.builtin "object.__class__")=some true
  nd:(a.aN::qby a).Nodup
  jK:mg "ValueError" = none
  wM:ZS K a.bR a.aN a.dX
  O_:uH K a.bR a.aN
  iB:W.findIn K (.ref a.bR) "lot" = some none
  oR:ZS K a.aW a.aN a.cH
  xV:uH K a.aW a.aN
  fX:W.findIn K (.ref a.aW) "tie" = some none
  fY:W.findIn K (.ref a.aW) "lot" = some none
  nm:Nm mg
  LC:Nm2 mg
  nm3:Nm3 mg
end K41
namespace K41
open PySem L2
variable {P:Program} {w:World} {K:W.Frag} {mg:Str→Option Value} {base:Heap} {a:Adr}
def jP (H:Hp) (p:Addr):Prop:=∃x y:Int,H p=some (.lst [.int x,.int y])∧0≤x∧0≤y∧y<4294967296
def qbz (K:W.Frag):Sp:=fun vs H Q _=>∃(l:Addr) (ns:List Int) (k:Nat),vs=[.ref l,.int k]∧aY K H l (ns.map V.int)∧k<100∧∀p H',H p=none→jP H' p→But p H H'→Q (.ref p) H'
def Yu:Sp:=fun vs H Q _=>∃(p:Addr) (m:Int),vs=[.ref p,.int m]∧jP H p∧0<m∧m<1000000∧∀(d:Int) H',0≤d→d<m→jP H' p→But p H H'→Q (.int d) H'
theorem qbA (T:Txt K mg a):bV P w K mg base jN 1 a.vW a.G3 ["_law_script", "_law_k"] (qbz K):=by
  refine T.Vv.nJ Vq (fun vs H Q E h=>?_) (fun cdv A outer s H vs Q E hr h=>?_)
  ·obtain⟨l,ns,k,rfl,_⟩:=h;rfl
  · obtain⟨l,ns,k,rfl,hS,hk,q⟩:=h;refine⟨_,(aB (bK (i:=2) Vq.nd rfl (Or.inl rfl) (Ib (bA uz (aL 1) (aM (cD (K:=K) rfl) rfl T.nm.len PySem.boot_len (aj (aL 0) aq)) (bQ _)) (bJ (bM (K:=K) rfl) (aL 0) (aL 1) (fun _ _=>rfl)) aJ))
      (aG (aZ (jh (aj (aM (Ao rfl) rfl T.nm.max boot_max (aj aJ (aj (dZ vH (aM Ef rfl T.nm.abs boot_abs (aj (aL 2) aq)) (dZ X8 aJ aJ)) aq))) (aj (dZ j4 (dZ j4 (dZ sE (aM Ef rfl T.nm.abs boot_abs (aj (aL 2) aq)) aJ) (dZ zp aJ (aL 1))) aJ) aq)))))),?_⟩
    have fin:∀(x y:Int),0≤x→0≤y→y<4294967296→∀p:Addr,H p=none→Q (.ref p) (upd H p (.lst [.int x,.int y])):=fun x y h1 h2 h3 p hp=>
      q p _ hp ⟨x,y,ao,h1,h2,h3⟩ fun b o hb e=>by rw[aD hb];exact e
    simp -dsimp[au,stC,-Bool.exists_bool,-List.map_take,-Prod.forall,-Prod.exists];refine⟨_,.inl hS,gb.of (fun h=>?_) (fun h=>?_)⟩
    · have hlt:k<ns.length:=by simpa using h
      simp -dsimp[au,stC,-Bool.exists_bool,-List.map_take,-Prod.forall,-Prod.exists];refine⟨_,.inl hS,.int (ns[k]'hlt),aR (by simp[hlt]),?_⟩;simp -dsimp[au,stC,-Bool.exists_bool,-List.map_take,-Prod.forall,-Prod.exists];exact fin _ _ (zpa _) (zpb _ _) (zpc _ hk)
    ·simp -dsimp[au,stC,-Bool.exists_bool,-List.map_take,-Prod.forall,-Prod.exists];exact fin _ _ (by first | omega | (split <;> omega)) (by omega) (by omega)
theorem iT (T:Txt K mg a):bV P w K mg base jN 1 a.pP a.zx ["_law_pot_here", "_law_many"] Yu:=by
  refine T.jj.nJ OJ (fun vs H Q E h=>?_) (fun cdv A outer s H vs Q E hr h=>?_)
  ·obtain⟨p,m,rfl,_⟩:=h;rfl
  · obtain⟨p,m,rfl,⟨x,y,hp,hx,hy,hy2⟩,hm,hm2,q⟩:=h;refine⟨_,(aB (dM (bA Ak (bJ (bM (K:=K) rfl) (aL 0) aJ (fun _ _=>rfl)) aJ (bQ _)) (aB (wZ (aM Gy rfl T.nm.divmod boot_divmod (aj (bJ (bM (K:=K) rfl) (aL 0) aJ (fun _ _=>rfl)) (aj (aL 1) aq))) (PG.eqv (fj (K:=K) (n:=2) rfl rfl (jg.eqv (bw (R5 (aL 0) aJ Ei) (jg.eqv (bw (aQ (i:=2) OJ.nd rfl (Or.inl rfl)) (jg.mono eZ g_)) (bx _ _))) (bx _ _))) (fB _ _ _)))
      (aG (aZ (aL 2)))) bN)
      (aB (wZ (dZ sE (dZ j4 (dZ zp (bJ (bM (K:=K) rfl) (aL 0) aJ (fun _ _=>rfl)) aJ) aJ) aJ) (R5 (aL 0) aJ Ei))
      (aG (aZ (dZ sE (dZ U9 (dZ sE (dZ zp (bJ (bM (K:=K) rfl) (aL 0) aJ (fun _ _=>rfl)) (bJ (bM (K:=K) rfl) (aL 0) aJ (fun _ _=>rfl))) aJ) aJ) (aL 1)))))),?_⟩
    have hl:aY K H p [.int x,.int y]:=aY.of hp;simp -dsimp[au,stC,-Bool.exists_bool,-List.map_take,-Prod.forall,-Prod.exists];refine⟨_,.inl hl,_,aR (j:=0) rfl,?_⟩;simp -dsimp[au,stC,-Bool.exists_bool,-List.map_take,-Prod.forall,-Prod.exists];refine gb.of (fun h=>?_) (fun h=>?_)
    ·simp -dsimp[au,stC,-Bool.exists_bool,-List.map_take,-Prod.forall,-Prod.exists];refine⟨_,.inl hl,_,aR (j:=0) rfl,?_⟩;simp -dsimp[au,stC,-Bool.exists_bool,-List.map_take,-Prod.forall,-Prod.exists];refine⟨⟨hm,by omega⟩,fun t ht=>?_⟩;have npt:p≠t:=aP hp ht;refine⟨_,dz.of ao,rfl,_,(by rw[aD npt];exact hp),0,rfl,?_⟩;refine q _ _ (Int.emod_nonneg _ (by omega)) (Int.emod_lt_of_pos _ hm) ⟨_,_,ao,Int.ediv_nonneg hx (by omega),hy,hy2⟩ fun b o hb e=>?_;rw[aD hb,aD (aP e ht)];exact e
    ·have z0:0≤(y * 48271+12345) % 2147483647:=Int.emod_nonneg _ (by decide);have z1:(y * 48271+12345) % 2147483647<2147483647:=Int.emod_lt_of_pos _ (by decide);simp -dsimp[au,stC,-Bool.exists_bool,-List.map_take,-Prod.forall,-Prod.exists];refine⟨_,.inl hl,_,aR (j:=1) rfl,?_⟩;simp -dsimp[au,stC,-Bool.exists_bool,-List.map_take,-Prod.forall,-Prod.exists];refine⟨_,hp,1,rfl,_,.inl (aY.of ao),_,aR (j:=1) rfl,_,.inl (aY.of ao),_,aR (j:=1) rfl,?_⟩;simp -dsimp[au,stC,-Bool.exists_bool,-List.map_take,-Prod.forall,-Prod.exists];refine⟨⟨by omega,by omega⟩,hm,?_⟩;refine q _ _ (Int.emod_nonneg _ (by omega)) (Int.emod_lt_of_pos _ hm) ⟨_,_,ao,hx,z0,by omega⟩ fun b o hb e=>?_;rw[aD hb];exact e
def Mi:Sp:=fun vs H Q _=>∃p xs,vs=[.ref p]∧Sq H p xs∧∀H',Same H H'→Q (.bl true) H'
theorem uT (T:Txt K mg a):bV P w K mg base jN 1 a.iI a.pK ["thing"] Mi:=by
  refine T.oK.nJ LK (fun vs H Q E h=>?_) (fun cdv A outer s H vs Q E hr h=>?_)
  ·obtain⟨p,xs,rfl,_⟩:=h;rfl
  · obtain⟨p,xs,rfl,hp,q⟩:=h;refine⟨_,(aG (aZ (aM (qbr (K:=K) rfl) rfl T.nm.isinstance boot_isinstance (aj (aL 0) (aj (iW (aj (je (v:=.ty "list") rfl T.nm.list boot_list rfl) (aj (je (v:=.ty "tuple") rfl T.nm.tuple boot_tuple rfl) aq))) aq))))),?_⟩;simp -dsimp[au,stC,-Bool.exists_bool,-List.map_take,-Prod.forall,-Prod.exists];refine fun t ht=>⟨_,_,ao,?_⟩
    rcases(hp.same (aA ht)).ty (K:=K) with ty | ty
    ·exact⟨_,ty,true,by simp[W.kitAny,W.kitOne],q _ (aA ht)⟩
    ·exact⟨_,ty,true,by simp[W.kitAny,W.kitOne];rfl,q _ (aA ht)⟩
def Mj:Sp:=fun vs H Q _=>∃x,vs=[.str x]∧x.length≤sizeLine∧∀H',Same H H'→Q (.bl (nameB x)) H'
theorem Bw (T:Txt K mg a):bV P w K mg base jN 1 a.iJ a.pL ["thing"] Mj:=by
  refine T.sV.nJ LQ (fun vs H Q E h=>?_) (fun cdv A outer s H vs Q E hr h=>?_)
  ·obtain⟨x,rfl,_⟩:=h;rfl
  · obtain⟨x,rfl,hx,q⟩:=h;refine⟨_,(aB (dM (PW.pt (qy (eY (cM (aM (nH (K:=K) rfl) rfl T.nm.isinstance boot_isinstance (aj (aL 0) (aj (je (v:=.ty "str") rfl T.nm.str boot_str rfl) aq))))) (nu (eY (Ec uD uD aJ (aM qbq rfl T.nm.len PySem.boot_len (aj (aL 0) aq)) (za rfl T.rM T.rN)))))) (aG (aZ ou)) bN)
      (aG (aZ (aM (jt rfl) rfl T.nm.all jm (aj (eG rfl rfl (show aX (ak gR) _ ["thing"] ["sign"] [] ["sign"] from⟨rfl,by decide+kernel,by decide+kernel,rfl,by decide+kernel,by decide+kernel⟩) rfl (PI.eqv (qaR (aL 0)) (U6 _)) (fun C s H fp pn=>(aQ (i:=0) (show(["sign"]:List Str).Nodup by decide+kernel) rfl (Or.inl rfl))) (fun C s H fp pn=>f9) (fun C s H fp pn=>(dB (qi5 (K:=K) rfl) (aL 0) (za rfl T.Ez T.EY) rfl))) aq))))),?_⟩
    simp -dsimp[au,stC,-Bool.exists_bool,-List.map_take,-Prod.forall,-Prod.exists];refine⟨_,.str x,_,yu K,gb.neg rfl ?_⟩;simp -dsimp[au,stC,-Bool.exists_bool,-List.map_take,-Prod.forall,-Prod.exists];refine⟨hx,gb.of (fun h1=>?_) (fun h1=>?_)⟩
    · have h1':1≤x.length:=by simp at h1;omega
      simp -dsimp[au,stC,-Bool.exists_bool,-List.map_take,-Prod.forall,-Prod.exists];refine gb.of (fun h2=>?_) (fun h2=>?_)
      · have h2':¬x.length≤4:=by simp at h2;omega
        have e:nameB x=false:=by
          unfold nameB;rw[decide_eq_false h2'];simp
        rw[e] at q;simp -dsimp[au,stC,-Bool.exists_bool,-List.map_take,-Prod.forall,-Prod.exists];exact q H (Same.refl H)
      · have h2':x.length≤4:=by simp at h2;omega
        simp -dsimp[au,stC,-Bool.exists_bool,-List.map_take,-Prod.forall,-Prod.exists];refine fun D hD=>cmS (fun i σ' H'=>(∃o,σ'=[o])∧Same H H'∧H' D=some (.lst ((x.cps.toList.take i).map fun c=>.bl (WD c)))) ⟨⟨none,rfl⟩,aA hD,by simpa using ao⟩ ?_ ?_
        · rintro i c σ' H' hc ⟨⟨o,rfl⟩,sm,Dd⟩;have h4:4<sizeLine:=by decide
          have hsz:x.cps.size=x.length:=rfl;simp -dsimp[au,stC,-Bool.exists_bool,-List.map_take,-Prod.forall,-Prod.exists];refine⟨_,Dd,by simp;omega,aV sm hD,?_⟩;rw[ao,take_one (l:=x.cps.toList) (x:=c) (by simpa using hc),List.map_append];rfl
        · rintro σ' H' ⟨⟨o,rfl⟩,sm,Dd⟩;simp -dsimp[au,stC,-Bool.exists_bool,-List.map_take,-Prod.forall,-Prod.exists];refine⟨_,Dd,_,DX WD _,?_⟩;rw[K7];have e:nameB x=(x.cps.toList.take x.cps.size).all WD:=by
            unfold nameB;rw[decide_eq_true h1',decide_eq_true h2',show x.cps.toList.take x.cps.size=x.cps.toList from List.take_of_length_le (by simp)];rfl
          rw[← e];exact q H' sm
    · have h1':¬1≤x.length:=by simp at h1;omega
      have e:nameB x=false:=by
        unfold nameB;rw[decide_eq_false h1'];simp
      rw[e] at q;simp -dsimp[au,stC,-Bool.exists_bool,-List.map_take,-Prod.forall,-Prod.exists];exact q H (Same.refl H)
theorem Vz {xs:List Str} {i:Nat} {x:V} (h:(xs.map V.str)[i]? = some x):∃z,z∈xs∧x = .str z:=by
  rw[List.getElem?_map] at h;cases e:xs[i]? with
  | none=>rw[e] at h;cases h
  | some z=>
    rw[e] at h;exact⟨z,List.mem_of_getElem? e,(Option.some.inj h).symm⟩
theorem Bx {x:Str} (h:nameB x=true):x.length≤sizeLine:=by
  unfold nameB at h;simp at h;have h4:4≤sizeLine:=by decide
  omega
theorem ju:∀n,tV (List.replicate n (.bl true)) (List.replicate n true)
  | 0=>rfl
  | n+1=>⟨true,_,rfl,rfl,ju n⟩
theorem BJ:∀xs:List Str,keysOf (xs.map V.str)=xs.map Sum.inr
  | []=>rfl
  | x::xs=>by
    show Sum.inr x::keysOf (xs.map V.str)=_;rw[BJ xs];rfl
theorem qbB {xs:List Str} (h:xs.Nodup):(CT (fun i=>(keysOf (xs.map V.str))[i]?.getD (Sum.inl 0)) (xs.map V.str).length).length=xs.length:=by
  rw[BJ,List.length_map];refine(Tz _ xs.length fun i j hi hj e=>?_).1;simp[hi,hj] at e;exact(List.getElem_inj h).mp e
structure Pa (xs:List Str):Prop where
  len:1≤xs.length∧xs.length≤9
  nm:∀x∈xs,nameB x=true
  nd:xs.Nodup
def Df:Sp:=fun vs H Q _=>∃p xs,vs=[.ref p]∧Sq H p (xs.map V.str)∧Pa xs∧∀H',Same H H'→Q (.bl true) H'
theorem Dg (T:Txt K mg a):bV P w K mg base jN 2 a.dI a.kh ["thing"] Df:=by
  refine T.pY.nJ C_ (fun vs H Q E h=>?_) (fun cdv A outer s H vs Q E hr h=>?_)
  ·obtain⟨p,xs,rfl,_⟩:=h;rfl
  · obtain⟨p,xs,rfl,hp,hx,q⟩:=h;refine⟨_,(aB (dM (PW.pt (qy (eY (cM (PE.eqv (aO (uT (K:=K) T) (hr.mono (by decide)) rfl T.sU T.oK.kp T.sS .nil bh (aj (aL 0) aq)) (aK _ _ _)))) (nu (eY (Ec uD uD aJ (aM (cD (K:=K) rfl) rfl T.nm.len PySem.boot_len (aj (aL 0) aq)) (za rfl T.uc T.ud)))))) (aG (aZ ou)) bN)
      (aG (aZ (gY (aM (jt rfl) rfl T.nm.all jm (aj (eG rfl rfl (show aX (ak cT) _ ["thing"] ["one"] [] ["one"] from⟨rfl,by decide+kernel,by decide+kernel,rfl,by decide+kernel,by decide+kernel⟩) rfl (PI.eqv (zf (K:=K) rfl (aL 0)) (vJ _ _)) (fun C s H fp pn=>(aQ (i:=0) (show(["one"]:List Str).Nodup by decide+kernel) rfl (Or.inl rfl))) (fun C s H fp pn=>f9) (fun C s H fp pn=>(PE.eqv (aO (Bw (K:=K) T) (hr.mono (by decide)) rfl T.xR T.sV.kp T.xQ .nil bh (aj (aL 0) aq)) (aK _ _ _)))) aq)) (lA (dB jV (aM Qo rfl T.nm.len PySem.boot_len (aj (gP (Qn rfl) rfl T.nm.set Qk (aj (aL 0) aq)) aq)) (aM (cD (K:=K) rfl) rfl T.nm.len PySem.boot_len (aj (aL 0) aq)) (bQ _))))))),?_⟩
    have hl:=hx.len;have h60:60<sizeLine:=by decide
    simp -dsimp[au,stC,-Bool.exists_bool,-List.map_take,-Prod.forall,-Prod.exists];refine⟨p,_,rfl,hp,fun H1 s1=>?_⟩;have hp1:=hp.same s1;simp -dsimp[au,stC,-Bool.exists_bool,-List.map_take,-Prod.forall,-Prod.exists];refine⟨_,hp1.q,gb.pos (by simp;omega) ?_⟩;simp -dsimp[au,stC,-Bool.exists_bool,-List.map_take,-Prod.forall,-Prod.exists];refine gb.neg (by simp;omega) ?_;obtain⟨b,hb⟩:=hp.b;simp -dsimp[au,stC,-Bool.exists_bool,-List.map_take,-Prod.forall,-Prod.exists];refine⟨b,⟨_,hb K H1 s1⟩,fun D hD=>cmQ (xs.map V.str) (fun i σ' H'=>(∃o,σ'=[o])∧Same H1 H'∧H' D=some (.lst (List.replicate i (.bl true)))) ⟨⟨none,rfl⟩,aA hD,ao⟩ (fun i σ' H' _ h=>hb K H' (s1.trans h.2.1)) ?_ ?_⟩
    · rintro i x σ' H' hi ⟨⟨o,rfl⟩,sm,Dd⟩;obtain⟨z,hz,rfl⟩:=Vz hi;have hi2:i<xs.length:=by simpa using (List.getElem?_eq_some_iff.mp hi).1
      simp -dsimp[au,stC,-Bool.exists_bool,-List.map_take,-Prod.forall,-Prod.exists];refine⟨z,rfl,Bx (hx.nm z hz),fun H2 s2=>?_⟩;simp -dsimp[au,stC,-Bool.exists_bool,-List.map_take,-Prod.forall,-Prod.exists];refine⟨_,s2 _ _ Dd,by simp;omega,aV (sm.trans s2) hD,?_⟩;rw[ao,hx.nm z hz,← List.replicate_succ']
    ·rintro σ' H' ⟨⟨o,rfl⟩,sm,Dd⟩;have hp2:=hp1.same sm;simp -dsimp[au,stC,-Bool.exists_bool,-List.map_take,-Prod.forall,-Prod.exists];refine⟨_,Dd,_,ju _,?_⟩;rw[show(List.replicate (xs.map V.str).length true).all id=true by simp];simp -dsimp[au,stC,-Bool.exists_bool,-List.map_take,-Prod.forall,-Prod.exists];refine⟨_,hp2.q,by simp[isKey],by simp;unfold scanBound;omega,fun t ht=>⟨_,ao,_,(hp2.same (aA ht)).q,?_⟩⟩;rw[decide_eq_true (by rw[qbB hx.nd];simp)];exact q _ (s1.trans (sm.trans (aA ht)))
theorem Yv {x:Str} {xs:List Str} (h:x∈xs):inV (.str x) (xs.map V.str)=true:=by
  unfold inV;rw[List.any_eq_true];exact⟨.str x,List.mem_map.mpr ⟨x,h,rfl⟩,by simp[Qd]⟩
theorem VB (xs:List Str):(xs.map V.str).all jl=true:=by
  rw[List.all_eq_true];intro v hv;obtain⟨x,_,rfl⟩:=List.mem_map.mp hv;rfl
def QX:Sp:=fun vs H Q _=>∃t p x y xs,vs=[.ref t,.ref p]∧Sq H t [.str x,.str y]∧Sq H p (xs.map V.str)∧Pa xs∧x∈xs∧y∈xs∧x≠y∧∀H',Same H H'→Q (.bl true) H'
theorem QZ (T:Txt K mg a):bV P w K mg base jN 2 a.jD a.sI ["thing", "points"] QX:=by
  refine T.Bg.nJ QT (fun vs H Q E h=>?_) (fun cdv A outer s H vs Q E hr h=>?_)
  ·obtain⟨t,p,x,y,xs,rfl,_⟩:=h;rfl
  · obtain⟨t,p,x,y,xs,rfl,ht,hp,hx,RN,hym,hne,q⟩:=h;refine⟨_,(aB (dM (PW.pt (qy (eY (cM (PE.eqv (aO (uT (K:=K) T) (hr.mono (by decide)) rfl T.sU T.oK.kp T.sS .nil bh (aj (aL 0) aq)) (aK _ _ _)))) (nu (bA nG (aM (cD (K:=K) rfl) rfl T.nm.len PySem.boot_len (aj (aL 0) aq)) aJ (bQ _))))) (aG (aZ ou)) bN)
      (aB (dM (eY (cM (aM (jt rfl) rfl T.nm.all jm (aj (eG rfl rfl (show aX (ak jc) _ ["thing", "points"] ["end"] [1] ["end", "points"] from⟨rfl,by decide+kernel,by decide+kernel,rfl,by decide+kernel,by decide+kernel⟩) rfl (PI.eqv (zf (K:=K) rfl (aL 0)) (vJ _ _)) (fun C s H fp pn=>(aQ (i:=0) (show(["end", "points"]:List Str).Nodup by decide+kernel) rfl (Or.inl rfl))) (fun C s H fp pn=>f9) (fun C s H fp pn=>(gY (PE.eqv (aO (Bw (K:=K) T) (hr.mono (by decide)) rfl T.xR T.sV.kp T.xQ .nil bh (aj (aL 0) aq)) (aK _ _ _)) (lA (dB (Jm (K:=K) rfl) (aL 0) (aL 1) rfl))))) aq)))) (aG (aZ ou)) bN)
      (aG (aZ (dB nG (bJ (bM (K:=K) rfl) (aL 0) aJ (fun _ _=>rfl)) (bJ (bM (K:=K) rfl) (aL 0) aJ (fun _ _=>rfl)) (bQ _)))))),?_⟩
    have h60:60<sizeLine:=by decide
    simp -dsimp[au,stC,-Bool.exists_bool,-List.map_take,-Prod.forall,-Prod.exists];refine⟨t,_,rfl,ht,fun H1 s1=>?_⟩;simp -dsimp[au,stC,-Bool.exists_bool,-List.map_take,-Prod.forall,-Prod.exists];refine⟨_,(ht.same s1).q,false,rfl,gb.neg rfl ?_⟩;obtain⟨b,hb⟩:=ht.b;simp -dsimp[au,stC,-Bool.exists_bool,-List.map_take,-Prod.forall,-Prod.exists];refine⟨b,⟨_,hb K H1 s1⟩,fun D hD=>cmQ [.str x,.str y] (fun i σ' H'=>(∃o,σ'=[o,some (.ref p)])∧Same H1 H'∧H' D=some (.lst (List.replicate i (.bl true)))) ⟨⟨none,rfl⟩,aA hD,ao⟩ (fun i σ' H' _ h=>hb K H' (s1.trans h.2.1)) ?_ ?_⟩
    · rintro i v σ' H' hi ⟨⟨o,rfl⟩,sm,Dd⟩;obtain⟨z,hz,rfl⟩:∃z,z∈xs∧v = .str z:=by
        match i,hi with
        | 0,hi=>exact⟨x,RN,(Option.some.inj hi).symm⟩
        | 1,hi=>exact⟨y,hym,(Option.some.inj hi).symm⟩
      have hi2:i<2:=(List.getElem?_eq_some_iff.mp hi).1;simp -dsimp[au,stC,-Bool.exists_bool,-List.map_take,-Prod.forall,-Prod.exists];refine⟨z,rfl,Bx (hx.nm z hz),fun H2 s2=>?_⟩;rw[hx.nm z hz];simp -dsimp[au,stC,-Bool.exists_bool,-List.map_take,-Prod.forall,-Prod.exists];refine⟨_,(hp.same (s1.trans (sm.trans s2))).q,rfl,List.all_eq_true.mp (VB xs),_,s2 _ _ Dd,by simp;omega,aV (sm.trans s2) hD,?_⟩;rw[ao,Yv hz,← List.replicate_succ']
    ·rintro σ' H' ⟨⟨o,rfl⟩,sm,Dd⟩;have JN:=ht.same (s1.trans sm);simp -dsimp[au,stC,-Bool.exists_bool,-List.map_take,-Prod.forall,-Prod.exists];refine⟨_,Dd,_,ju _,?_⟩;rw[show(List.replicate [V.str x,V.str y].length true).all id=true by simp];simp -dsimp[au,stC,-Bool.exists_bool,-List.map_take,-Prod.forall,-Prod.exists];refine⟨_,JN.q,_,aR (j:=0) rfl,_,JN.q,_,aR (j:=1) rfl,?_⟩;simp -dsimp[au,stC,-Bool.exists_bool,-List.map_take,-Prod.forall,-Prod.exists];refine⟨true,by simp[hne],?_⟩;exact q _ (s1.trans sm)
def BK (H:Hp) (v:V) (e:Str×Str):Prop:=∃t,v = .ref t∧Sq H t [.str e.1,.str e.2]
theorem BK.same {H H':Hp} {v:V} {e:Str×Str} (h:BK H v e) (s:Same H H'):BK H' v e:=by
  obtain⟨t,rfl,h⟩:=h;exact⟨t,rfl,h.same s⟩
def nj (H:Hp) (vs:List V) (ps:List (Str×Str)):Prop:=vs.length=ps.length∧∀(i:Nat) v e,vs[i]? = some v→ps[i]? = some e→BK H v e
theorem nj.same {H H':Hp} {vs:List V} {ps:List (Str×Str)} (h:nj H vs ps) (s:Same H H'):nj H' vs ps:=⟨h.1,fun i v e h1 h2=>(h.2 i v e h1 h2).same s⟩
theorem nj.at {H:Hp} {vs:List V} {ps:List (Str×Str)} (h:nj H vs ps) {i:Nat} {v:V} (hv:vs[i]? = some v):∃e,ps[i]? = some e∧BK H v e:=by
  have hi:i<ps.length:=by rw[← h.1];exact(List.getElem?_eq_some_iff.mp hv).1
  exact⟨ps[i],by simp[hi],h.2 i v _ hv (by simp[hi])⟩
structure qL (xs:List Str) (ps:List (Str×Str)):Prop where
  len:ps.length≤20
  ok:∀e∈ps,e.1∈xs∧e.2∈xs∧e.1≠e.2
def JQ:Sp:=fun vs H Q _=>∃t p tv xs ps,vs=[.ref t,.ref p]∧Sq H t tv∧nj H tv ps∧Sq H p (xs.map V.str)∧Pa xs∧qL xs ps∧∀H',Same H H'→Q (.bl true) H'
theorem JR (T:Txt K mg a):bV P w K mg base jN 3 a.gJ a.m5 ["thing", "points"] JQ:=by
  refine T.uM.nJ Jx (fun vs H Q E h=>?_) (fun cdv A outer s H vs Q E hr h=>?_)
  ·obtain⟨t,p,tv,xs,ps,rfl,_⟩:=h;rfl
  · obtain⟨t,p,tv,xs,ps,rfl,ht,hpr,hp,hx,hts,q⟩:=h;refine⟨_,(aB (dM (PW.pt (qy (eY (cM (PE.eqv (aO (uT (K:=K) T) (hr.mono (by decide)) rfl T.sU T.oK.kp T.sS .nil bh (aj (aL 0) aq)) (aK _ _ _)))) (nu (bA Ak (aM (cD (K:=K) rfl) rfl T.nm.len PySem.boot_len (aj (aL 0) aq)) (za rfl T.yN T.yO) (bQ _))))) (aG (aZ ou)) bN)
      (aG (aZ (aM (jt rfl) rfl T.nm.all jm (aj (eG rfl rfl (show aX (ak fM) _ ["thing", "points"] ["one"] [1] ["one", "points"] from⟨rfl,by decide+kernel,by decide+kernel,rfl,by decide+kernel,by decide+kernel⟩) rfl (PI.eqv (zf (K:=K) rfl (aL 0)) (vJ _ _)) (fun C s H fp pn=>(aQ (i:=0) (show(["one", "points"]:List Str).Nodup by decide+kernel) rfl (Or.inl rfl))) (fun C s H fp pn=>f9) (fun C s H fp pn=>(PE.eqv (aO (QZ (K:=K) T) (hr.mono (by decide)) rfl T.JG T.Bg.kp T.JF .nil bh (aj (aL 0) (aj (aL 1) aq))) (aK _ _ _)))) aq))))),?_⟩
    have hlen:=hpr.1;have Dh:=hts.len;have h60:60<sizeLine:=by decide
    simp -dsimp[au,stC,-Bool.exists_bool,-List.map_take,-Prod.forall,-Prod.exists];refine⟨t,_,rfl,ht,fun H1 s1=>?_⟩;simp -dsimp[au,stC,-Bool.exists_bool,-List.map_take,-Prod.forall,-Prod.exists];refine⟨_,(ht.same s1).q,gb.neg (by simp;omega) ?_⟩;obtain⟨b,hb⟩:=ht.b;simp -dsimp[au,stC,-Bool.exists_bool,-List.map_take,-Prod.forall,-Prod.exists];refine⟨b,⟨_,hb K H1 s1⟩,fun D hD=>cmQ tv (fun i σ' H'=>(∃o,σ'=[o,some (.ref p)])∧Same H1 H'∧H' D=some (.lst (List.replicate i (.bl true)))) ⟨⟨none,rfl⟩,aA hD,ao⟩ (fun i σ' H' _ h=>hb K H' (s1.trans h.2.1)) ?_ ?_⟩
    ·rintro i v σ' H' hi ⟨⟨o,rfl⟩,sm,Dd⟩;obtain⟨e,he,t2,rfl,JN⟩:=hpr.at hi;have hi2:i<tv.length:=(List.getElem?_eq_some_iff.mp hi).1;obtain⟨h1,h2,h3⟩:=hts.ok e (List.mem_of_getElem? he);have s2:=s1.trans sm;simp -dsimp[au,stC,-Bool.exists_bool,-List.map_take,-Prod.forall,-Prod.exists];refine⟨t2,p,e.1,e.2,xs,rfl,JN.same s2,hp.same s2,hx,h1,h2,h3,fun H2 s3=>?_⟩;simp -dsimp[au,stC,-Bool.exists_bool,-List.map_take,-Prod.forall,-Prod.exists];refine⟨_,s3 _ _ Dd,by simp;omega,aV (sm.trans s3) hD,?_⟩;rw[ao,← List.replicate_succ']
    ·rintro σ' H' ⟨⟨o,rfl⟩,sm,Dd⟩;simp -dsimp[au,stC,-Bool.exists_bool,-List.map_take,-Prod.forall,-Prod.exists];refine⟨_,Dd,_,ju _,?_⟩;rw[show(List.replicate tv.length true).all id=true by simp];exact q _ (s1.trans sm)
def bC (H:Hp) (vs:List V) (ps:List (Str×Str)):Prop:=vs.length=ps.length∧∀(i:Nat) v e,vs[i]? = some v→ps[i]? = some e→∃t,v = .ref t∧H t=some (.tup [.str e.1,.str e.2])
def cP (H H':Hp):Prop:=∀b xs,H b=some (.tup xs)→H' b=some (.tup xs)
theorem bC.keep {H H':Hp} {vs:List V} {ps:List (Str×Str)} (h:bC H vs ps) (s:cP H H'):bC H' vs ps:=⟨h.1,fun i v e h1 h2=>by
  obtain⟨t,rfl,e⟩:=h.2 i v e h1 h2;exact⟨t,rfl,s _ _ e⟩⟩
theorem bC.snoc {H:Hp} {vs:List V} {ps:List (Str×Str)} {t:Addr} {e:Str×Str} (h:bC H vs ps) (ht:H t=some (.tup [.str e.1,.str e.2])):bC H (vs++[.ref t]) (ps++[e]):=by
  refine⟨by simp[h.1],fun i v d h1 h2=>?_⟩
  by_cases hi:i<vs.length
  ·rw[List.getElem?_append_left hi] at h1;rw[List.getElem?_append_left (by rw[← h.1];exact hi)] at h2;exact h.2 i v d h1 h2
  · rw[List.getElem?_append_right (by omega)] at h1;rw[List.getElem?_append_right (by rw[← h.1];omega),← h.1] at h2;cases hk:i - vs.length with
    | zero=>
      rw[hk] at h1 h2;cases h1;cases h2;exact⟨t,rfl,ht⟩
    | succ j=>
      rw[hk] at h1;simp at h1
structure fL (C:Addr) (H:Hp) (o:Addr) (xs:List Str) (ps:List (Str×Str)):Prop where
  ex:∃dx n m tv,H o=some (.ins C dx [("names",V.ref n),("pairs",V.ref m)])∧H n=some (.tup (xs.map V.str))∧H m=some (.tup tv)∧bC H tv ps∧ps.length≤20
def Yw (C:Addr):Sp:=fun vs H Q _=>∃o dx p t tv xs ps,vs=[.ref o,.ref p,.ref t]∧H o=some (.ins C dx [])∧Sq H t tv∧nj H tv ps∧Sq H p (xs.map V.str)∧Pa xs∧qL xs ps∧
  ∀H',fL C H' o xs ps→But o H H'→Q .non H'
theorem JT (T:Txt K mg a):bV P w K mg base jN 4 a.fQ a.m6 ["self", "points", "ties"] (Yw a.bT):=by
  refine T.Bk.nJ Jy (fun vs H Q E h=>?_) (fun cdv A outer s H vs Q E hr h=>?_)
  ·obtain⟨o,dx,p,t,tv,xs,ps,rfl,_⟩:=h;rfl
  · obtain⟨o,dx,p,t,tv,xs,ps,rfl,ho,ht,hpr,hp,hx,hts,q⟩:=h;refine⟨_,(aB (dM (eY (cM (PE.eqv (aO (Dg (K:=K) T) (hr.mono (by decide)) rfl T.wC T.pY.kp T.wB .nil bh (aj (aL 1) aq)) (aK _ _ _)))) (aG vh) bN)
      (aB (dM (eY (cM (PE.eqv (aO (JR (K:=K) T) (hr.mono (by decide)) rfl T.Bj T.uM.kp T.Bh .nil bh (aj (aL 2) (aj (aL 1) aq))) (aK _ _ _)))) (aG vh) bN)
      (aB (Oh (K:=K) rfl (aL 0) (gP Ed rfl T.nm.tuple boot_tuple (aj (aL 1) aq)) rfl)
      (aG (Oh (K:=K) rfl (aL 0) (gP Ed rfl T.nm.tuple boot_tuple (aj (eG rfl rfl (show aX (ak fO) _ ["self", "points", "ties"] ["pair"] [] ["pair"] from⟨rfl,by decide+kernel,by decide+kernel,rfl,by decide+kernel,by decide+kernel⟩) rfl (PI.eqv (zf (K:=K) rfl (aL 2)) (vJ _ _)) (fun C s H fp pn=>(aQ (i:=0) (show(["pair"]:List Str).Nodup by decide+kernel) rfl (Or.inl rfl))) (fun C s H fp pn=>f9) (fun C s H fp pn=>(iW (aj (bJ (bM (K:=K) rfl) (aL 0) aJ (fun _ _=>rfl)) (aj (bJ (bM (K:=K) rfl) (aL 0) aJ (fun _ _=>rfl)) aq))))) aq)) rfl))))),?_⟩
    simp -dsimp[au,stC,-Bool.exists_bool,-List.map_take,-Prod.forall,-Prod.exists];refine⟨p,xs,rfl,hp,hx,fun H1 s1=>?_⟩;simp -dsimp[au,stC,-Bool.exists_bool,-List.map_take,-Prod.forall,-Prod.exists];refine⟨t,p,tv,xs,ps,rfl,ht.same s1,hpr.same s1,hp.same s1,hx,hts,fun H2 s2'=>?_⟩;have s2:=s1.trans s2';simp -dsimp[au,stC,-Bool.exists_bool,-List.map_take,-Prod.forall,-Prod.exists];refine⟨_,hp.same s2,fun n H3 hn s3'=>?_⟩;have s3:=s2.trans s3';have nno:n≠o:=zR hn (s3 _ _ ho) (by intro z;cases z);refine⟨_,_,_,s3 _ _ ho,T.oN,T.Hi,by simp,?_⟩;have hto:t≠o:=by rcases ht with z | z <;> exact zR z ho (by intro y;cases y)
    have qdW:∀{ob:HO} {b:Addr} {u:HO},b≠o→H b=some u→upd H3 o ob b=some u:=fun hb e=>by rw[aD hb];exact s3 _ _ e
    obtain⟨b,hb⟩:∃b,∀H',(∀c u,c≠o→H c=some u→H' c=some u)→Zr b K H' t tv:=by
      rcases ht with z | z
      ·exact⟨true,fun H' k=>aY.of (k _ _ hto z)⟩
      ·exact⟨false,fun H' k=>dz.of (k _ _ hto z)⟩
    have e1:jR "names" (V.ref n) []=([("names",V.ref n)]:List (Str×V)):=rfl;rw[e1];have st4:∀(c:Addr) (u:HO),c≠o→H c=some u→upd H3 o (.ins a.bT dx [("names",V.ref n)]) c=some u:=fun c u hc e=>qdW hc e;generalize h4:upd H3 o (.ins a.bT dx [("names",V.ref n)])=H4 at st4 ⊢;have ho4:H4 o=some (.ins a.bT dx [("names",V.ref n)]):=by rw[← h4];exact ao
    have hn4:H4 n=some (.tup (xs.map V.str)):=by rw[← h4,aD nno];exact hn
    refine⟨b,⟨_,hb H4 st4⟩,fun D hD=>cmQ tv (fun i σ' H'=>(∃o',σ'=[o'])∧Same H4 H'∧∃tvs,H' D=some (.lst tvs)∧bC H' tvs (ps.take i)) ⟨⟨none,rfl⟩,aA hD,[],ao,by simp[bC]⟩ (fun i σ' H' _ h=>hb H' fun c u hc e=>h.2.1 _ _ (st4 c u hc e)) ?_ ?_⟩
    · rintro i v σ' H' hi ⟨⟨o',rfl⟩,sm,tvs,Dd,htv⟩;have hi2:i<tv.length:=(List.getElem?_eq_some_iff.mp hi).1;have hlen:=hpr.1;have Dh:=hts.len;obtain⟨e,he,t2,rfl,JN⟩:=hpr.at hi;have t2o:t2≠o:=by rcases JN with z | z <;> exact zR z ho (by intro y;cases y)
      have ht3:Sq H' t2 [.str e.1,.str e.2]:=by
        rcases JN with z | z
        ·exact .inl (sm _ _ (st4 _ _ t2o z))
        ·exact .inr (sm _ _ (st4 _ _ t2o z))
      simp -dsimp[au,stC,-Bool.exists_bool,-List.map_take,-Prod.forall,-Prod.exists];refine⟨_,ht3.q,_,aR (j:=0) rfl,_,ht3.q,_,aR (j:=1) rfl,fun pt hpt=>?_⟩;have hDp:D≠pt:=aP Dd hpt;refine⟨tvs,by rw[aD hDp];exact Dd,?_,aV (sm.trans (aA hpt)) hD,_,ao,?_⟩
      · have h4':20<sizeLine:=by decide
        have:=htv.1;simp at this;omega
      · rw[take_one he];refine(htv.keep ?_).snoc ?_
        ·intro c zs ec;rw[aD (zR ec Dd (by intro y;cases y)),aD (aP ec hpt)];exact ec
        ·rw[aD (Ne.symm hDp)];exact ao
    · rintro σ' H' ⟨⟨o',rfl⟩,sm,tvs,Dd,htv⟩;simp -dsimp[au,stC,-Bool.exists_bool,-List.map_take,-Prod.forall,-Prod.exists];refine⟨tvs,.inl Dd,fun m H5 hm s5=>⟨_,_,_,s5 _ _ (sm _ _ ho4),T.oN,T.zG,by simp,?_⟩⟩;have ho5:=s5 _ _ (sm _ _ ho4);have mno:m≠o:=zR hm ho5 (by intro z;cases z);have e2:jR "pairs" (V.ref m) ([("names",V.ref n)]:List (Str×V))=([("names",V.ref n),("pairs",V.ref m)]:List (Str×V)):=by
        show(if ("names" : Str) = "pairs" then _ else (("names" : Str),V.ref n)::jR "pairs" (V.ref m) [])=_
        rw[if_neg (by decide+kernel)];rfl
      rw[e2];refine q _ ⟨dx,n,m,tvs,ao,?_,?_,?_,hts.len⟩ fun c u hc e=>?_
      ·rw[aD nno];exact s5 _ _ (sm _ _ hn4)
      ·rw[aD mno];exact hm
      ·have hl:=hpr.1;rw[hl,List.take_length] at htv;refine htv.keep fun c zs ec=>?_;rw[aD (zR (s5 _ _ ec) ho5 (by intro z;cases z))];exact s5 _ _ ec
      ·rw[aD hc];exact s5 _ _ (sm _ _ (st4 c u hc e))
def Q0 (C:Addr):Sp:=fun vs H Q _=>∃o xs ps,vs=[.ref o]∧fL C H o xs ps∧∀l,H l=none→Q (.ref l) (upd H l (.lst (xs.map V.str)))
theorem uf (T:Txt K mg a):bV P w K mg base jN 1 a.cY a.kj ["self"] (Q0 a.bT):=by
  refine T.wD.nJ Dc (fun vs H Q E h=>?_) (fun cdv A outer s H vs Q E hr h=>?_)
  ·obtain⟨o,xs,ps,rfl,_⟩:=h;rfl
  ·obtain⟨o,xs,ps,rfl,⟨dx,n,m,tv,h1,h2,h3,h4,h5⟩,q⟩:=h;refine⟨_,(aG (aZ (gP (vL (K:=K) rfl) rfl T.nm.list boot_list (aj (PE.eqv (Gd (K:=K) rfl (aL 0) rfl) (Gw _ _ _)) aq)))),?_⟩;simp -dsimp[au,stC,-Bool.exists_bool,-List.map_take,-Prod.forall,-Prod.exists];refine⟨_,_,_,h1,T.oN,T.Hi,_,rfl,_,.inr (dz.of h2),q⟩
def Yx (C:Addr):Sp:=fun vs H Q _=>∃o xs ps,vs=[.ref o]∧fL C H o xs ps∧∀l tv,H l=none→bC H tv ps→Q (.ref l) (upd H l (.lst tv))
theorem yP (T:Txt K mg a):bV P w K mg base jN 1 a.fU a.m7 ["self"] (Yx a.bT):=by
  refine T.Bm.nJ Jz (fun vs H Q E h=>?_) (fun cdv A outer s H vs Q E hr h=>?_)
  ·obtain⟨o,xs,ps,rfl,_⟩:=h;rfl
  ·obtain⟨o,xs,ps,rfl,⟨dx,n,m,tv,h1,h2,h3,h4,h5⟩,q⟩:=h;refine⟨_,(aG (aZ (gP (vL (K:=K) rfl) rfl T.nm.list boot_list (aj (PE.eqv (Gd (K:=K) rfl (aL 0) rfl) (Gw _ _ _)) aq)))),?_⟩;simp -dsimp[au,stC,-Bool.exists_bool,-List.map_take,-Prod.forall,-Prod.exists];refine⟨_,_,_,h1,T.oN,T.zG,_,rfl,_,.inr (dz.of h3),fun l hl=>q l tv hl h4⟩
theorem jP.upd {p q:Addr} {H:Hp} {u:HO} (x:jP H p) (h:p≠q):jP (L2.upd H q u) p:=by
  obtain⟨a,b,e,r⟩:=x;exact⟨a,b,by rw[aD h];exact e,r⟩
theorem jP.ne {p q:Addr} {H:Hp} (x:jP H p) (h:H q=none):p≠q:=by
  obtain⟨a,b,e,r⟩:=x;exact aP e h
theorem jP.none {p b:Addr} {H H':Hp} (x:But p H H') (hp:jP H' p) (h:H' b = .none):H b = .none:=by
  obtain⟨a,b,e,r⟩:=hp;exact x.none e h
def VD:Sp:=fun vs H Q _=>∃p l xs,vs=[.ref p,.ref l]∧jP H p∧l≠p∧H l=some (.lst xs)∧xs.length≤100∧∀r ys H',H r=none→H' r=some (.lst ys)→ys.Perm xs→jP H' p→But p H H'→Q (.ref r) H'
theorem BL (T:Txt K mg a):bV P w K mg base jN 2 a.mj a.vY ["_law_pot_here", "_law_things"] VD:=by
  refine T.wF.nJ Bf (fun vs H Q E h=>?_) (fun cdv A outer s H vs Q E hr h=>?_)
  ·obtain⟨p,l,xs,rfl,_⟩:=h;rfl
  · obtain⟨p,l,xs,rfl,hp,hlp,hl,h100,q⟩:=h;refine⟨_,(aB (bK (i:=2) Bf.nd rfl (Or.inl rfl) (jh aq))
      (aB (jQ PassesOwn.never rfl (PI.eqv (d8 (K:=K) rfl (aL 1)) (cO _ _)) (aQ (i:=3) Bf.nd rfl (Or.inl rfl))
      (aG (gw (nC (K:=K) rfl PySem.F.plainAttrs_list PySem.F.slot_list_insert PySem.F.type_list_insert Lk (aL 2) (aj (PE.eqv (aO (iT (K:=K) T) (hr.mono (by decide)) rfl T.jJ T.jj.kp T.jH .nil bh (aj (aL 0) (aj (dZ j4 (aM (cD (K:=K) rfl) rfl T.nm.len PySem.boot_len (aj (aL 2) aq)) aJ) aq))) (aK _ _ _)) (aj (aL 3) aq))))))
      (aG (aZ (aL 2))))),?_⟩
    have h4':100<sizeLine:=by decide
    simp -dsimp[au,stC,-Bool.exists_bool,-List.map_take,-Prod.forall,-Prod.exists];intro r hr0;have hpr:p≠r:=hp.ne hr0;refine⟨⟨_,aY.of (bO hl hr0)⟩,frL xs (fun i σ H'=>∃v ys,σ=[some (.ref p),some (.ref l),some (.ref r),v]∧H' r=some (.lst ys)∧ys.Perm (xs.take i)∧jP H' p∧But p H H') ⟨none,[],rfl,ao,by simp,hp.upd hpr,(But.refl _ _).new hr0⟩ (fun i σ H' _ ⟨_,_,_,_,_,_,hb⟩=>aY.of (hb _ _ hlp hl)) ?_ ?_⟩
    · rintro i x σ H' hi ⟨v,ys,rfl,hr',hperm,hP,hB⟩;have hi2:i<xs.length:=(List.getElem?_eq_some_iff.mp hi).1;have hly:ys.length=i:=by
        have:=hperm.length_eq;simp at this;omega
      simp -dsimp[au,stC,-Bool.exists_bool,-List.map_take,-Prod.forall,-Prod.exists];refine⟨⟨_,aY.of hr'⟩,ys,.inl (aY.of hr'),p,_,rfl,hP,by omega,by omega,fun d H1 hd0 hd1 Ko JV=>?_⟩;have hr1:H1 r=some (.lst ys):=JV _ _ (Ne.symm hpr) hr';simp -dsimp[au,stC,-Bool.exists_bool,-List.map_take,-Prod.forall,-Prod.exists];refine⟨ys,hr1,hd0,by omega,by omega,_,ao,?_,Ko.upd hpr,(hB.trans JV).new hr0⟩
      · rw[take_one hi];have e:(ys.take d.toNat++x::ys.drop d.toNat).Perm (x::ys):=by
          refine List.perm_middle.trans ?_;rw[List.take_append_drop]
        exact e.trans ((List.Perm.cons x hperm).trans (List.perm_append_singleton x _).symm)
    ·rintro σ H' ⟨v,ys,rfl,hr',hperm,hP,hB⟩;rw[List.take_length] at hperm;simp -dsimp[au,stC,-Bool.exists_bool,-List.map_take,-Prod.forall,-Prod.exists];exact q r ys H' hr0 hr' hperm hP hB
def qbC:Sp:=fun vs H Q _=>∃(p l:Addr) (xs:List Str),vs=[.ref p,.ref l]∧jP H p∧l≠p∧H l=some (.lst (xs.map V.str))∧2≤xs.length∧xs.length≤9∧xs.Nodup∧∀t x y H',H t=none→H' t=some (.tup [.str x,.str y])→x∈xs→y∈xs→x≠y→jP H' p→But p H H'→Q (.ref t) H'
theorem qbD (T:Txt K mg a):bV P w K mg base jN 2 a.vZ a.G4 ["_law_pot_here", "_law_names_here"] qbC:=by
  refine T.Vw.nJ L_ (fun vs H Q E h=>?_) (fun cdv A outer s H vs Q E hr h=>?_)
  ·obtain⟨p,l,xs,rfl,_⟩:=h;rfl
  · obtain⟨p,l,xs,rfl,hp,hlp,hl,h2,h9,hnd,q⟩:=h;refine⟨_,(aB (bK (i:=2) L_.nd rfl (Or.inl rfl) (PE.eqv (aO (iT (K:=K) T) (hr.mono (by decide)) rfl T.jJ T.jj.kp T.jH .nil bh (aj (aL 0) (aj (aM (cD (K:=K) rfl) rfl T.nm.len PySem.boot_len (aj (aL 1) aq)) aq))) (aK _ _ _)))
      (aB (bK (i:=3) L_.nd rfl (Or.inl rfl) (dZ sE (dZ j4 (dZ j4 (aL 2) aJ) (PE.eqv (aO (iT (K:=K) T) (hr.mono (by decide)) rfl T.jJ T.jj.kp T.jH .nil bh (aj (aL 0) (aj (dZ vH (aM (cD (K:=K) rfl) rfl T.nm.len PySem.boot_len (aj (aL 1) aq)) aJ) aq))) (aK _ _ _))) (aM (cD (K:=K) rfl) rfl T.nm.len PySem.boot_len (aj (aL 1) aq))))
      (aG (aZ (iW (aj (bJ (bM (K:=K) rfl) (aL 1) (aL 2) (fun _ _=>rfl)) (aj (bJ (bM (K:=K) rfl) (aL 1) (aL 3) (fun _ _=>rfl)) aq))))))),?_⟩
    simp -dsimp[au,stC,-Bool.exists_bool,-List.map_take,-Prod.forall,-Prod.exists];refine⟨_,.inl (aY.of hl),p,_,rfl,hp,by simp;omega,by simp;omega,fun d H1 hd0 hd1 Ko JV=>?_⟩;have hl1:=JV _ _ hlp hl;simp -dsimp[au,stC,-Bool.exists_bool,-List.map_take,-Prod.forall,-Prod.exists];refine⟨_,.inl (aY.of hl1),p,_,rfl,Ko,by simp;omega,by simp;omega,fun e H2 he0 he1 hP2 hB2=>?_⟩;have hl2:=hB2 _ _ hlp hl1;simp only[List.length_map] at hd1 he1;obtain⟨m0,m1,m2⟩:=qaZ hd0 hd1 he0 he1;obtain⟨vx,ex,ax⟩:=Ob (xs:=xs.map V.str) hd0 (by simpa using hd1);obtain⟨vy,ey,ay⟩:=Ob (xs:=xs.map V.str) m0 (by simpa using m1);obtain⟨x,ex',rfl⟩:=qW ex;obtain⟨y,ey',rfl⟩:=qW ey;have sl:=aY.of (K:=K) hl2;simp -dsimp[au,stC,-Bool.exists_bool,-List.map_take,-Prod.forall,-Prod.exists];refine⟨_,.inl sl,by simp;omega,_,.inl sl,_,ax,_,.inl sl,_,(by simpa using ay),fun t ht=>?_⟩;refine q t x y _ (jP.none (JV.trans hB2) hP2 ht) ao (List.mem_of_getElem? ex') (List.mem_of_getElem? ey') (fun z=>?_) (hP2.upd (hP2.ne ht)) ((JV.trans hB2).same (aA ht));subst z;have:=z8 hnd ex' ey';omega
def VF:Sp:=fun vs H Q _=>∃(p:Addr) (m:Nat),vs=[.ref p,.int m]∧jP H p∧1≤m∧m≤9∧∀(r:Addr) (xs:List Str) (H':Hp),H r=none→H' r=some (.lst (xs.map V.str))→Pa xs→xs.length=m→jP H' p→But p H H'→Q (.ref r) H'
theorem VG (T:Txt K mg a):bV P w K mg base jN 2 a.lZ a.vX ["_law_pot_here", "_law_many"] VF:=by
  refine T.G7.nJ oJ (fun vs H Q E h=>?_) (fun cdv A outer s H vs Q E hr h=>?_)
  ·obtain⟨p,m,rfl,_⟩:=h;rfl
  · obtain⟨p,m,rfl,hp,h1,h9,q⟩:=h;refine⟨_,(aB (bK (i:=2) oJ.nd rfl (Or.inr rfl) mG)
      (aB (bK (i:=3) oJ.nd rfl (Or.inl rfl) (PE.eqv (aO (iT (K:=K) T) (hr.mono (by decide)) rfl T.jJ T.jj.kp T.jH .nil bh (aj (aL 0) (aj aJ aq))) (aK _ _ _)))
      (aB (bK (i:=4) oJ.nd rfl (Or.inl rfl) (jh aq))
      (aB (jQ PassesOwn.never rfl (PI.eqv (jk rfl T.nm.range (aj (aL 1) aq)) (jr _)) (aQ (i:=5) oJ.nd rfl (Or.inl rfl))
      (aB (mJ (i:=6) oJ.nd rfl rfl rfl rfl (show aX (ak j6) _ ["_law_pot_here", "_law_many", "_law_letters", "_law_begin", "_law_found", "_law_k", "_law_more"] ["_law_j"] [2,0] ["_law_j", "_law_letters", "_law_pot_here"] from⟨rfl,by decide+kernel,by decide+kernel,rfl,by decide+kernel,by decide+kernel⟩) rfl (PI.eqv (jk rfl T.nm.range (aj (PE.eqv (aO (iT (K:=K) T) (hr.mono (by decide)) rfl T.jJ T.jj.kp T.jH .nil bh (aj (aL 0) (aj aJ aq))) (aK _ _ _)) aq)) (jr _)) (fun C s H fp pn=>(aQ (i:=0) (show(["_law_j", "_law_letters", "_law_pot_here"]:List Str).Nodup by decide+kernel) rfl (Or.inl rfl))) (fun C s H fp pn=>f9) (fun C s H fp pn=>(bJ Om (aL 1) (PE.eqv (aO (iT (K:=K) T) (hr.mono (by decide)) rfl T.jJ T.jj.kp T.jH .nil bh (aj (aL 2) (aj aJ aq))) (aK _ _ _)) (fun _ _=>rfl))))
      (aG (gw (nC (K:=K) rfl PySem.F.plainAttrs_list PySem.F.slot_list_append PySem.F.type_list_append h_ (aL 4) (aj (dZ Jg (bJ Om (aL 2) (dZ sE (dZ j4 (aL 3) (dZ zp aJ (aL 5))) aJ) (fun _ _=>rfl)) (nC (K:=K) rfl PySem.F.plainAttrs_str PySem.F.slot_str_join PySem.F.type_str_join U_ mG (aj (aL 6) aq))) aq))))))
      (aG (aZ (aL 4))))))),?_⟩
    simp -dsimp[au,stC,-Bool.exists_bool,-List.map_take,-Prod.forall,-Prod.exists];refine⟨p,_,rfl,hp,by decide,by decide,fun d H1 hd0 hd1 Ko JV=>?_⟩;obtain⟨b,rfl,qlQ,hbl⟩:=qX hd0 hd1;have hP2:=Ko;have hB2:=JV;simp -dsimp[au,stC,-Bool.exists_bool,-List.map_take,-Prod.forall,-Prod.exists];intro r hr0;refine⟨by omega,frR (fun i σ H'=>∃v8 v9 ws,σ=[some (.ref p),some (.int m),some (.str (Str.ofString "abcdefghijklmnopqrstuvwxyz")),some (.int b),some (.ref r),v8,v9]∧H' r=some (.lst (ws.map V.str))∧ws.length=i∧(∀(j:Nat) x,ws[j]? = some x→∃k,1≤k∧k≤4∧pq (97+(b+5 * j) % 26) k x)∧jP H' p∧But p H H') ⟨none,none,[],rfl,ao,rfl,fun j x e=>by simp at e,hP2.upd (hP2.ne hr0),hB2.same (aA hr0)⟩ ?_ ?_⟩
    · rintro i σ H' hi ⟨v8,v9,ws,rfl,hr',hl,hw,hP,hB⟩;simp -dsimp[au,stC,-Bool.exists_bool,-List.map_take,-Prod.forall,-Prod.exists];obtain⟨c,hc,qjf,hcl⟩:=qX (i:=((b:Int)+5 * i) % 26) (by omega) (by omega);have hc':c=(b+5 * i) % 26:=by omega
      have pr:r≠p:=fun z=>by subst z;obtain⟨_,_,u,_⟩:=hP2;rw[hr0] at u;cases u
      refine⟨p,_,rfl,hP,by decide,by decide,fun e H3 he0 he1 JW hB3=>?_⟩;simp -dsimp[au,stC,-Bool.exists_bool,-List.map_take,-Prod.forall,-Prod.exists];have hDr:∀{D:Addr},H3 D=none→r≠D:=fun hD=>aP (hB3 _ _ pr hr') hD;refine⟨by omega,by omega,fun D hD=>cmR (fun j σ H4=>∃v ys,σ=[v,some (.str (Str.ofString "abcdefghijklmnopqrstuvwxyz")),some (.ref p)]∧H4 D=some (.lst (ys.map V.str))∧H4 r=some (.lst (ws.map V.str))∧ys.length=j∧(∀y∈ys,∃n,n<26∧y=(⟨#[97+n]⟩:Str))∧jP H4 p∧But p H H4) ⟨_,[],rfl,ao,bO (hB3 _ _ pr hr') hD,rfl,by simp,JW.upd (JW.ne hD),(hB.trans hB3).same (aA hD)⟩ ?_ ?_⟩
      · rintro j σ H4 hj ⟨v,ys,rfl,CK,VH,hyl,hys,Ml,Pb⟩;have hDp:D≠p:=(JW.ne hD).symm;simp -dsimp[au,stC,-Bool.exists_bool,-List.map_take,-Prod.forall,-Prod.exists];refine⟨p,_,rfl,Ml,by decide,by decide,fun f H5 hf0 hf1 E_ Mp=>?_⟩;obtain⟨n,rfl,qjg,hnl⟩:=qX hf0 hf1;simp -dsimp[au,stC,-Bool.exists_bool,-List.map_take,-Prod.forall,-Prod.exists,yr,hnl];have s20:=of_eq_true Gi;refine⟨_,Mp _ _ hDp CK,by simp;omega,ys++[⟨#[97+n]⟩],by rw[ao];simp,by rw[aD (hDr hD)];exact Mp _ _ pr VH,by simp[hyl],fun y hy=>?_,E_.upd hDp.symm,(Pb.trans Mp).new (jP.none (hB.trans hB3) JW hD)⟩
        rcases List.mem_append.mp hy with hy | hy
        ·exact hys y hy
        ·exact⟨n,qjg,by simpa using hy⟩
      · rintro σ H4 ⟨v,ys,rfl,CK,VH,hyl,hys,Ml,Pb⟩;have hy3:=q_ ys hys;simp -dsimp[au,stC,-Bool.exists_bool,-List.map_take,-Prod.forall,-Prod.exists];have hw4:=(pq.one qjf).glue (by decide) hys;have s20:=of_eq_true Gi;refine⟨⟨_,aY.of VH⟩,yr,_,hcl,?_⟩;have hlen:(⟨#[97+c]⟩:Str).length+(Txt.join (Str.ofString "") ys).length=1+ys.length:=by
          rw[← hw4.len];exact(Array.size_append).symm
        refine⟨ys,CK,by rw[hy3.2.2];show _+_ * 0≤_;omega,by omega,_,VH,by simp;omega,ws++[_],by rw[ao];simp;rfl,by simp[hl],fun j y e=>?_,Ml.upd pr.symm,Pb.new (jP.none hB2 hP2 hr0)⟩
        by_cases hj:j<ws.length
        ·rw[List.getElem?_append_left hj] at e;exact hw j y e
        · rw[List.getElem?_append_right (by omega)] at e;cases hk:j - ws.length with
          | zero=>
            rw[hk] at e;simp at e;subst e;have ej:j=i:=by omega
            subst ej;exact⟨1+ys.length,by omega,by omega,by rw[← hc'];exact hw4⟩
          | succ k=>
            rw[hk] at e;simp at e
    · rintro σ H' ⟨v8,v9,ws,rfl,hr',hl,hw,hP,hB⟩;simp -dsimp[au,stC,-Bool.exists_bool,-List.map_take,-Prod.forall,-Prod.exists];have nd:ws.Nodup:=by
        unfold List.Nodup;rw[List.pairwise_iff_getElem];intro i j hi hj hij e;obtain⟨k1,_,_,w1⟩:=hw i _ (by simp[hi]:ws[i]? = some ws[i]);obtain⟨k2,_,_,w2⟩:=hw j _ (by simp[hj]:ws[j]? = some ws[j]);have z:=w1.fst;rw[e,w2.fst] at z;simp at z;omega
      refine q r ws H' (jP.none hB2 hP2 hr0) hr' ⟨by omega,fun x hx=>?_,nd⟩ hl hP hB;obtain⟨j,hj,e⟩:=List.mem_iff_getElem.mp hx;obtain⟨k,k1,k4,w⟩:=hw j x (by simp[hj,e]);exact w.name k1 k4
theorem bC.perm {H:Hp} {vs ys:List V} {ps:List (Str×Str)} (h:bC H vs ps) (hp:ys.Perm vs):∃qs:List (Str×Str),bC H ys qs∧qs.Perm ps:=by
  have e1:vs=(vs.zip ps).map (·.1):=by rw[List.map_fst_zip (by rw[h.1];exact Nat.le_refl _)]
  have e2:ps=(vs.zip ps).map (·.2):=by rw[List.map_snd_zip (by rw[h.1];exact Nat.le_refl _)]
  obtain⟨l',pl,e⟩:=vC hp _ e1;refine⟨l'.map (·.2),⟨by rw[e];simp,fun i v d h1 h2=>?_⟩,by rw[e2];exact pl.map _⟩;rw[e,List.getElem?_map] at h1;rw[List.getElem?_map] at h2;cases hz:l'[i]? with
  | none=>rw[hz] at h1;cases h1
  | some z=>
    rw[hz] at h1 h2;cases h1;cases h2;have hm:z∈vs.zip ps:=pl.mem_iff.mp (List.mem_of_getElem? hz);obtain⟨j,hj,ez⟩:=List.mem_iff_getElem.mp hm;have hj':j<vs.length∧j<ps.length:=by
      simp at hj;omega
    simp at ez;subst ez;exact h.2 j _ _ (by simp[hj'.1]) (by simp[hj'.2])
theorem bC.at {H:Hp} {vs:List V} {ps:List (Str×Str)} (h:bC H vs ps) {i:Nat} {v:V} (hv:vs[i]? = some v):∃e,ps[i]? = some e∧∃t,v = .ref t∧H t=some (.tup [.str e.1,.str e.2]):=by
  have hi:i<ps.length:=by rw[← h.1];exact(List.getElem?_eq_some_iff.mp hv).1
  exact⟨ps[i],by simp[hi],h.2 i v _ hv (by simp[hi])⟩
theorem bC.but {p:Addr} {H H':Hp} {vs:List V} {ps:List (Str×Str)} (h:bC H vs ps) (hp:jP H p) (b:But p H H'):bC H' vs ps:=h.keep fun c xs e=>b c _ (fun z=>by
  subst z;obtain⟨_,_,u,_⟩:=hp;rw[e] at u;cases u) e
theorem bC.same {H H':Hp} {vs:List V} {ps:List (Str×Str)} (h:bC H vs ps) (b:Same H H'):bC H' vs ps:=h.keep fun c xs e=>b c _ e
theorem jP.nl {p q:Addr} {H:Hp} (x:jP H p) (h:H q = .none):q≠p:=fun z=>(x.ne h) z.symm
def qbE:Sp:=fun vs H Q _=>∃(p:Addr) (m k:Nat),vs=[.ref p,.int m,.int k]∧jP H p∧1≤m∧m≤9∧m≤k∧k≤20∧∀(t n l:Addr) (xs:List Str) (tv:List V) (ps:List (Str×Str)) (H':Hp),
  H t=none→H n=none→H l=none→H' t=some (.tup [.ref n,.ref l])→H' n=some (.lst (xs.map V.str))→H' l=some (.lst tv)→bC H' tv ps→Pa xs→qL xs ps→xs.length≤m→ps.length≤k→jP H' p→But p H H'→Q (.ref t) H'
theorem qbF (T:Txt K mg a):bV P w K mg base jN 3 a.wg a.G5 ["_law_pot_here", "_law_points", "_law_most"] qbE:=by
  refine T.Vx.nJ pH (fun vs H Q E h=>?_) (fun cdv A outer s H vs Q E hr h=>?_)
  ·obtain⟨p,m,k,rfl,_⟩:=h;rfl
  · obtain⟨p,m,k,rfl,hp,h1,h9,hmk,hk,q⟩:=h;refine⟨_,(aB (bK (i:=3) pH.nd rfl (Or.inl rfl) (PE.eqv (aO (VG (K:=K) T) (hr.mono (by decide)) rfl T.O2 T.G7.kp T.O1 .nil bh (aj (aL 0) (aj (dZ j4 aJ (PE.eqv (aO (iT (K:=K) T) (hr.mono (by decide)) rfl T.jJ T.jj.kp T.jH .nil bh (aj (aL 0) (aj (aL 1) aq))) (aK _ _ _))) aq))) (aK _ _ _)))
      (aB (bK (i:=4) pH.nd rfl (Or.inl rfl) (PE.eqv (aO (iT (K:=K) T) (hr.mono (by decide)) rfl T.jJ T.jj.kp T.jH .nil bh (aj (aL 0) (aj aJ aq))) (aK _ _ _)))
      (aB (bK (i:=5) pH.nd rfl (Or.inl rfl) (jh aq))
      (aB (dM (bA Ak (aM (cD (K:=K) rfl) rfl T.nm.len PySem.boot_len (aj (aL 3) aq)) aJ (bQ _)) (aB (bK (i:=6) pH.nd rfl (Or.inr rfl) (PE.eqv (aO (BL (K:=K) T) (hr.mono (by decide)) rfl T.zB T.wF.kp T.zA .nil bh (aj (aL 0) (aj (aL 3) aq))) (aK _ _ _)))
      (aB (dM (bA Ak (aL 4) aJ (bQ _)) (aG (mJ (i:=5) pH.nd rfl rfl rfl rfl (show aX (ak qF) _ ["_law_pot_here", "_law_points", "_law_most", "_law_names_here", "_law_kind", "_law_ties", "_law_row", "_law_k", "_law_turns"] ["_law_k"] [6] ["_law_k", "_law_row"] from⟨rfl,by decide+kernel,by decide+kernel,rfl,by decide+kernel,by decide+kernel⟩) rfl (PI.eqv (PB rfl T.nm.range (aj (gP Li rfl T.nm.int w6 (aj (dB jV (aL 4) aJ (bQ _)) aq)) (aj (aM (cD (K:=K) rfl) rfl T.nm.len PySem.boot_len (aj (aL 6) aq)) aq))) (QG _)) (fun C s H fp pn=>(aQ (i:=0) (show(["_law_k", "_law_row"]:List Str).Nodup by decide+kernel) rfl (Or.inl rfl))) (fun C s H fp pn=>f9) (fun C s H fp pn=>(iW (aj (bJ (bM (K:=K) rfl) (aL 1) (dZ vH (aL 0) aJ) (fun _ _=>rfl)) (aj (bJ (bM (K:=K) rfl) (aL 1) (aL 0) (fun _ _=>rfl)) aq)))))) bN)
      (aG (jQ PassesOwn.never rfl (PI.eqv (jk rfl T.nm.range (aj (PE.eqv (aO (iT (K:=K) T) (hr.mono (by decide)) rfl T.jJ T.jj.kp T.jH .nil bh (aj (aL 0) (aj (dZ j4 (dZ vH (aL 2) (aM (cD (K:=K) rfl) rfl T.nm.len PySem.boot_len (aj (aL 5) aq))) aJ) aq))) (aK _ _ _)) aq)) (jr _)) (aQ (i:=7) pH.nd rfl (Or.inl rfl))
      (aG (gw (nC (K:=K) rfl PySem.F.plainAttrs_list PySem.F.slot_list_append PySem.F.type_list_append h_ (aL 5) (aj (PE.eqv (aO (qbD (K:=K) T) (hr.mono (by decide)) rfl T.Z8 T.Vw.kp T.Z7 .nil bh (aj (aL 0) (aj (aL 3) aq))) (aK _ _ _)) aq)))))))) bN)
      (aB (mJ (i:=8) pH.nd rfl rfl rfl rfl (show aX (ak qF) _ ["_law_pot_here", "_law_points", "_law_most", "_law_names_here", "_law_kind", "_law_ties", "_law_row", "_law_k", "_law_turns"] ["_law_tie_here"] [0] ["_law_tie_here", "_law_pot_here"] from⟨rfl,by decide+kernel,by decide+kernel,rfl,by decide+kernel,by decide+kernel⟩) rfl (PI.eqv (d8 (K:=K) rfl (aL 5)) (cO _ _)) (fun C s H fp pn=>(aQ (i:=0) (show(["_law_tie_here", "_law_pot_here"]:List Str).Nodup by decide+kernel) rfl (Or.inl rfl))) (fun C s H fp pn=>f9) (fun C s H fp pn=>(PE.eqv (aO (iT (K:=K) T) (hr.mono (by decide)) rfl T.jJ T.jj.kp T.jH .nil bh (aj (aL 1) (aj aJ aq))) (aK _ _ _))))
      (aB (mJ (i:=5) pH.nd rfl rfl rfl rfl (show aX (ak qF) _ ["_law_pot_here", "_law_points", "_law_most", "_law_names_here", "_law_kind", "_law_ties", "_law_row", "_law_k", "_law_turns"] ["_law_turn", "_law_a", "_law_b"] [] ["_law_turn", "_law_a", "_law_b"] from⟨rfl,by decide+kernel,by decide+kernel,rfl,by decide+kernel,by decide+kernel⟩) rfl (PI.eqv (Oe (K:=K) rfl rfl T.nm.zip (aj (aL 5) (aj (aL 8) aq))) (Jk _ _)) (fun C s H fp pn=>(PG.eqv (fj (K:=K) (n:=2) rfl rfl (jg.eqv (bw (PG.eqv (fj (K:=K) (n:=2) rfl rfl (jg.eqv (bw (aQ (i:=1) (show(["_law_turn", "_law_a", "_law_b"]:List Str).Nodup by decide+kernel) rfl (Or.inl rfl)) (jg.eqv (bw (aQ (i:=2) (show(["_law_turn", "_law_a", "_law_b"]:List Str).Nodup by decide+kernel) rfl (Or.inl rfl)) (jg.mono eZ g_)) (bx _ _))) (bx _ _))) (fB _ _ _)) (jg.eqv (bw (aQ (i:=0) (show(["_law_turn", "_law_a", "_law_b"]:List Str).Nodup by decide+kernel) rfl (Or.inl rfl)) (jg.mono eZ g_)) (bx _ _))) (bx _ _))) (fB _ _ _))) (fun C s H fp pn=>f9) (fun C s H fp pn=>(bJ (bM (K:=K) rfl) (jh (aj (iW (aj (aL 1) (aj (aL 2) aq))) (aj (iW (aj (aL 2) (aj (aL 1) aq))) aq))) (aL 0) (fun _ _=>rfl))))
      (aG (aZ (iW (aj (aL 3) (aj (PE.eqv (aO (BL (K:=K) T) (hr.mono (by decide)) rfl T.zB T.wF.kp T.zA .nil bh (aj (aL 0) (aj (aL 5) aq))) (aK _ _ _)) aq))))))))))),?_⟩
    simp -dsimp[au,stC,-Bool.exists_bool,-List.map_take,-Prod.forall,-Prod.exists];refine⟨p,_,rfl,hp,qi7 h1,zlt h9 (by decide),fun d H1 hd0 hd1 Ko JV=>?_⟩;simp -dsimp[au,stC,-Bool.exists_bool,-List.map_take,-Prod.forall,-Prod.exists];refine⟨p,d.toNat+1,?_,Ko,Nat.le_add_left 1 _,ztn hd0 hd1 h9,fun n xs H2 hn hn2 hX hxl hP2 hB2'=>?_⟩
    ·simp;exact qi9 hd0 1
    have RN:xs.length≤m:=by rw[hxl];exact ztn hd0 hd1 (Nat.le_refl m)
    have hx9:=Nat.le_trans RN h9;have hB2:=JV.trans hB2';simp -dsimp[au,stC,-Bool.exists_bool,-List.map_take,-Prod.forall,-Prod.exists];refine⟨p,_,rfl,hP2,by decide,by decide,fun kd H3 hk0 hk1 JW qdX=>?_⟩;have hB3:=hB2.trans qdX;have np:n≠p:=fun z=>by subst z;obtain⟨_,_,u,_⟩:=Ko;rw[hn] at u;cases u
    have hn3:=qdX _ _ np hn2;simp -dsimp[au,stC,-Bool.exists_bool,-List.map_take,-Prod.forall,-Prod.exists];refine fun L hL=>⟨_,.inl (aY.of (bO hn3 hL)),Ag (fun σ H4=>∃v6 v7 L tv ps,σ=[some (.ref p),some (.int m),some (.int k),some (.ref n),some (.int kd),some (.ref L),v6,v7,none]∧H L=none∧H4 L=some (.lst tv)∧bC H4 tv ps∧qL xs ps∧ps.length≤k∧H4 n=some (.lst (xs.map V.str))∧jP H4 p∧But p H H4) ?_ ?_⟩
    · rintro σ H4 ⟨v6,v7,L,tv,ps,rfl,hL0,Mq,htv,hts,hpk,hn4,Ml,Pb⟩;simp -dsimp[au,stC,-Bool.exists_bool,-List.map_take,-Prod.forall,-Prod.exists];have Lp:L≠p:=hp.nl hL0;have Mr:tv.length≤20:=by rw[htv.1];exact Nat.le_trans hpk hk
      have s20:=of_eq_true Gi;refine⟨⟨_,aY.of Mq⟩,fun D hD=>Xu tv (fun i σ H'=>∃v ds,σ=[v,some (.ref p)]∧H' D=some (.lst (ds.map V.int))∧ds.length=i∧(∀d∈ds,0≤d∧d<2)∧H' L=some (.lst tv)∧bC H' tv ps∧H' n=some (.lst (xs.map V.str))∧jP H' p∧But p H H') ⟨none,[],rfl,ao,rfl,by simp,bO Mq hD,htv.same (aA hD),bO hn4 hD,Ml.upd (Ml.ne hD),Pb.same (aA hD)⟩ (fun i σ H' _ h=>by
        obtain⟨_,_,_,_,_,_,z,_⟩:=h;exact aY.of z) ?_ ?_⟩
      · rintro i x σ H5 hi ⟨v,ds,rfl,Kp,hl,hds,hL5,qbG,hn5,E_,Mp⟩;have hi2:i<tv.length:=(List.getElem?_eq_some_iff.mp hi).1;simp -dsimp[au,stC,-Bool.exists_bool,-List.map_take,-Prod.forall,-Prod.exists];refine⟨p,_,rfl,E_,by decide,by decide,fun d H6 hd0 hd1 RP Ms=>?_⟩;have Dp:D≠p:=Ml.nl hD;have LD:L≠D:=aP Mq hD;have nD:n≠D:=aP hn4 hD;have Q5:=Ms _ _ Dp Kp;simp -dsimp[au,stC,-Bool.exists_bool,-List.map_take,-Prod.forall,-Prod.exists];refine⟨_,Q5,by rw[List.length_map,hl];exact zsz hi2 Mr,ds++[d],by rw[ao];simp,by simp[hl],?_,by rw[aD LD];exact Ms _ _ Lp hL5,(qbG.but E_ Ms).keep (fun c zs e=>zj e Q5 (by intro z;cases z)),by rw[aD nD];exact Ms _ _ np hn5,RP.upd (Dp.symm),(Mp.trans Ms).new (jP.none Pb Ml hD)⟩;intro z hz
        rcases List.mem_append.mp hz with y | y
        ·exact hds z y
        ·simp at y;subst y;exact⟨hd0,hd1⟩
      · rintro σ H5 ⟨v,ds,rfl,Kp,hl,hds,hL5,qbG,hn5,E_,Mp⟩;simp -dsimp[au,stC,-Bool.exists_bool,-List.map_take,-Prod.forall,-Prod.exists];have hD0:=jP.none Pb Ml hD;have LD:L≠D:=aP Mq hD;refine⟨⟨_,aY.of hL5⟩,⟨_,aY.of Kp⟩,fun D2 hD2=>cmZ tv (ds.map V.int) (fun i σ H'=>(∃o1 o2 o3,σ=[o1,o2,o3])∧∃tvs qs,H' D2=some (.lst tvs)∧bC H' tvs qs∧qs.length=i∧(∀e∈qs,e.1∈xs∧e.2∈xs∧e.1≠e.2)∧H' L=some (.lst tv)∧H' D=some (.lst (ds.map V.int))∧bC H' tv ps∧H' n=some (.lst (xs.map V.str))∧jP H' p∧But p H H') ⟨⟨_,_,_,rfl⟩,[],[],ao,⟨rfl,by simp⟩,rfl,by simp,bO hL5 hD2,bO Kp hD2,qbG.same (aA hD2),bO hn5 hD2,E_.upd (E_.ne hD2),Mp.same (aA hD2)⟩ (by simp[hl]) (fun i σ H' _ h=>by
          obtain⟨_,_,_,_,_,_,_,z1,z2,_⟩:=h;exact⟨aY.of z1,aY.of z2⟩) ?_ ?_⟩
        · rintro i x y t σ H6 hx hy ht ⟨⟨o1,o2,o3,rfl⟩,tvs,qs,qbH,Di,hql,hqs,hL6,Q5,qbI,hn6,RP,Ms⟩;simp -dsimp[au,stC,-Bool.exists_bool,-List.map_take,-Prod.forall,-Prod.exists];obtain⟨e,he,tt,rfl,htt⟩:=qbI.at hx;have hi2:i<tv.length:=(List.getElem?_eq_some_iff.mp hx).1;have hem:=List.mem_of_getElem? he;rw[List.getElem?_map] at hy;obtain⟨d,hd,rfl⟩:∃d,ds[i]? = some d∧y = .int d:=by
            cases z:ds[i]? with
            | none=>rw[z] at hy;cases hy
            | some d=>rw[z] at hy;exact⟨d,rfl,(Option.some.inj hy).symm⟩
          have hd2:=hds d (List.mem_of_getElem? hd);refine⟨_,dz.of ao,rfl,_,dz.of (bO htt ht),rfl,?_⟩;simp -dsimp[au,stC,-Bool.exists_bool,-List.map_take,-Prod.forall,-Prod.exists];refine fun p1 h1 p2 h2 p3 h3=>⟨_,.inl (aY.of ao),?_⟩;have hp1:=bO (u:=HO.lst [V.ref p1,V.ref p2]) (bO (u:=HO.tup [.str e.2,.str e.1]) (ao (H:=upd H6 t (HO.tup [V.ref tt,V.int d])) (a:=p1) (o:=HO.tup [.str e.1,.str e.2])) h2) h3;have hp2:=bO (u:=HO.lst [V.ref p1,V.ref p2]) (ao (H:=upd (upd H6 t (HO.tup [V.ref tt,V.int d])) p1 (HO.tup [.str e.1,.str e.2])) (a:=p2) (o:=HO.tup [.str e.2,.str e.1])) h3;have sm:=(((aA (o:=HO.tup [V.ref tt,V.int d]) ht).trans (aA (o:=HO.tup [.str e.1,.str e.2]) h1)).trans (aA (o:=HO.tup [.str e.2,.str e.1]) h2)).trans (aA (o:=HO.lst [V.ref p1,V.ref p2]) h3);generalize upd (upd (upd (upd H6 t (HO.tup [V.ref tt,V.int d])) p1 (HO.tup [.str e.1,.str e.2])) p2 (HO.tup [.str e.2,.str e.1])) p3 (HO.lst [V.ref p1,V.ref p2])=H9 at hp1 hp2 sm ⊢;have key:∃(pp:Addr) (e':Str×Str),CJ [V.ref p1,V.ref p2] d=some (.ref pp)∧H9 pp=some (.tup [.str e'.1,.str e'.2])∧e'.1∈xs∧e'.2∈xs∧e'.1≠e'.2:=by
            have ⟨q1,q2,q3⟩:=hts.ok e hem;have:d=0∨d=1:=z01 hd2.1 hd2.2
            rcases this with rfl | rfl
            ·exact⟨p1,e,rfl,hp1,q1,q2,q3⟩
            ·exact⟨p2,(e.2,e.1),rfl,hp2,q2,q1,Ne.symm q3⟩
          obtain⟨pp,e',a1,hpp,k1,k2,k3⟩:=key;have D2n:=hD2;have D2p:D2≠p:=E_.nl hD2;have LD2:L≠D2:=aP hL5 hD2;have DD2:D≠D2:=aP Kp hD2;have nD2:n≠D2:=aP hn5 hD2;have qdY:=sm _ _ qbH;have kp:cP H9 (upd H9 D2 (.lst (tvs++[.ref pp]))):=fun c zs e=>zj e qdY (by intro z;cases z);have hP9:jP H9 p:=by
            obtain⟨u1,u2,u3,u4⟩:=RP;exact⟨u1,u2,sm _ _ u3,u4⟩
          refine⟨_,a1,_,qdY,?_,_,ao,qs++[e'],((Di.same sm).keep kp).snoc (kp _ _ hpp),by simp[hql],?_,by rw[aD LD2];exact sm _ _ hL6,by rw[aD DD2];exact sm _ _ Q5,(qbI.same sm).keep kp,by rw[aD nD2];exact sm _ _ hn6,hP9.upd D2p.symm,(Ms.same sm).new (jP.none Mp E_ hD2)⟩
          ·rw[Di.1,hql];exact zsz hi2 Mr
          · intro z hz
            rcases List.mem_append.mp hz with y | y
            ·exact hqs z y
            ·simp at y;subst y;exact⟨k1,k2,k3⟩
        · rintro σ H6 ⟨⟨o1,o2,o3,rfl⟩,tvs,qs,qbH,Di,hql,hqs,hL6,Q5,qbI,hn6,RP,Ms⟩;simp -dsimp[au,stC,-Bool.exists_bool,-List.map_take,-Prod.forall,-Prod.exists];have D2p:D2≠p:=E_.nl hD2;have qlR:=jP.none Mp E_ hD2;have tl:tvs.length=tv.length:=by rw[Di.1,hql]
          refine⟨p,D2,_,rfl,RP,D2p,qbH,by rw[tl];exact Nat.le_trans Mr (by decide),fun l ys H7 hl0 hl7 hperm WK RQ=>?_⟩;simp -dsimp[au,stC,-Bool.exists_bool,-List.map_take,-Prod.forall,-Prod.exists];intro t ht;obtain⟨rs,hrs,hrp⟩:=(Di.but RP RQ).perm hperm;refine q t n l xs ys rs _ (jP.none (Ms.trans RQ) WK ht) (jP.none JV Ko hn) (jP.none Ms RP hl0) ao (bO (RQ _ _ np hn6) ht) (bO hl7 ht) (hrs.same (aA ht)) hX ⟨?_,fun e he=>hqs e (hrp.mem_iff.mp he)⟩ RN ?_ (WK.upd (WK.ne ht)) ((Ms.trans RQ).same (aA ht))
          ·rw[hrp.length_eq,hql];exact Mr
          ·rw[hrp.length_eq,hql,htv.1];exact hpk
    · intro N hN;refine gb.of (fun h=>?_) (fun h=>?_)
      · simp -dsimp[au,stC,-Bool.exists_bool,-List.map_take,-Prod.forall,-Prod.exists];have hx2:2≤xs.length:=by simp at h;exact z2 h
        have qdZ:upd H3 L (.lst []) n=some (.lst (xs.map V.str)):=bO hn3 hL;refine⟨p,n,_,rfl,JW.upd (JW.ne hL),np,qdZ,by rw[List.length_map];exact Nat.le_trans hx9 (by decide),fun rw ys H4 hrw qd0 hperm Ml qbJ=>?_⟩;have Pb:=(hB3.same (aA hL)).trans qbJ;obtain⟨zs,hzp,rfl⟩:=vC hperm xs rfl;have hzl:zs.length=xs.length:=hzp.length_eq;have qd1:zs.Nodup:=hzp.nodup_iff.mpr hX.nd;have hn4:=qbJ _ _ np qdZ;have Mq:H4 L=some (.lst []):=qbJ _ _ (JW.nl hL) ao;have hL0:=jP.none hB3 JW hL;simp -dsimp[au,stC,-Bool.exists_bool,-List.map_take,-Prod.forall,-Prod.exists];refine Ag (fun σ H5=>∃v6 v7 L tv ps,σ=[some (.ref p),some (.int m),some (.int k),some (.ref n),some (.int kd),some (.ref L),v6,v7,none]∧H L=none∧H5 L=some (.lst tv)∧bC H5 tv ps∧qL xs ps∧ps.length≤m∧H5 n=some (.lst (xs.map V.str))∧jP H5 p∧But p H H5) ?_ ?_
        · rintro σ H5 ⟨v6,v7,L,tv,ps,rfl,hL0,hL5,htv,hts,hpm,hn5,E_,Mp⟩;simp -dsimp[au,stC,-Bool.exists_bool,-List.map_take,-Prod.forall,-Prod.exists];have Lp:L≠p:=hp.nl hL0;have Mr:tv.length=ps.length:=htv.1;have s20:=of_eq_true Gi;have htk:tv.length≤k:=by rw[Mr];exact Nat.le_trans hpm hmk
          refine⟨_,.inl (aY.of hL5),p,_,rfl,E_,zk1 htk,zk2 hk (by decide),fun f H6 hf0 hf1 RP Yy=>?_⟩;simp -dsimp[au,stC,-Bool.exists_bool,-List.map_take,-Prod.forall,-Prod.exists];refine⟨zlo hf0,Int.lt_trans hf1 (zk2 hk (by decide)),frR (fun i σ H7=>∃v7 tv ps,σ=[some (.ref p),some (.int m),some (.int k),some (.ref n),some (.int kd),some (.ref L),v6,v7,none]∧H7 L=some (.lst tv)∧bC H7 tv ps∧qL xs ps∧ps.length+f.toNat≤k+i∧H7 n=some (.lst (xs.map V.str))∧jP H7 p∧But p H H7) ⟨v7,tv,ps,rfl,Yy _ _ Lp hL5,htv.but E_ Yy,hts,zk3 hf0 hf1 Mr,Yy _ _ np hn5,RP,Mp.trans Yy⟩ ?_ ?_⟩
          · rintro i σ H7 hi ⟨v7,tv,ps,rfl,RV,JX,qbK,hpl,hn7,WK,RQ⟩;simp -dsimp[au,stC,-Bool.exists_bool,-List.map_take,-Prod.forall,-Prod.exists];refine⟨⟨_,aY.of RV⟩,p,n,xs,rfl,WK,np,hn7,hx2,hx9,hX.nd,fun t x y H8 ht ht8 hx hy hxy hP8 hB8=>?_⟩;simp -dsimp[au,stC,-Bool.exists_bool,-List.map_take,-Prod.forall,-Prod.exists];have hL8:=hB8 _ _ Lp RV;have hl7:=JX.1;have kp:cP H8 (upd H8 L (.lst (tv++[.ref t]))):=fun c zs e=>zj e hL8 (by intro z;cases z);have nL:n≠L:=fun z=>by subst z;rw[jP.none JV Ko hn] at hL0;rw[hn7] at RV;cases tv with
              | nil=>simp at RV;rw[RV] at hx2;simp at hx2
              | cons v tv=>
                obtain⟨e,_,u,rfl,_⟩:=JX.at (i:=0) rfl;cases xs with
                | nil=>simp at hx2
                | cons x xs=>simp at RV
            refine⟨_,hL8,zk4 hl7 hpl hi hk,_,ao,ps++[(x,y)],((JX.but WK hB8).keep kp).snoc (kp _ _ ht8),⟨by rw[List.length_append];exact Nat.succ_le_succ (zk5 hpl hi hk),?_⟩,by rw[List.length_append];exact zk6 hpl,by rw[aD nL];exact hB8 _ _ np hn7,hP8.upd Lp.symm,(RQ.trans hB8).new hL0⟩;intro e he
            rcases List.mem_append.mp he with z | z
            ·exact qbK.ok e z
            ·simp at z;subst z;exact⟨hx,hy,hxy⟩
          ·rintro σ H7 ⟨v7,tv,ps,rfl,RV,JX,qbK,hpl,hn7,WK,RQ⟩;simp -dsimp[au,stC,-Bool.exists_bool,-List.map_take,-Prod.forall,-Prod.exists];exact hN _ _ ⟨_,_,L,tv,ps,rfl,hL0,RV,JX,qbK,zk7 hpl,hn7,WK,RQ⟩
        · intro N2 hN2;refine gb.of (fun h=>?_) (fun h=>?_)
          · simp -dsimp[au,stC,-Bool.exists_bool,-List.map_take,-Prod.forall,-Prod.exists];obtain⟨lo,hlo,lo1⟩:∃lo:Nat,(if kd=3 then (1:Int) else 0)=lo∧lo≤1:=by
              split
              ·exact⟨1,rfl,Nat.le_refl _⟩
              ·exact⟨0,rfl,by decide⟩
            simp only[hlo];have s20:=of_eq_true Gi;refine⟨_,.inl (aY.of qd0),⟨qi8,zlt lo1 (by decide),zlt (by rw[List.length_map,hzl];exact hx9) (by decide)⟩,fun D hD=>cmR (fun i σ H5=>(∃o,σ=[o,some (.ref rw)])∧∃tvs qs,H5 D=some (.lst tvs)∧bC H5 tvs qs∧qs.length=i∧(∀e∈qs,e.1∈xs∧e.2∈xs∧e.1≠e.2)∧Same H4 H5) ⟨⟨_,rfl⟩,[],[],ao,⟨rfl,by simp⟩,rfl,by simp,aA hD⟩ ?_ ?_⟩
            · rintro i σ H5 hi ⟨⟨o,rfl⟩,tvs,qs,Kp,Di,hql,hqs,sm⟩;have hk:lo+i<zs.length:=by simp at hi;exact qi_ hi
              obtain⟨j,vx,hj,ex,ax⟩:=Ue (xs:=zs.map V.str) (k:=lo+i) (by rw[List.length_map,hzl];exact hx2) (by simpa using hk);obtain⟨x,ex',rfl⟩:=qW ex;have ey':zs[lo+i]? = some (zs[lo+i]'hk):=by simp[hk]
              have ay:CJ (zs.map V.str) ((lo+i:Nat):Int)=some (.str (zs[lo+i]'hk)):=aR (by rw[List.getElem?_map,ey'];rfl);have c1:((lo+i:Nat):Int)=(lo:Int)+i:=Int.natCast_add ..;rw[c1] at ax ay;have sl:=aY.of (K:=K) (sm _ _ qd0);simp -dsimp[au,stC,-Bool.exists_bool,-List.map_take,-Prod.forall,-Prod.exists];refine⟨_,.inl sl,_,ax,_,.inl sl,_,ay,fun pt hpt=>?_⟩;have Dpt:=aP Kp hpt;have Q5:upd H5 pt (.tup [.str x,.str (zs[lo+i]'hk)]) D=some (.lst tvs):=bO Kp hpt;have kp:cP (upd H5 pt (.tup [.str x,.str (zs[lo+i]'hk)])) (upd (upd H5 pt (.tup [.str x,.str (zs[lo+i]'hk)])) D (.lst (tvs++[.ref pt]))):=fun c zs e=>zj e Q5 (by intro z;cases z);have hl:=Di.1;refine⟨_,Q5,by rw[hl,hql];exact zsz (Nat.lt_of_le_of_lt (Nat.le_add_left i lo) hk) (by rw[hzl];exact Nat.le_trans hx9 (by decide)),_,ao,qs++[(x,zs[lo+i]'hk)],((Di.same (aA hpt)).keep kp).snoc (kp _ _ ao),by simp[hql],?_,aV (sm.trans (aA hpt)) hD⟩;intro e he
              rcases List.mem_append.mp he with z | z
              ·exact hqs e z
              ·simp at z;subst z;refine⟨hzp.mem_iff.mp (List.mem_of_getElem? ex'),hzp.mem_iff.mp (List.mem_of_getElem? ey'),fun z=>hj ?_⟩;simp only at z;rw[← z] at ey';exact z8 qd1 ex' ey'
            · rintro σ H5 ⟨⟨o,rfl⟩,tvs,qs,Kp,Di,hql,hqs,sm⟩;simp -dsimp[au,stC,-Bool.exists_bool,-List.map_take,-Prod.forall,-Prod.exists];simp at hql;have hqm:qs.length≤m:=by rw[hql,hzl];exact Nat.le_trans (Nat.sub_le ..) RN
              have E_:jP H5 p:=by
                obtain⟨u1,u2,u3,u4⟩:=Ml;exact⟨u1,u2,sm _ _ u3,u4⟩
              exact hN2 _ _ ⟨_,_,D,tvs,qs,rfl,jP.none Pb Ml hD,Kp,Di,⟨Nat.le_trans hqm (Nat.le_trans h9 (by decide)),hqs⟩,hqm,sm _ _ hn4,E_,Pb.same sm⟩
          ·simp -dsimp[au,stC,-Bool.exists_bool,-List.map_take,-Prod.forall,-Prod.exists];exact hN2 _ _ ⟨_,_,L,[],[],rfl,hL0,Mq,⟨rfl,by simp⟩,⟨by simp,by simp⟩,by simp,hn4,Ml,Pb⟩
      ·simp -dsimp[au,stC,-Bool.exists_bool,-List.map_take,-Prod.forall,-Prod.exists];exact hN _ _ ⟨_,_,L,[],[],rfl,jP.none hB3 JW hL,ao,⟨rfl,by simp⟩,⟨by simp,by simp⟩,by simp,bO hn3 hL,JW.upd (JW.ne hL),hB3.same (aA hL)⟩
theorem qd2 {m:Str} {u v:V} (h1:¬m = "names") (h2:¬m = "pairs"):∀p∈([("names",u),("pairs",v)]:List (Str×V)),¬m=p.1:=fun p hp=>by
  simp at hp
  rcases hp with rfl | rfl
  ·exact h1
  ·exact h2
theorem fL.same {C:Addr} {H H':Hp} {o:Addr} {xs:List Str} {ps:List (Str×Str)} (h:fL C H o xs ps) (s:Same H H'):fL C H' o xs ps:=by
  obtain⟨dx,n,m,tv,h1,h2,h3,h4,h5⟩:=h.ex;exact⟨⟨dx,n,m,tv,s _ _ h1,s _ _ h2,s _ _ h3,bC.same h4 s,h5⟩⟩
theorem fL.ins {C:Addr} {H:Hp} {o:Addr} {xs:List Str} {ps:List (Str×Str)} (h:fL C H o xs ps) {m:Str} (h1:¬m = "names") (h2:¬m = "pairs"):∃dx fs,H o=some (.ins C dx fs)∧∀p∈fs,¬m=p.1:=by
  obtain⟨dx,n,mm,tv,e,_⟩:=h.ex;exact⟨dx,_,e,qd2 h1 h2⟩
theorem zH:¬(("ties" : Str) = "names")∧¬(("ties" : Str) = "pairs"):=by decide+kernel
theorem sY:¬(("points" : Str) = "names")∧¬(("points" : Str) = "pairs"):=by decide+kernel
theorem sZ:¬(("many" : Str) = "names")∧¬(("many" : Str) = "pairs"):=by decide+kernel
def BP (C:Addr):Sp:=fun vs H Q _=>∃o d xs ps fx,vs=[.ref o,.ref d]∧fL C H o xs ps∧I_ H d fx∧∀l tv H',H l=none→H' l=some (.lst tv)→eN H' tv (aC fx ps 0)→tv.length≤40→Same H H'→Q (.ref l) H'
theorem rO (T:Txt K mg a):bV P w K mg base jN 2 a.cW a.jA ["web", "fixed"] (BP a.bT):=by
  refine T.kJ.nJ iu (fun vs H Q E h=>?_) (fun cdv A outer s H vs Q E hr h=>?_)
  ·obtain⟨o,d,xs,ps,fx,rfl,_⟩:=h;rfl
  · obtain⟨o,d,xs,ps,fx,rfl,hw,hfx,q⟩:=h;refine⟨_,(aB (bK (i:=2) iu.nd rfl (Or.inl rfl) (jh aq))
      (aB (jQ PassesOwn.never rfl (PI.eqv (Gh (K:=K) rfl rfl T.LC.enumerate (aj (PE.eqv (mH (aL 0) T.oN T.uR (yP (K:=K) T) (hr.mono (by decide)) T.uN .nil bh) (mO _ _ _ _ _ _)) aq)) (xJ _ _)) (PG.eqv (fj (K:=K) (n:=2) rfl rfl (jg.eqv (bw (aQ (i:=3) iu.nd rfl (Or.inl rfl)) (jg.eqv (bw (PG.eqv (fj (K:=K) (n:=2) rfl rfl (jg.eqv (bw (aQ (i:=4) iu.nd rfl (Or.inl rfl)) (jg.eqv (bw (aQ (i:=5) iu.nd rfl (Or.inl rfl)) (jg.mono eZ g_)) (bx _ _))) (bx _ _))) (fB _ _ _)) (jg.mono eZ g_)) (bx _ _))) (bx _ _))) (fB _ _ _))
      (aB (dM (bA jV (PE.eqv (Af (oE hr) (aL 1) (aL 3) aJ ⟨rfl,rfl,rfl,rfl⟩) (xK _ _ _)) aJ (bQ _)) (aG (gw (nC (K:=K) rfl PySem.F.plainAttrs_list PySem.F.slot_list_append PySem.F.type_list_append h_ (aL 2) (aj (iW (aj (aL 3) (aj (aL 4) (aj (aL 5) aq)))) aq)))) bN)
      (aG (dM (bA jV (PE.eqv (Af (oE hr) (aL 1) (aL 3) aJ ⟨rfl,rfl,rfl,rfl⟩) (xK _ _ _)) aJ (bQ _)) (aG (gw (nC (K:=K) rfl PySem.F.plainAttrs_list PySem.F.slot_list_append PySem.F.type_list_append h_ (aL 2) (aj (iW (aj (aL 3) (aj (aL 5) (aj (aL 4) aq)))) aq)))) bN))))
      (aG (aZ (aL 2))))),?_⟩
    obtain⟨dx,fs,hi,hno⟩:=hw.ins zH.1 zH.2;obtain⟨_,_,_,_,_,_,_,_,Dh⟩:=hw.ex;simp -dsimp[au,stC,-Bool.exists_bool,-List.map_take,-Prod.forall,-Prod.exists];intro L hL;refine⟨_,_,bO hi hL,hno,o,xs,ps,rfl,hw.same (aA hL),fun l2 yQ hl2 qbL=>?_⟩;have sa:Same H (upd (upd H L (.lst [])) l2 (.lst yQ)):=(aA hL).trans (aA hl2);have eL:upd (upd H L (.lst [])) l2 (.lst yQ) L=some (.lst []):=bO ao hl2;have e2:upd (upd H L (.lst [])) l2 (.lst yQ) l2=some (.lst yQ):=ao;have Hj:=bC.same qbL (aA (o:=HO.lst yQ) hl2);have L2n:L≠l2:=fun z=>by subst z;rw[ao] at hl2;cases hl2
    generalize upd (upd H L (.lst [])) l2 (.lst yQ)=H1 at sa eL e2 Hj ⊢;obtain⟨kvs,hd,hv⟩:=hfx;have dL:d≠L:=aP hd hL;simp -dsimp[au,stC,-Bool.exists_bool,-List.map_take,-Prod.forall,-Prod.exists];refine⟨⟨_,aY.of e2⟩,frE yQ (fun i σ H'=>(∃v3 v4 v5 sv,σ=[some (.ref o),some (.ref d),some (.ref L),v3,v4,v5]∧H' L=some (.lst sv)∧eN H' sv (aC fx (ps.take i) 0)∧sv.length≤2 * i)∧H' l2=some (.lst yQ)∧bC H' yQ ps∧Same H H') ⟨⟨_,_,_,[],rfl,eL,gW.nil,by simp⟩,e2,Hj,sa⟩ (fun i σ H' _ h=>aY.of h.2.1) ?_ ?_⟩
    · rintro i x t σ H2 hi ht ⟨⟨v3,v4,v5,sv,rfl,hL2,hsv,hsl⟩,qd3,htv,s2⟩;have hi2:i<yQ.length:=(List.getElem?_eq_some_iff.mp hi).1;have tl:=htv.1;obtain⟨e,he,tt,rfl,htt⟩:=htv.at hi;rw[pB fx he];unfold jx;simp -dsimp[au,stC,-Bool.exists_bool,-List.map_take,-Prod.forall,-Prod.exists];have st:Same H2 (upd H2 t (.tup [.int i,.ref tt])):=aA ht;refine⟨_,dz.of ao,rfl,_,dz.of (st _ _ htt),rfl,isD (st _ _ (s2 _ _ hd)),_,qdn i (st _ _ (s2 _ _ hd)),?_⟩;have tL:L≠t:=aP hL2 ht;have VJ:=st _ _ hL2;have Q6:=st _ _ qd3;have Hj:=bC.same htv st;have s3:=s2.trans st;have qbM:=eN.keep hsv (L2.cP.of st);generalize upd H2 t (.tup [.int i,.ref tt])=H3 at VJ Q6 Hj s3 qbM ⊢;have Mt:60≤sizeLine:=by decide
      have add:∀(H3:Hp) (sv:List V) (S:List iC) (n:Nat) (x y:Str) (b:Addr),H3 L=some (.lst sv)→eN H3 sv S→H3 b=none→H3 l2=some (.lst yQ)→bC H3 yQ ps→Same H H3→
          (upd (upd H3 b (.tup [.int n,.str x,.str y])) L (.lst (sv++[.ref b])) L=some (.lst (sv++[.ref b]))∧eN (upd (upd H3 b (.tup [.int n,.str x,.str y])) L (.lst (sv++[.ref b]))) (sv++[.ref b]) (S++[(n,x,y)]))∧upd (upd H3 b (.tup [.int n,.str x,.str y])) L (.lst (sv++[.ref b])) l2=some (.lst yQ)∧bC (upd (upd H3 b (.tup [.int n,.str x,.str y])) L (.lst (sv++[.ref b]))) yQ ps∧Same H (upd (upd H3 b (.tup [.int n,.str x,.str y])) L (.lst (sv++[.ref b]))):=by
        intro H3 sv S n x y b VJ hsv hb hl2 htv s3;have sb:Same H3 (upd H3 b (.tup [.int n,.str x,.str y])):=aA hb;have kp:L2.cP (upd H3 b (.tup [.int n,.str x,.str y])) (upd (upd H3 b (.tup [.int n,.str x,.str y])) L (.lst (sv++[.ref b]))):=L2.cP.set (sb _ _ VJ) (by intro z e;cases e);refine⟨⟨ao,gW.snoc (eN.keep (eN.keep hsv (L2.cP.of sb)) kp) ⟨b,rfl,kp _ _ ao⟩⟩,by rw[aD L2n.symm];exact sb _ _ hl2,(bC.same htv sb).keep kp,aV (s3.trans sb) hL⟩
      rw[hv i,Ja];simp -dsimp[au,stC,-Bool.exists_bool,-List.map_take,-Prod.forall,-Prod.exists];refine Ag (fun σ H4=>(∃sv,σ=[some (.ref o),some (.ref d),some (.ref L),some (.int i),some (.str e.1),some (.str e.2)]∧H4 L=some (.lst sv)∧eN H4 sv (aC fx (ps.take i) 0++if (fx i).getD 0=0 then [(i,e.1,e.2)] else [])∧sv.length≤2 * i+1)∧H4 l2=some (.lst yQ)∧bC H4 yQ ps∧Same H H4) ?_ ?_
      · rintro σ H4 ⟨⟨sv,rfl,Mq,qd4,qbN⟩,Q7,Q8,s4⟩;simp -dsimp[au,stC,-Bool.exists_bool,-List.map_take,-Prod.forall,-Prod.exists];refine⟨isD (s4 _ _ hd),_,qdn i (s4 _ _ hd),?_⟩;rw[hv i,Ja];simp -dsimp[au,stC,-Bool.exists_bool,-List.map_take,-Prod.forall,-Prod.exists];refine gb.of (fun h=>?_) (fun h=>?_)
        · have h':(fx i).getD 1=1:=by simpa using h
          simp -dsimp[au,stC,-Bool.exists_bool,-List.map_take,-Prod.forall,-Prod.exists];refine⟨⟨_,aY.of Mq⟩,fun b hb=>?_⟩;refine⟨_,bO Mq hb,zs1 qbN hi2 tl Dh,?_⟩;obtain⟨⟨k1,k2⟩,k3,k4,k5⟩:=add H4 sv _ i e.2 e.1 b Mq qd4 hb Q7 Q8 s4;refine⟨⟨_,k1,?_,by rw[List.length_append];exact zs2 qbN⟩,k3,k4,k5⟩;rw[if_pos h',← List.append_assoc];exact k2
        · have h':¬(fx i).getD 1=1:=by simpa using h
          simp -dsimp[au,stC,-Bool.exists_bool,-List.map_take,-Prod.forall,-Prod.exists];refine⟨⟨_,Mq,?_,Nat.le_of_succ_le (zs2 qbN)⟩,Q7,Q8,s4⟩;rw[if_neg h',List.append_nil];exact qd4
      · intro N hN;refine gb.of (fun h=>?_) (fun h=>?_)
        · have h':(fx i).getD 0=0:=by simpa using h
          simp -dsimp[au,stC,-Bool.exists_bool,-List.map_take,-Prod.forall,-Prod.exists];refine⟨⟨_,aY.of VJ⟩,fun b hb=>?_⟩;refine⟨_,bO VJ hb,zs1 (Nat.le_succ_of_le hsl) hi2 tl Dh,?_⟩;obtain⟨⟨k1,k2⟩,k3,k4,k5⟩:=add H3 sv _ i e.1 e.2 b VJ qbM hb Q6 Hj s3;refine hN _ _ ⟨⟨_,rfl,k1,?_,by rw[List.length_append];exact Nat.succ_le_succ hsl⟩,k3,k4,k5⟩;rw[if_pos h'];exact k2
        · have h':¬(fx i).getD 0=0:=by simpa using h
          simp -dsimp[au,stC,-Bool.exists_bool,-List.map_take,-Prod.forall,-Prod.exists];refine hN _ _ ⟨⟨_,rfl,VJ,?_,Nat.le_succ_of_le hsl⟩,Q6,Hj,s3⟩;rw[if_neg h',List.append_nil];exact qbM
    ·rintro σ H2 ⟨⟨v3,v4,v5,sv,rfl,hL2,hsv,hsl⟩,qd3,htv,s2⟩;simp -dsimp[au,stC,-Bool.exists_bool,-List.map_take,-Prod.forall,-Prod.exists];rw[htv.1,List.take_length] at hsv;have tl:=htv.1;exact q L sv H2 hL hL2 hsv (zs3 hsl tl Dh) s2
def Dj:Sp:=fun vs H Q _=>∃(start:Str) (l:Addr) (tv:List V) (S:List iC) (xs:List Str),vs=[.str start,.ref l]∧H l=some (.lst tv)∧eN H tv S∧start∈xs∧(∀s∈S,s.2.2∈xs)∧xs.length≤9∧
  ∀(d:Addr) (kvs:List (Key×V)) (R:BR) (H':Hp),H d=none→H' d=some (.dK kvs)→gk H' kvs R→Kl S start R.length R→qi6 S start R→pC H kvs→Same H H'→Q (.ref d) H'
theorem Dk (T:Txt K mg a):bV P w K mg base jN 1 a.dH a.j_ ["start", "steps"] Dj:=by
  refine T.pW.nJ cV (fun vs H Q E h=>?_) (fun cdv A outer s H vs Q E hr h=>?_)
  ·obtain⟨start,l,tv,S,xs,rfl,_⟩:=h;rfl
  · obtain⟨start,l,tv,S,xs,rfl,hl,hS,hsx,Kq,h9,q⟩:=h;refine⟨_,(aB (bK (i:=2) cV.nd rfl (Or.inl rfl) (Xq (T_ (aL 0) (jh aq) Xp) rfl rfl (by simp) (by decide)))
      (aB (bK (i:=3) cV.nd rfl (Or.inl rfl) (jh (aj (aL 0) aq)))
      (aB (bK (i:=4) cV.nd rfl (Or.inl rfl) aJ)
      (aB (R6 PassesOwn.never (bA uz (aL 4) (aM (cD (K:=K) rfl) rfl T.nm.len PySem.boot_len (aj (aL 3) aq)) (bQ _))
      (aB (bK (i:=5) cV.nd rfl (Or.inl rfl) (bJ (bM (K:=K) rfl) (aL 3) (aL 4) (fun _ _=>rfl)))
      (aB (jQ PassesOwn.never rfl (PI.eqv (d8 (K:=K) rfl (aL 1)) (cO _ _)) (PG.eqv (fj (K:=K) (n:=3) rfl rfl (jg.eqv (bw (aQ (i:=6) cV.nd rfl (Or.inl rfl)) (jg.eqv (bw (aQ (i:=7) cV.nd rfl (Or.inl rfl)) (jg.eqv (bw (aQ (i:=8) cV.nd rfl (Or.inl rfl)) (jg.mono eZ g_)) (bx _ _))) (bx _ _))) (bx _ _))) (fB _ _ _))
      (aG (dM (PW.pt (wY (bA jV (aL 7) (aL 5) (bQ _)) (zc (Gm (PC.eqv (D_ (oE hr) (aL 8) (aL 2)) (Am _ _)))))) (aB (PS.eqv (zm (oE hr) (aL 2) (aL 8) (dZ Oi (PE.eqv (Gg (oE hr) (aL 2) (aL 5) (fun _ _=>rfl)) (Al _ _)) (jh (aj (aL 6) aq))) rfl) (vK _ _ _))
      (aG (gw (nC (K:=K) rfl PySem.F.plainAttrs_list PySem.F.slot_list_append PySem.F.type_list_append h_ (aL 3) (aj (aL 8) aq))))) bN)))
      (aG (PS.mono (qat (i:=4) cV.nd rfl (Or.inl rfl) aJ X_) qbp)))))
      (aG (aZ (aL 2))))))),?_⟩
    simp -dsimp[au,stC,-Bool.exists_bool,-List.map_take,-Prod.forall,-Prod.exists];intro d hd p1 hp1;refine⟨bO ao hp1,[(Sum.inr start,.ref p1)],rfl,by simp,fun rl hrl=>?_⟩;have em:uy [] [((Sum.inr start:Key),V.ref p1)]=[(Sum.inr start,.ref p1)]:=rfl;rw[em] at hrl ⊢;have dp1:d≠p1:=fun z=>by subst z;rw[ao] at hp1;cases hp1
    have qjh:H p1=none:=dg (aA hd) hp1;have sa:Same H (upd (upd (upd H d (.dK [])) p1 (.lst [])) d (.dK [(Sum.inr start,.ref p1)])):=aV ((aA hd).trans (aA hp1)) hd;have qji:H rl=none:=dg sa hrl;have e1:upd (upd (upd H d (.dK [])) p1 (.lst [])) d (.dK [(Sum.inr start,.ref p1)]) d=some (.dK [(Sum.inr start,.ref p1)]):=ao;have e2:upd (upd (upd H d (.dK [])) p1 (.lst [])) d (.dK [(Sum.inr start,.ref p1)]) p1=some (.lst []):=by rw[aD dp1.symm];exact ao
    generalize upd (upd (upd H d (.dK [])) p1 (.lst [])) d (.dK [(Sum.inr start,.ref p1)])=H1 at sa hrl e1 e2 ⊢;have sb:=sa.trans (aA (o:=.lst [.str start]) hrl);have dr:d≠rl:=aP e1 hrl;have qd5:pC H [((Sum.inr start:Key),V.ref p1)]:=by
      intro kv hkv q hq;simp at hkv;subst hkv;cases hq;exact qjh
    refine whB (fun σ H'=>∃(n:Nat) (R:BR) (kvs:List (Key×V)) (o5 o6 o7 o8:Option V),σ=[some (.str start),some (.ref l),some (.ref d),some (.ref rl),some (.int n),o5,o6,o7,o8]∧H' d=some (.dK kvs)∧gk H' kvs R∧H' rl=some (.lst (R.map fun yw=>.str yw.1))∧Kl S start n R∧xM S start n=R∧pC H kvs∧n≤R.length∧Same H H')
      (fun σ _=>qdo 4 σ)
      ⟨0,[(start,[])],[(Sum.inr start,.ref p1)],none,none,none,none,rfl,bO e1 hrl,⟨rfl,?_⟩,ao,Kl.begin S start,rfl,qd5,by simp,sb⟩ ?_ Jo
    · intro i kv yw h1 h2;have hi:i=0:=by have:=(List.getElem?_eq_some_iff.mp h1).1;simp at this;omega
      subst hi;simp at h1 h2;subst h1 h2;exact⟨rfl,p1,rfl,bO e2 hrl⟩
    · rintro σ H2 ⟨n,R,kvs,o5,o6,o7,o8,rfl,hd2,hW2,hr2,hB,hF,hN,hnR,s2⟩;have hR9:R.length≤9:=by
        have h1:=gQ hB.nd (hB.sub hsx Kq);simp at h1;omega
      simp -dsimp[au,stC,-Bool.exists_bool,-List.map_take,-Prod.forall,-Prod.exists];refine⟨_,.inl (aY.of hr2),gb.of (fun hlt=>?_) (fun hlt=>?_)⟩
      · have hlt':n<R.length:=by simpa using hlt
        simp -dsimp[au,stC,-Bool.exists_bool,-List.map_take,-Prod.forall,-Prod.exists];obtain⟨⟨hh,wh⟩,hR⟩:∃x,R[n]? = some x:=⟨R[n],by simp[hlt']⟩;refine⟨_,.inl (aY.of hr2),.str hh,aR (by rw[List.getElem?_map,hR];rfl),⟨_,aY.of (s2 _ _ hl)⟩,frL tv (fun j σ H'=>∃(R:BR) (kvs:List (Key×V)) (o6 o7 o8:Option V),σ=[some (.str start),some (.ref l),some (.ref d),some (.ref rl),some (.int n),some (.str hh),o6,o7,o8]∧H' d=some (.dK kvs)∧gk H' kvs R∧H' rl=some (.lst (R.map fun yw=>.str yw.1))∧lD S (S.take j) start n hh wh R∧vM (S.take j) hh wh (xM S start n)=R∧pC H kvs∧Same H H') ⟨R,kvs,o6,o7,o8,rfl,hd2,hW2,hr2,lD.enter hB hR,hF,hN,s2⟩ (fun j σ H' _ h=>by
          obtain⟨_,_,_,_,_,_,_,_,_,_,_,_,z⟩:=h;exact aY.of (z _ _ hl)) ?_ ?_⟩
        · rintro j x σ H3 hj ⟨R,kvs,o6,o7,o8,rfl,RW,Pg,Yz,hM,WL,hN3,s3⟩;obtain⟨⟨sn,so,sg⟩,hs,t,rfl,ht⟩:=hS.at hj;have hR9:R.length≤9:=by
            have h1:=gQ hM.bf.nd (hM.bf.sub hsx Kq);simp at h1;omega
          have hFs:=Ln (S.take j) (sn,so,sg) hh wh (xM S start n);rw[WL] at hFs;rw[take_one hs];simp -dsimp[au,stC,-Bool.exists_bool,-List.map_take,-Prod.forall,-Prod.exists];refine⟨_,dz.of (s3 _ _ ht),rfl,?_⟩;simp -dsimp[au,stC,-Bool.exists_bool,-List.map_take,-Prod.forall,-Prod.exists]
          by_cases hoh:so=hh
          · subst hoh;refine gb.pos (by simp) ?_;simp -dsimp[au,stC,-Bool.exists_bool,-List.map_take,-Prod.forall,-Prod.exists];refine⟨_,qa5 sg RW,?_⟩;rw[Pg.qiM hM.bf.nd];refine gb.of (fun hg=>?_) (fun hg=>?_)
            · have hg':¬sg∈R.map (·.1):=by simpa using hg
              obtain⟨pw,hpw,qjj⟩:=Pg.some hM.bf.nd (List.mem_of_getElem? hM.hr);have hwl:=hM.bf.qiK (List.mem_of_getElem? hM.hr);have s20:=of_eq_true Gi;simp -dsimp[au,stC,-Bool.exists_bool,-List.map_take,-Prod.forall,-Prod.exists];refine⟨.ref pw,?_,fun b hb=>?_⟩
              ·have:=qa5 so RW;rw[hpw] at this;exact this
              refine⟨_,bO qjj hb,_,ao,by simp;omega,fun c hc=>?_⟩;have s4:Same H3 (upd (upd H3 b (.lst [.int sn])) c (.lst (wh.map (fun n:Nat=>V.int n)++[.int sn]))):=(aA hb).trans (aA hc);have ec:upd (upd H3 b (.lst [.int sn])) c (.lst (wh.map (fun n:Nat=>V.int n)++[.int sn])) c=some (.lst (wh.map (fun n:Nat=>V.int n)++[.int sn])):=ao;generalize upd (upd H3 b (.lst [.int sn])) c (.lst (wh.map (fun n:Nat=>V.int n)++[.int sn]))=H4 at s4 ec ⊢;have hd4:=s4 _ _ RW;have VH:=s4 _ _ Yz;have hkl:=Pg.len;have epk:putK kvs (Sum.inr sg) (.ref c)=kvs++[(Sum.inr sg,.ref c)]:=qZ _ (Pg.none hg');refine⟨_,qiJ sg hd4 (by omega),?_⟩;rw[epk];have hr5:upd H4 d (.dK (kvs++[(Sum.inr sg,.ref c)])) rl=some (.lst (R.map fun yw=>.str yw.1)):=by rw[aD dr.symm];exact VH
              have ne0:∀w:List Nat,R.map (fun yw=>V.str yw.1)≠w.map (fun n:Nat=>V.int n):=fun w e=>by
                have hst:=hM.bf.st;cases R with
                | nil=>simp at hst
                | cons r R=>
                  cases w with
                  | nil=>simp at e
                  | cons n w=>simp at e
              have kp:∀(p:Addr) (w:List Nat),H4 p=some (.lst (w.map fun n:Nat=>V.int n))→upd (upd H4 d (.dK (kvs++[(Sum.inr sg,.ref c)]))) rl (.lst (R.map (fun yw=>V.str yw.1)++[.str sg])) p=some (.lst (w.map fun n:Nat=>V.int n)):=fun p w e=>by
                have h1:p≠d:=fun z=>by subst z;rw[hd4] at e;cases e
                have h2:p≠rl:=fun z=>by subst z;rw[VH] at e;exact ne0 w (HO.lst.inj (Option.some.inj e))
                rw[aD h2,aD h1];exact e
              have ec':H4 c=some (.lst ((wh++[sn]).map fun n:Nat=>V.int n)):=by rw[ec];simp
              refine⟨⟨_,aY.of hr5⟩,_,hr5,by simp;omega,R++[(sg,wh++[sn])],_,by rw[aD dr];exact ao,?_,by rw[ao];simp,hM.add (List.mem_of_getElem? hs) hg',hFs.trans (if_pos ⟨rfl,hg'⟩),hN3.snoc (dg (s3.trans (aA hb)) hc),aV (aV (s3.trans s4) hd) qji⟩;refine gk.snoc (gk.keep (H:=H4) (gk.keep Pg fun p w e=>s4 _ _ e) kp) (kp _ _ ec')
            · have hg':sg∈R.map (·.1):=by simpa using hg
              simp -dsimp[au,stC,-Bool.exists_bool,-List.map_take,-Prod.forall,-Prod.exists];exact⟨R,kvs,RW,Pg,Yz,hM.skip fun _=>hg',hFs.trans (if_neg (fun z=>z.2 hg')),hN3,s3⟩
          ·refine gb.neg (by simp[hoh]) ?_;simp -dsimp[au,stC,-Bool.exists_bool,-List.map_take,-Prod.forall,-Prod.exists];exact⟨R,kvs,RW,Pg,Yz,hM.skip fun z=>absurd z hoh,hFs.trans (if_neg (fun z=>hoh z.1)),hN3,s3⟩
        · rintro σ H3 ⟨R,kvs,o6,o7,o8,rfl,RW,Pg,Yz,hM,WL,hN3,s3⟩;have hl3:S.take tv.length=S:=by rw[hS.1,List.take_length]
          rw[hl3] at hM WL;simp -dsimp[au,stC,-Bool.exists_bool,-List.map_take,-Prod.forall,-Prod.exists];have hlen:=(List.getElem?_eq_some_iff.mp hM.hr).1;refine⟨⟨n+1,by omega,R,kvs,RW,Pg,Yz,hM.leave,(QH (by rw[hF];exact hR)).trans WL,hN3,hlen,s3⟩,?_⟩;simp[qdo];omega
      · have hlt':¬n<R.length:=by simpa using hlt
        have en:n=R.length:=by omega
        subst en;simp -dsimp[au,stC,-Bool.exists_bool,-List.map_take,-Prod.forall,-Prod.exists];exact q d kvs R H2 hd hd2 hW2 hB hF hN s2
def BW (C:Addr):Sp:=fun vs H Q _=>∃(o:Addr) (start:Str) (l:Addr) (tv:List V) (S:List iC) (xs:List Str) (ps:List (Str×Str)),vs=[.ref o,.str start,.ref l]∧fL C H o xs ps∧H l=some (.lst tv)∧eN H tv S∧start∈xs∧(∀s∈S,s.2.2∈xs)∧xs.length≤9∧
  ∀(r:Addr) (H':Hp),H r=none→H' r=some (.lst ((lK S xs start).map V.str))→Same H H'→Q (.ref r) H'
theorem rP (T:Txt K mg a):bV P w K mg base jN 2 a.cX a.jB ["web", "start", "steps"] (BW a.bT):=by
  refine T.kO.nJ rA (fun vs H Q E h=>?_) (fun cdv A outer s H vs Q E hr h=>?_)
  ·obtain⟨o,start,l,tv,S,xs,ps,rfl,_⟩:=h;rfl
  · obtain⟨o,start,l,tv,S,xs,ps,rfl,hw,hl,hS,hsx,Kq,h9,q⟩:=h;refine⟨_,(aB (bK (i:=3) rA.nd rfl (Or.inr rfl) (PE.eqv (aO (Dk (K:=K) T) (hr.mono (by decide)) rfl T.wA T.pW.kp T.wz .nil bh (aj (aL 1) (aj (aL 2) aq))) (aK _ _ _)))
      (aG (aZ (eG rfl rfl (show aX (ak cG) _ ["web", "start", "steps", "ways"] ["point"] [3] ["point", "ways"] from⟨rfl,by decide+kernel,by decide+kernel,rfl,by decide+kernel,by decide+kernel⟩) rfl (PI.eqv (d8 (K:=K) rfl (PE.eqv (mH (aL 0) T.oN T.qj (uf (K:=K) T) (hr.mono (by decide)) T.pZ .nil bh) (mO _ _ _ _ _ _))) (cO _ _)) (fun C s H fp pn=>(aQ (i:=0) (show(["point", "ways"]:List Str).Nodup by decide+kernel) rfl (Or.inl rfl))) (fun C s H fp pn=>(o_ (Gm (PC.eqv (qa1 (oE hr) (aL 0) (aL 1)) (X7 _ _))))) (fun C s H fp pn=>(aL 0)))))),?_⟩
    simp -dsimp[au,stC,-Bool.exists_bool,-List.map_take,-Prod.forall,-Prod.exists];refine⟨start,l,tv,S,xs,rfl,hl,hS,hsx,Kq,h9,fun d kvs R H1 hd hd1 hW hB _ _ s1=>?_⟩;obtain⟨dx,fs,hi,hno⟩:=(hw.same s1).ins sY.1 sY.2;simp -dsimp[au,stC,-Bool.exists_bool,-List.map_take,-Prod.forall,-Prod.exists];refine⟨_,_,hi,hno,o,xs,ps,rfl,hw.same s1,fun l2 hl2=>?_⟩;have s2:Same H1 (upd H1 l2 (.lst (xs.map V.str))):=aA hl2;have e2:upd H1 l2 (.lst (xs.map V.str)) l2=some (.lst (xs.map V.str)):=ao;generalize upd H1 l2 (.lst (xs.map V.str))=H2 at s2 e2 ⊢;have hd2:=s2 _ _ hd1;have hW2:=hW.keep fun p w e=>s2 _ _ e;have s20:=of_eq_true Gi;simp -dsimp[au,stC,-Bool.exists_bool,-List.map_take,-Prod.forall,-Prod.exists];refine⟨⟨_,aY.of e2⟩,fun D hD=>Xu (xs.map V.str) (fun i σ H'=>(∃o,σ=[o,some (.ref d)])∧H' D=some (.lst ((lK S (xs.take i) start).map V.str))∧Same H2 H') ⟨⟨_,rfl⟩,ao,aA hD⟩ (fun i σ H' _ h=>aY.of (h.2.2 _ _ e2)) ?_ ?_⟩
    · rintro i x σ H3 hi ⟨⟨o',rfl⟩,JZ,s3⟩;obtain⟨y,hy,rfl⟩:=qW hi;have hi2:i<xs.length:=(List.getElem?_eq_some_iff.mp hy).1;simp -dsimp[au,stC,-Bool.exists_bool,-List.map_take,-Prod.forall,-Prod.exists];refine⟨_,qa5 y (s3 _ _ hd2),?_⟩;rw[hW2.has hB.nd,Ui hy (decide (y∈R.map (·.1))) (by rw[decide_eq_true_eq];exact hB.iff y)];refine gb.of (fun h=>?_) (fun h=>?_)
      ·rw[if_pos h];simp -dsimp[au,stC,-Bool.exists_bool,-List.map_take,-Prod.forall,-Prod.exists];have hfl:=Gj (S:=S) (xs:=xs.take i) (x:=start);rw[List.length_take] at hfl;refine⟨_,JZ,by simp;omega,by simp[ao],aV s3 hD⟩
      ·rw[if_neg (by rw[h];exact Bool.false_ne_true),List.append_nil];simp -dsimp[au,stC,-Bool.exists_bool,-List.map_take,-Prod.forall,-Prod.exists];exact⟨JZ,s3⟩
    ·rintro σ H3 ⟨⟨o',rfl⟩,JZ,s3⟩;rw[List.length_map,List.take_length] at JZ;simp -dsimp[au,stC,-Bool.exists_bool,-List.map_take,-Prod.forall,-Prod.exists];exact q D H3 (dg (s1.trans s2) hD) JZ ((s1.trans s2).trans s3)
theorem Hl {xs:List Str} {ps:List (Str×Str)} {fx:Nat→Option Int} (h:qL xs ps):∀s∈aC fx ps 0,s.2.2∈xs:=by
  intro s hs;obtain⟨j,e,h1,h2⟩:=jo.mp hs;obtain⟨q1,q2,_⟩:=h.ok e (List.mem_of_getElem? h1);obtain⟨_,q | q⟩:=jT.mp h2
  ·rw[q.2.2];exact q2
  ·rw[q.2.2];exact q1
def YB (C:Addr):Sp:=fun vs H Q _=>∃o xs ps,vs=[.ref o]∧fL C H o xs ps∧Q (.int ps.length) H
theorem rQ (T:Txt K mg a):bV P w K mg base jN 1 a.fV a.m8 ["self"] (YB a.bT):=by
  refine T.Bo.nJ JB (fun vs H Q E h=>?_) (fun cdv A outer s H vs Q E hr h=>?_)
  ·obtain⟨o,xs,ps,rfl,_⟩:=h;rfl
  ·obtain⟨o,xs,ps,rfl,⟨dx,n,m,tv,h1,h2,h3,h4,h5⟩,q⟩:=h;refine⟨_,(aG (aZ (aM (cD (K:=K) rfl) rfl T.nm.len PySem.boot_len (aj (PE.eqv (Gd (K:=K) rfl (aL 0) rfl) (Gw _ _ _)) aq)))),?_⟩;simp -dsimp[au,stC,-Bool.exists_bool,-List.map_take,-Prod.forall,-Prod.exists];refine⟨_,_,_,h1,T.oN,T.zG,_,rfl,_,.inr (dz.of h3),?_⟩;rw[h4.1];exact q
def J0:Sp:=fun vs H Q _=>∃n:Int,vs=[.int n]∧Q (.bl true) H
theorem yR (T:Txt K mg a):bV P w K mg base jN 1 a.gH a.mZ ["thing"] J0:=by
  refine T.pX.nJ Jw (fun vs H Q E h=>?_) (fun cdv A outer s H vs Q E hr h=>?_)
  ·obtain⟨n,rfl,_⟩:=h;rfl
  ·obtain⟨n,rfl,q⟩:=h;refine⟨_,(aG (aZ (gY (aM (nH (K:=K) rfl) rfl T.nm.isinstance boot_isinstance (aj (aL 0) (aj (je (v:=.ty "int") rfl T.nm.int w6 rfl) aq))) (lA (Gn (aM (nH (K:=K) rfl) rfl T.nm.isinstance boot_isinstance (aj (aL 0) (aj (je (v:=.ty "bool") rfl T.LC.bool uq rfl) aq)))))))),?_⟩;simp -dsimp[au,stC,-Bool.exists_bool,-List.map_take,-Prod.forall,-Prod.exists];refine⟨_,.int _,_,yx K,gb.pos rfl ?_⟩;simp -dsimp[au,stC,-Bool.exists_bool,-List.map_take,-Prod.forall,-Prod.exists];refine⟨_,.int _,_,pA K,?_⟩;exact q
def Mu:Sp:=fun vs H Q _=>∃n:Int,vs=[.int n]∧0≤n∧n≤1∧Q (.bl true) H
theorem Mv (T:Txt K mg a):bV P w K mg base jN 2 a.iK a.pO ["thing"] Mu:=by
  refine T.xT.nJ LR (fun vs H Q E h=>?_) (fun cdv A outer s H vs Q E hr h=>?_)
  ·obtain⟨n,rfl,_⟩:=h;rfl
  ·obtain⟨n,rfl,h0,h1,q⟩:=h;refine⟨_,(aG (aZ (gY (PE.eqv (aO (yR (K:=K) T) (hr.mono (by decide)) rfl T.uL T.pX.kp T.uK .nil bh (aj (aL 0) aq)) (aK _ _ _)) (lA (xH uD uD aJ (aL 0) aJ))))),?_⟩;simp -dsimp[au,stC,-Bool.exists_bool,-List.map_take,-Prod.forall,-Prod.exists];refine⟨n,rfl,?_⟩;simp -dsimp[au,stC,-Bool.exists_bool,-List.map_take,-Prod.forall,-Prod.exists];refine gb.pos (by simpa using h0) ?_;simp -dsimp[au,stC,-Bool.exists_bool,-List.map_take,-Prod.forall,-Prod.exists];rw[decide_eq_true h1];exact q
def Ho (C:Addr):Sp:=fun vs H Q _=>∃(o:Addr) (n:Nat) (xs:List Str) (ps:List (Str×Str)),vs=[.ref o,.int n]∧fL C H o xs ps∧n<ps.length∧Q (.bl true) H
theorem Hq (T:Txt K mg a):bV P w K mg base jN 2 a.fG a.lX ["web", "thing"] (Ho a.bT):=by
  refine T.rD.nJ GX (fun vs H Q E h=>?_) (fun cdv A outer s H vs Q E hr h=>?_)
  ·obtain⟨o,n,xs,ps,rfl,_⟩:=h;rfl
  ·obtain⟨o,n,xs,ps,rfl,hw,hn,q⟩:=h;refine⟨_,(aG (aZ (gY (PE.eqv (aO (yR (K:=K) T) (hr.mono (by decide)) rfl T.uL T.pX.kp T.uK .nil bh (aj (aL 1) aq)) (aK _ _ _)) (lA (xH uD uz aJ (aL 1) (PE.eqv (mH (aL 0) T.oN T.ql (rQ (K:=K) T) (hr.mono (by decide)) T.p7 .nil bh) (mO _ _ _ _ _ _))))))),?_⟩;obtain⟨dx,fs,hi,hno⟩:=hw.ins sZ.1 sZ.2;simp -dsimp[au,stC,-Bool.exists_bool,-List.map_take,-Prod.forall,-Prod.exists];refine⟨n,rfl,?_⟩;simp -dsimp[au,stC,-Bool.exists_bool,-List.map_take,-Prod.forall,-Prod.exists];refine⟨_,_,hi,hno,o,xs,ps,rfl,hw,?_⟩;simp -dsimp[au,stC,-Bool.exists_bool,-List.map_take,-Prod.forall,-Prod.exists];rw[decide_eq_true hn];exact q
def qM (C:Addr):Sp:=fun vs H Q _=>∃(o l:Addr) (tv:List V) (S:List iC) (xs:List Str) (ps:List (Str×Str)),vs=[.ref o,.ref l]∧fL C H o xs ps∧H l=some (.lst tv)∧eN H tv S∧(∀s∈S,s.2.2∈xs)∧xs.length≤9∧
  (∀H',cF S xs xs=none→Same H H'→Q .non H')∧
  ∀(x:Str) (r:Addr) (H':Hp),cF S xs xs=some x→H r=none→H' r=some (.lst ((restOf S xs x).map V.str))→Same H H'→Q (.ref r) H'
theorem qN (T:Txt K mg a):bV P w K mg base jN 3 a.bH a.eU ["web", "steps"] (qM a.bT):=by
  refine T.iy.nJ eO (fun vs H Q E h=>?_) (fun cdv A outer s H vs Q E hr h=>?_)
  ·obtain⟨o,l,tv,S,xs,ps,rfl,_⟩:=h;rfl
  · obtain⟨o,l,tv,S,xs,ps,rfl,hw,hl,hS,Kq,h9,q1,q2⟩:=h;refine⟨_,(aB (bK (i:=2) eO.nd rfl (Or.inl rfl) (PE.eqv (mH (aL 0) T.oN T.qj (uf (K:=K) T) (hr.mono (by decide)) T.pZ .nil bh) (mO _ _ _ _ _ _)))
      (aB (jQ PassesOwn.never rfl (PI.eqv (d8 (K:=K) rfl (aL 2)) (cO _ _)) (aQ (i:=3) eO.nd rfl (Or.inl rfl))
      (aB (bK (i:=4) eO.nd rfl (Or.inr rfl) (PE.eqv (aO (rP (K:=K) T) (hr.mono (by decide)) rfl T.nU T.kO.kp T.nR .nil bh (aj (aL 0) (aj (aL 3) (aj (aL 1) aq)))) (aK _ _ _)))
      (aG (dM (bA uz (aM (cD (K:=K) rfl) rfl T.nm.len PySem.boot_len (aj (aL 4) aq)) (aM (cD (K:=K) rfl) rfl T.nm.len PySem.boot_len (aj (aL 2) aq)) (bQ _)) (aG (aZ (eG rfl rfl (show aX (ak bB) _ ["web", "steps", "points", "point", "found"] ["other"] [4] ["other", "found"] from⟨rfl,by decide+kernel,by decide+kernel,rfl,by decide+kernel,by decide+kernel⟩) rfl (PI.eqv (d8 (K:=K) rfl (aL 2)) (cO _ _)) (fun C s H fp pn=>(aQ (i:=0) (show(["other", "found"]:List Str).Nodup by decide+kernel) rfl (Or.inl rfl))) (fun C s H fp pn=>(o_ (bA (sG (K:=K) rfl) (aL 0) (aL 1) rfl))) (fun C s H fp pn=>(aL 0))))) bN))))
      (aG (aZ Ks)))),?_⟩
    have Mt:60≤sizeLine:=by decide
    obtain⟨dx,fs,hi,hno⟩:=hw.ins sY.1 sY.2;simp -dsimp[au,stC,-Bool.exists_bool,-List.map_take,-Prod.forall,-Prod.exists];refine⟨_,_,hi,hno,o,xs,ps,rfl,hw,fun p hp=>?_⟩;have s1:Same H (upd H p (.lst (xs.map V.str))):=aA hp;have ep:upd H p (.lst (xs.map V.str)) p=some (.lst (xs.map V.str)):=ao;generalize upd H p (.lst (xs.map V.str))=H1 at s1 ep ⊢;simp -dsimp[au,stC,-Bool.exists_bool,-List.map_take,-Prod.forall,-Prod.exists];refine⟨⟨_,aY.of ep⟩,frL (xs.map V.str) (fun i σ H'=>(∃o3 o4,σ=[some (.ref o),some (.ref l),some (.ref p),o3,o4])∧cF S xs (xs.take i)=none∧Same H1 H') ⟨⟨_,_,rfl⟩,rfl,Same.refl _⟩ (fun i σ H' _ h=>aY.of (h.2.2 _ _ ep)) ?_ ?_⟩
    · rintro i z σ H2 hi ⟨⟨o3,o4,rfl⟩,hno,s2⟩;obtain⟨x,hx,rfl⟩:=qW hi;have hxx:=List.mem_of_getElem? hx;have s12:=s1.trans s2;simp -dsimp[au,stC,-Bool.exists_bool,-List.map_take,-Prod.forall,-Prod.exists];refine⟨o,x,l,tv,S,xs,ps,rfl,hw.same s12,s12 _ _ hl,eN.keep hS (L2.cP.of s12),hxx,Kq,h9,fun r H3 hr0 Yz s3=>?_⟩;have s13:=s12.trans s3;have ep3:=s3 _ _ (s2 _ _ ep);simp -dsimp[au,stC,-Bool.exists_bool,-List.map_take,-Prod.forall,-Prod.exists];refine⟨_,.inl (aY.of Yz),_,.inl (aY.of ep3),gb.of (fun h=>?_) (fun h=>?_)⟩
      · have h':(lK S xs x).length<xs.length:=by simpa using h
        have hsh:=Jp hno hx h';simp -dsimp[au,stC,-Bool.exists_bool,-List.map_take,-Prod.forall,-Prod.exists];refine⟨⟨_,aY.of ep3⟩,fun D hD=>Xu (xs.map V.str) (fun j σ H'=>(∃o',σ=[o',some (.ref r)])∧H' D=some (.lst (((xs.take j).filter fun y=>!decide (y∈lK S xs x)).map V.str))∧Same H3 H') ⟨⟨_,rfl⟩,ao,aA hD⟩ (fun j σ H' _ h=>aY.of (h.2.2 _ _ ep3)) ?_ ?_⟩
        · rintro j z σ H4 hj ⟨⟨o',rfl⟩,CK,s4⟩;obtain⟨y,hy,rfl⟩:=qW hj;have hj2:j<xs.length:=(List.getElem?_eq_some_iff.mp hy).1;have hfl:((xs.take j).filter fun y=>!decide (y∈lK S xs x)).length≤(xs.take j).length:=List.length_filter_le _ _;rw[List.length_take] at hfl;rw[take_one hy,List.filter_append,List.map_append];simp -dsimp[au,stC,-Bool.exists_bool,-List.map_take,-Prod.forall,-Prod.exists];have d1:inV (.str y) ((lK S xs x).map V.str) = !decide (¬y∈lK S xs x):=by rw[bF];simp
          refine⟨_,.inl (aY.of (s4 _ _ Yz)),rfl,List.all_eq_true.mp (bW _),_,d1,gb.of (fun h=>?_) (fun h=>?_)⟩
          ·have h':¬y∈lK S xs x:=of_decide_eq_true h;simp -dsimp[au,stC,-Bool.exists_bool,-List.map_take,-Prod.forall,-Prod.exists];refine⟨_,CK,by simp;omega,by rw[ao];simp[h'],aV s4 hD⟩
          · have h':y∈lK S xs x:=by simpa using h
            simp -dsimp[au,stC,-Bool.exists_bool,-List.map_take,-Prod.forall,-Prod.exists];refine⟨by rw[CK];simp[h'],s4⟩
        ·rintro σ H4 ⟨⟨o',rfl⟩,CK,s4⟩;rw[List.length_map,List.take_length] at CK;simp -dsimp[au,stC,-Bool.exists_bool,-List.map_take,-Prod.forall,-Prod.exists];exact q2 x D H4 hsh (dg s13 hD) CK (s13.trans s4)
      · have h':¬(lK S xs x).length<xs.length:=by simpa using h
        simp -dsimp[au,stC,-Bool.exists_bool,-List.map_take,-Prod.forall,-Prod.exists];exact⟨Jq hno hx h',s2.trans s3⟩
    ·rintro σ H2 ⟨⟨o3,o4,rfl⟩,hno,s2⟩;rw[List.length_map,List.take_length] at hno;simp -dsimp[au,stC,-Bool.exists_bool,-List.map_take,-Prod.forall,-Prod.exists];exact q1 _ hno (s1.trans s2)
def Ph (H:Hp) (e C:Addr) (fs:List (Str×V)):Prop:=∃dx,dx≠e∧H e=some (dY e C (some dx))∧H dx=some (iY dx fs)
def VL (C:Addr) (f:Str):Sp:=fun vs H Q _=>∃(e l:Addr) (xs:List V),vs=[.ref e,.ref l]∧H e=some (dY e C none)∧H l=some (.lst xs)∧
  ∀(b:Addr) (H':Hp),H b=none→H' b=some (.lst xs)→Ph H' e C [(f,.ref b)]→But e H H'→Q .non H'
theorem J1 {H:Hp} {e l C:Addr} {xs:List V} {f:Str} {Q:VK} {K:W.Frag} (he:H e=some (dY e C none)) (hl:H l=some (.lst xs)) (q:∀(b:Addr) (H':Hp),H b=none→H' b=some (.lst xs)→Ph H' e C [(f,.ref b)]→But e H H'→Q .non H') :
    (∃x,H e=some (dY e C x))∧∃ys,(aY K H l ys∨dz K H l ys)∧∀(l:Addr),H l=none→upd H l (.lst ys) e=some (dY e C none)∧∀dx,upd H l (.lst ys) dx=none→Q .non (upd (upd (upd H l (.lst ys)) dx (iY dx [(f,.ref l)])) e (dY e C (some dx))):=by
  refine⟨⟨_,he⟩,xs,.inl (aY.of hl),fun b hb=>?_⟩;have s1:Same H (upd H b (.lst xs)):=aA hb;have e1:upd H b (.lst xs) b=some (.lst xs):=ao;generalize upd H b (.lst xs)=H1 at s1 e1 ⊢;refine⟨s1 _ _ he,fun dx hdx=>?_⟩;have ne:dx≠e:=fun z=>by rw[z,s1 _ _ he] at hdx;cases hdx
  have be:b≠e:=fun z=>by rw[z,he] at hb;cases hb
  have bd:b≠dx:=fun z=>by rw[← z,e1] at hdx;cases hdx
  refine q b _ hb (by rw[aD be,aD bd];exact e1) ⟨dx,ne,ao,by rw[aD ne];exact ao⟩ fun c o hc z=>?_;rw[aD hc,aD (fun y=>by rw[← y,s1 _ _ z] at hdx;cases hdx)];exact s1 _ _ z
theorem J2 {H:Hp} {e l C:Addr} {xs:List V} {f g:Str} {y:V} {Q:VK} {K:W.Frag} (fg:g≠f) (he:H e=some (dY e C none)) (hl:H l=some (.lst xs)) (q:∀(b:Addr) (H':Hp),H b=none→H' b=some (.lst xs)→Ph H' e C [(f,y),(g,.ref b)]→But e H H'→Q .non H') :
    (∃x,H e=some (dY e C x))∧H e=some (dY e C none)∧∀dx,H dx=none→∃ys,(aY K (upd (upd H dx (iY dx [(f,y)])) e (dY e C (some dx))) l ys∨dz K (upd (upd H dx (iY dx [(f,y)])) e (dY e C (some dx))) l ys)∧
      ∀(l:Addr),upd (upd H dx (iY dx [(f,y)])) e (dY e C (some dx)) l=none→∃d2,upd (upd (upd H dx (iY dx [(f,y)])) e (dY e C (some dx))) l (.lst ys) e=some (dY e C (some d2))∧∃fs,upd (upd (upd H dx (iY dx [(f,y)])) e (dY e C (some dx))) l (.lst ys) d2=some (iY d2 fs)∧fs.length<1000∧
        Q .non (upd (upd (upd (upd H dx (iY dx [(f,y)])) e (dY e C (some dx))) l (.lst ys)) d2 (iY d2 (jR g (.ref l) fs))):=by
  refine⟨⟨_,he⟩,he,fun dx hdx=>?_⟩;have ne:dx≠e:=fun z=>by rw[z,he] at hdx;cases hdx
  have le:l≠e:=fun z=>by rw[z,he] at hl;cases hl
  have ld:l≠dx:=fun z=>by rw[z,hdx] at hl;cases hl
  have e1:upd (upd H dx (iY dx [(f,y)])) e (dY e C (some dx)) e=some (dY e C (some dx)):=ao;have d1:upd (upd H dx (iY dx [(f,y)])) e (dY e C (some dx)) dx=some (iY dx [(f,y)]):=by rw[aD ne];exact ao
  have b1:But e H (upd (upd H dx (iY dx [(f,y)])) e (dY e C (some dx))):=fun c o hc z=>by
    rw[aD hc,aD (fun y=>by rw[y,hdx] at z;cases z)];exact z
  generalize upd (upd H dx (iY dx [(f,y)])) e (dY e C (some dx))=H1 at e1 d1 b1 ⊢;refine⟨xs,.inl (aY.of (b1 _ _ le hl)),fun b hb=>?_⟩;have s2:Same H1 (upd H1 b (.lst xs)):=aA hb;have e2:upd H1 b (.lst xs) b=some (.lst xs):=ao;generalize upd H1 b (.lst xs)=H2 at s2 e2 ⊢;refine⟨dx,s2 _ _ e1,_,s2 _ _ d1,by show(1:Nat)<1000;decide,?_⟩;have bd:b≠dx:=fun z=>by rw[z,d1] at hb;cases hb
  have be:b≠e:=fun z=>by rw[z,e1] at hb;cases hb
  have hb0:H b=none:=by
    cases z:H b with
    | none=>rfl
    | some o=>rw[b1 _ _ be z] at hb;cases hb
  have ep:jR g (.ref b) [(f,y)]=[(f,y),(g,.ref b)]:=by
    show(if f=g then _ else _)=_
    rw[if_neg (fun z=>fg z.symm)];rfl
  rw[ep];refine q b _ hb0 (by rw[aD bd];exact e2) ⟨dx,ne,by rw[aD (Ne.symm ne)];exact s2 _ _ e1,ao⟩ fun c o hc z=>?_;rw[aD (fun y=>by rw[y,hdx] at z;cases z)];exact s2 _ _ (b1 _ _ hc z)
def VN (C:Addr) (f g:Str):Sp:=fun vs H Q _=>∃(e l:Addr) (y:V) (xs:List V),vs=[.ref e,y,.ref l]∧H e=some (dY e C none)∧H l=some (.lst xs)∧
  ∀(b:Addr) (H':Hp),H b=none→H' b=some (.lst xs)→Ph H' e C [(f,y),(g,.ref b)]→But e H H'→Q .non H'
theorem Hr (T:Txt K mg a):bV P w K mg base jN 1 a.dX a.lW ["self", "lot"] (VL a.bR "lot"):=by
  refine T.yH.nJ GR (fun vs H Q E h=>?_) (fun cdv A outer s H vs Q E hr h=>?_)
  ·obtain⟨e,l,xs,rfl,_⟩:=h;rfl
  · obtain⟨e,l,xs,rfl,he,hl,q⟩:=h;refine⟨_,(aB (gw (Ox T.wM T.ini rfl T.qm (aj (aL 0) (aj mG aq))))
      (aG (ZW T.O_ T.iB (aL 0) (gP (vL (K:=K) rfl) rfl T.nm.list boot_list (aj (aL 1) aq)) rfl))),?_⟩
    simp -dsimp[au,stC,-Bool.exists_bool,-List.map_take,-Prod.forall,-Prod.exists];exact J1 he hl q
theorem BX (T:Txt K mg a):bV P w K mg base jN 1 a.cH a.jC ["self", "tie", "lot"] (VN a.aW "tie" "lot"):=by
  refine T.tZ.nJ Bc (fun vs H Q E h=>?_) (fun cdv A outer s H vs Q E hr h=>?_)
  ·obtain⟨e,l,y,xs,rfl,_⟩:=h;rfl
  · obtain⟨e,l,y,xs,rfl,he,hl,q⟩:=h;refine⟨_,(aB (gw (Ox T.oR T.ini rfl T.qm (aj (aL 0) (aj mG aq))))
      (aB (ZW T.xV T.fX (aL 0) (aL 1) rfl)
      (aG (qdN T.xV T.fY (aL 0) (gP (vL (K:=K) rfl) rfl T.nm.list boot_list (aj (aL 2) aq)) rfl)))),?_⟩
    simp -dsimp[au,stC,-Bool.exists_bool,-List.map_take,-Prod.forall,-Prod.exists];exact J2 (by decide) he hl q
def YC (C:Addr):Sp:=fun vs H Q _=>∃(o:Addr) (xs:List Str) (ps:List (Str×Str)),vs=[.ref o]∧fL C H o xs ps∧Pa xs∧qL xs ps∧
  ∀(l:Addr) (rs:List V) (H':Hp),H l=none→H' l=some (.lst rs)→∀(zs:List (Addr×Nat×List Str)),gW xG H' rs zs→zs.map (·.2)=nF ps xs→(zs.map (·.1)).Nodup→(∀z∈zs,H z.1=none∧z.1≠l)→Same H H'→Q (.ref l) H'
theorem YD (T:Txt K mg a):bV P w K mg base jN 3 a.pJ a.zu ["web"] (YC a.bT):=by
  refine T.Mf.nJ pG (fun vs H Q E h=>?_) (fun cdv A outer s H vs Q E hr h=>?_)
  ·obtain⟨o,xs,ps,rfl,_⟩:=h;rfl
  · obtain⟨o,xs,ps,rfl,hw,hX,hTs,q⟩:=h;refine⟨_,(aB (bK (i:=1) pG.nd rfl (Or.inl rfl) (PE.eqv (aO (rO (K:=K) T) (hr.mono (by decide)) rfl T.nQ T.kJ.kp T.nP .nil bh (aj (aL 0) (aj Ad aq))) (aK _ _ _)))
      (aB (bK (i:=2) pG.nd rfl (Or.inl rfl) (jh aq))
      (aB (jQ PassesOwn.never rfl (PI.eqv (Gh (K:=K) rfl rfl T.LC.enumerate (aj (PE.eqv (mH (aL 0) T.oN T.uR (yP (K:=K) T) (hr.mono (by decide)) T.uN .nil bh) (mO _ _ _ _ _ _)) aq)) (xJ _ _)) (PG.eqv (fj (K:=K) (n:=2) rfl rfl (jg.eqv (bw (aQ (i:=3) pG.nd rfl (Or.inr rfl)) (jg.eqv (bw (PG.eqv (fj (K:=K) (n:=2) rfl rfl (jg.eqv (bw (aQ (i:=4) pG.nd rfl (Or.inl rfl)) (jg.eqv (bw (aQ (i:=5) pG.nd rfl (Or.inl rfl)) (jg.mono eZ g_)) (bx _ _))) (bx _ _))) (fB _ _ _)) (jg.mono eZ g_)) (bx _ _))) (bx _ _))) (fB _ _ _))
      (aB (bK (i:=6) pG.nd rfl (Or.inl rfl) (PE.eqv (aO (rP (K:=K) T) (hr.mono (by decide)) rfl T.nU T.kO.kp T.nR .nil bh (aj (aL 0) (aj (aL 5) (aj (eG rfl rfl (show aX (ak nO) _ ["web", "steps", "told", "number", "first", "second", "lot"] ["step"] [3] ["step", "number"] from⟨rfl,by decide+kernel,by decide+kernel,rfl,by decide+kernel,by decide+kernel⟩) rfl (PI.eqv (d8 (K:=K) rfl (aL 1)) (cO _ _)) (fun C s H fp pn=>(aQ (i:=0) (show(["step", "number"]:List Str).Nodup by decide+kernel) rfl (Or.inl rfl))) (fun C s H fp pn=>(o_ (bA nG (bJ (bM (K:=K) rfl) (aL 0) aJ (fun _ _=>rfl)) (aL 1) (bQ _)))) (fun C s H fp pn=>(aL 0))) aq)))) (aK _ _ _)))
      (aG (dM (bA (sG (K:=K) rfl) (aL 4) (aL 6) rfl) (aG (gw (nC (K:=K) rfl PySem.F.plainAttrs_list PySem.F.slot_list_append PySem.F.type_list_append h_ (aL 2) (aj (iW (aj (aL 3) (aj (aL 6) aq))) aq)))) bN))))
      (aG (aZ (aL 2)))))),?_⟩
    have Kq:=Hl (fx:=fun _=>none) hTs;have s50:50≤sizeLine:=by decide
    have l9:=hX.len;simp -dsimp[au,stC,-Bool.exists_bool,-List.map_take,-Prod.forall,-Prod.exists];intro d hd;refine⟨o,d,xs,ps,fun _=>none,rfl,hw.same (aA hd),Uh ao,fun l tv H1 hl0 hl1 hS qlx s1'=>?_⟩;have s1:=(aA hd).trans s1';simp -dsimp[au,stC,-Bool.exists_bool,-List.map_take,-Prod.forall,-Prod.exists];intro L hL;obtain⟨dx,fs,hi,hno⟩:=(hw.same (s1.trans (aA (o:=HO.lst []) hL))).ins zH.1 zH.2;refine⟨_,_,hi,hno,o,xs,ps,rfl,hw.same (s1.trans (aA hL)),fun l2 yQ hl2 qbL=>?_⟩;have s2:Same H1 (upd (upd H1 L (.lst [])) l2 (.lst yQ)):=(aA hL).trans (aA hl2);have e2:upd (upd H1 L (.lst [])) l2 (.lst yQ) l2=some (.lst yQ):=ao;have eL:upd (upd H1 L (.lst [])) l2 (.lst yQ) L=some (.lst []):=bO ao hl2;have l2L:l2≠L:=fun z=>by subst z;rw[ao] at hl2;cases hl2
    have Hj:=bC.same qbL (aA (o:=HO.lst yQ) hl2);generalize upd (upd H1 L (.lst [])) l2 (.lst yQ)=H2 at s2 e2 eL Hj ⊢;have hL0:=dg s1 hL;simp -dsimp[au,stC,-Bool.exists_bool,-List.map_take,-Prod.forall,-Prod.exists];refine⟨⟨_,aY.of e2⟩,frE yQ (fun i σ H'=>(∃o3 o4 o5 o6 rs zs,σ=[some (.ref o),some (.ref l),some (.ref L),o3,o4,o5,o6]∧H' L=some (.lst rs)∧gW xG H' rs zs∧zs.map (·.2)=jM (mX ps xs) (ps.take i) 0∧(zs.map (·.1)).Nodup∧∀z∈zs,H z.1=none∧z.1≠L)∧H' l2=some (.lst yQ)∧bC H' yQ ps∧Same H1 H') ⟨⟨_,_,_,_,[],[],rfl,eL,gW.nil,rfl,by simp,by simp⟩,e2,Hj,s2⟩ (fun i σ H' _ h=>aY.of h.2.1) ?_ ?_⟩
    · rintro i x t σ H3 hi ht ⟨⟨o3,o4,o5,o6,rs,zs,rfl,VJ,hrs,hzs,hzn,hfr⟩,Q6,htv,s3⟩;obtain⟨e,he,tt,rfl,htt⟩:=htv.at hi;have hem:=List.mem_of_getElem? he;obtain⟨q1,q2,q3⟩:=hTs.ok e hem;have hi2:i<ps.length:=(List.getElem?_eq_some_iff.mp he).1;have hcl:(jM (mX ps xs) (ps.take i) 0).length≤20:=by
        have h1:=vD (Qw ps xs) (ps.take i) 0;rw[List.length_take] at h1;have:=hTs.len;omega
      have hrl:rs.length=(jM (mX ps xs) (ps.take i) 0).length:=by rw[hrs.1,← hzs,List.length_map]
      have st:Same H3 (upd H3 t (.tup [.int i,.ref tt])):=aA ht;rw[xu _ he];generalize hcs:jM (mX ps xs) (ps.take i) 0=cs at hzs hcl hrl ⊢;simp -dsimp[au,stC,-Bool.exists_bool,-List.map_take,-Prod.forall,-Prod.exists];refine⟨_,dz.of ao,rfl,_,dz.of (st _ _ htt),rfl,?_⟩;have Mq:=st _ _ VJ;have Q7:=st _ _ Q6;have Q8:=bC.same htv st;have s4:=s3.trans st;have qbO:=xG.same hrs st;generalize upd H3 t (.tup [.int i,.ref tt])=H4 at Mq Q7 Q8 s4 qbO ⊢;have hl4:=s4 _ _ hl1;have hS4:=eN.keep hS (L2.cP.of s4);refine⟨⟨_,aY.of hl4⟩,fun D hD=>Xu tv (fun j σ H'=>(∃o',σ=[o',some (.int i)])∧(∃fv,H' D=some (.lst fv)∧fv.length≤j∧eN H' fv ((((aC (fun _=>none) ps 0)).take j).filter (Lb i)))∧Same H4 H') ⟨⟨_,rfl⟩,⟨[],ao,by simp,gW.nil⟩,aA hD⟩ (fun j σ H' _ h=>aY.of (h.2.2 _ _ hl4)) ?_ ?_⟩
      · rintro j x σ H5 hj ⟨⟨o',rfl⟩,⟨fv,Kp,hfl,hfv⟩,s5⟩;obtain⟨⟨sn,so,sg⟩,hs,t5,rfl,ht5⟩:=hS4.at hj;have hj2:j<tv.length:=(List.getElem?_eq_some_iff.mp hj).1;rw[take_one hs,List.filter_append];simp -dsimp[au,stC,-Bool.exists_bool,-List.map_take,-Prod.forall,-Prod.exists];refine⟨_,.inr (dz.of (s5 _ _ ht5)),_,aR (j:=0) rfl,?_⟩;simp -dsimp[au,stC,-Bool.exists_bool,-List.map_take,-Prod.forall,-Prod.exists]
        by_cases hsi:sn=i
        · refine⟨false,by simp[hsi],gb.neg rfl ?_⟩;have ef : [((sn,so,sg):iC)].filter (Lb i)=[]:=by simp[Lb,hsi]
          rw[ef,List.append_nil];simp -dsimp[au,stC,-Bool.exists_bool,-List.map_take,-Prod.forall,-Prod.exists];exact⟨⟨fv,Kp,by omega,hfv⟩,s5⟩
        · refine⟨true,?_,gb.pos rfl ?_⟩
          ·simp;omega
          have ef : [((sn,so,sg):iC)].filter (Lb i)=[(sn,so,sg)]:=by simp[Lb,hsi]
          rw[ef];simp -dsimp[au,stC,-Bool.exists_bool,-List.map_take,-Prod.forall,-Prod.exists];have kp:L2.cP H5 (upd H5 D (.lst (fv++[.ref t5]))):=L2.cP.set Kp (by intro z e;cases e);exact⟨_,Kp,by omega,⟨_,ao,by simp;omega,gW.snoc (eN.keep hfv kp) ⟨t5,rfl,kp _ _ (s5 _ _ ht5)⟩⟩,aV s5 hD⟩
      · rintro σ H5 ⟨⟨o',rfl⟩,⟨fv,Kp,hfl,hfv⟩,s5⟩;rw[hS.1,List.take_length] at hfv;simp -dsimp[au,stC,-Bool.exists_bool,-List.map_take,-Prod.forall,-Prod.exists];refine⟨o,e.2,D,fv,_,xs,ps,rfl,hw.same ((s1.trans s4).trans s5),Kp,hfv,q2,fun s hs=>Kq s ((List.mem_filter.mp hs).1),l9.2,fun r H6 hr0 hr6 s6=>?_⟩;have qd6:H6 r=some (.lst ((dO ps xs i e.2).map V.str)):=hr6;simp -dsimp[au,stC,-Bool.exists_bool,-List.map_take,-Prod.forall,-Prod.exists];refine⟨_,.inl (aY.of qd6),rfl,List.all_eq_true.mp (bW _),?_⟩;rw[bF];have hL6:=s6 _ _ (s5 _ _ Mq);have sH5:Same H H5:=(s1.trans s4).trans s5;have rH:H r=none:=dg sH5 hr0;have rL:r≠L:=fun z=>by subst z;rw[s5 _ _ Mq] at hr0;cases hr0
        have qd7:=xG.same (xG.same qbO s5) s6;refine⟨!decide (e.1∈dO ps xs i e.2),by simp,gb.of (fun h=>?_) (fun h=>?_)⟩
        · have h':¬e.1∈dO ps xs i e.2:=by simpa using h
          have eb:mX ps xs e i=[(i,dO ps xs i e.2)]:=by unfold mX;rw[if_neg h']
          rw[eb];simp -dsimp[au,stC,-Bool.exists_bool,-List.map_take,-Prod.forall,-Prod.exists];refine⟨⟨_,aY.of hL6⟩,fun t7 ht7=>?_⟩;have s7:Same H6 (upd H6 t7 (.tup [.int i,.ref r])):=aA ht7;have RV:=s7 _ _ hL6;have e7:upd H6 t7 (.tup [.int i,.ref r]) t7=some (.tup [.int i,.ref r]):=ao;have hr7:=s7 _ _ qd6;have qbP:=xG.same qd7 s7;have t7H:H t7=none:=dg (sH5.trans s6) ht7;have s27:=(s4.trans s5).trans (s6.trans s7);have qd8:=s7 _ _ (s6 _ _ (s5 _ _ Q7));have JX:=bC.same Q8 ((s5.trans s6).trans s7);generalize upd H6 t7 (.tup [.int i,.ref r])=H7 at s7 RV e7 hr7 qbP s27 qd8 JX ⊢;have kt:L2.cP H7 (upd H7 L (.lst (rs++[.ref t7]))):=L2.cP.set RV (by intro z e;cases e);have rzs:¬r∈zs.map (·.1):=fun z=>by
            obtain⟨y,hy,e0⟩:=List.mem_map.mp z;have:=xG.there (xG.same qbO s5) y hy;rw[e0,hr0] at this;cases this
          refine⟨_,RV,by omega,⟨_,ao,zs++[(r,i,dO ps xs i e.2)],?_,by simp[hzs],?_,?_⟩,by rw[aD l2L];exact qd8,JX.keep kt,aV s27 hL⟩
          ·refine gW.snoc ⟨qbP.1,fun j v z h1 h2=>?_⟩ ⟨t7,rfl,kt _ _ e7,by rw[aD rL];exact hr7⟩;obtain⟨t',z1,z2,z3⟩:=qbP.2 j v z h1 h2;exact⟨t',z1,kt _ _ z2,by rw[aD (hfr z (List.mem_of_getElem? h2)).2];exact z3⟩
          ·rw[List.map_append,List.nodup_append];refine⟨hzn,by simp,?_⟩;intro x hx y hy e0;simp at hy;subst hy;exact rzs (e0▸hx)
          · intro z hz
            rcases List.mem_append.mp hz with y | y
            ·exact hfr z y
            ·simp at y;subst y;exact⟨rH,rL⟩
        · have h':e.1∈dO ps xs i e.2:=by simpa using h
          have eb:mX ps xs e i=[]:=by unfold mX;rw[if_pos h']
          rw[eb,List.append_nil];simp -dsimp[au,stC,-Bool.exists_bool,-List.map_take,-Prod.forall,-Prod.exists];exact⟨⟨rs,hL6,zs,qd7,hzs,hzn,hfr⟩,s6 _ _ (s5 _ _ Q7),bC.same Q8 (s5.trans s6),(s4.trans s5).trans s6⟩
    ·rintro σ H3 ⟨⟨o3,o4,o5,o6,rs,zs,rfl,VJ,hrs,hzs,hzn,hfr⟩,Q6,htv,s3⟩;rw[htv.1,List.take_length] at hzs;simp -dsimp[au,stC,-Bool.exists_bool,-List.map_take,-Prod.forall,-Prod.exists];exact q L rs H3 hL0 VJ zs hrs hzs hzn hfr (s1.trans s3)
def dw (fs:List (Nat×Int)):List (Key×V):=fs.map fun e=>(Sum.inl (e.1:Int),V.int e.2)
def cA (fs:List (Nat×Int)) (j:Nat):Option Int:=(fs.find? fun e=>decide (e.1=j)).map (·.2)
structure jL (fs:List (Nat×Int)) (m:Nat):Prop where
  nd:(fs.map (·.1)).Nodup
  ok:∀e∈fs,e.1<m∧0≤e.2∧e.2≤1
theorem jL.len {fs:List (Nat×Int)} {m:Nat} (h:jL fs m):fs.length≤m:=by
  have:=gQ (xs:=List.range m) h.nd fun n hn=>by
    obtain⟨e,he,rfl⟩:=List.mem_map.mp hn;exact List.mem_range.mpr (h.ok e he).1
  rwa [List.length_map,List.length_range] at this
theorem jL.snoc {fs:List (Nat×Int)} {m k:Nat} {v:Int} (h:jL fs m) (hk:k<m) (hv:0≤v∧v≤1) (hn:k∉fs.map (·.1)):jL (fs++[(k,v)]) m:=by
  refine⟨?_,fun e he=>?_⟩
  ·rw[List.map_append,List.nodup_append];refine⟨h.nd,by simp,fun x hx y hy=>?_⟩;simp at hy;rw[hy];exact fun z=>hn (z▸hx)
  · rcases List.mem_append.mp he with he | he
    ·exact h.ok e he
    ·rw[List.mem_singleton] at he;rw[he];exact⟨hk,hv⟩
theorem oU:∀(fs:List (Nat×Int)) (k:Nat),lC (dw fs) (Sum.inl (k:Int))=(cA fs k).map V.int
  | [],k=>rfl
  | e::fs,k=>by
    have ih:=oU fs k;unfold lC dw cA at ih ⊢;rw[List.map_cons,List.find?_cons,List.find?_cons]
    by_cases h:e.1=k
    ·rw[decide_eq_true h,decide_eq_true (by rw[h])];rfl
    ·have h':¬((Sum.inl (e.1:Int):Key)=Sum.inl (k:Int)):=fun z=>h (by injection z with z;omega);rw[decide_eq_false h,decide_eq_false h'];exact ih
theorem VP {H:Hp} {d:Addr} {fs:List (Nat×Int)} (h:H d=some (.dK (dw fs))):I_ H d (cA fs):=⟨_,h,oU fs⟩
theorem oV {fs:List (Nat×Int)} {k:Nat}:cA fs k=none↔k∉fs.map (·.1):=by
  unfold cA;rw[Option.map_eq_none_iff,List.find?_eq_none];constructor
  ·intro h z;obtain⟨e,he,hk⟩:=List.mem_map.mp z;exact h e he (decide_eq_true hk)
  ·intro h e he z;exact h (List.mem_map.mpr ⟨e,he,of_decide_eq_true z⟩)
theorem oW {fs:List (Nat×Int)} {m k:Nat} {v:Int} (h:jL fs m) (e:cA fs k=some v):0≤v∧v≤1∧k<m:=by
  unfold cA at e;obtain⟨p,hp,rfl⟩:=Option.map_eq_some_iff.mp e;have h1:=List.mem_of_find?_eq_some hp;have h2:p.1=k:=by simpa using List.find?_some hp
  have:=h.ok p h1;exact⟨this.2.1,this.2.2,h2▸this.1⟩
theorem J3 {fs:List (Nat×Int)} (nd:(fs.map (·.1)).Nodup) {e:Nat×Int} (he:e∈fs):cA fs e.1=some e.2:=by
  induction fs with
  | nil=>cases he
  | cons p fs ih=>
    rw[List.map_cons,List.nodup_cons] at nd;unfold cA at ih ⊢;rw[List.find?_cons]
    rcases List.mem_cons.mp he with rfl | he
    ·simp
    ·have:p.1≠e.1:=fun z=>nd.1 (by rw[z];exact List.mem_map_of_mem he);rw[decide_eq_false this];exact ih nd.2 he
theorem Fb {fs:List (Nat×Int)} {k:Nat} {v:Int} (hn:k∉fs.map (·.1)):cA (fs++[(k,v)])=Vp (cA fs) k v:=by
  funext j
  unfold Vp
  by_cases h:j=k
  ·subst h;rw[if_pos rfl];have h0:=oV.mpr hn;unfold cA at h0 ⊢;rw[Option.map_eq_none_iff] at h0;rw[List.find?_append,h0];simp
  · rw[if_neg h];unfold cA;rw[List.find?_append];cases hf:fs.find? fun e=>decide (e.1=j) with
    | some e=>rfl
    | none=>
      have:¬k=j:=fun z=>h z.symm;simp[this]
theorem qZ {fs:List (Nat×Int)} {k:Nat} {v:Int} (hn:k∉fs.map (·.1)):putK (dw fs) (Sum.inl (k:Int)) (V.int v)=dw (fs++[(k,v)]):=by
  unfold putK;rw[if_neg ?_]
  ·simp[dw]
  · intro z;obtain⟨p,hp,hk⟩:=List.any_eq_true.mp z;obtain⟨e,he,rfl⟩:=List.mem_map.mp hp;have hk:=of_decide_eq_true hk;simp only at hk;injection hk with hk;have:e.1=k:=by omega
    exact hn (this▸List.mem_map_of_mem he)
theorem YF {C d:Addr} {H:Hp} {o:Addr} {xs:List Str} {ps:List (Str×Str)} {kvs:List (Key×V)} {u:HO} (h:fL C H o xs ps) (hd:H d=some (.dK kvs)):fL C (upd H d u) o xs ps:=by
  obtain⟨dx,n,m,tv,h1,h2,h3,h4,h5⟩:=h.ex;have ne:∀{b:Addr} {w:HO},H b=some w→(∀z,w≠.dK z)→upd H d u b=some w:=fun {b w} e hw=>by
    rw[aD (fun z=>by rw[z,hd] at e;injection e with e;exact hw _ e.symm)];exact e
  refine⟨⟨dx,n,m,tv,ne h1 (by intro z y;cases y),ne h2 (by intro z y;cases y),ne h3 (by intro z y;cases y),⟨h4.1,fun i v e a1 a2=>?_⟩,h5⟩⟩;obtain⟨t,rfl,y⟩:=h4.2 i v e a1 a2;exact⟨t,rfl,ne y (by intro z y;cases y)⟩
def wN (C:Addr):Sp:=fun vs H Q _=>∃(o d:Addr) (xs:List Str) (ps:List (Str×Str)) (fs:List (Nat×Int)),vs=[.ref o,.ref d]∧fL C H o xs ps∧H d=some (.dK (dw fs))∧jL fs ps.length∧
  ∀(ob:Obj) (H':Hp),H' d=some (.gZ ob (.dK (dw fs)))→(∀b u,b≠d→H b=some u→H' b=some u)→Q .non H'
theorem wO (T:Txt K mg a):bV P w K mg base jN 3 a.bU a.gq ["web", "thing"] (wN a.bT):=by
  refine T.lG.nJ jW (fun vs H Q E h=>?_) (fun cdv A outer s H vs Q E hr h=>?_)
  ·obtain⟨o,d,xs,ps,fs,rfl,_⟩:=h;rfl
  · obtain⟨o,d,xs,ps,fs,rfl,hw,hd,hfs,q⟩:=h;refine⟨_,(aB (dM (eY (cM (aM (nH (K:=K) rfl) rfl T.nm.isinstance boot_isinstance (aj (aL 1) (aj (je (v:=.ty "dict") rfl T.LC.dict ur rfl) aq))))) (aG vh) bN)
      (aG (jQ PassesOwn.never rfl (PI.eqv (Vl (aL 1)) (Vm _)) (PG.eqv (fj (K:=K) (n:=2) rfl rfl (jg.eqv (bw (aQ (i:=2) jW.nd rfl (Or.inl rfl)) (jg.eqv (bw (aQ (i:=3) jW.nd rfl (Or.inl rfl)) (jg.mono eZ g_)) (bx _ _))) (bx _ _))) (fB _ _ _))
      (aG (dM (PW.pt (qy (eY (cM (PE.eqv (aO (Hq (K:=K) T) (hr.mono (by decide)) rfl T.yK T.rD.kp T.yJ .nil bh (aj (aL 0) (aj (aL 2) aq))) (aK _ _ _)))) (nu (eY (cM (PE.eqv (aO (Mv (K:=K) T) (hr.mono (by decide)) rfl T.Eu T.xT.kp T.Et .nil bh (aj (aL 3) aq)) (aK _ _ _))))))) (aG vh) bN))))),?_⟩
    simp -dsimp[au,stC,-Bool.exists_bool,-List.map_take,-Prod.forall,-Prod.exists];refine⟨_,.dK hd,_,CZ K,gb.neg rfl ?_⟩;simp -dsimp[au,stC,-Bool.exists_bool,-List.map_take,-Prod.forall,-Prod.exists];refine⟨_,.inl hd,fun ob hob=>?_⟩;have hwf:fL a.bT (upd H d (.gZ ob (.dK (dw fs)))) o xs ps:=YF hw hd;have ef:upd H d (.gZ ob (.dK (dw fs))) d=some (.gZ ob (.dK (dw fs))):=ao;have kf:∀b u,b≠d→H b=some u→upd H d (.gZ ob (.dK (dw fs))) b=some u:=fun b u hb e=>by rw[aD hb];exact e
    generalize upd H d (.gZ ob (.dK (dw fs)))=Hf at hwf ef kf ⊢;refine frD (fun i σ H'=>(∃o2 o3,σ=[some (.ref o),some (.ref d),o2,o3])∧Same Hf H') ⟨⟨_,_,rfl⟩,Same.refl _⟩ (fun i σ H' _ h=>h.2 _ _ ef) ?_ ?_
    · rintro i k x t σ H2 hk ht ⟨⟨o2,o3,rfl⟩,s2⟩;obtain⟨e,he,hke⟩:∃e,fs[i]? = some e∧(Sum.inl (e.1:Int),V.int e.2)=(k,x):=by
        unfold dw at hk;rw[List.getElem?_map] at hk;obtain⟨e,he,h2⟩:=Option.map_eq_some_iff.mp hk;exact⟨e,he,h2⟩
      cases hke;obtain⟨h1,h2,h3⟩:=hfs.ok e (List.mem_of_getElem? he);have st:Same H2 (upd H2 t (.tup [.int (e.1:Int),.int e.2])):=aA ht;have et:upd H2 t (.tup [.int (e.1:Int),.int e.2]) t=some (.tup [.int (e.1:Int),.int e.2]):=ao;have ekv:upd H2 t (.tup [kV (Sum.inl (e.1:Int)),.int e.2])=upd H2 t (.tup [.int (e.1:Int),.int e.2]):=rfl;rw[ekv];generalize upd H2 t (.tup [.int (e.1:Int),.int e.2])=H3 at st et ⊢;simp -dsimp[au,stC,-Bool.exists_bool,-List.map_take,-Prod.forall,-Prod.exists];refine⟨_,dz.of et,rfl,?_⟩;simp -dsimp[au,stC,-Bool.exists_bool,-List.map_take,-Prod.forall,-Prod.exists];refine⟨o,e.1,xs,ps,rfl,hwf.same (s2.trans st),h1,?_⟩;simp -dsimp[au,stC,-Bool.exists_bool,-List.map_take,-Prod.forall,-Prod.exists];refine⟨e.2,rfl,h2,h3,?_⟩;simp -dsimp[au,stC,-Bool.exists_bool,-List.map_take,-Prod.forall,-Prod.exists];exact s2.trans st
    ·rintro σ H2 ⟨⟨o2,o3,rfl⟩,s2⟩;simp -dsimp[au,stC,-Bool.exists_bool,-List.map_take,-Prod.forall,-Prod.exists];exact q ob H2 (s2 _ _ ef) fun b u hb e=>s2 _ _ (kf b u hb e)
def xW (C:Addr):Sp:=fun vs H Q _=>∃(o d:Addr) (xs:List Str) (ps:List (Str×Str)) (fs:List (Nat×Int)),vs=[.ref o,.ref d]∧fL C H o xs ps∧H d=some (.dK (dw fs))∧jL fs ps.length∧∀(H':Hp),Same H H'→Q .non H'
theorem xX (T:Txt K mg a):bV P w K mg base jN 3 a.bU a.gq ["web", "thing"] (xW a.bT):=by
  refine(wO T).Z2.imp fun vs H Q E h=>?_;obtain⟨o,d,xs,ps,fs,rfl,hw,hd,hfs,q⟩:=h;refine⟨o,d,xs,ps,fs,rfl,hw,hd,hfs,fun ob H' e k=>q _ (Er fun b u hb=>?_)⟩
  by_cases z:b=d
  ·subst z;rw[hd] at hb;cases hb;exact .inr ⟨fun o v y=>(by cases y),ob,e⟩
  ·exact .inl (k b u z hb)
def xY:Sp:=fun vs H Q _=>∃(d:Addr) (k:Nat) (v:Int) (fs:List (Nat×Int)),vs=[.ref d,.int k,.int v]∧H d=some (.dK (dw fs))∧fs.length≤100∧k∉fs.map (·.1)∧
  ∀(r:Addr) (H':Hp),H r=none→H' r=some (.dK (dw (fs++[(k,v)])))→Same H H'→Q (.ref r) H'
theorem xZ (T:Txt K mg a):bV P w K mg base jN 1 a.cu a.iM ["fixed", "number", "lead"] xY:=by
  refine T.lH.nJ oH (fun vs H Q E h=>?_) (fun cdv A outer s H vs Q E hr h=>?_)
  ·obtain⟨d,k,v,fs,rfl,_⟩:=h;rfl
  · obtain⟨d,k,v,fs,rfl,hd,hl,hk,q⟩:=h;refine⟨_,(aB (bK (i:=3) oH.nd rfl (Or.inl rfl) (gP Vk rfl T.LC.dict ur (aj (aL 0) aq)))
      (aB (PS.eqv (zm (oE hr) (aL 3) (aL 1) (aL 2) rfl) (vK _ _ _))
      (aG (aZ (aL 3))))),?_⟩
    have qlS:200≤sizeLine:=by decide
    simp -dsimp[au,stC,-Bool.exists_bool,-List.map_take,-Prod.forall,-Prod.exists];refine⟨_,.inl hd,fun r hr0=>?_⟩;refine⟨_,.inl ⟨_,Sum.inl (k:Int),ao,rfl,by simp[dw];omega,rfl⟩,?_⟩;refine q r _ hr0 ?_ (aV (aA hr0) hr0);rw[ao,qZ hk]
def BZ (C:Addr):Sp:=fun vs H Q _=>∃(o d:Addr) (xs:List Str) (ps:List (Str×Str)) (fx:Nat→Option Int),vs=[.ref o,.ref d]∧fL C H o xs ps∧Pa xs∧qL xs ps∧I_ H d fx∧
  (∀H',cF (aC fx ps 0) xs xs=none→Same H H'→Q .non H')∧
  ∀(x:Str) (r:Addr) (H':Hp),cF (aC fx ps 0) xs xs=some x→H r=none→H' r=some (.lst ((restOf (aC fx ps 0) xs x).map V.str))→Same H H'→Q (.ref r) H'
theorem rR (T:Txt K mg a):bV P w K mg base jN 4 a.cZ a.jE ["web", "fixed"] (BZ a.bT):=by
  refine T.kW.nJ Bd (fun vs H Q E h=>?_) (fun cdv A outer s H vs Q E hr h=>?_)
  ·obtain⟨o,d,xs,ps,fx,rfl,_⟩:=h;rfl
  · obtain⟨o,d,xs,ps,fx,rfl,hw,hX,hTs,hf,q1,q2⟩:=h;refine⟨_,(aG (aZ (PE.eqv (aO (qN (K:=K) T) (hr.mono (by decide)) rfl T.lg T.iy.kp T.k_ .nil bh (aj (aL 0) (aj (PE.eqv (aO (rO (K:=K) T) (hr.mono (by decide)) rfl T.nQ T.kJ.kp T.nP .nil bh (aj (aL 0) (aj (aL 1) aq))) (aK _ _ _)) aq))) (aK _ _ _)))),?_⟩;simp -dsimp[au,stC,-Bool.exists_bool,-List.map_take,-Prod.forall,-Prod.exists];refine⟨o,d,xs,ps,fx,rfl,hw,hf,fun l tv H1 hl0 hl1 hS h40 s1=>?_⟩;refine⟨o,l,tv,_,xs,ps,rfl,hw.same s1,hl1,hS,Hl hTs,hX.len.2,fun H2 hn s2=>?_,fun x r H2 hx hr0 e2 s2=>?_⟩
    ·exact q1 _ hn (s1.trans s2)
    ·exact q2 x r H2 hx (dg s1 hr0) e2 (s1.trans s2)
def frB (fs:List (Nat×Int)) (j:Nat):Bool:=decide (j∉fs.map (·.1))
def jd (fs:List (Nat×Int)) (m:Nat):List Nat:=(List.range m).filter (frB fs)
def eF (ks:List Nat):List V:=ks.map fun n:Nat=>V.int n
def Hs (C:Addr):Sp:=fun vs H Q _=>∃(o d:Addr) (xs:List Str) (ps:List (Str×Str)) (fs:List (Nat×Int)),vs=[.ref o,.ref d]∧fL C H o xs ps∧ps.length≤20∧H d=some (.dK (dw fs))∧
  ∀(r:Addr) (H':Hp),H r=none→H' r=some (.lst (eF (jd fs ps.length)))→Same H H'→Q (.ref r) H'
theorem Ht (T:Txt K mg a):bV P w K mg base jN 2 a.fH a.lY ["web", "fixed"] (Hs a.bT):=by
  refine T.rE.nJ GZ (fun vs H Q E h=>?_) (fun cdv A outer s H vs Q E hr h=>?_)
  ·obtain⟨o,d,xs,ps,fs,rfl,_⟩:=h;rfl
  · obtain⟨o,d,xs,ps,fs,rfl,hw,Dh,hd,q⟩:=h;refine⟨_,(aG (aZ (eG rfl rfl (show aX (ak dU) _ ["web", "fixed"] ["number"] [1] ["number", "fixed"] from⟨rfl,by decide+kernel,by decide+kernel,rfl,by decide+kernel,by decide+kernel⟩) rfl (PI.eqv (jk rfl T.nm.range (aj (PE.eqv (mH (aL 0) T.oN T.ql (rQ (K:=K) T) (hr.mono (by decide)) T.p7 .nil bh) (mO _ _ _ _ _ _)) aq)) (jr _)) (fun C s H fp pn=>(aQ (i:=0) (show(["number", "fixed"]:List Str).Nodup by decide+kernel) rfl (Or.inl rfl))) (fun C s H fp pn=>(o_ (Gm (PC.eqv (D_ (oE hr) (aL 0) (aL 1)) (Am _ _))))) (fun C s H fp pn=>(aL 0))))),?_⟩;have Mt:60≤sizeLine:=by decide
    obtain⟨dx,fss,hi,hno⟩:=hw.ins sZ.1 sZ.2;simp -dsimp[au,stC,-Bool.exists_bool,-List.map_take,-Prod.forall,-Prod.exists];refine⟨_,_,hi,hno,o,xs,ps,rfl,hw,?_⟩;simp -dsimp[au,stC,-Bool.exists_bool,-List.map_take,-Prod.forall,-Prod.exists];refine⟨by omega,fun D hD=>cmR (fun i σ H'=>(∃o',σ=[o',some (.ref d)])∧H' D=some (.lst (eF ((List.range i).filter (frB fs))))∧Same H H') ⟨⟨_,rfl⟩,ao,aA hD⟩ ?_ ?_⟩
    · rintro i σ H2 hi ⟨⟨o',rfl⟩,hD2,s2⟩;have fl:((List.range i).filter (frB fs)).length≤i:=Nat.le_trans (List.length_filter_le _ _) (by rw[List.length_range];exact Nat.le_refl _);rw[List.range_succ,List.filter_append];have hg:g8 H2 d (V.int (i:Int)) ((cA fs i).map V.int):=by
        rw[← oU];exact g8.k (k:=Sum.inl (i:Int)) (s2 _ _ hd)
      simp -dsimp[au,stC,-Bool.exists_bool,-List.map_take,-Prod.forall,-Prod.exists];refine⟨_,hg,gb.of (fun h=>?_) (fun h=>?_)⟩
      · have h':i∉fs.map (·.1):=oV.mp (by simpa using h);simp -dsimp[au,stC,-Bool.exists_bool,-List.map_take,-Prod.forall,-Prod.exists];refine⟨_,hD2,by unfold eF;rw[List.length_map];omega,?_,aV s2 hD⟩;rw[ao,List.filter_cons,if_pos (show frB fs i=true from decide_eq_true h')];simp[eF]
      · have h':¬i∉fs.map (·.1):=fun z=>by
          rw[oV.mpr z] at h;cases h
        simp -dsimp[au,stC,-Bool.exists_bool,-List.map_take,-Prod.forall,-Prod.exists];refine⟨?_,s2⟩;rw[hD2,List.filter_cons,if_neg (show ¬frB fs i=true from fun z=>h' (of_decide_eq_true z))];simp
    ·rintro σ H2 ⟨⟨o',rfl⟩,hD2,s2⟩;simp -dsimp[au,stC,-Bool.exists_bool,-List.map_take,-Prod.forall,-Prod.exists];exact q D H2 hD hD2 s2
def Strong (S:List iC) (xs:List Str):Prop:=∀x∈xs,∀y∈xs,RT (fu S) x y
theorem yc {S:List iC} {xs:List Str} (h:cF S xs xs=none):Strong S xs:=fun x hx y hy=>by
  have h1:=Jr h x hx;have h2:lK S xs x=xs:=by
    unfold lK at h1 ⊢;exact List.filter_eq_self.mpr (List.length_filter_eq_length_iff.mp h1)
  have:y∈lK S xs x:=by rw[h2];exact hy
  exact(mW.mp this).2
theorem Fd {S:List iC} {xs:List Str} (h:Strong S xs):cF S xs xs=none:=by
  unfold cF;rw[List.find?_eq_none];intro x hx;rw[decide_eq_true_eq];intro hlt;unfold lK at hlt;rw[List.length_filter_lt_length_iff_exists] at hlt;obtain⟨y,hy,hn⟩:=hlt;exact hn (by simpa using h x hx y hy)
def qO (C Sh Ba:Addr):Sp:=fun vs H Q E=>∃(o d:Addr) (xs:List Str) (ps:List (Str×Str)) (fx:Nat→Option Int),vs=[.ref o,.ref d]∧fL C H o xs ps∧Pa xs∧qL xs ps∧I_ H d fx∧
  (cF (aC fx ps 0) xs xs=none→nF ps xs=[]→∀H',Same H H'→Q .non H')∧
  (∀x,cF (aC fx ps 0) xs xs=some x→∀(dx c:Addr) (H':Hp),H c=none→H' dx=some (iY dx [("lot",.ref c)])→H' c=some (.lst ((restOf (aC fx ps 0) xs x).map V.str))→Same H H'→E (.ref Sh) (some dx) H')∧
  (cF (aC fx ps 0) xs xs=none→∀k lot rest,nF ps xs=(k,lot)::rest→∀(dx c:Addr) (H':Hp),H c=none→H' dx=some (iY dx [("tie",.int (k:Nat)),("lot",.ref c)])→H' c=some (.lst (lot.map V.str))→Same H H'→E (.ref Ba) (some dx) H')
theorem qP (T:Txt K mg a):bV P w K mg base (Vb P w) 5 a.bI a.eV ["web", "fixed"] (qO a.bT a.bR a.aW):=by
  refine T.iz.qdJ cN (fun vs H Q E h=>?_) (fun cdv A outer s H vs Q E hr h=>?_)
  ·obtain⟨o,d,xs,ps,fx,rfl,_⟩:=h;rfl
  · obtain⟨o,d,xs,ps,fx,rfl,hw,hX,hTs,hf,q1,q2,q3⟩:=h;refine⟨_,(aB (bK (i:=2) cN.nd rfl (Or.inl rfl) (PE.eqv (aO (rR (K:=K) T) (hr.mono (by decide)) rfl T.nY T.kW.kp T.nW .nil bh (aj (aL 0) (aj (aL 1) aq))) (aK _ _ _)))
      (aB (dM (bA W5 (aL 2) Ks (bQ _)) (aG (En (E:=E) GC rfl rfl T.wM (Hr (K:=K) T) (hr.mono (by decide)) rfl T.Mg T.yI (aj (aL 2) aq))) bN)
      (aB (bK (i:=3) cN.nd rfl (Or.inl rfl) (PE.eqv (aO (YD (K:=K) T) (hr.mono (by decide)) rfl T.Vu T.Mf.kp T.Vt .nil bh (aj (aL 0) aq)) (aK _ _ _)))
      (aG (dM (bA Ak (aM (cD (K:=K) rfl) rfl T.nm.len PySem.boot_len (aj (aL 3) aq)) aJ (bQ _)) (aB (wZ (bJ (bM (K:=K) rfl) (aL 3) aJ (fun _ _=>rfl)) (PG.eqv (fj (K:=K) (n:=2) rfl rfl (jg.eqv (bw (aQ (i:=4) cN.nd rfl (Or.inl rfl)) (jg.eqv (bw (aQ (i:=5) cN.nd rfl (Or.inl rfl)) (jg.mono eZ g_)) (bx _ _))) (bx _ _))) (fB _ _ _)))
      (aG (En (E:=E) GC rfl rfl T.oR (BX (K:=K) T) (hr.mono (by decide)) rfl T.Bv T.t_ (aj (aL 4) (aj (aL 5) aq))))) bN))))),?_⟩
    simp -dsimp[au,stC,-Bool.exists_bool,-List.map_take,-Prod.forall,-Prod.exists];refine⟨o,d,xs,ps,fx,rfl,hw,hX,hTs,hf,fun H1 hn s1=>?_,fun x r H1 hx hr0 e1 s1=>?_⟩
    · simp -dsimp[au,stC,-Bool.exists_bool,-List.map_take,-Prod.forall,-Prod.exists];refine⟨o,xs,ps,rfl,hw.same s1,hX,hTs,fun l rs H2 hl0 e2 zs hzs VR qd1 hzn s2=>?_⟩;have S2:=s1.trans s2;simp -dsimp[au,stC,-Bool.exists_bool,-List.map_take,-Prod.forall,-Prod.exists];refine⟨_,.inl (aY.of e2),gb.of (fun h=>?_) (fun h=>?_)⟩
      · have hpos:=of_decide_eq_true h;cases rs with
        | nil=>simp at hpos
        | cons v rs=>
        cases zs with
        | nil=>have:=hzs.1;simp at this
        | cons z zs=>
        obtain⟨t,rfl,ht,hc⟩:=hzs.2 0 v z rfl rfl;have hz0:=(hzn z List.mem_cons_self).1;rw[List.map_cons] at VR;simp -dsimp[au,stC,-Bool.exists_bool,-List.map_take,-Prod.forall,-Prod.exists];refine⟨_,.inl (aY.of e2),_,aR (j:=0) rfl,?_⟩;simp -dsimp[au,stC,-Bool.exists_bool,-List.map_take,-Prod.forall,-Prod.exists];refine⟨_,dz.of ht,rfl,?_⟩;simp -dsimp[au,stC,-Bool.exists_bool,-List.map_take,-Prod.forall,-Prod.exists];intro e5 he5;have s5:Same H2 (upd H2 e5 (dY e5 a.aW none)):=aA he5;have x5:upd H2 e5 (dY e5 a.aW none) e5=some (dY e5 a.aW none):=ao;have hc5:=s5 _ _ hc;have e50:H e5=none:=dg S2 he5;have S5:=S2.trans s5;generalize upd H2 e5 (dY e5 a.aW none)=H5 at s5 x5 hc5 S5 ⊢;refine⟨e5,z.1,.int z.2.1,_,rfl,x5,hc5,fun c H6 hc0 ec hbe hB=>⟨rfl,?_⟩⟩;obtain⟨dx,dxe,hx,hdx⟩:=hbe;have ce:c≠e5:=fun z=>by rw[z,x5] at hc0;cases hc0
        refine⟨_,hx,q3 hn z.2.1 z.2.2 _ VR.symm dx c _ (dg S5 hc0) (uE dxe hdx) (uE ce ec) fun b' u e=>?_⟩;have be:b'≠e5:=fun z=>by rw[z,e50] at e;cases e
        exact uE be (hB b' u be (S5 _ _ e))
      · have h0:=of_decide_eq_false h;cases zs with
        | cons z zs=>have:=hzs.1;simp at this;omega
        | nil=>
          simp -dsimp[au,stC,-Bool.exists_bool,-List.map_take,-Prod.forall,-Prod.exists];exact q1 hn VR.symm _ S2
    · simp -dsimp[au,stC,-Bool.exists_bool,-List.map_take,-Prod.forall,-Prod.exists];intro e5 he5;have s5:Same H1 (upd H1 e5 (dY e5 a.bR none)):=aA he5;have x5:upd H1 e5 (dY e5 a.bR none) e5=some (dY e5 a.bR none):=ao;have hc5:=s5 _ _ e1;have e50:H e5=none:=dg s1 he5;have S5:=s1.trans s5;generalize upd H1 e5 (dY e5 a.bR none)=H5 at s5 x5 hc5 S5 ⊢;refine⟨e5,r,_,rfl,x5,hc5,fun c H6 hc0 ec hbe hB=>⟨rfl,?_⟩⟩;obtain⟨dx,dxe,hx5,hdx⟩:=hbe;have ce:c≠e5:=fun z=>by rw[z,x5] at hc0;cases hc0
      refine⟨_,hx5,q2 x hx dx c _ (dg S5 hc0) (uE dxe hdx) (uE ce ec) fun b' u e=>?_⟩;have be:b'≠e5:=fun z=>by rw[z,e50] at e;cases e
      exact uE be (hB b' u be (S5 _ _ e))
def Dl (ps:List (Str×Str)) (xs:List Str) (fs:List (Nat×Int)) (k:Nat):Int:=if (cF (aC (cA (fs++[(k,0)])) ps 0) xs xs).isNone=true then 0 else 1
def iV (ps:List (Str×Str)) (xs:List Str):List (Nat×Int)→List Nat→List (Nat×Int)
  | acc,[]=>acc
  | acc,k::ks=>iV ps xs (acc++[(k,Dl ps xs acc k)]) ks
theorem B_ (ps:List (Str×Str)) (xs:List Str):∀(ks:List Nat) (acc:List (Nat×Int)) (k:Nat),iV ps xs acc (ks++[k])=iV ps xs acc ks++[(k,Dl ps xs (iV ps xs acc ks) k)]
  | [],acc,k=>rfl
  | j::ks,acc,k=>by
    rw[List.cons_append,iV,iV];exact B_ ps xs ks _ k
theorem Pj (ps:List (Str×Str)) (xs:List Str) (fs:List (Nat×Int)) (k:Nat):0≤Dl ps xs fs k∧Dl ps xs fs k≤1:=by
  unfold Dl;split <;> omega
theorem uU (ps:List (Str×Str)) (xs:List Str):∀(ks:List Nat) (acc:List (Nat×Int)),(iV ps xs acc ks).map (·.1)=acc.map (·.1)++ks
  | [],acc=>by simp[iV]
  | k::ks,acc=>by
    rw[iV,uU ps xs ks];simp
theorem Ca {ps:List (Str×Str)} {xs:List Str} {m:Nat}:∀(ks:List Nat) {acc:List (Nat×Int)},jL acc m→(∀k∈ks,k<m∧k∉acc.map (·.1))→ks.Nodup→jL (iV ps xs acc ks) m
  | [],acc,h,_,_=>h
  | k::ks,acc,h,hk,nd=>by
    rw[iV];have h0:=hk k List.mem_cons_self;refine Ca ks (h.snoc h0.1 (Pj ps xs acc k) h0.2) (fun j hj=>⟨(hk j (List.mem_cons_of_mem _ hj)).1,fun z=>?_⟩) (List.nodup_cons.mp nd).2;rw[List.map_append] at z
    rcases List.mem_append.mp z with z | z
    ·exact(hk j (List.mem_cons_of_mem _ hj)).2 z
    ·simp at z;rw[z] at hj;exact(List.nodup_cons.mp nd).1 hj
theorem Fe {ps:List (Str×Str)} {xs:List Str}:∀(ks:List Nat) {acc:List (Nat×Int)} {e:Nat×Int},e∈acc→e∈iV ps xs acc ks
  | [],acc,e,h=>h
  | k::ks,acc,e,h=>by
    rw[iV];exact Fe ks (List.mem_append_left _ h)
theorem J4 {ps:List (Str×Str)} {xs:List Str} {m:Nat} {acc:List (Nat×Int)} {k:Nat} (hps:∀e∈ps,e.1∈xs∧e.2∈xs) (hm:m=ps.length) (h:jL acc m) (hk:k<m) (hn:k∉acc.map (·.1))
    (con:∀j e,ps[j]? = some e→RT (gA (fun i=>i≠j) ps) e.1 e.2) (st:Strong (aC (cA acc) ps 0) xs):Strong (aC (cA (acc++[(k,Dl ps xs acc k)])) ps 0) xs:=by
  obtain⟨e,he⟩:∃e,ps[k]? = some e:=⟨_,List.getElem?_eq_getElem (show k<ps.length by omega)⟩;have two:=Jv (fx:=cA acc) (u:=e.1) (v:=e.2) (oV.mpr hn) (by rw[he]) (fun j d hj=>by have:=oW h hj;omega) st hps (con k e he);rw[Fb hn];unfold Dl;rw[Fb hn]
  by_cases h0:(cF (aC (Vp (cA acc) k 0) ps 0) xs xs).isNone=true
  ·rw[if_pos h0];exact yc (by simpa using h0)
  · rw[if_neg h0]
    rcases two with z | z
    ·exact(h0 (by rw[Fd z];rfl)).elim
    ·exact z
theorem wQ {ps:List (Str×Str)} {xs:List Str} {m:Nat} (hps:∀e∈ps,e.1∈xs∧e.2∈xs) (hm:m=ps.length) (con:∀j e,ps[j]? = some e→RT (gA (fun i=>i≠j) ps) e.1 e.2):∀(ks:List Nat) {acc:List (Nat×Int)},jL acc m→(∀k∈ks,k<m∧k∉acc.map (·.1))→ks.Nodup→
    Strong (aC (cA acc) ps 0) xs→Strong (aC (cA (iV ps xs acc ks)) ps 0) xs
  | [],acc,h,_,_,st=>st
  | k::ks,acc,h,hk,nd,st=>by
    rw[iV];have h0:=hk k List.mem_cons_self;refine wQ hps hm con ks (h.snoc h0.1 (Pj ps xs acc k) h0.2) (fun j hj=>⟨(hk j (List.mem_cons_of_mem _ hj)).1,fun z=>?_⟩) (List.nodup_cons.mp nd).2 (J4 hps hm h h0.1 h0.2 con st);rw[List.map_append] at z
    rcases List.mem_append.mp z with z | z
    ·exact(hk j (List.mem_cons_of_mem _ hj)).2 z
    ·simp at z;rw[z] at hj;exact(List.nodup_cons.mp nd).1 hj
theorem wR {fs:List (Nat×Int)} {m k:Nat}:k∈jd fs m↔k<m∧k∉fs.map (·.1):=by
  unfold jd frB;rw[List.mem_filter,List.mem_range,decide_eq_true_eq]
theorem Hu (fs:List (Nat×Int)) (m:Nat):(jd fs m).Nodup:=List.nodup_range.filter _
def rT (ps:List (Str×Str)) (xs:List Str) (fs:List (Nat×Int)):List (Nat×Int):=iV ps xs fs (jd fs ps.length)
def tU (ps:List (Str×Str)) (xs:List Str) (fs:List (Nat×Int)):List Int:=(List.range ps.length).map fun j=>(cA (rT ps xs fs) j).getD 0
theorem Cd {ps:List (Str×Str)} {xs:List Str} {fs:List (Nat×Int)} {j:Nat} (hj:j<ps.length):∃v,cA (rT ps xs fs) j=some v:=by
  cases h:cA (rT ps xs fs) j with
  | some v=>exact⟨v,rfl⟩
  | none=>
    have h1:=oV.mp h;unfold rT at h1;rw[uU,List.mem_append] at h1
    by_cases hk:j∈fs.map (·.1)
    ·exact(h1 (.inl hk)).elim
    ·exact(h1 (.inr (wR.mpr ⟨hj,hk⟩))).elim
theorem Pk {ps:List (Str×Str)} {xs:List Str} {fs:List (Nat×Int)} (h:jL fs ps.length):jL (rT ps xs fs) ps.length:=Ca _ h (fun k hk=>wR.mp hk) (Hu _ _)
theorem Mw {ps:List (Str×Str)} {xs:List Str} {fs:List (Nat×Int)} {j:Nat} (hj:j<ps.length):(tU ps xs fs)[j]? = cA (rT ps xs fs) j:=by
  obtain⟨v,hv⟩:=Cd (ps:=ps) (xs:=xs) (fs:=fs) hj;unfold tU;rw[List.getElem?_map,List.getElem?_range hj,hv];simp[hv]
theorem tu (ps:List (Str×Str)) (xs:List Str) (fs:List (Nat×Int)):(tU ps xs fs).length=ps.length:=by simp[tU]
theorem Mx {ps:List (Str×Str)} {xs:List Str} {fs:List (Nat×Int)} (h:jL fs ps.length):∀n∈tU ps xs fs,0≤n∧n≤1:=fun n hn=>by
  unfold tU at hn;obtain⟨j,hj,rfl⟩:=List.mem_map.mp hn;obtain⟨v,hv⟩:=Cd (ps:=ps) (xs:=xs) (fs:=fs) (List.mem_range.mp hj);rw[hv];have:=oW (Pk h) hv;exact⟨this.1,this.2.1⟩
theorem Q9 {ps:List (Str×Str)} {xs:List Str} {fs:List (Nat×Int)} (h:jL fs ps.length) {e:Nat×Int} (he:e∈fs):(tU ps xs fs)[e.1]? = some e.2:=by
  rw[Mw (h.ok e he).1];exact J3 (Pk h).nd (Fe _ he)
theorem J_ {f:Str×Str→Nat→List (Nat×List Str)}:∀{ps:List (Str×Str)} {k:Nat},jM f ps k=[]→∀(j:Nat) e,ps[j]? = some e→f e (k+j)=[]
  | [],k,_,j,e,h=>by simp at h
  | d::ps,k,h,j,e,he=>by
    rw[jM,List.append_eq_nil_iff] at h;cases j with
    | zero=>simp at he;subst he;exact h.1
    | succ j=>
      have:=J_ h.2 j e (by simpa using he)
      rwa [show k+(j+1)=k+1+j by omega]
theorem Ka {f:Str×Str→Nat→List (Nat×List Str)} {z:Nat×List Str}:∀{ps:List (Str×Str)} {k:Nat},z∈jM f ps k→∃(j:Nat) (e:Str×Str),ps[j]? = some e∧z∈f e (k+j)
  | [],k,h=>by simp[jM] at h
  | d::ps,k,h=>by
    rw[jM] at h
    rcases List.mem_append.mp h with h | h
    ·exact⟨0,d,rfl,h⟩
    ·obtain⟨j,e,h1,h2⟩:=Ka h;exact⟨j+1,e,by simpa using h1,by rwa [show k+(j+1)=k+1+j by omega]⟩
theorem Kc {ps:List (Str×Str)} {xs:List Str} (h:nF ps xs=[]):∀(j:Nat) e,ps[j]? = some e→RT (gA (fun i=>i≠j) ps) e.1 e.2:=fun j e he=>by
  have h1:=J_ h j e he;rw[Nat.zero_add] at h1;unfold mX at h1;split at h1
  ·rename_i h2;exact((jq.mp h2).2).symm fun _ _ z=>z.symm
  ·cases h1
theorem Fg {ps:List (Str×Str)} {xs:List Str} {k:Nat} {lot:List Str} {rest:List (Nat×List Str)} (h:nF ps xs=(k,lot)::rest):∃e,ps[k]? = some e∧lot=dO ps xs k e.2∧¬e.1∈dO ps xs k e.2:=by
  obtain⟨j,e,h1,h2⟩:=Ka (f:=mX ps xs) (ps:=ps) (k:=0) (z:=(k,lot)) (by unfold nF at h;rw[h];exact List.mem_cons_self);rw[Nat.zero_add] at h2;unfold mX at h2;split at h2
  ·cases h2
  ·rename_i h3;rw[List.mem_singleton] at h2;cases h2;exact⟨e,h1,rfl,h3⟩
def yW (C Sh Ba:Addr):Sp:=fun vs H Q E=>∃(o d:Addr) (xs:List Str) (ps:List (Str×Str)) (fs:List (Nat×Int)),vs=[.ref o,.ref d]∧fL C H o xs ps∧Pa xs∧qL xs ps∧H d=some (.dK (dw fs))∧jL fs ps.length∧
  (cF (aC (cA fs) ps 0) xs xs=none→nF ps xs=[]→∀(r:Addr) (H':Hp),H r=none→H' r=some (.lst ((tU ps xs fs).map V.int))→Same H H'→Q (.ref r) H')∧
  (∀x,cF (aC (cA fs) ps 0) xs xs=some x→∀(dx c:Addr) (H':Hp),H c=none→H' dx=some (iY dx [("lot",.ref c)])→H' c=some (.lst ((restOf (aC (cA fs) ps 0) xs x).map V.str))→Same H H'→E (.ref Sh) (some dx) H')∧
  (cF (aC (cA fs) ps 0) xs xs=none→∀k lot rest,nF ps xs=(k,lot)::rest→∀(dx c:Addr) (H':Hp),H c=none→H' dx=some (iY dx [("tie",.int (k:Nat)),("lot",.ref c)])→H' c=some (.lst (lot.map V.str))→Same H H'→E (.ref Ba) (some dx) H')
theorem yX (T:Txt K mg a):bV P w K mg base (Vb P w) 6 a.cI a.jf ["web", "fixed"] (yW a.bT a.bR a.aW):=by
  refine T.mQ.qdJ lF (fun vs H Q E h=>?_) (fun cdv A outer s H vs Q E hr h=>?_)
  ·obtain⟨o,d,xs,ps,fs,rfl,_⟩:=h;rfl
  · obtain⟨o,d,xs,ps,fs,rfl,hw,hX,hTs,hd,hfs,q1,q2,q3⟩:=h;refine⟨_,(aB (gw (PE.eqv (aO (xX (K:=K) T) (hr.mono (by decide)) rfl T.qH T.lG.kp T.qG .nil bh (aj (aL 0) (aj (aL 1) aq))) (aK _ _ _)))
      (aB (gw (PE.eqv (aO (qP (K:=K) T) (hr.mono (by decide)) rfl T.lu T.iz.kp T.lq .nil (GC.passes rfl) (aj (aL 0) (aj (aL 1) aq))) (aK _ _ _)))
      (aB (bK (i:=2) lF.nd rfl (Or.inr rfl) (gP Vk rfl T.LC.dict ur (aj (aL 1) aq)))
      (aB (jQ PassesOwn.leaving rfl (PI.eqv (d8 (K:=K) rfl (PE.eqv (aO (Ht (K:=K) T) (hr.mono (by decide)) rfl T.yM T.rE.kp T.yL .nil bh (aj (aL 0) (aj (aL 1) aq))) (aK _ _ _))) (cO _ _)) (aQ (i:=3) lF.nd rfl (Or.inl rfl))
      (aG (PS.eqv (zm (oE hr) (aL 2) (aL 3) (Ib (bA qaC (PE.eqv (aO (rR (K:=K) T) (hr.mono (by decide)) rfl T.nY T.kW.kp T.nW .nil bh (aj (aL 0) (aj (PE.eqv (aO (xZ (K:=K) T) (hr.mono (by decide)) rfl T.qJ T.lH.kp T.qI .nil bh (aj (aL 2) (aj (aL 3) (aj aJ aq)))) (aK _ _ _)) aq))) (aK _ _ _)) Ks (bQ _)) aJ aJ) rfl) (vK _ _ _))))
      (aG (aZ (eG rfl rfl (show aX (ak b_) _ ["web", "fixed", "kept", "number"] ["number"] [2] ["number", "kept"] from⟨rfl,by decide+kernel,by decide+kernel,rfl,by decide+kernel,by decide+kernel⟩) rfl (PI.eqv (jk rfl T.nm.range (aj (PE.eqv (mH (aL 0) T.oN T.ql (rQ (K:=K) T) (hr.mono (by decide)) T.p7 .nil bh) (mO _ _ _ _ _ _)) aq)) (jr _)) (fun C s H fp pn=>(aQ (i:=0) (show(["number", "kept"]:List Str).Nodup by decide+kernel) rfl (Or.inl rfl))) (fun C s H fp pn=>f9) (fun C s H fp pn=>(PE.eqv (Gg (oE hr) (aL 1) (aL 0) (fun _ _=>rfl)) (Al _ _)))))))))),?_⟩
    have Mt:60≤sizeLine:=by decide
    have Dh:=hTs.len;have g2:∀e∈ps,e.1∈xs∧e.2∈xs:=fun e he=>⟨(hTs.ok e he).1,(hTs.ok e he).2.1⟩;simp -dsimp[au,stC,-Bool.exists_bool,-List.map_take,-Prod.forall,-Prod.exists];refine⟨o,d,xs,ps,fs,rfl,hw,hd,hfs,fun H1 s1=>?_⟩;simp -dsimp[au,stC,-Bool.exists_bool,-List.map_take,-Prod.forall,-Prod.exists];refine⟨o,d,xs,ps,cA fs,rfl,hw.same s1,hX,hTs,VP (s1 _ _ hd),fun hn hb H2 s2=>?_,fun x hx dx c H2 hc hdx ec s2=>?_,fun hn k lot rest hb dx c H2 hc hdx ec s2=>?_⟩
    · have S2:=s1.trans s2;simp -dsimp[au,stC,-Bool.exists_bool,-List.map_take,-Prod.forall,-Prod.exists];refine⟨_,.inl (S2 _ _ hd),fun kd hkd=>?_⟩;have s3:Same H2 (upd H2 kd (.dK (dw fs))):=aA hkd;have e3:upd H2 kd (.dK (dw fs)) kd=some (.dK (dw fs)):=ao;generalize upd H2 kd (.dK (dw fs))=H3 at s3 e3 ⊢;have S3:=S2.trans s3;have kd0:H kd=none:=dg S2 hkd;refine⟨o,d,xs,ps,fs,rfl,hw.same S3,Dh,S3 _ _ hd,fun fl H4 hfl efl s4=>?_⟩;have S4:=S3.trans s4;have flk:fl≠kd:=fun z=>by rw[z,e3] at hfl;cases hfl
      have ndF:=Hu fs ps.length;have qd9:∀k∈jd fs ps.length,k<ps.length∧k∉fs.map (·.1):=fun k hk=>wR.mp hk;simp -dsimp[au,stC,-Bool.exists_bool,-List.map_take,-Prod.forall,-Prod.exists];refine⟨⟨_,aY.of efl⟩,frL (eF (jd fs ps.length)) (fun i σ H'=>(∃o3,σ=[some (.ref o),some (.ref d),some (.ref kd),o3])∧H' kd=some (.dK (dw (iV ps xs fs ((jd fs ps.length).take i))))∧H' fl=some (.lst (eF (jd fs ps.length)))∧Same H H') ⟨⟨_,rfl⟩,s4 _ _ e3,efl,S4⟩ (fun i σ H' _ h=>aY.of h.2.2.1) ?_ ?_⟩
      · rintro i v σ H5 hi ⟨⟨o3,rfl⟩,ek,el,s5⟩;obtain⟨k,hk,rfl⟩:∃k,(jd fs ps.length)[i]? = some k∧v = .int (k:Nat):=by
          unfold eF at hi;rw[List.getElem?_map] at hi;obtain⟨k,hk,rfl⟩:=Option.map_eq_some_iff.mp hi;exact⟨k,hk,rfl⟩
        have tk:(jd fs ps.length).take (i+1)=(jd fs ps.length).take i++[k]:=take_one hk;have sub:∀j∈(jd fs ps.length).take i,j<ps.length∧j∉fs.map (·.1):=fun j hj=>qd9 j (List.mem_of_mem_take hj);have ndT:((jd fs ps.length).take i).Nodup:=ndF.sublist (List.take_sublist _ _);have qad:jL (iV ps xs fs ((jd fs ps.length).take i)) ps.length:=Ca _ hfs sub ndT;have hkm:=qd9 k (List.mem_of_getElem? hk);have kn:k∉(iV ps xs fs ((jd fs ps.length).take i)).map (·.1):=fun z=>by
          rw[uU,List.mem_append] at z
          rcases z with z | z
          ·exact hkm.2 z
          · have h2:((jd fs ps.length).take i++[k]).Nodup:=by rw[← tk];exact ndF.sublist (List.take_sublist _ _)
            exact(List.nodup_append.mp h2).2.2 k z k (by simp) rfl
        rw[tk,B_];have hdv:Dl ps xs (iV ps xs fs ((jd fs ps.length).take i)) k=if (cF (aC (cA (iV ps xs fs ((jd fs ps.length).take i)++[(k,0)])) ps 0) xs xs).isNone=true then 0 else 1:=rfl
        generalize iV ps xs fs ((jd fs ps.length).take i)=acc at ek qad kn hdv ⊢;have qlT:=qad.len;simp -dsimp[au,stC,-Bool.exists_bool,-List.map_take,-Prod.forall,-Prod.exists];refine⟨kd,k,0,acc,rfl,ek,by omega,kn,fun r6 H6 hr6 e6 s6=>?_⟩;have S6:=s5.trans s6;have put:∀(H7:Hp) (v:Int),Same H5 H7→v=Dl ps xs acc k→(∃H8,CW H7 kd (.int (k:Nat)) (.int v) H8∧H8 kd=some (.dK (dw (acc++[(k,Dl ps xs acc k)])))∧H8 fl=some (.lst (eF (jd fs ps.length)))∧Same H H8):=fun H7 v s7 hv=>by
          refine⟨_,.inl ⟨_,Sum.inl ((k:Nat):Int),s7 _ _ ek,rfl,by simp[dw];omega,rfl⟩,?_,?_,aV (s5.trans s7) kd0⟩
          ·rw[ao,qZ kn,hv]
          ·rw[aD flk];exact s7 _ _ el
        refine⟨o,r6,xs,ps,_,rfl,hw.same S6,hX,hTs,VP e6,fun H7 hn7 s7=>?_,fun x r H7 hx7 hr7 e7 s7=>?_⟩
        ·obtain⟨H8,p1,p2,p3,p4⟩:=put H7 0 (s6.trans s7) (by rw[hdv,hn7];rfl);simp -dsimp[au,stC,-Bool.exists_bool,-List.map_take,-Prod.forall,-Prod.exists];exact⟨H8,p1,p2,p3,p4⟩
        ·obtain⟨H8,p1,p2,p3,p4⟩:=put H7 1 (s6.trans s7) (by rw[hdv,hx7];rfl);simp -dsimp[au,stC,-Bool.exists_bool,-List.map_take,-Prod.forall,-Prod.exists];exact⟨H8,p1,p2,p3,p4⟩
      · rintro σ H5 ⟨⟨o3,rfl⟩,ek,el,s5⟩;have ek':H5 kd=some (.dK (dw (rT ps xs fs))):=by
          rw[ek];unfold rT eF;rw[List.length_map,List.take_length]
        obtain⟨dx,fss,hi,hno⟩:=(hw.same s5).ins sZ.1 sZ.2;simp -dsimp[au,stC,-Bool.exists_bool,-List.map_take,-Prod.forall,-Prod.exists];refine⟨_,_,hi,hno,o,xs,ps,rfl,hw.same s5,?_⟩;simp -dsimp[au,stC,-Bool.exists_bool,-List.map_take,-Prod.forall,-Prod.exists];refine⟨by omega,fun D hD=>cmR (fun i σ H'=>(∃o',σ=[o',some (.ref kd)])∧H' D=some (.lst (((tU ps xs fs).take i).map V.int))∧Same H5 H') ⟨⟨_,rfl⟩,ao,aA hD⟩ ?_ ?_⟩
        · rintro i σ H6 hi6 ⟨⟨o',rfl⟩,Q5,s6⟩;obtain⟨v,hv⟩:=Cd (ps:=ps) (xs:=xs) (fs:=fs) hi6;have ov:(tU ps xs fs)[i]? = some v:=by rw[Mw hi6];exact hv
          have hg:g8 H6 kd (V.int (i:Int)) (some (.int v)):=by
            have h1:=oU (rT ps xs fs) i;rw[hv] at h1;have h2:g8 H6 kd (V.int (i:Int)) (lC (dw (rT ps xs fs)) (Sum.inl (i:Int))):=g8.k (k:=Sum.inl (i:Int)) (s6 _ _ ek');rw[h1] at h2;exact h2
          have ol:=tu ps xs fs;rw[take_one ov];simp -dsimp[au,stC,-Bool.exists_bool,-List.map_take,-Prod.forall,-Prod.exists];refine⟨_,hg,_,Q5,by simp;omega,?_,aV s6 hD⟩;rw[ao]
        ·rintro σ H6 ⟨⟨o',rfl⟩,Q5,s6⟩;rw[← tu ps xs fs,List.take_length] at Q5;simp -dsimp[au,stC,-Bool.exists_bool,-List.map_take,-Prod.forall,-Prod.exists];exact q1 hn hb D H6 (dg s5 hD) Q5 (s5.trans s6)
    ·exact q2 x hx dx c H2 (dg s1 hc) hdx ec (s1.trans s2)
    ·exact q3 hn k lot rest hb dx c H2 (dg s1 hc) hdx ec (s1.trans s2)
def fZ (H:Hp) (t n l:Addr) (xs:List Str) (tv:List V) (ps:List (Str×Str)):Prop:=H t=some (.tup [.ref n,.ref l])∧H n=some (.lst (xs.map V.str))∧H l=some (.lst tv)∧bC H tv ps∧Pa xs∧qL xs ps
theorem fZ.same {H H':Hp} {t n l:Addr} {xs:List Str} {tv:List V} {ps:List (Str×Str)} (h:fZ H t n l xs tv ps) (s:Same H H'):fZ H' t n l xs tv ps:=⟨s _ _ h.1,s _ _ h.2.1,s _ _ h.2.2.1,bC.same h.2.2.2.1 s,h.2.2.2.2⟩
theorem int_at {ns:List Int} {i:Nat} {x:V} (h:(ns.map V.int)[i]? = some x):∃m,ns[i]? = some m∧x = .int m:=by
  rw[List.getElem?_map] at h;cases hn:ns[i]? with
  | none=>rw[hn] at h;cases h
  | some n=>rw[hn] at h;cases h;exact⟨n,rfl,rfl⟩
theorem YG (e:Str×Str) {m:Int} (h0:0≤m) (h1:m≤1):CJ [V.str e.1,V.str e.2] (1 - m)=some (.str (Uj m e)):=by
  have:m=0∨m=1:=by omega
  rcases this with rfl | rfl
  ·exact aR (j:=1) rfl
  ·exact aR (j:=0) rfl
theorem jP.YH {p b:Addr} {H:Hp} {o:HO} (x:jP H p) (h:H b=some o) (hn:∀zs,o≠.lst zs):b≠p:=fun z=>by
  subst z;obtain⟨u,v,e,_⟩:=x;rw[h] at e;exact hn _ (Option.some.inj e)
theorem fL.but {C p:Addr} {H H':Hp} {o:Addr} {xs:List Str} {ps:List (Str×Str)} (h:fL C H o xs ps) (hp:jP H p) (b:But p H H'):fL C H' o xs ps:=by
  obtain⟨dx,n,m,tv,h1,h2,h3,h4,h5⟩:=h.ex;exact⟨⟨dx,n,m,tv,b _ _ (hp.YH h1 (by intro zs z;cases z)) h1,b _ _ (hp.YH h2 (by intro zs z;cases z)) h2,b _ _ (hp.YH h3 (by intro zs z;cases z)) h3,h4.but hp b,h5⟩⟩
theorem fZ.but {p:Addr} {H H':Hp} {t n l:Addr} {xs:List Str} {tv:List V} {ps:List (Str×Str)} (h:fZ H t n l xs tv ps) (hp:jP H p) (b:But p H H') (np:n≠p) (lp:l≠p):fZ H' t n l xs tv ps:=
  ⟨b _ _ (hp.YH h.1 (by intro zs z;cases z)) h.1,b _ _ np h.2.1,b _ _ lp h.2.2.1,h.2.2.2.1.but hp b,h.2.2.2.2⟩
theorem jP.keep {p:Addr} {H H':Hp} (x:jP H p) (s:Same H H'):jP H' p:=by
  obtain⟨u1,u2,u3,u4⟩:=x;exact⟨u1,u2,s _ _ u3,u4⟩
def V0 (zs:List Int) (fx:Nat→Option Int):Prop:=∀(j:Nat) z,zs[j]? = some z→(z=0∧fx j=some 0)∨(z=1∧fx j=some 1)∨(z=2∧fx j=none)
theorem pB {fx:Nat→Option Int} {ps:List (Str×Str)} {j:Nat} {e:Str×Str} (he:ps[j]? = some e):aC fx (ps.take (j+1)) 0=aC fx (ps.take j) 0++jx fx e j:=by
  have hj:j<ps.length:=(List.getElem?_eq_some_iff.mp he).1;rw[take_one he,mK,List.length_take,Nat.min_eq_left (by omega),Nat.zero_add];simp[aC]
def Mz:Sp:=fun vs H Q _=>∃(t n l g:Addr) (xs:List Str) (tv:List V) (ps:List (Str×Str)) (zs:List Int) (fx:Nat→Option Int) (x:Str),vs=[.ref t,.ref g,.str x]∧fZ H t n l xs tv ps∧H g=some (.lst (zs.map V.int))∧zs.length=ps.length∧V0 zs fx∧x∈xs∧
  ∀(r:Addr) (f:List Str) (H':Hp),H r=none→H' r=some (.lst (f.map V.str))→f.length=(lK (aC fx ps 0) xs x).length→(∀y,y∈f↔RT (fu (aC fx ps 0)) x y)→Same H H'→Q (.ref r) H'
theorem uV (T:Txt K mg a):bV P w K mg base jN 1 a.iQ a.pQ ["_law_web_here", "_law_pointing", "_law_start"] Mz:=by
  refine T.oM.nJ jX (fun vs H Q E h=>?_) (fun cdv A outer s H vs Q E hr h=>?_)
  ·obtain⟨t,n,l,g,xs,tv,ps,zs,fx,x,rfl,_⟩:=h;rfl
  · obtain⟨t,n,l,g,xs,tv,ps,zs,fx,x,rfl,hG,hg,hlen,hst,hx,q⟩:=h;refine⟨_,(aB (bK (i:=3) jX.nd rfl (Or.inl rfl) (jh (aj (aL 2) aq)))
      (aB (jQ PassesOwn.never rfl (PI.eqv (d8 (K:=K) rfl (bJ (bM (K:=K) rfl) (aL 0) aJ (fun _ _=>rfl))) (cO _ _)) (aQ (i:=4) jX.nd rfl (Or.inl rfl))
      (aG (jQ PassesOwn.never rfl (PI.eqv (Oe (K:=K) rfl rfl T.nm.zip (aj (bJ (bM (K:=K) rfl) (aL 0) aJ (fun _ _=>rfl)) (aj (aL 1) aq))) (Jk _ _)) (PG.eqv (fj (K:=K) (n:=2) rfl rfl (jg.eqv (bw (PG.eqv (fj (K:=K) (n:=2) rfl rfl (jg.eqv (bw (aQ (i:=5) jX.nd rfl (Or.inl rfl)) (jg.eqv (bw (aQ (i:=6) jX.nd rfl (Or.inl rfl)) (jg.mono eZ g_)) (bx _ _))) (bx _ _))) (fB _ _ _)) (jg.eqv (bw (aQ (i:=7) jX.nd rfl (Or.inl rfl)) (jg.mono eZ g_)) (bx _ _))) (bx _ _))) (fB _ _ _))
      (aB (dM (PW.pt (wY (bA nG (aL 7) aJ (bQ _)) (wY (bA (Jm (K:=K) rfl) (aL 5) (aL 3) rfl) (zc (bA (sG (K:=K) rfl) (aL 6) (aL 3) rfl))))) (aG (gw (nC (K:=K) rfl PySem.F.plainAttrs_list PySem.F.slot_list_append PySem.F.type_list_append h_ (aL 3) (aj (aL 6) aq)))) bN)
      (aG (dM (PW.pt (wY (bA nG (aL 7) aJ (bQ _)) (wY (bA (Jm (K:=K) rfl) (aL 6) (aL 3) rfl) (zc (bA (sG (K:=K) rfl) (aL 5) (aL 3) rfl))))) (aG (gw (nC (K:=K) rfl PySem.F.plainAttrs_list PySem.F.slot_list_append PySem.F.type_list_append h_ (aL 3) (aj (aL 5) aq)))) bN))))))
      (aG (aZ (aL 3))))),?_⟩
    have Mt:60≤sizeLine:=by decide
    have hX:=hG.2.2.2.2.1;have hTs:=hG.2.2.2.2.2;have l9:=hX.len;have Dh:=hTs.len;have tl:=hG.2.2.2.1.1;have Kq:∀s∈aC fx ps 0,s.2.2∈xs:=Hl hTs;simp -dsimp[au,stC,-Bool.exists_bool,-List.map_take,-Prod.forall,-Prod.exists];intro f hf;have sf:Same H (upd H f (.lst [.str x])):=aA hf;have ef:upd H f (.lst [.str x]) f=some (.lst [.str x]):=ao;generalize upd H f (.lst [.str x])=H1 at sf ef ⊢;refine⟨_,.inr (dz.of (sf _ _ hG.1)),_,aR (j:=0) rfl,⟨_,aY.of (sf _ _ hG.2.1)⟩,?_⟩;refine frL (xs.map V.str) (fun i σ H'=>∃(fs:List Str) (o4 o5 o6 o7:Option V),σ=[some (.ref t),some (.ref g),some (.str x),some (.ref f),o4,o5,o6,o7]∧H' f=some (.lst (fs.map V.str))∧Km (aC fx ps 0) x fs∧(mY (aC fx ps 0) fs∨i+1≤fs.length)∧Same H H') ⟨[x],none,none,none,none,rfl,ef,Km.begin _ _,.inr (Nat.le_refl _),sf⟩ (fun i σ H' _ h=>by
      obtain⟨_,_,_,_,_,_,_,_,_,z⟩:=h;exact aY.of (z _ _ hG.2.1)) ?_ ?_
    · rintro i z σ H2 hi ⟨fs,o4,o5,o6,o7,rfl,hf2,hR,hC,s2⟩;simp -dsimp[au,stC,-Bool.exists_bool,-List.map_take,-Prod.forall,-Prod.exists];refine⟨_,.inr (dz.of (s2 _ _ hG.1)),_,aR (j:=1) rfl,?_⟩;simp -dsimp[au,stC,-Bool.exists_bool,-List.map_take,-Prod.forall,-Prod.exists];refine⟨⟨_,aY.of (s2 _ _ hG.2.2.1)⟩,⟨_,aY.of (s2 _ _ hg)⟩,?_⟩;refine frZ tv (zs.map V.int) (fun j σ H'=>∃(fs':List Str) (o5 o6 o7:Option V),σ=[some (.ref t),some (.ref g),some (.str x),some (.ref f),some z,o5,o6,o7]∧H' f=some (.lst (fs'.map V.str))∧gB (aC fx ps 0) (aC fx (ps.take j) 0) x fs fs'∧Same H H') ⟨fs,o5,o6,o7,rfl,hf2,gB.enter hR,s2⟩ (by simp;omega) (fun i σ H' _ h=>by
        obtain⟨_,_,_,_,_,_,_,z⟩:=h;exact⟨aY.of (z _ _ hG.2.2.1),aY.of (z _ _ hg)⟩) ?_ ?_
      · rintro j z1 z2 tt σ H4 hj1 hj2 htt ⟨fs',o5,o6,o7,rfl,hf4,hM,s4⟩;obtain⟨e,he,t2,rfl,JN⟩:=hG.2.2.2.1.at hj1;obtain⟨m,hm,rfl⟩:=int_at hj2;have st:Same H4 (upd H4 tt (.tup [.ref t2,.int m])):=aA htt;have wU:=st _ _ hf4;have ht5:=st _ _ (s4 _ _ JN);have s5:=s4.trans st;have ett:upd H4 tt (.tup [.ref t2,.int m]) tt=some (.tup [.ref t2,.int m]):=ao;generalize upd H4 tt (.tup [.ref t2,.int m])=H5 at wU ht5 s5 ett ⊢;have hf9:=hM.r.len hx Kq;have YJ:∀s∈jx fx e j,s∈aC fx ps 0:=fun s hs=>jo.mpr ⟨j,e,he,by rw[Nat.zero_add];exact hs⟩;have hT1:=pB (fx:=fx) he;generalize aC fx (ps.take (j+1)) 0=T1 at hT1 ⊢;simp -dsimp[au,stC,-Bool.exists_bool,-List.map_take,-Prod.forall,-Prod.exists];refine⟨_,dz.of ett,rfl,_,dz.of ht5,rfl,?_⟩
        rcases hst j m hm with⟨rfl,hfx⟩ | ⟨rfl,hfx⟩ | ⟨rfl,hfx⟩
        · have so:jx fx e j=[(j,e.1,e.2)]:=by unfold jx;rw[hfx];rfl
          have hin:(j,e.1,e.2)∈aC fx ps 0:=YJ _ (by rw[so];simp);rw[so] at hT1;have cv:∀{f:List Str},gB (aC fx ps 0) (aC fx (ps.take j) 0++[(j,e.1,e.2)]) x fs f→gB (aC fx ps 0) T1 x fs f:=fun h=>by rw[hT1];exact h
          simp -dsimp[au,stC,-Bool.exists_bool,-List.map_take,-Prod.forall,-Prod.exists];refine⟨_,.inl (aY.of wU),rfl,List.all_eq_true.mp (bW _),?_⟩;rw[bF];refine gb.of (fun h1=>?_) (fun h1=>?_)
          · have h1':e.1∈fs':=of_decide_eq_true h1;have d1:inV (.str e.2) (fs'.map V.str) = !decide (¬e.2∈fs'):=by rw[bF];simp
            simp -dsimp[au,stC,-Bool.exists_bool,-List.map_take,-Prod.forall,-Prod.exists];refine⟨_,.inl (aY.of wU),rfl,List.all_eq_true.mp (bW _),_,d1,gb.of (fun h2=>?_) (fun h2=>?_)⟩
            ·have h2':¬e.2∈fs':=of_decide_eq_true h2;simp -dsimp[au,stC,-Bool.exists_bool,-List.map_take,-Prod.forall,-Prod.exists];refine⟨⟨_,aY.of wU⟩,_,wU,by simp;omega,fs'++[e.2],by rw[ao];simp,cv (hM.add hin h1' h2'),aV s5 hf⟩
            · have h2':e.2∈fs':=by simpa using h2
              simp -dsimp[au,stC,-Bool.exists_bool,-List.map_take,-Prod.forall,-Prod.exists];exact⟨fs',wU,cv (hM.skip (s:=(j,e.1,e.2)) fun _=>h2'),s5⟩
          ·have h1':¬e.1∈fs':=of_decide_eq_false h1;simp -dsimp[au,stC,-Bool.exists_bool,-List.map_take,-Prod.forall,-Prod.exists];exact⟨fs',wU,cv (hM.skip (s:=(j,e.1,e.2)) fun z=>absurd z h1'),s5⟩
        · have so:jx fx e j=[(j,e.2,e.1)]:=by unfold jx;rw[hfx];rfl
          have V1:(j,e.2,e.1)∈aC fx ps 0:=YJ _ (by rw[so];simp);rw[so] at hT1;have cv:∀{f:List Str},gB (aC fx ps 0) (aC fx (ps.take j) 0++[(j,e.2,e.1)]) x fs f→gB (aC fx ps 0) T1 x fs f:=fun h=>by rw[hT1];exact h
          simp -dsimp[au,stC,-Bool.exists_bool,-List.map_take,-Prod.forall,-Prod.exists];refine⟨_,.inl (aY.of wU),rfl,List.all_eq_true.mp (bW _),?_⟩;rw[bF];refine gb.of (fun g1=>?_) (fun g1=>?_)
          · have MF:e.2∈fs':=of_decide_eq_true g1;have d2:inV (.str e.1) ((fs').map V.str) = !decide (¬e.1∈fs'):=by rw[bF];simp
            have l9':=(hM).r.len hx Kq;simp -dsimp[au,stC,-Bool.exists_bool,-List.map_take,-Prod.forall,-Prod.exists];refine⟨_,.inl (aY.of wU),rfl,List.all_eq_true.mp (bW _),_,d2,gb.of (fun g2=>?_) (fun g2=>?_)⟩
            ·have MJ:¬e.1∈fs':=of_decide_eq_true g2;simp -dsimp[au,stC,-Bool.exists_bool,-List.map_take,-Prod.forall,-Prod.exists];exact⟨⟨_,aY.of wU⟩,_,wU,by rw[List.length_map];omega,fs'++[e.1],by rw[ao];simp,cv ((hM).add V1 MF MJ),aV s5 hf⟩
            · have MJ:e.1∈fs':=by simpa using g2
              simp -dsimp[au,stC,-Bool.exists_bool,-List.map_take,-Prod.forall,-Prod.exists];exact⟨fs',wU,cv ((hM).skip (s:=(j,e.2,e.1)) fun _=>MJ),s5⟩
          ·have MF:¬e.2∈fs':=of_decide_eq_false g1;simp -dsimp[au,stC,-Bool.exists_bool,-List.map_take,-Prod.forall,-Prod.exists];exact⟨fs',wU,cv ((hM).skip (s:=(j,e.2,e.1)) fun z=>absurd z MF),s5⟩
        · have so:jx fx e j=[(j,e.1,e.2)]++[(j,e.2,e.1)]:=by unfold jx;rw[hfx];rfl
          have hin:(j,e.1,e.2)∈aC fx ps 0:=YJ _ (by rw[so];simp);have V1:(j,e.2,e.1)∈aC fx ps 0:=YJ _ (by rw[so];simp);rw[so,← List.append_assoc] at hT1;have cv:∀{f:List Str},gB (aC fx ps 0) (aC fx (ps.take j) 0++[(j,e.1,e.2)]++[(j,e.2,e.1)]) x fs f→gB (aC fx ps 0) T1 x fs f:=fun h=>by rw[hT1];exact h
          simp -dsimp[au,stC,-Bool.exists_bool,-List.map_take,-Prod.forall,-Prod.exists];refine⟨_,.inl (aY.of wU),rfl,List.all_eq_true.mp (bW _),?_⟩;rw[bF];refine gb.of (fun h1=>?_) (fun h1=>?_)
          · have h1':e.1∈fs':=of_decide_eq_true h1;have d1:inV (.str e.2) (fs'.map V.str) = !decide (¬e.2∈fs'):=by rw[bF];simp
            simp -dsimp[au,stC,-Bool.exists_bool,-List.map_take,-Prod.forall,-Prod.exists];refine⟨_,.inl (aY.of wU),rfl,List.all_eq_true.mp (bW _),_,d1,gb.of (fun h2=>?_) (fun h2=>?_)⟩
            · have h2':¬e.2∈fs':=of_decide_eq_true h2;simp -dsimp[au,stC,-Bool.exists_bool,-List.map_take,-Prod.forall,-Prod.exists];have V2:=hM.add hin h1' h2';have hf6:upd H5 f (.lst (fs'.map V.str++[.str e.2])) f=some (.lst ((fs'++[e.2]).map V.str)):=by rw[ao];simp
              have s6:Same H (upd H5 f (.lst (fs'.map V.str++[.str e.2]))):=aV s5 hf;refine⟨⟨_,aY.of wU⟩,_,wU,by simp;omega,?_⟩;generalize upd H5 f (.lst (fs'.map V.str++[.str e.2]))=H6 at hf6 s6 ⊢;have V3:gB (aC fx ps 0) (aC fx (ps.take j) 0++[(j,e.1,e.2)]) x fs (fs'++[e.2]):=V2;generalize fs'++[e.2]=YK at hf6 V3;refine⟨_,.inl (aY.of hf6),rfl,List.all_eq_true.mp (bW _),?_⟩;rw[bF];refine gb.of (fun g1=>?_) (fun g1=>?_)
              · have MF:e.2∈YK:=of_decide_eq_true g1;have d2:inV (.str e.1) ((YK).map V.str) = !decide (¬e.1∈YK):=by rw[bF];simp
                have l9':=(V3).r.len hx Kq;simp -dsimp[au,stC,-Bool.exists_bool,-List.map_take,-Prod.forall,-Prod.exists];refine⟨_,.inl (aY.of hf6),rfl,List.all_eq_true.mp (bW _),_,d2,gb.of (fun g2=>?_) (fun g2=>?_)⟩
                ·have MJ:¬e.1∈YK:=of_decide_eq_true g2;simp -dsimp[au,stC,-Bool.exists_bool,-List.map_take,-Prod.forall,-Prod.exists];exact⟨⟨_,aY.of hf6⟩,_,hf6,by rw[List.length_map];omega,YK++[e.1],by rw[ao];simp,cv ((V3).add V1 MF MJ),aV s6 hf⟩
                · have MJ:e.1∈YK:=by simpa using g2
                  simp -dsimp[au,stC,-Bool.exists_bool,-List.map_take,-Prod.forall,-Prod.exists];exact⟨YK,hf6,cv ((V3).skip (s:=(j,e.2,e.1)) fun _=>MJ),s6⟩
              ·have MF:¬e.2∈YK:=of_decide_eq_false g1;simp -dsimp[au,stC,-Bool.exists_bool,-List.map_take,-Prod.forall,-Prod.exists];exact⟨YK,hf6,cv ((V3).skip (s:=(j,e.2,e.1)) fun z=>absurd z MF),s6⟩
            · have h2':e.2∈fs':=by simpa using h2
              have V2:=hM.skip (s:=(j,e.1,e.2)) fun _=>h2';simp -dsimp[au,stC,-Bool.exists_bool,-List.map_take,-Prod.forall,-Prod.exists];refine⟨_,.inl (aY.of wU),rfl,List.all_eq_true.mp (bW _),?_⟩;rw[bF];refine gb.of (fun g1=>?_) (fun g1=>?_)
              · have MF:e.2∈fs':=of_decide_eq_true g1;have d2:inV (.str e.1) ((fs').map V.str) = !decide (¬e.1∈fs'):=by rw[bF];simp
                have l9':=(V2).r.len hx Kq;simp -dsimp[au,stC,-Bool.exists_bool,-List.map_take,-Prod.forall,-Prod.exists];refine⟨_,.inl (aY.of wU),rfl,List.all_eq_true.mp (bW _),_,d2,gb.of (fun g2=>?_) (fun g2=>?_)⟩
                ·have MJ:¬e.1∈fs':=of_decide_eq_true g2;simp -dsimp[au,stC,-Bool.exists_bool,-List.map_take,-Prod.forall,-Prod.exists];exact⟨⟨_,aY.of wU⟩,_,wU,by rw[List.length_map];omega,fs'++[e.1],by rw[ao];simp,cv ((V2).add V1 MF MJ),aV s5 hf⟩
                · have MJ:e.1∈fs':=by simpa using g2
                  simp -dsimp[au,stC,-Bool.exists_bool,-List.map_take,-Prod.forall,-Prod.exists];exact⟨fs',wU,cv ((V2).skip (s:=(j,e.2,e.1)) fun _=>MJ),s5⟩
              ·have MF:¬e.2∈fs':=of_decide_eq_false g1;simp -dsimp[au,stC,-Bool.exists_bool,-List.map_take,-Prod.forall,-Prod.exists];exact⟨fs',wU,cv ((V2).skip (s:=(j,e.2,e.1)) fun z=>absurd z MF),s5⟩
          · have h1':¬e.1∈fs':=of_decide_eq_false h1;have V2:=hM.skip (s:=(j,e.1,e.2)) fun z=>absurd z h1';simp -dsimp[au,stC,-Bool.exists_bool,-List.map_take,-Prod.forall,-Prod.exists];refine⟨_,.inl (aY.of wU),rfl,List.all_eq_true.mp (bW _),?_⟩;rw[bF];refine gb.of (fun g1=>?_) (fun g1=>?_)
            · have MF:e.2∈fs':=of_decide_eq_true g1;have d2:inV (.str e.1) ((fs').map V.str) = !decide (¬e.1∈fs'):=by rw[bF];simp
              have l9':=(V2).r.len hx Kq;simp -dsimp[au,stC,-Bool.exists_bool,-List.map_take,-Prod.forall,-Prod.exists];refine⟨_,.inl (aY.of wU),rfl,List.all_eq_true.mp (bW _),_,d2,gb.of (fun g2=>?_) (fun g2=>?_)⟩
              ·have MJ:¬e.1∈fs':=of_decide_eq_true g2;simp -dsimp[au,stC,-Bool.exists_bool,-List.map_take,-Prod.forall,-Prod.exists];exact⟨⟨_,aY.of wU⟩,_,wU,by rw[List.length_map];omega,fs'++[e.1],by rw[ao];simp,cv ((V2).add V1 MF MJ),aV s5 hf⟩
              · have MJ:e.1∈fs':=by simpa using g2
                simp -dsimp[au,stC,-Bool.exists_bool,-List.map_take,-Prod.forall,-Prod.exists];exact⟨fs',wU,cv ((V2).skip (s:=(j,e.2,e.1)) fun _=>MJ),s5⟩
            ·have MF:¬e.2∈fs':=of_decide_eq_false g1;simp -dsimp[au,stC,-Bool.exists_bool,-List.map_take,-Prod.forall,-Prod.exists];exact⟨fs',wU,cv ((V2).skip (s:=(j,e.2,e.1)) fun z=>absurd z MF),s5⟩
      ·rintro σ H4 ⟨fs',o5,o6,o7,rfl,hf4,hM,s4⟩;rw[tl,List.take_length] at hM;obtain⟨hR',hC'⟩:=hM.leave hC;simp -dsimp[au,stC,-Bool.exists_bool,-List.map_take,-Prod.forall,-Prod.exists];exact⟨fs',hf4,hR',hC',s4⟩
    ·rintro σ H2 ⟨fs,o4,o5,o6,o7,rfl,hf2,hR,hC,s2⟩;have hle:=hR.len hx Kq;rw[List.length_map] at hC;have hcl:mY (aC fx ps 0) fs:=hC.elim id fun z=>absurd z (by omega);simp -dsimp[au,stC,-Bool.exists_bool,-List.map_take,-Prod.forall,-Prod.exists];exact q f fs H2 hf hf2 (hR.lK hcl hX.nd hx Kq) (hR.closed hcl) s2
theorem V4 {R S:Str→Str→Prop} (f:∀a b,R a b→S b a) {a b:Str} (h:RT R a b):RT S b a:=by
  induction h with
  | refl=>exact .refl _
  | tail _ q ih=>exact(RT.one (f _ _ q)).trans ih
def WM (fx:Nat→Option Int):Nat→Option Int:=fun j=>(fx j).map fun d=>1 - d
theorem Fi {fx:Nat→Option Int} {ps:List (Str×Str)} (h01:∀j d,j<ps.length→fx j=some d→d=0∨d=1) {a b:Str}:fu (aC (WM fx) ps 0) a b↔fu (aC fx ps 0) b a:=by
  constructor
  · rintro⟨n,hn⟩;refine⟨n,?_⟩;rw[dh] at hn ⊢;obtain⟨e,he,h⟩:=hn;have hl:n<ps.length:=(List.getElem?_eq_some_iff.mp he).1;refine⟨e,he,?_⟩;unfold WM at h;cases hf:fx n with
    | none=>rw[hf] at h;simp at h ⊢;rcases h with⟨rfl,rfl⟩ | ⟨rfl,rfl⟩ <;> simp
    | some d=>
      rw[hf] at h
      rcases h01 n d hl hf with rfl | rfl <;> simp at h ⊢ <;> exact⟨h.2,h.1⟩
  · rintro⟨n,hn⟩;refine⟨n,?_⟩;rw[dh] at hn ⊢;obtain⟨e,he,h⟩:=hn;have hl:n<ps.length:=(List.getElem?_eq_some_iff.mp he).1;refine⟨e,he,?_⟩;unfold WM;cases hf:fx n with
    | none=>rw[hf] at h;simp at h ⊢;rcases h with⟨rfl,rfl⟩ | ⟨rfl,rfl⟩ <;> simp
    | some d=>
      rw[hf] at h
      rcases h01 n d hl hf with rfl | rfl <;> simp at h ⊢ <;> exact⟨h.2,h.1⟩
theorem Pn {S:List iC} {xs:List Str} {x:Str}:(lK S xs x).length=xs.length↔∀y∈xs,RT (fu S) x y:=by
  constructor
  · intro h y hy;have h2:lK S xs x=xs:=by
      unfold lK at h ⊢;exact List.filter_eq_self.mpr (List.length_filter_eq_length_iff.mp h)
    have:y∈lK S xs x:=by rw[h2];exact hy
    exact(mW.mp this).2
  · intro h;apply Classical.byContradiction;intro hne;have hlt:(lK S xs x).length<xs.length:=by have:=Gj (S:=S) (xs:=xs) (x:=x);omega
    unfold lK at hlt;rw[List.length_filter_lt_length_iff_exists] at hlt;obtain⟨y,hy,hn⟩:=hlt;exact hn (by simpa using h y hy)
def Hv:Sp:=fun vs H Q _=>∃(t n l g:Addr) (xs:List Str) (tv:List V) (ps:List (Str×Str)) (zs:List Int) (fx:Nat→Option Int),vs=[.ref t,.ref g]∧fZ H t n l xs tv ps∧H g=some (.lst (zs.map V.int))∧zs.length=ps.length∧V0 zs fx∧
  ∀(b:Bool) (H':Hp),(b=true↔Strong (aC fx ps 0) xs)→Same H H'→Q (.bl b) H'
theorem wV (T:Txt K mg a):bV P w K mg base jN 2 a.fJ a.mq ["_law_web_here", "_law_pointing"] Hv:=by
  refine T.ni.nJ pI (fun vs H Q E h=>?_) (fun cdv A outer s H vs Q E hr h=>?_)
  ·obtain⟨t,n,l,g,xs,tv,ps,zs,fx,rfl,_⟩:=h;rfl
  · obtain⟨t,n,l,g,xs,tv,ps,zs,fx,rfl,hG,hg,hlen,hst,q⟩:=h;refine⟨_,(aB (bK (i:=2) pI.nd rfl (Or.inl rfl) (PE.eqv (aO (uV (K:=K) T) (hr.mono (by decide)) rfl T.sX T.oM.kp T.sW .nil bh (aj (aL 0) (aj (aL 1) (aj (bJ (bM (K:=K) rfl) (bJ (bM (K:=K) rfl) (aL 0) aJ (fun _ _=>rfl)) aJ (fun _ _=>rfl)) aq)))) (aK _ _ _)))
      (aB (bK (i:=3) pI.nd rfl (Or.inl rfl) (PE.eqv (aO (uV (K:=K) T) (hr.mono (by decide)) rfl T.sX T.oM.kp T.sW .nil bh (aj (aL 0) (aj (eG rfl rfl (show aX (ak dW) _ ["_law_web_here", "_law_pointing", "_law_there", "_law_back"] ["_law_turn"] [] ["_law_turn"] from⟨rfl,by decide+kernel,by decide+kernel,rfl,by decide+kernel,by decide+kernel⟩) rfl (PI.eqv (d8 (K:=K) rfl (aL 1)) (cO _ _)) (fun C s H fp pn=>(aQ (i:=0) (show(["_law_turn"]:List Str).Nodup by decide+kernel) rfl (Or.inl rfl))) (fun C s H fp pn=>f9) (fun C s H fp pn=>(bJ (bM (K:=K) rfl) (jh (aj aJ (aj aJ (aj aJ aq)))) (aL 0) (fun _ _=>rfl)))) (aj (bJ (bM (K:=K) rfl) (bJ (bM (K:=K) rfl) (aL 0) aJ (fun _ _=>rfl)) aJ (fun _ _=>rfl)) aq)))) (aK _ _ _)))
      (aG (aZ (gY (dB jV (aM (cD (K:=K) rfl) rfl T.nm.len PySem.boot_len (aj (aL 2) aq)) (aM (cD (K:=K) rfl) rfl T.nm.len PySem.boot_len (aj (bJ (bM (K:=K) rfl) (aL 0) aJ (fun _ _=>rfl)) aq)) (bQ _)) (lA (dB jV (aM (cD (K:=K) rfl) rfl T.nm.len PySem.boot_len (aj (aL 3) aq)) (aM (cD (K:=K) rfl) rfl T.nm.len PySem.boot_len (aj (bJ (bM (K:=K) rfl) (aL 0) aJ (fun _ _=>rfl)) aq)) (bQ _)))))))),?_⟩
    have Mt:60≤sizeLine:=by decide
    have l9:=hG.2.2.2.2.1.len;have Dh:=hG.2.2.2.2.2.len;obtain⟨x0,hx0⟩:∃x0,xs[0]? = some x0:=⟨_,List.getElem?_eq_getElem (show 0<xs.length by omega)⟩;have RN:=List.mem_of_getElem? hx0;have at0:CJ (xs.map V.str) 0=some (.str x0):=aR (j:=0) (by rw[List.getElem?_map,hx0];rfl);simp -dsimp[au,stC,-Bool.exists_bool,-List.map_take,-Prod.forall,-Prod.exists];refine⟨_,.inr (dz.of hG.1),_,aR (j:=0) rfl,?_⟩;simp -dsimp[au,stC,-Bool.exists_bool,-List.map_take,-Prod.forall,-Prod.exists];refine⟨_,.inl (aY.of hG.2.1),_,at0,t,n,l,g,xs,tv,ps,zs,fx,x0,rfl,hG,hg,hlen,hst,RN,fun r1 f1 H1 hr1 e1 hf1 hm1 s1=>?_⟩;simp -dsimp[au,stC,-Bool.exists_bool,-List.map_take,-Prod.forall,-Prod.exists];refine⟨⟨_,aY.of (s1 _ _ hg)⟩,fun D hD=>Xu (zs.map V.int) (fun i σ H'=>(∃o',σ=[o'])∧(∃us:List Int,H' D=some (.lst (us.map V.int))∧us.length=i∧V0 us (WM fx))∧Same H1 H') ⟨⟨_,rfl⟩,⟨[],ao,rfl,fun j z h=>by simp at h⟩,aA hD⟩ (fun i σ H' _ h=>aY.of (h.2.2 _ _ (s1 _ _ hg))) ?_ ?_⟩
    · rintro i v σ H2 hi ⟨⟨o',rfl⟩,⟨us,hD2,hul,hus⟩,s2⟩;obtain⟨m,hm,rfl⟩:=int_at hi;have hi2:i<zs.length:=(List.getElem?_eq_some_iff.mp hm).1;simp -dsimp[au,stC,-Bool.exists_bool,-List.map_take,-Prod.forall,-Prod.exists];intro p3 hp3;have s3:Same H2 (upd H2 p3 (.lst [.int 1,.int 0,.int 2])):=aA hp3;have e3:upd H2 p3 (.lst [.int 1,.int 0,.int 2]) p3=some (.lst [.int 1,.int 0,.int 2]):=ao;generalize upd H2 p3 (.lst [.int 1,.int 0,.int 2])=H3 at s3 e3 ⊢;obtain⟨v,hv,hv2⟩:∃v:Int,CJ [V.int 1,V.int 0,V.int 2] m=some (.int v)∧((v=0∧WM fx i=some 0)∨(v=1∧WM fx i=some 1)∨(v=2∧WM fx i=none)):=by
        unfold WM
        rcases hst i m hm with⟨rfl,hf⟩ | ⟨rfl,hf⟩ | ⟨rfl,hf⟩
        ·exact⟨1,aR (j:=0) rfl,.inr (.inl ⟨rfl,by rw[hf];rfl⟩)⟩
        ·exact⟨0,aR (j:=1) rfl,.inl ⟨rfl,by rw[hf];rfl⟩⟩
        ·exact⟨2,aR (j:=2) rfl,.inr (.inr ⟨rfl,by rw[hf];rfl⟩)⟩
      refine⟨_,.inl (aY.of e3),_,hv,_,s3 _ _ hD2,by rw[List.length_map];omega,⟨us++[v],by rw[ao];simp,by simp[hul],fun j z hz=>?_⟩,aV (s2.trans s3) hD⟩
      by_cases hj:j<us.length
      ·rw[List.getElem?_append_left hj] at hz;exact hus j z hz
      · rw[List.getElem?_append_right (by omega)] at hz;have h0:j - us.length=0:=by
          have:=(List.getElem?_eq_some_iff.mp hz).1;simp at this;omega
        rw[h0] at hz;simp at hz;subst hz;have:j=i:=by omega
        subst this;exact hv2
    · rintro σ H2 ⟨⟨o',rfl⟩,⟨us,hD2,hul,hus⟩,s2⟩;rw[List.length_map] at hul;have S2:=s1.trans s2;simp -dsimp[au,stC,-Bool.exists_bool,-List.map_take,-Prod.forall,-Prod.exists];refine⟨_,.inr (dz.of (S2 _ _ hG.1)),_,aR (j:=0) rfl,?_⟩;simp -dsimp[au,stC,-Bool.exists_bool,-List.map_take,-Prod.forall,-Prod.exists];refine⟨_,.inl (aY.of (S2 _ _ hG.2.1)),_,at0,t,n,l,D,xs,tv,ps,us,WM fx,x0,rfl,hG.same S2,hD2,by omega,hus,RN,fun r3 f3 H3 Yz e3 hf3 hm3 s3=>?_⟩;have S3:=S2.trans s3;simp -dsimp[au,stC,-Bool.exists_bool,-List.map_take,-Prod.forall,-Prod.exists];refine⟨_,.inl (aY.of ((s2.trans s3) _ _ e1)),_,.inr (dz.of (S3 _ _ hG.1)),_,aR (j:=0) rfl,?_⟩;simp -dsimp[au,stC,-Bool.exists_bool,-List.map_take,-Prod.forall,-Prod.exists];refine⟨_,.inl (aY.of (S3 _ _ hG.2.1)),?_⟩;have h01:∀j d,j<ps.length→fx j=some d→d=0∨d=1:=fun j d hj hd=>by
        obtain⟨z,hz⟩:∃z,zs[j]? = some z:=⟨_,List.getElem?_eq_getElem (show j<zs.length by omega)⟩
        rcases hst j z hz with⟨_,hf⟩ | ⟨_,hf⟩ | ⟨_,hf⟩ <;> rw[hf] at hd <;> cases hd <;> simp
      have key:Strong (aC fx ps 0) xs↔(lK (aC fx ps 0) xs x0).length=xs.length∧(lK (aC (WM fx) ps 0) xs x0).length=xs.length:=by
        rw[Pn,Pn];constructor
        ·intro h;exact⟨h x0 RN,fun y hy=>V4 (fun _ _ z=>(Fi h01).mpr z) (h y hy x0 RN)⟩
        ·rintro⟨h1,h2⟩ y hy z hz;exact(V4 (fun _ _ z=>(Fi h01).mp z) (h2 y hy)).trans (h1 z hz)
      simp only[List.length_map];rw[hf1];refine gb.of (fun h=>?_) (fun h=>?_)
      · have h1:(lK (aC fx ps 0) xs x0).length=xs.length:=by have:=of_decide_eq_true h;omega
        simp -dsimp[au,stC,-Bool.exists_bool,-List.map_take,-Prod.forall,-Prod.exists];refine⟨_,.inl (aY.of e3),_,.inr (dz.of (S3 _ _ hG.1)),_,aR (j:=0) rfl,?_⟩;simp -dsimp[au,stC,-Bool.exists_bool,-List.map_take,-Prod.forall,-Prod.exists];refine⟨_,.inl (aY.of (S3 _ _ hG.2.1)),q _ _ ?_ S3⟩;rw[key,decide_eq_true_eq];simp only[List.length_map];rw[hf3];constructor
        ·intro z;exact⟨h1,by omega⟩
        ·rintro⟨_,z⟩;omega
      · have h1:¬(lK (aC fx ps 0) xs x0).length=xs.length:=fun z=>by
          have:=of_decide_eq_false h;omega
        refine q _ _ ?_ S3;rw[key];exact⟨fun z=>(by cases z),fun z=>absurd z.1 h1⟩
theorem V5 {H:Hp} {t n l:Addr} {xs:List Str} {tv:List V} {ps:List (Str×Str)} (hG:fZ H t n l xs tv ps) {k:Nat} {e:Str×Str} (he:ps[k]? = some e):∃t2,tv[k]? = some (.ref t2)∧H t2=some (.tup [.str e.1,.str e.2]):=by
  have hjl:k<tv.length:=by rw[hG.2.2.2.1.1];exact(List.getElem?_eq_some_iff.mp he).1
  obtain⟨e',he',t2,ht,JN⟩:=hG.2.2.2.1.at (show tv[k]? = some tv[k] by simp[hjl]);rw[he] at he';cases he';exact⟨t2,by rw[← ht];simp[hjl],JN⟩
def Q_:Sp:=fun vs H Q _=>∃(t n l r:Addr) (xs c:List Str) (tv:List V) (ps:List (Str×Str)),vs=[.ref t,.ref r]∧fZ H t n l xs tv ps∧H r=some (.lst (c.map V.str))∧0<c.length∧c.length<xs.length∧(∀x∈c,x∈xs)∧xs.filter (fun y=>decide (y∈c))=c∧
  ∀H',Same H H'→Q (.bl true) H'
theorem Fj (T:Txt K mg a):bV P w K mg base jN 1 a.jF a.sJ ["_law_web_here", "_law_lot"] Q_:=by
  refine T.wG.nJ QV (fun vs H Q E h=>?_) (fun cdv A outer s H vs Q E hr h=>?_)
  ·obtain⟨t,n,l,r,xs,c,tv,ps,rfl,_⟩:=h;rfl
  · obtain⟨t,n,l,r,xs,c,tv,ps,rfl,hG,MK,hc0,hc9,hcx,hcf,q⟩:=h;refine⟨_,(aB (dM (PW.pt (qy (eY (cM (aM (nH (K:=K) rfl) rfl T.nm.isinstance boot_isinstance (aj (aL 1) (aj (je (v:=.ty "list") rfl T.nm.list boot_list rfl) aq))))) (nu (eY (cM (aM (jt rfl) rfl T.nm.all jm (aj (eG rfl rfl (show aX (ak ig) _ ["_law_web_here", "_law_lot"] ["_law_point"] [] ["_law_point"] from⟨rfl,by decide+kernel,by decide+kernel,rfl,by decide+kernel,by decide+kernel⟩) rfl (PI.eqv (d8 (K:=K) rfl (aL 1)) (cO _ _)) (fun C s H fp pn=>(aQ (i:=0) (show(["_law_point"]:List Str).Nodup by decide+kernel) rfl (Or.inl rfl))) (fun C s H fp pn=>f9) (fun C s H fp pn=>(aM (nH (K:=K) rfl) rfl T.nm.isinstance boot_isinstance (aj (aL 0) (aj (je (v:=.ty "str") rfl T.nm.str boot_str rfl) aq))))) aq))))))) (aG (aZ ou)) bN)
      (aG (aZ (gY (xH uz uz aJ (aM (cD (K:=K) rfl) rfl T.nm.len PySem.boot_len (aj (aL 1) aq)) (aM (cD (K:=K) rfl) rfl T.nm.len PySem.boot_len (aj (bJ (bM (K:=K) rfl) (aL 0) aJ (fun _ _=>rfl)) aq))) (lA (dB (Lh (K:=K) rfl hr.units) (aL 1) (eG rfl rfl (show aX (ak ig) _ ["_law_web_here", "_law_lot"] ["_law_name"] [1] ["_law_name", "_law_lot"] from⟨rfl,by decide+kernel,by decide+kernel,rfl,by decide+kernel,by decide+kernel⟩) rfl (PI.eqv (d8 (K:=K) rfl (bJ (bM (K:=K) rfl) (aL 0) aJ (fun _ _=>rfl))) (cO _ _)) (fun C s H fp pn=>(aQ (i:=0) (show(["_law_name", "_law_lot"]:List Str).Nodup by decide+kernel) rfl (Or.inl rfl))) (fun C s H fp pn=>(o_ (bA (Jm (K:=K) rfl) (aL 0) (aL 1) rfl))) (fun C s H fp pn=>(aL 0))) (bQ _))))))),?_⟩
    have Mt:60≤sizeLine:=by decide
    have hX:=hG.2.2.2.2.1;have l9:=hX.len;simp -dsimp[au,stC,-Bool.exists_bool,-List.map_take,-Prod.forall,-Prod.exists];refine⟨_,.lst MK,_,tY K,gb.neg rfl ?_⟩;simp -dsimp[au,stC,-Bool.exists_bool,-List.map_take,-Prod.forall,-Prod.exists];refine⟨⟨_,aY.of MK⟩,fun D hD=>Xu (c.map V.str) (fun j σ H'=>(∃o',σ=[o'])∧H' D=some (.lst (List.replicate j (.bl true)))∧Same H H') ⟨⟨_,rfl⟩,ao,aA hD⟩ (fun j σ H' _ h=>aY.of (h.2.2 _ _ MK)) ?_ ?_⟩
    ·rintro j z σ H2 hj ⟨⟨o',rfl⟩,hD2,s2⟩;obtain⟨y,hy,rfl⟩:=qW hj;have hj2:j<c.length:=(List.getElem?_eq_some_iff.mp hy).1;simp -dsimp[au,stC,-Bool.exists_bool,-List.map_take,-Prod.forall,-Prod.exists];refine⟨_,.str _,_,yu K,?_⟩;refine⟨_,hD2,by simp;omega,by rw[ao,List.replicate_succ'],aV s2 hD⟩
    · rintro σ H2 ⟨⟨o',rfl⟩,hD2,s2⟩;simp -dsimp[au,stC,-Bool.exists_bool,-List.map_take,-Prod.forall,-Prod.exists];refine⟨_,hD2,_,ju _,?_⟩;rw[show(List.replicate (c.map V.str).length true).all id=true by simp];simp -dsimp[au,stC,-Bool.exists_bool,-List.map_take,-Prod.forall,-Prod.exists];refine⟨_,.inl (aY.of (s2 _ _ MK)),gb.pos (by simpa using hc0) ?_⟩;simp -dsimp[au,stC,-Bool.exists_bool,-List.map_take,-Prod.forall,-Prod.exists];refine⟨_,.inr (dz.of (s2 _ _ hG.1)),_,aR (j:=0) rfl,_,.inl (aY.of (s2 _ _ hG.2.1)),?_⟩;rw[decide_eq_true (by simpa using hc9)];simp -dsimp[au,stC,-Bool.exists_bool,-List.map_take,-Prod.forall,-Prod.exists];refine⟨_,.inr (dz.of (s2 _ _ hG.1)),_,aR (j:=0) rfl,⟨_,aY.of (s2 _ _ hG.2.1)⟩,fun F hF=>Xu (xs.map V.str) (fun j σ H'=>(∃o',σ=[o',some (.ref r)])∧H' F=some (.lst (((xs.take j).filter fun y=>decide (y∈c)).map V.str))∧Same H2 H') ⟨⟨_,rfl⟩,ao,aA hF⟩ (fun j σ H' _ h=>aY.of (h.2.2 _ _ (s2 _ _ hG.2.1))) ?_ ?_⟩
      · rintro j z σ H3 hj ⟨⟨o',rfl⟩,WL,s3⟩;obtain⟨y,hy,rfl⟩:=qW hj;have hj2:j<xs.length:=(List.getElem?_eq_some_iff.mp hy).1;have hfl:((xs.take j).filter fun y=>decide (y∈c)).length≤(xs.take j).length:=List.length_filter_le _ _;rw[List.length_take] at hfl;rw[take_one hy,List.filter_append,List.map_append];simp -dsimp[au,stC,-Bool.exists_bool,-List.map_take,-Prod.forall,-Prod.exists];refine⟨_,.inl (aY.of (s3 _ _ (s2 _ _ MK))),rfl,List.all_eq_true.mp (bW _),?_⟩;rw[bF];refine gb.of (fun h=>?_) (fun h=>?_)
        ·have h':y∈c:=of_decide_eq_true h;simp -dsimp[au,stC,-Bool.exists_bool,-List.map_take,-Prod.forall,-Prod.exists];refine⟨_,WL,by simp;omega,by rw[ao];simp[h'],aV s3 hF⟩
        ·have h':¬y∈c:=of_decide_eq_false h;simp -dsimp[au,stC,-Bool.exists_bool,-List.map_take,-Prod.forall,-Prod.exists];refine⟨by rw[WL];simp[h'],s3⟩
      · rintro σ H3 ⟨⟨o',rfl⟩,WL,s3⟩;rw[List.length_map,List.take_length,hcf] at WL;have hcc:PyData.canLay0 (.list (d9 c))=true:=by
          have:=IK c fun x hx=>Xw (hX.nm x (hcx x hx));simp[PyData.canLay0,this]
        have hcd:(PyData.list (d9 c)).depth≤64:=by
          have:=IV c;simp[PyData.depth];omega
        simp -dsimp[au,stC,-Bool.exists_bool,-List.map_take,-Prod.forall,-Prod.exists];refine⟨.list (d9 c),⟨r,_,rfl,aY.of ((s2.trans s3) _ _ MK),rZ _⟩,.list (d9 c),⟨F,_,rfl,aY.of WL,rZ _⟩,hcc,hcc,hcd,?_⟩;rw[show PyData.eqv (.list (d9 c)) (.list (d9 c))=true by simp[PyData.eqv,Jb]];exact q _ (s2.trans s3)
def Kd:Sp:=fun vs H Q _=>∃(t n l r:Addr) (xs c:List Str) (tv:List V) (ps:List (Str×Str)),vs=[.ref t,.ref r]∧fZ H t n l xs tv ps∧H r=some (.lst (c.map V.str))∧
  ∀(d:Addr) (H':Hp),H d=none→H' d=some (.lst ((jU c ps).map fun k:Nat=>V.int k))→Same H H'→Q (.ref d) H'
theorem yS (T:Txt K mg a):bV P w K mg base jN 1 a.gK a.m9 ["_law_web_here", "_law_lot"] Kd:=by
  refine T.qe.nJ JC (fun vs H Q E h=>?_) (fun cdv A outer s H vs Q E hr h=>?_)
  ·obtain⟨t,n,l,r,xs,c,tv,ps,rfl,_⟩:=h;rfl
  · obtain⟨t,n,l,r,xs,c,tv,ps,rfl,hG,MK,q⟩:=h;refine⟨_,(aG (aZ (eG rfl rfl (show aX (ak fP) _ ["_law_web_here", "_law_lot"] ["_law_k", "_law_a", "_law_b"] [1] ["_law_k", "_law_a", "_law_b", "_law_lot"] from⟨rfl,by decide+kernel,by decide+kernel,rfl,by decide+kernel,by decide+kernel⟩) rfl (PI.eqv (Gh (K:=K) rfl rfl T.LC.enumerate (aj (bJ (bM (K:=K) rfl) (aL 0) aJ (fun _ _=>rfl)) aq)) (xJ _ _)) (fun C s H fp pn=>(PG.eqv (fj (K:=K) (n:=2) rfl rfl (jg.eqv (bw (aQ (i:=0) (show(["_law_k", "_law_a", "_law_b", "_law_lot"]:List Str).Nodup by decide+kernel) rfl (Or.inl rfl)) (jg.eqv (bw (PG.eqv (fj (K:=K) (n:=2) rfl rfl (jg.eqv (bw (aQ (i:=1) (show(["_law_k", "_law_a", "_law_b", "_law_lot"]:List Str).Nodup by decide+kernel) rfl (Or.inl rfl)) (jg.eqv (bw (aQ (i:=2) (show(["_law_k", "_law_a", "_law_b", "_law_lot"]:List Str).Nodup by decide+kernel) rfl (Or.inl rfl)) (jg.mono eZ g_)) (bx _ _))) (bx _ _))) (fB _ _ _)) (jg.mono eZ g_)) (bx _ _))) (bx _ _))) (fB _ _ _))) (fun C s H fp pn=>(o_ (bA nG (dB (Jm (K:=K) rfl) (aL 1) (aL 3) rfl) (dB (Jm (K:=K) rfl) (aL 2) (aL 3) rfl) (bQ _)))) (fun C s H fp pn=>(aL 0))))),?_⟩;have Mt:60≤sizeLine:=by decide
    have Dh:=hG.2.2.2.2.2.len;have tl:=hG.2.2.2.1.1;have hl:=hG.2.2.1;simp -dsimp[au,stC,-Bool.exists_bool,-List.map_take,-Prod.forall,-Prod.exists];refine⟨_,.inr (dz.of hG.1),_,aR (j:=1) rfl,⟨_,aY.of hl⟩,fun D hD=>cmE tv (fun j σ H'=>(∃o1 o2 o3,σ=[o1,o2,o3,some (.ref r)])∧H' D=some (.lst ((jU c (ps.take j)).map fun k:Nat=>V.int k))∧Same H H') ⟨⟨_,_,_,rfl⟩,ao,aA hD⟩ (fun j σ H' _ h=>aY.of (h.2.2 _ _ hl)) ?_ ?_⟩
    · rintro j v tt σ H2 hj htt ⟨⟨o1,o2,o3,rfl⟩,hD2,s2⟩;obtain⟨e,he,t2,rfl,JN⟩:=hG.2.2.2.1.at hj;have hj2:j<ps.length:=(List.getElem?_eq_some_iff.mp he).1;have st:Same H2 (upd H2 tt (.tup [.int j,.ref t2])):=aA htt;have ett:upd H2 tt (.tup [.int j,.ref t2]) tt=some (.tup [.int j,.ref t2]):=ao;have s3:=s2.trans st;have JZ:=st _ _ hD2;generalize upd H2 tt (.tup [.int j,.ref t2])=H3 at st ett s3 JZ ⊢;have hcl:(jU c (ps.take j)).length≤(ps.take j).length:=vD (Ai c) _ _;rw[List.length_take] at hcl;have hct:jU c (ps.take (j+1))=jU c (ps.take j)++mL c e j:=xu (mL c) he;rw[hct,List.map_append];simp -dsimp[au,stC,-Bool.exists_bool,-List.map_take,-Prod.forall,-Prod.exists];refine⟨_,dz.of ett,rfl,_,dz.of (s3 _ _ JN),rfl,?_⟩;refine⟨_,.inl (aY.of (s3 _ _ MK)),rfl,List.all_eq_true.mp (bW _),_,.inl (aY.of (s3 _ _ MK)),rfl,List.all_eq_true.mp (bW _),?_⟩;rw[bF,bF]
      by_cases hx:(e.1∈c↔e.2∈c)
      ·refine⟨false,by simp[hx],gb.neg rfl ?_⟩;simp -dsimp[au,stC,-Bool.exists_bool,-List.map_take,-Prod.forall,-Prod.exists];refine⟨?_,s3⟩;rw[JZ,show mL c e j=[] from if_pos hx];simp
      ·refine⟨true,by simpa using hx,gb.pos rfl ?_⟩;simp -dsimp[au,stC,-Bool.exists_bool,-List.map_take,-Prod.forall,-Prod.exists];refine⟨_,JZ,by simp;omega,?_,aV s3 hD⟩;rw[ao,show mL c e j=[j] from if_neg hx];simp
    ·rintro σ H2 ⟨⟨o1,o2,o3,rfl⟩,hD2,s2⟩;rw[tl,List.take_length] at hD2;simp -dsimp[au,stC,-Bool.exists_bool,-List.map_take,-Prod.forall,-Prod.exists];exact q D H2 hD hD2 s2
def Ke:Sp:=fun vs H Q _=>∃(t n l r:Addr) (xs c:List Str) (tv:List V) (ps:List (Str×Str)) (k:Nat) (m:Int) (e:Str×Str),vs=[.ref t,.ref r,.int k,.int m]∧fZ H t n l xs tv ps∧H r=some (.lst (c.map V.str))∧ps[k]? = some e∧0≤m∧m≤1∧
  Q (.bl (decide (Uj m e∈c))) H
theorem Kf (T:Txt K mg a):bV P w K mg base jN 1 a.gM a.m_ ["_law_web_here", "_law_lot", "_law_k", "_law_turn"] Ke:=by
  refine T.uQ.nJ JD (fun vs H Q E h=>?_) (fun cdv A outer s H vs Q E hr h=>?_)
  ·obtain⟨t,n,l,r,xs,c,tv,ps,k,m,e,rfl,_⟩:=h;rfl
  ·obtain⟨t,n,l,r,xs,c,tv,ps,k,m,e,rfl,hG,MK,he,h0,h1,q⟩:=h;refine⟨_,(aG (aZ (dB (Jm (K:=K) rfl) (bJ (bM (K:=K) rfl) (bJ (bM (K:=K) rfl) (bJ (bM (K:=K) rfl) (aL 0) aJ (fun _ _=>rfl)) (aL 2) (fun _ _=>rfl)) (dZ vH aJ (aL 3)) (fun _ _=>rfl)) (aL 1) rfl))),?_⟩;obtain⟨t2,htv,JN⟩:=V5 hG he;simp -dsimp[au,stC,-Bool.exists_bool,-List.map_take,-Prod.forall,-Prod.exists];refine⟨_,.inr (dz.of hG.1),_,aR (j:=1) rfl,_,.inl (aY.of hG.2.2.1),_,aR htv,_,.inr (dz.of JN),_,YG e h0 h1,_,.inl (aY.of MK),rfl,List.all_eq_true.mp (bW _),?_⟩;rw[bF];exact q
theorem MN {c:List Str} {ps:List (Str×Str)} {k:Nat}:k∈jU c ps→∃e,ps[k]? = some e∧¬(e.1∈c↔e.2∈c):=by
  have key:∀(ps:List (Str×Str)) (j:Nat),k∈jM (mL c) ps j→∃(i:Nat) (e:Str×Str),ps[i]? = some e∧k=j+i∧¬(e.1∈c↔e.2∈c):=by
    intro ps
    induction ps with
    | nil=>intro j h;simp[jM] at h
    | cons d ps ih=>
      intro j h;rw[jM] at h
      rcases List.mem_append.mp h with h | h
      · unfold mL at h;split at h
        ·cases h
        ·rename_i hn;rw[List.mem_singleton] at h;exact⟨0,d,rfl,h,hn⟩
      ·obtain⟨i,e,h1,h2,h3⟩:=ih (j+1) h;exact⟨i+1,e,by simpa using h1,by omega,h3⟩
  intro h;obtain⟨i,e,h1,h2,h3⟩:=key ps 0 h;rw[Nat.zero_add] at h2;subst h2;exact⟨e,h1,h3⟩
theorem Ra {ys:List V} {m:Nat} (h:ys.Perm (eF (List.range m))):∃ks:List Nat,ys=eF ks∧ks.Nodup∧∀k∈ks,k<m:=by
  have all:∀y∈ys,∃k:Nat,y=V.int k:=fun y hy=>by
    obtain⟨z,_,rfl⟩:=List.mem_map.mp (h.mem_iff.mp hy);exact⟨z,rfl⟩
  have:∃ks:List Nat,ys=eF ks:=by
    clear h
    induction ys with
    | nil=>exact⟨[],rfl⟩
    | cons y ys ih=>
      obtain⟨zs,rfl⟩:=ih fun z hz=>all z (List.mem_cons_of_mem _ hz);obtain⟨z,rfl⟩:=all y List.mem_cons_self;exact⟨z::zs,rfl⟩
  obtain⟨ks,rfl⟩:=this;have e:∀l:List Nat,(eF l).map (fun v=>match v with | V.int s=>s.toNat | _=>0)=l:=fun l=>by
    induction l with
    | nil=>rfl
    | cons a l ih=>
      simp only[eF,List.map_cons] at ih ⊢;rw[ih];simp
  have h2:=h.map (fun v=>match v with | V.int s=>s.toNat | _=>0)
  rw[e,e] at h2;exact⟨ks,rfl,h2.nodup_iff.mpr List.nodup_range,fun k hk=>List.mem_range.mp (h2.mem_iff.mp hk)⟩
def V6:Sp:=fun vs H Q _=>∃(p t n l:Addr) (xs:List Str) (tv:List V) (ps:List (Str×Str)),vs=[.ref p,.ref t]∧jP H p∧fZ H t n l xs tv ps∧
  ∀(d:Addr) (fs:List (Nat×Int)) (H':Hp),H d=none→H' d=some (.dK (dw fs))→jL fs ps.length→jP H' p→But p H H'→Q (.ref d) H'
theorem V7 (T:Txt K mg a):bV P w K mg base jN 3 a.mz a.wj ["_law_pot_here", "_law_web_here"] V6:=by
  refine T.G8.nJ vU (fun vs H Q E h=>?_) (fun cdv A outer s H vs Q E hr h=>?_)
  ·obtain⟨p,t,n,l,xs,tv,ps,rfl,_⟩:=h;rfl
  · obtain⟨p,t,n,l,xs,tv,ps,rfl,hP,hG,q⟩:=h;refine⟨_,(aB (bK (i:=2) vU.nd rfl (Or.inl rfl) (PE.eqv (aO (iT (K:=K) T) (hr.mono (by decide)) rfl T.jJ T.jj.kp T.jH .nil bh (aj (aL 0) (aj aJ aq))) (aK _ _ _)))
      (aB (bK (i:=3) vU.nd rfl (Or.inl rfl) Ad)
      (aB (jQ PassesOwn.never rfl (PI.eqv (d8 (K:=K) rfl (PE.eqv (aO (BL (K:=K) T) (hr.mono (by decide)) rfl T.zB T.wF.kp T.zA .nil bh (aj (aL 0) (aj (Gz rfl rfl T.nm.list rfl T.nm.range (aj (aM (cD (K:=K) rfl) rfl T.nm.len PySem.boot_len (aj (bJ (bM (K:=K) rfl) (aL 1) aJ (fun _ _=>rfl)) aq)) aq)) aq))) (aK _ _ _))) (cO _ _)) (aQ (i:=4) vU.nd rfl (Or.inl rfl))
      (aG (dM (bA uz (PE.eqv (aO (iT (K:=K) T) (hr.mono (by decide)) rfl T.jJ T.jj.kp T.jH .nil bh (aj (aL 0) (aj aJ aq))) (aK _ _ _)) (aL 2) (bQ _)) (aG (PS.eqv (zm (oE hr) (aL 3) (aL 4) (PE.eqv (aO (iT (K:=K) T) (hr.mono (by decide)) rfl T.jJ T.jj.kp T.jH .nil bh (aj (aL 0) (aj aJ aq))) (aK _ _ _)) rfl) (vK _ _ _))) bN)))
      (aG (aZ (aL 3)))))),?_⟩
    have Mt:60≤sizeLine:=by decide
    have Dh:=hG.2.2.2.2.2.len;have tl:=hG.2.2.2.1.1;have lp:l≠p:=fun z=>by
      subst z;obtain⟨u,v,w,_⟩:=hP;rw[hG.2.2.1] at w;injection w with w;injection w with w;have:=hG.2.2.2.1;rw[w] at this;have h1:=this.1;obtain⟨e,he⟩:∃e,ps[0]? = some e:=⟨_,List.getElem?_eq_getElem (show 0<ps.length by simp at h1;omega)⟩;obtain⟨t',e',_⟩:=this.2 0 _ e rfl he;cases e'
    have tp:t≠p:=fun z=>by
      subst z;obtain⟨u,v,w,_⟩:=hP;rw[hG.1] at w;cases w
    simp -dsimp[au,stC,-Bool.exists_bool,-List.map_take,-Prod.forall,-Prod.exists];refine⟨p,5,rfl,hP,by decide,by decide,fun d1 H1 hd0 hd1 Ko JV=>?_⟩;simp -dsimp[au,stC,-Bool.exists_bool,-List.map_take,-Prod.forall,-Prod.exists];intro fd hfd;have s2:Same H1 (upd H1 fd (.dK [])):=aA hfd;have e2:upd H1 fd (.dK []) fd=some (.dK (dw [])):=ao;have fdp:fd≠p:=(Ko.ne hfd).symm;have hP2:=Ko.keep s2;generalize upd H1 fd (.dK [])=H2 at s2 e2 hP2 ⊢;have B2:=JV.same s2;have fd0:H fd=none:=Ko.none JV hfd;refine⟨_,.inr (dz.of (B2 _ _ tp hG.1)),_,aR (j:=1) rfl,?_⟩;simp -dsimp[au,stC,-Bool.exists_bool,-List.map_take,-Prod.forall,-Prod.exists];refine⟨_,.inl (aY.of (B2 _ _ lp hG.2.2.1)),by omega,fun rl hrl=>?_⟩;have s3:Same H2 (upd H2 rl (.lst (eF (List.range tv.length)))):=aA hrl;have e3:upd H2 rl (.lst (eF (List.range tv.length))) rl=some (.lst (eF (List.range tv.length))):=ao;have rlp:rl≠p:=(hP2.ne hrl).symm;have JW:=hP2.keep s3;have ee:upd H2 rl (.lst ((List.range tv.length).map fun i=>V.int (i:Nat)))=upd H2 rl (.lst (eF (List.range tv.length))):=rfl;rw[ee];generalize upd H2 rl (.lst (eF (List.range tv.length)))=H3 at s3 e3 JW ⊢;have B3:=B2.same s3;refine⟨p,rl,_,rfl,JW,rlp,e3,by simp[eF];omega,fun r4 ys H4 VH e4 hperm Ml Pb=>?_⟩;obtain⟨ks,rfl,knd,klt⟩:=Ra hperm;have r4p:r4≠p:=(JW.ne VH).symm;have qjk:r4≠fd:=fun z=>by rw[z,s3 _ _ e2] at VH;cases VH
    have B4:=B3.trans Pb;have e24:H4 fd=some (.dK (dw [])):=Pb _ _ fdp (s3 _ _ e2);simp -dsimp[au,stC,-Bool.exists_bool,-List.map_take,-Prod.forall,-Prod.exists];refine⟨⟨_,aY.of e4⟩,frL (eF ks) (fun i σ H'=>(∃o4,σ=[some (.ref p),some (.ref t),some (.int d1),some (.ref fd),o4])∧(∃fs:List (Nat×Int),H' fd=some (.dK (dw fs))∧jL fs ps.length∧∀e∈fs,e.1∈ks.take i)∧H' r4=some (.lst (eF ks))∧jP H' p∧But p H H') ⟨⟨_,rfl⟩,⟨[],e24,⟨by simp,by simp⟩,by simp⟩,e4,Ml,B4⟩ (fun i σ H' _ h=>aY.of h.2.2.1) ?_ ?_⟩
    · rintro i v σ H5 hi ⟨⟨o4,rfl⟩,⟨fs,ef,hfs,hsub⟩,e5,E_,Mp⟩;obtain⟨k,hk,rfl⟩:∃k,ks[i]? = some k∧v = .int (k:Nat):=by
        unfold eF at hi;rw[List.getElem?_map] at hi;obtain⟨k,hk,rfl⟩:=Option.map_eq_some_iff.mp hi;exact⟨k,hk,rfl⟩
      have hkm:=klt k (List.mem_of_getElem? hk);have tk:ks.take (i+1)=ks.take i++[k]:=take_one hk;have kn:k∉fs.map (·.1):=fun z=>by
        obtain⟨e,he,rfl⟩:=List.mem_map.mp z;have h2:(ks.take i++[e.1]).Nodup:=by rw[← tk];exact knd.sublist (List.take_sublist _ _)
        exact(List.nodup_append.mp h2).2.2 e.1 (hsub e he) e.1 (by simp) rfl
      have fl:=hfs.len;simp -dsimp[au,stC,-Bool.exists_bool,-List.map_take,-Prod.forall,-Prod.exists];refine⟨p,4,rfl,E_,by decide,by decide,fun d6 H6 qlU qlV RP Ms=>?_⟩;have ef6:=Ms _ _ fdp ef;have e56:=Ms _ _ r4p e5;have B6:=Mp.trans Ms;simp -dsimp[au,stC,-Bool.exists_bool,-List.map_take,-Prod.forall,-Prod.exists];refine gb.of (fun h=>?_) (fun h=>?_)
      · simp -dsimp[au,stC,-Bool.exists_bool,-List.map_take,-Prod.forall,-Prod.exists];refine⟨p,2,rfl,RP,by decide,by decide,fun d7 H7 qlW qlX WK RQ=>?_⟩;have ef7:=RQ _ _ fdp ef6;simp -dsimp[au,stC,-Bool.exists_bool,-List.map_take,-Prod.forall,-Prod.exists];refine⟨_,.inl ⟨_,Sum.inl ((k:Nat):Int),ef7,rfl,by simp[dw];omega,rfl⟩,⟨fs++[(k,d7)],?_,hfs.snoc (by omega) ⟨by omega,by omega⟩ kn,fun e he=>?_⟩,?_,WK.upd fdp.symm,(B6.trans RQ).new fd0⟩
        ·rw[ao,qZ kn]
        · rw[tk]
          rcases List.mem_append.mp he with he | he
          ·exact List.mem_append_left _ (hsub e he)
          ·rw[List.mem_singleton] at he;rw[he];simp
        ·rw[aD qjk];exact RQ _ _ r4p e56
      ·simp -dsimp[au,stC,-Bool.exists_bool,-List.map_take,-Prod.forall,-Prod.exists];refine⟨⟨fs,ef6,hfs,fun e he=>?_⟩,e56,RP,B6⟩;rw[tk];exact List.mem_append_left _ (hsub e he)
    ·rintro σ H5 ⟨⟨o4,rfl⟩,⟨fs,ef,hfs,hsub⟩,e5,E_,Mp⟩;simp -dsimp[au,stC,-Bool.exists_bool,-List.map_take,-Prod.forall,-Prod.exists];exact q fd fs H5 fd0 ef hfs E_ Mp
def stL (fs:List (Nat×Int)) (m:Nat):List Int:=(List.range m).map fun j=>(cA fs j).getD 2
theorem mF (fs:List (Nat×Int)) (m:Nat):(stL fs m).length=m:=by simp[stL]
theorem MP {fs:List (Nat×Int)} {m:Nat} (h:jL fs m):V0 (stL fs m) (cA fs):=fun j z hz=>by
  unfold stL at hz;rw[List.getElem?_map] at hz;obtain⟨i,hi,rfl⟩:=Option.map_eq_some_iff.mp hz;have:i=j:=by
    have hl:=(List.getElem?_eq_some_iff.mp hi).1;rw[List.length_range] at hl;rw[List.getElem?_range hl] at hi;exact(Option.some.inj hi).symm
  subst this;cases hf:cA fs i with
  | none=>exact .inr (.inr ⟨rfl,rfl⟩)
  | some d=>
    have:=oW h hf;obtain rfl | rfl:d=0∨d=1:=by omega
    ·exact .inl ⟨rfl,rfl⟩
    ·exact .inr (.inl ⟨rfl,rfl⟩)
def V8:Sp:=fun vs H Q _=>∃(t n l d:Addr) (xs:List Str) (tv:List V) (ps:List (Str×Str)) (fs:List (Nat×Int)),vs=[.ref t,.ref d]∧fZ H t n l xs tv ps∧H d=some (.dK (dw fs))∧
  ∀(r:Addr) (H':Hp),H r=none→H' r=some (.lst ((stL fs ps.length).map V.int))→Same H H'→Q (.ref r) H'
theorem V9 (T:Txt K mg a):bV P w K mg base jN 1 a.mC a.wk ["_law_web_here", "_law_fixed_here"] V8:=by
  refine T.G9.nJ Vr (fun vs H Q E h=>?_) (fun cdv A outer s H vs Q E hr h=>?_)
  ·obtain⟨t,n,l,d,xs,tv,ps,fs,rfl,_⟩:=h;rfl
  · obtain⟨t,n,l,d,xs,tv,ps,fs,rfl,hG,hd,q⟩:=h;refine⟨_,(aG (aZ (eG rfl rfl (show aX (ak j7) _ ["_law_web_here", "_law_fixed_here"] ["_law_k"] [1] ["_law_k", "_law_fixed_here"] from⟨rfl,by decide+kernel,by decide+kernel,rfl,by decide+kernel,by decide+kernel⟩) rfl (PI.eqv (jk rfl T.nm.range (aj (aM (cD (K:=K) rfl) rfl T.nm.len PySem.boot_len (aj (bJ (bM (K:=K) rfl) (aL 0) aJ (fun _ _=>rfl)) aq)) aq)) (jr _)) (fun C s H fp pn=>(aQ (i:=0) (show(["_law_k", "_law_fixed_here"]:List Str).Nodup by decide+kernel) rfl (Or.inl rfl))) (fun C s H fp pn=>f9) (fun C s H fp pn=>(PE.eqv (Af (oE hr) (aL 1) (aL 0) aJ ⟨rfl,rfl,rfl,rfl⟩) (xK _ _ _)))))),?_⟩;have Mt:60≤sizeLine:=by decide
    have Dh:=hG.2.2.2.2.2.len;have tl:=hG.2.2.2.1.1;have sl:=mF fs ps.length;simp -dsimp[au,stC,-Bool.exists_bool,-List.map_take,-Prod.forall,-Prod.exists];refine⟨_,.inr (dz.of hG.1),_,aR (j:=1) rfl,?_⟩;simp -dsimp[au,stC,-Bool.exists_bool,-List.map_take,-Prod.forall,-Prod.exists];refine⟨_,.inl (aY.of hG.2.2.1),by omega,fun D hD=>cmR (fun i σ H'=>(∃o',σ=[o',some (.ref d)])∧H' D=some (.lst (((stL fs ps.length).take i).map V.int))∧Same H H') ⟨⟨_,rfl⟩,ao,aA hD⟩ ?_ ?_⟩
    · rintro i σ H2 hi ⟨⟨o',rfl⟩,hD2,s2⟩;have hi2:i<ps.length:=by omega
      have hz:(stL fs ps.length)[i]? = some ((cA fs i).getD 2):=by
        unfold stL;rw[List.getElem?_map,List.getElem?_range hi2];rfl
      have hg:g8 H2 d (V.int (i:Int)) ((cA fs i).map V.int):=by
        rw[← oU];exact g8.k (k:=Sum.inl (i:Int)) (s2 _ _ hd)
      rw[take_one hz];simp -dsimp[au,stC,-Bool.exists_bool,-List.map_take,-Prod.forall,-Prod.exists];refine⟨isD (s2 _ _ hd),_,hg,_,hD2,by simp;omega,?_,aV s2 hD⟩;rw[ao];cases cA fs i <;> simp
    ·rintro σ H2 ⟨⟨o',rfl⟩,hD2,s2⟩;rw[tl,List.take_of_length_le (by rw[sl];exact Nat.le_refl _)] at hD2;simp -dsimp[au,stC,-Bool.exists_bool,-List.map_take,-Prod.forall,-Prod.exists];exact q D H2 hD hD2 s2
theorem qae {n j:Nat} {d:Nat}:HT.Ft n d (some (j:Int))=min j n:=by
  simp[HT.Ft];intro h;omega
theorem qd_ {xs:List V} {j:Nat}:zW xs none (some (j:Int))=xs.take j:=by
  unfold zW;rw[qae];simp[HT.Ft,List.take_eq_take_iff]
theorem YL {xs:List V} {j:Nat}:zW xs (some (j:Int)) none=xs.drop j:=by
  unfold zW;rw[qae];simp[HT.Ft];rw[List.take_of_length_le (by simp)]
  by_cases h:j≤xs.length
  ·rw[Nat.min_eq_left h]
  ·rw[Nat.min_eq_right (by omega),List.drop_of_length_le (Nat.le_refl _),List.drop_of_length_le (by omega)]
theorem zJ {α:Type} {l:List α} {k:Nat} (j:Nat) (hk:k<l.length):(l.take k++l.drop (k+1))[j]? = if j<k then l[j]? else l[j+1]?:=by
  split
  ·rename_i h;rw[List.getElem?_append_left (by rw[List.length_take];omega),List.getElem?_take_of_lt h]
  ·rename_i h;rw[List.getElem?_append_right (by rw[List.length_take];omega),List.length_take,Nat.min_eq_left (by omega),List.getElem?_drop];congr 1;omega
theorem V_ {H:Hp} {vs:List V} {ps:List (Str×Str)} {k:Nat} (h:bC H vs ps) (hk:k<ps.length):bC H (vs.take k++vs.drop (k+1)) (ps.take k++ps.drop (k+1)):=by
  have hl:=h.1;refine⟨by simp;omega,fun i v e h1 h2=>?_⟩;rw[zJ i (by omega)] at h1;rw[zJ i hk] at h2;split at h1
  ·rename_i hi;rw[if_pos hi] at h2;exact h.2 _ _ _ h1 h2
  ·rename_i hi;rw[if_neg hi] at h2;exact h.2 _ _ _ h1 h2
theorem Fl {ps:List (Str×Str)} {k:Nat} (hk:k<ps.length) {x y:Str}:fu (aC (fun _=>none) (ps.take k++ps.drop (k+1)) 0) x y↔gA (fun i=>i≠k) ps x y:=by
  constructor
  · rintro⟨n,hn⟩;rw[dh] at hn;obtain⟨e,he,h⟩:=hn;rw[zJ n hk] at he;refine⟨if n<k then n else n+1,by split <;> omega,?_⟩
    have he':ps[if n<k then n else n+1]? = some e:=by
      rw[← he];split <;> rfl
    rw[he']
    rcases h with⟨_,rfl,rfl⟩ | ⟨_,rfl,rfl⟩
    ·exact .inl rfl
    ·exact .inr rfl
  · rintro⟨j,hj,h⟩;refine⟨if j<k then j else j - 1,?_⟩
    rw[dh];have he:(ps.take k++ps.drop (k+1))[if j<k then j else j - 1]? = ps[j]?:=by
      rw[zJ _ hk]
      by_cases h1:j<k
      ·rw[if_pos h1,if_pos h1]
      ·rw[if_neg h1,if_neg (by omega),show j - 1+1=j by omega]
    rw[he]
    rcases h with h | h
    ·exact⟨_,h,.inl ⟨rfl,rfl,rfl⟩⟩
    ·exact⟨_,h,.inr ⟨rfl,rfl,rfl⟩⟩
def Rb:Sp:=fun vs H Q _=>∃(t n l:Addr) (xs:List Str) (tv:List V) (ps:List (Str×Str)) (k:Nat) (e:Str×Str),vs=[.ref t,.int k]∧fZ H t n l xs tv ps∧ps[k]? = some e∧
  ∀(b:Bool) (H':Hp),(b=true↔¬RT (gA (fun i=>i≠k) ps) e.1 e.2)→Same H H'→Q (.bl b) H'
theorem Rf (T:Txt K mg a):bV P w K mg base jN 2 a.jG a.sO ["_law_web_here", "_law_k"] Rb:=by
  refine T.Bt.nJ sH (fun vs H Q E h=>?_) (fun cdv A outer s H vs Q E hr h=>?_)
  ·obtain⟨t,n,l,xs,tv,ps,k,e,rfl,_⟩:=h;rfl
  · obtain⟨t,n,l,xs,tv,ps,k,e,rfl,hG,he,q⟩:=h;refine⟨_,(aB (wZ (bJ (bM (K:=K) rfl) (bJ (bM (K:=K) rfl) (aL 0) aJ (fun _ _=>rfl)) (aL 1) (fun _ _=>rfl)) (PG.eqv (fj (K:=K) (n:=2) rfl rfl (jg.eqv (bw (aQ (i:=2) sH.nd rfl (Or.inl rfl)) (jg.eqv (bw (aQ (i:=3) sH.nd rfl (Or.inl rfl)) (jg.mono eZ g_)) (bx _ _))) (bx _ _))) (fB _ _ _)))
      (aB (bK (i:=4) sH.nd rfl (Or.inl rfl) (iW (aj (bJ (bM (K:=K) rfl) (aL 0) aJ (fun _ _=>rfl)) (aj (dZ Oi (Ij (ZQ (K:=K) rfl) (bJ (bM (K:=K) rfl) (aL 0) aJ (fun _ _=>rfl)) NZ (PO.eqv (N5 (aL 1)) (Jl _))) (Ij (ZQ (K:=K) rfl) (bJ (bM (K:=K) rfl) (aL 0) aJ (fun _ _=>rfl)) (PO.eqv (N5 (dZ j4 (aL 1) aJ)) (Jl _)) NZ)) aq))))
      (aG (aZ (dB (sG (K:=K) rfl) (aL 3) (PE.eqv (aO (uV (K:=K) T) (hr.mono (by decide)) rfl T.sX T.oM.kp T.sW .nil bh (aj (aL 4) (aj (dZ Yl (jh (aj aJ aq)) (aM (cD (K:=K) rfl) rfl T.nm.len PySem.boot_len (aj (bJ (bM (K:=K) rfl) (aL 4) aJ (fun _ _=>rfl)) aq))) (aj (aL 2) aq)))) (aK _ _ _)) rfl))))),?_⟩
    have Mt:60≤sizeLine:=by decide
    have hX:=hG.2.2.2.2.1;have hTs:=hG.2.2.2.2.2;have Dh:=hTs.len;have tl:=hG.2.2.2.1.1;have hk:k<ps.length:=(List.getElem?_eq_some_iff.mp he).1;obtain⟨t2,htv,JN⟩:=V5 hG he;simp -dsimp[au,stC,-Bool.exists_bool,-List.map_take,-Prod.forall,-Prod.exists];refine⟨_,.inr (dz.of hG.1),_,aR (j:=1) rfl,?_⟩;simp -dsimp[au,stC,-Bool.exists_bool,-List.map_take,-Prod.forall,-Prod.exists];refine⟨_,.inl (aY.of hG.2.2.1),_,aR htv,_,dz.of JN,rfl,?_⟩;simp -dsimp[au,stC,-Bool.exists_bool,-List.map_take,-Prod.forall,-Prod.exists];refine⟨_,.inr (dz.of hG.1),_,aR (j:=0) rfl,_,.inr (dz.of hG.1),_,aR (j:=1) rfl,?_⟩;simp -dsimp[au,stC,-Bool.exists_bool,-List.map_take,-Prod.forall,-Prod.exists];refine⟨_,aY.of hG.2.2.1,fun b1 hb1=>?_⟩;rw[qd_];have s1:Same H (upd H b1 (.lst (tv.take k))):=aA hb1;have e1:upd H b1 (.lst (tv.take k)) b1=some (.lst (tv.take k)):=ao;generalize upd H b1 (.lst (tv.take k))=H1 at s1 e1 ⊢;refine⟨_,.inr (dz.of (s1 _ _ hG.1)),_,aR (j:=1) rfl,?_⟩;simp -dsimp[au,stC,-Bool.exists_bool,-List.map_take,-Prod.forall,-Prod.exists];refine⟨_,aY.of (s1 _ _ hG.2.2.1),fun b2 hb2=>?_⟩;rw[show((k:Nat):Int)+1=((k+1:Nat):Int) by omega,YL];have s2:Same H1 (upd H1 b2 (.lst (tv.drop (k+1)))):=aA hb2;have e2:upd H1 b2 (.lst (tv.drop (k+1))) b2=some (.lst (tv.drop (k+1))):=ao;generalize upd H1 b2 (.lst (tv.drop (k+1)))=H2 at s2 e2 ⊢;refine⟨_,s2 _ _ e1,_,e2,by simp;omega,fun b3 hb3=>?_⟩;have s3:Same H2 (upd H2 b3 (.lst (tv.take k++tv.drop (k+1)))):=aA hb3;have e3:upd H2 b3 (.lst (tv.take k++tv.drop (k+1))) b3=some (.lst (tv.take k++tv.drop (k+1))):=ao;generalize upd H2 b3 (.lst (tv.take k++tv.drop (k+1)))=H3 at s3 e3 ⊢;intro b4 hb4;have s4:Same H3 (upd H3 b4 (.tup [.ref n,.ref b3])):=aA hb4;have e4:upd H3 b4 (.tup [.ref n,.ref b3]) b4=some (.tup [.ref n,.ref b3]):=ao;generalize upd H3 b4 (.tup [.ref n,.ref b3])=H4 at s4 e4 ⊢;intro b5 hb5;have s5:Same H4 (upd H4 b5 (.lst [.int 2])):=aA hb5;have e5:upd H4 b5 (.lst [.int 2]) b5=some (.lst [.int 2]):=ao;generalize upd H4 b5 (.lst [.int 2])=H5 at s5 e5 ⊢;have S5:Same H H5:=s1.trans (s2.trans (s3.trans (s4.trans s5)));refine⟨_,.inr (dz.of (s5 _ _ e4)),_,aR (j:=1) rfl,?_⟩;simp -dsimp[au,stC,-Bool.exists_bool,-List.map_take,-Prod.forall,-Prod.exists];have ml:(tv.take k++tv.drop (k+1)).length=(ps.take k++ps.drop (k+1)).length:=by simp;omega
    have m20:(ps.take k++ps.drop (k+1)).length≤20:=by simp;omega
    have hrep:∀m,(List.replicate m [V.int 2]).flatten=(List.replicate m (2:Int)).map V.int:=fun m=>by
      induction m with
      | zero=>rfl
      | succ m ih=>rw[List.replicate_succ,List.flatten_cons,ih];rfl
    refine⟨_,.inl (aY.of (s5 _ _ (s4 _ _ e3))),_,e5,by omega,by simp only[List.length_cons,List.length_nil];omega,fun b6 hb6=>?_⟩;rw[hrep,ml];generalize hm:(ps.take k++ps.drop (k+1)).length=m at ml m20;have s6:Same H5 (upd H5 b6 (.lst ((List.replicate m (2:Int)).map V.int))):=aA hb6;have e6:upd H5 b6 (.lst ((List.replicate m (2:Int)).map V.int)) b6=some (.lst ((List.replicate m (2:Int)).map V.int)):=ao;generalize upd H5 b6 (.lst ((List.replicate m (2:Int)).map V.int))=H6 at s6 e6 ⊢;have S6:=S5.trans s6;have sub:∀d∈ps.take k++ps.drop (k+1),d∈ps:=fun d hd=>(List.mem_append.mp hd).elim List.mem_of_mem_take List.mem_of_mem_drop;have hG6:fZ H6 b4 n b3 xs (tv.take k++tv.drop (k+1)) (ps.take k++ps.drop (k+1)):=⟨s6 _ _ (s5 _ _ e4),S6 _ _ hG.2.1,s6 _ _ (s5 _ _ (s4 _ _ e3)),(V_ hG.2.2.2.1 hk).same S6,hX,⟨by omega,fun d hd=>hTs.ok d (sub d hd)⟩⟩;refine⟨b4,n,b3,b6,xs,_,_,List.replicate m 2,fun _=>none,e.1,rfl,hG6,e6,by rw[List.length_replicate,hm],fun j z hz=>?_,(hTs.ok e (List.mem_of_getElem? he)).1,fun r f H7 hr e7 _ hf s7=>?_⟩
    · rw[List.getElem?_replicate] at hz;split at hz
      ·cases hz;exact .inr (.inr ⟨rfl,rfl⟩)
      ·cases hz
    · simp -dsimp[au,stC,-Bool.exists_bool,-List.map_take,-Prod.forall,-Prod.exists];have dd:inV (.str e.2) (f.map V.str) = !decide (¬e.2∈f):=by rw[bF];simp
      refine⟨_,.inl (aY.of e7),rfl,List.all_eq_true.mp (bW _),_,dd,q _ _ ?_ (S6.trans s7)⟩;rw[decide_eq_true_iff,hf];have c1:RT (fu (aC (fun _=>none) (ps.take k++ps.drop (k+1)) 0)) e.1 e.2↔RT (gA (fun i=>i≠k) ps) e.1 e.2:=⟨RT.mono fun _ _=>(Fl hk).mp,RT.mono fun _ _=>(Fl hk).mpr⟩;rw[c1]
def M4:Sp:=fun vs H Q _=>∃(t n l g r:Addr) (xs c:List Str) (tv:List V) (ps:List (Str×Str)) (zs:List Int),vs=[.ref t,.ref g,.ref r]∧fZ H t n l xs tv ps∧H g=some (.lst (zs.map V.int))∧H r=some (.lst (c.map V.str))∧0<c.length∧c.length<xs.length∧(∀x∈c,x∈xs)∧xs.filter (fun y=>decide (y∈c))=c∧
  (∀k∈jU c ps,∃z e,zs[k]? = some z∧ps[k]? = some e∧0≤z∧z≤1∧¬Uj z e∈c)∧
  ∀H',Same H H'→Q (.bl true) H'
theorem M5 (T:Txt K mg a):bV P w K mg base jN 2 a.iR a.pR ["_law_web_here", "_law_state_here", "_law_lot"] M4:=by
  refine T.xU.nJ Ma (fun vs H Q E h=>?_) (fun cdv A outer s H vs Q E hr h=>?_)
  ·obtain⟨t,n,l,g,r,xs,c,tv,ps,zs,rfl,_⟩:=h;rfl
  · obtain⟨t,n,l,g,r,xs,c,tv,ps,zs,rfl,hG,hg,MK,hc0,hc9,hcx,hcf,hall,q⟩:=h;refine⟨_,(aB (dM (eY (cM (PE.eqv (aO (Fj (K:=K) T) (hr.mono (by decide)) rfl T.Bq T.wG.kp T.Bp .nil bh (aj (aL 0) (aj (aL 2) aq))) (aK _ _ _)))) (aG (aZ ou)) bN)
      (aG (aZ (aM (jt rfl) rfl T.nm.all jm (aj (eG rfl rfl (show aX (ak gU) _ ["_law_web_here", "_law_state_here", "_law_lot"] ["_law_k"] [1,0,2] ["_law_k", "_law_state_here", "_law_web_here", "_law_lot"] from⟨rfl,by decide+kernel,by decide+kernel,rfl,by decide+kernel,by decide+kernel⟩) rfl (PI.eqv (d8 (K:=K) rfl (PE.eqv (aO (yS (K:=K) T) (hr.mono (by decide)) rfl T.uP T.qe.kp T.uO .nil bh (aj (aL 0) (aj (aL 2) aq))) (aK _ _ _))) (cO _ _)) (fun C s H fp pn=>(aQ (i:=0) (show(["_law_k", "_law_state_here", "_law_web_here", "_law_lot"]:List Str).Nodup by decide+kernel) rfl (Or.inl rfl))) (fun C s H fp pn=>f9) (fun C s H fp pn=>(gY (dB nG (bJ (bM (K:=K) rfl) (aL 1) (aL 0) (fun _ _=>rfl)) aJ (bQ _)) (lA (Gn (PE.eqv (aO (Kf (K:=K) T) (hr.mono (by decide)) rfl T.Bs T.uQ.kp T.Br .nil bh (aj (aL 2) (aj (aL 3) (aj (aL 0) (aj (bJ (bM (K:=K) rfl) (aL 1) (aL 0) (fun _ _=>rfl)) aq))))) (aK _ _ _))))))) aq))))),?_⟩
    have Mt:60≤sizeLine:=by decide
    have Dh:=hG.2.2.2.2.2.len;simp -dsimp[au,stC,-Bool.exists_bool,-List.map_take,-Prod.forall,-Prod.exists];refine⟨t,n,l,r,xs,c,tv,ps,rfl,hG,MK,hc0,hc9,hcx,hcf,fun H1 s1=>?_⟩;simp -dsimp[au,stC,-Bool.exists_bool,-List.map_take,-Prod.forall,-Prod.exists];refine⟨t,n,l,r,xs,c,tv,ps,rfl,hG.same s1,s1 _ _ MK,fun d H2 hd e2 s2=>?_⟩;have S2:=s1.trans s2;have cl:(jU c ps).length≤ps.length:=vD (Ai c) _ _;simp -dsimp[au,stC,-Bool.exists_bool,-List.map_take,-Prod.forall,-Prod.exists];refine⟨⟨_,aY.of e2⟩,fun D hD=>Xu (eF (jU c ps)) (fun j σ H'=>(∃o',σ=[o',some (.ref g),some (.ref t),some (.ref r)])∧H' D=some (.lst (List.replicate j (.bl true)))∧Same H2 H') ⟨⟨_,rfl⟩,ao,aA hD⟩ (fun j σ H' _ h=>aY.of (h.2.2 _ _ e2)) ?_ ?_⟩
    · rintro j v σ H3 hj ⟨⟨o',rfl⟩,JZ,s3⟩;obtain⟨k,hk,rfl⟩:∃k,(jU c ps)[j]? = some k∧v = .int (k:Nat):=by
        unfold eF at hj;rw[List.getElem?_map] at hj;obtain⟨k,hk,rfl⟩:=Option.map_eq_some_iff.mp hj;exact⟨k,hk,rfl⟩
      have hj2:=(List.getElem?_eq_some_iff.mp hk).1;obtain⟨z,e,hz,he,z0,z1,hn⟩:=hall k (List.mem_of_getElem? hk);have hzv:(zs.map V.int)[k]? = some (.int z):=by rw[List.getElem?_map,hz];rfl
      have S3:=S2.trans s3;simp -dsimp[au,stC,-Bool.exists_bool,-List.map_take,-Prod.forall,-Prod.exists];refine⟨_,.inl (aY.of (S3 _ _ hg)),_,aR hzv,?_⟩;simp -dsimp[au,stC,-Bool.exists_bool,-List.map_take,-Prod.forall,-Prod.exists];refine⟨true,by simp;omega,gb.pos rfl ?_⟩;simp -dsimp[au,stC,-Bool.exists_bool,-List.map_take,-Prod.forall,-Prod.exists];refine⟨_,.inl (aY.of (S3 _ _ hg)),_,aR hzv,t,n,l,r,xs,c,tv,ps,k,z,e,rfl,hG.same S3,S3 _ _ MK,he,z0,z1,?_⟩;rw[decide_eq_false hn];simp -dsimp[au,stC,-Bool.exists_bool,-List.map_take,-Prod.forall,-Prod.exists];refine⟨_,JZ,by rw[List.length_replicate];omega,by rw[ao,List.replicate_succ'],aV s3 hD⟩
    ·rintro σ H3 ⟨⟨o',rfl⟩,JZ,s3⟩;simp -dsimp[au,stC,-Bool.exists_bool,-List.map_take,-Prod.forall,-Prod.exists];refine⟨_,JZ,_,ju _,?_⟩;rw[show(List.replicate (eF (jU c ps)).length true).all id=true by simp];exact q _ (S2.trans s3)
theorem qbQ {ps:List (Str×Str)} {xs:List Str} {fs:List (Nat×Int)} (h:jL fs ps.length):V0 (tU ps xs fs) (cA (rT ps xs fs)):=fun j z hz=>by
  have hj:j<ps.length:=by rw[← tu ps xs fs];exact(List.getElem?_eq_some_iff.mp hz).1
  have h01:=Mx h z (List.mem_of_getElem? hz);rw[Mw hj] at hz;obtain rfl | rfl:z=0∨z=1:=by omega
  ·exact .inl ⟨rfl,hz⟩
  ·exact .inr (.inl ⟨rfl,hz⟩)
def Rg:Sp:=fun vs H Q _=>∃(t n l d r:Addr) (xs:List Str) (tv:List V) (ps:List (Str×Str)) (fs:List (Nat×Int)) (zs:List Int),vs=[.ref t,.ref d,.ref r]∧fZ H t n l xs tv ps∧H d=some (.dK (dw fs))∧jL fs ps.length∧H r=some (.lst (zs.map V.int))∧zs.length=ps.length∧(∀n∈zs,0≤n∧n≤1)∧(∀e∈fs,zs[e.1]? = some e.2)∧
  ∀(ob:Obj) (H':Hp),H' d=some (.gZ ob (.dK (dw fs)))→(∀b u,b≠d→H b=some u→H' b=some u)→Q (.bl true) H'
theorem Rh (T:Txt K mg a):bV P w K mg base jN 1 a.kE a.rC ["_law_web_here", "_law_fixed_here", "_law_row"] Rg:=by
  refine T.G_.nJ Vs (fun vs H Q E h=>?_) (fun cdv A outer s H vs Q E hr h=>?_)
  ·obtain⟨t,n,l,d,r,xs,tv,ps,fs,zs,rfl,_⟩:=h;rfl
  · obtain⟨t,n,l,d,r,xs,tv,ps,fs,zs,rfl,hG,hd,hfs,hz,hzl,h01,hkp,q⟩:=h;refine⟨_,(aB (dM (PW.pt (qy (eY (cM (aM (nH (K:=K) rfl) rfl T.nm.isinstance boot_isinstance (aj (aL 2) (aj (je (v:=.ty "list") rfl T.nm.list boot_list rfl) aq))))) (nu (bA nG (aM (cD (K:=K) rfl) rfl T.nm.len PySem.boot_len (aj (aL 2) aq)) (aM (cD (K:=K) rfl) rfl T.nm.len PySem.boot_len (aj (bJ (bM (K:=K) rfl) (aL 0) aJ (fun _ _=>rfl)) aq)) (bQ _))))) (aG (aZ ou)) bN)
      (aB (dM (eY (cM (aM (jt rfl) rfl T.nm.all jm (aj (eG rfl rfl (show aX (ak jz) _ ["_law_web_here", "_law_fixed_here", "_law_row"] ["_law_one"] [] ["_law_one"] from⟨rfl,by decide+kernel,by decide+kernel,rfl,by decide+kernel,by decide+kernel⟩) rfl (PI.eqv (d8 (K:=K) rfl (aL 2)) (cO _ _)) (fun C s H fp pn=>(aQ (i:=0) (show(["_law_one"]:List Str).Nodup by decide+kernel) rfl (Or.inl rfl))) (fun C s H fp pn=>f9) (fun C s H fp pn=>(gY (aM (nH (K:=K) rfl) rfl T.nm.isinstance boot_isinstance (aj (aL 0) (aj (je (v:=.ty "int") rfl T.nm.int w6 rfl) aq))) (gY (Gn (aM (nH (K:=K) rfl) rfl T.nm.isinstance boot_isinstance (aj (aL 0) (aj (je (v:=.ty "bool") rfl T.LC.bool uq rfl) aq)))) (lA (dB (Jm (K:=K) rfl) (aL 0) (iW (aj aJ (aj aJ aq))) rfl)))))) aq)))) (aG (aZ ou)) bN)
      (aG (aZ (aM (jt rfl) rfl T.nm.all jm (aj (eG rfl rfl (show aX (ak jz) _ ["_law_web_here", "_law_fixed_here", "_law_row"] ["_law_k"] [2,1] ["_law_k", "_law_row", "_law_fixed_here"] from⟨rfl,by decide+kernel,by decide+kernel,rfl,by decide+kernel,by decide+kernel⟩) rfl (Yq (aL 1)) (fun C s H fp pn=>(aQ (i:=0) (show(["_law_k", "_law_row", "_law_fixed_here"]:List Str).Nodup by decide+kernel) rfl (Or.inl rfl))) (fun C s H fp pn=>f9) (fun C s H fp pn=>(dB jV (bJ (bM (K:=K) rfl) (aL 1) (aL 0) (fun _ _=>rfl)) (PE.eqv (Gg (oE hr) (aL 2) (aL 0) (fun _ _=>rfl)) (Al _ _)) (bQ _)))) aq)))))),?_⟩
    have Mt:60≤sizeLine:=by decide
    have Dh:=hG.2.2.2.2.2.len;have tl:=hG.2.2.2.1.1;have fl:=hfs.len;simp -dsimp[au,stC,-Bool.exists_bool,-List.map_take,-Prod.forall,-Prod.exists];refine⟨_,.lst hz,_,tY K,gb.neg rfl ?_⟩;simp -dsimp[au,stC,-Bool.exists_bool,-List.map_take,-Prod.forall,-Prod.exists];refine⟨_,.inl (aY.of hz),_,.inr (dz.of hG.1),_,aR (j:=1) rfl,?_⟩;simp -dsimp[au,stC,-Bool.exists_bool,-List.map_take,-Prod.forall,-Prod.exists];refine⟨_,.inl (aY.of hG.2.2.1),false,by simp;omega,gb.neg rfl ?_⟩;simp -dsimp[au,stC,-Bool.exists_bool,-List.map_take,-Prod.forall,-Prod.exists];refine⟨⟨_,aY.of hz⟩,fun D hD=>Xu (zs.map V.int) (fun j σ H'=>(∃o',σ=[o'])∧H' D=some (.lst (List.replicate j (.bl true)))∧Same H H') ⟨⟨_,rfl⟩,ao,aA hD⟩ (fun j σ H' _ h=>aY.of (h.2.2 _ _ hz)) ?_ ?_⟩
    · rintro j v σ H2 hj ⟨⟨o',rfl⟩,hD2,s2⟩;obtain⟨m,hm,rfl⟩:=int_at hj;have hj2:=(List.getElem?_eq_some_iff.mp hm).1;have h2:=h01 m (List.mem_of_getElem? hm);simp -dsimp[au,stC,-Bool.exists_bool,-List.map_take,-Prod.forall,-Prod.exists];refine⟨_,.int _,_,yx K,gb.pos rfl ?_⟩;simp -dsimp[au,stC,-Bool.exists_bool,-List.map_take,-Prod.forall,-Prod.exists];refine⟨_,.int _,_,pA K,gb.pos rfl ?_⟩;simp -dsimp[au,stC,-Bool.exists_bool,-List.map_take,-Prod.forall,-Prod.exists];intro tt htt;have st:Same H2 (upd H2 tt (.tup [.int 0,.int 1])):=aA htt;have et:upd H2 tt (.tup [.int 0,.int 1]) tt=some (.tup [.int 0,.int 1]):=ao;generalize upd H2 tt (.tup [.int 0,.int 1])=H3 at st et ⊢;have hin:inV (.int m) [.int 0,.int 1]=true:=by
        obtain rfl | rfl:m=0∨m=1:=by omega
        ·rfl
        ·rfl
      refine⟨_,.inr (dz.of et),rfl,by simp[jl],?_⟩;rw[hin];refine⟨_,st _ _ hD2,by rw[List.length_replicate];omega,by rw[ao,List.replicate_succ'],aV (s2.trans st) hD⟩
    · rintro σ H2 ⟨⟨o',rfl⟩,hD2,s2⟩;simp -dsimp[au,stC,-Bool.exists_bool,-List.map_take,-Prod.forall,-Prod.exists];refine⟨_,hD2,_,ju _,?_⟩;rw[show(List.replicate (zs.map V.int).length true).all id=true by simp];simp -dsimp[au,stC,-Bool.exists_bool,-List.map_take,-Prod.forall,-Prod.exists];refine⟨_,.inl (s2 _ _ hd),fun ob hob=>?_⟩;have ef:upd H2 d (.gZ ob (.dK (dw fs))) d=some (.gZ ob (.dK (dw fs))):=ao;have kf:∀b u,b≠d→H b=some u→upd H2 d (.gZ ob (.dK (dw fs))) b=some u:=fun b u hb e=>by rw[aD hb];exact s2 _ _ e
      generalize upd H2 d (.gZ ob (.dK (dw fs)))=Hf at ef kf ⊢;have rd:r≠d:=fun z=>by rw[z,hd] at hz;cases hz
      have hzf:=kf _ _ rd hz;refine fun D2 hD2=>cmK (fun i σ H'=>(∃o',σ=[o',some (.ref r),some (.ref d)])∧H' D2=some (.lst (List.replicate i (.bl true)))∧Same Hf H') ⟨⟨_,rfl⟩,ao,aA hD2⟩ (fun i σ H' _ h=>h.2.2 _ _ ef) ?_ ?_
      · rintro i k x σ H3 hk ⟨⟨o',rfl⟩,JZ,s3⟩;obtain⟨e,he,hke⟩:∃e,fs[i]? = some e∧(Sum.inl (e.1:Int),V.int e.2)=(k,x):=by
          unfold dw at hk;rw[List.getElem?_map] at hk;obtain⟨e,he,h2⟩:=Option.map_eq_some_iff.mp hk;exact⟨e,he,h2⟩
        cases hke;have hem:=List.mem_of_getElem? he;have hi2:=(List.getElem?_eq_some_iff.mp he).1;have hat:(zs.map V.int)[e.1]? = some (.int e.2):=by rw[List.getElem?_map,hkp e hem];rfl
        have hg:g8 H3 d (V.int (e.1:Int)) (some (V.int e.2)):=.inl ⟨_,Sum.inl (e.1:Int),.inr ⟨ob,s3 _ _ ef⟩,rfl,by rw[oU,J3 hfs.nd hem];rfl⟩;have ekv:kV (Sum.inl (e.1:Int))=V.int (e.1:Int):=rfl;rw[ekv];simp -dsimp[au,stC,-Bool.exists_bool,-List.map_take,-Prod.forall,-Prod.exists];refine⟨_,.inl (aY.of (s3 _ _ hzf)),_,aR hat,_,hg,?_⟩;simp -dsimp[au,stC,-Bool.exists_bool,-List.map_take,-Prod.forall,-Prod.exists];refine⟨_,JZ,by rw[List.length_replicate];omega,?_,aV s3 hD2⟩;rw[ao,List.replicate_succ']
      ·rintro σ H3 ⟨⟨o',rfl⟩,JZ,s3⟩;simp -dsimp[au,stC,-Bool.exists_bool,-List.map_take,-Prod.forall,-Prod.exists];refine⟨_,JZ,_,ju _,?_⟩;rw[show(List.replicate (dw fs).length true).all id=true by simp];exact q ob H3 (s3 _ _ ef) fun b u hb e=>s3 _ _ (kf b u hb e)
def Wa:Sp:=fun vs H Q _=>∃(t n l d r:Addr) (xs:List Str) (tv:List V) (ps:List (Str×Str)) (fs:List (Nat×Int)) (zs:List Int),vs=[.ref t,.ref d,.ref r]∧fZ H t n l xs tv ps∧H d=some (.dK (dw fs))∧jL fs ps.length∧H r=some (.lst (zs.map V.int))∧zs.length=ps.length∧(∀n∈zs,0≤n∧n≤1)∧(∀e∈fs,zs[e.1]? = some e.2)∧
  ∀(H':Hp),Same H H'→Q (.bl true) H'
theorem Wb (T:Txt K mg a):bV P w K mg base jN 1 a.kE a.rC ["_law_web_here", "_law_fixed_here", "_law_row"] Wa:=by
  refine(Rh T).Z2.imp fun vs H Q E h=>?_;obtain⟨t,n,l,d,r,xs,tv,ps,fs,zs,rfl,hG,hd,hfs,hz,hzl,h01,hkp,q⟩:=h;refine⟨t,n,l,d,r,xs,tv,ps,fs,zs,rfl,hG,hd,hfs,hz,hzl,h01,hkp,fun ob H' e k=>q _ (Er fun b u hb=>?_)⟩
  by_cases z:b=d
  ·subst z;rw[hd] at hb;cases hb;exact .inr ⟨fun o v y=>(by cases y),ob,e⟩
  ·exact .inl (k b u z hb)
def YM (C:Addr):Sp:=fun vs H Q _=>∃(o d:Addr) (xs:List Str) (ps:List (Str×Str)) (fs:List (Nat×Int)),vs=[.ref o,.ref d]∧fL C H o xs ps∧Pa xs∧qL xs ps∧H d=some (.dK (dw fs))∧jL fs ps.length∧
  (cF (aC (cA fs) ps 0) xs xs=none→nF ps xs=[]→∀(t r:Addr) (H':Hp),H r=none→H' r=some (.lst ((tU ps xs fs).map V.int))→H' t=some (.tup [.str "pointing",.ref r])→Same H H'→Q (.ref t) H')∧
  (∀x,cF (aC (cA fs) ps 0) xs xs=some x→∀(t c:Addr) (H':Hp),H c=none→H' c=some (.lst ((restOf (aC (cA fs) ps 0) xs x).map V.str))→H' t=some (.tup [.str "shut",.ref c])→Same H H'→Q (.ref t) H')∧
  (cF (aC (cA fs) ps 0) xs xs=none→∀k lot rest,nF ps xs=(k,lot)::rest→∀(t u c:Addr) (H':Hp),H c=none→H' c=some (.lst (lot.map V.str))→H' u=some (.tup [.int (k:Nat),.ref c])→H' t=some (.tup [.str "barred",.ref u])→Same H H'→Q (.ref t) H')
theorem Hw (T:Txt K mg a):bV P w K mg base jN 7 a.pU a.zy ["_law_made", "_law_fixed_here"] (YM a.bT):=by
  refine T.Bu.nJ vV (fun vs H Q E h=>?_) (fun cdv A outer s H vs Q E hr h=>?_)
  ·obtain⟨o,d,xs,ps,fs,rfl,_⟩:=h;rfl
  · obtain⟨o,d,xs,ps,fs,rfl,hw,hX,hTs,hd,hfs,q1,q2,q3⟩:=h;refine⟨_,(aB (Yp (i:=3) rfl rfl rfl vV.nd rfl rfl (fun R pn xe hx=>(aG (bK (i:=2) vV.nd rfl (Or.inl rfl) (iW (aj mG (aj (Vf hx rfl (yX (K:=K) T) (hr.mono (by decide)) rfl T.rG T.mQ.kp T.rF (aj (aL 0) (aj (aL 1) aq))) aq)))))) rfl T.Mg (Clause.of T.wM T.wL) rfl T.Bv (Clause.of T.oR T.jZ) (fun e=>(aG (bK (i:=2) vV.nd rfl (Or.inl rfl) (iW (aj mG (aj (Bb T.wL.get T.iB (aL 3) rfl) aq)))))) (fun e=>(aG (bK (i:=2) vV.nd rfl (Or.inl rfl) (iW (aj mG (aj (iW (aj (Bb T.jZ.get T.fX (aL 3) rfl) (aj (Bb T.jZ.get T.fY (aL 3) rfl) aq))) aq)))))))
      (aG (aZ (aL 2)))),?_⟩
    simp -dsimp[au,stC,-Bool.exists_bool,-List.map_take,-Prod.forall,-Prod.exists];generalize hR:Ju 3 _ a.bR a.aW _ _ _=R;have neB:a.aW≠a.bR:=fun z=>by
      have:=(List.nodup_cons.mp T.nd).2;unfold qby at this;rw[z] at this;simp at this
    have neP:a.bR≠a.aN:=fun z=>(List.nodup_cons.mp T.nd).1 (by rw[← z];simp[qby]);refine⟨o,d,xs,ps,fs,rfl,hw,hX,hTs,hd,hfs,fun hn hb r H1 hr1 e1 s1=>?_,fun x hx dx c H1 hc hdx ec s1=>⟨_,rfl,?_⟩,fun hn k lot rest hb dx c H1 hc hdx ec s1=>⟨_,rfl,?_⟩⟩
    ·simp -dsimp[au,stC,-Bool.exists_bool,-List.map_take,-Prod.forall,-Prod.exists];intro p hp;exact q1 hn hb p r _ hr1 (bO e1 hp) ao (s1.trans (aA hp))
    ·subst hR;refine⟨Ay.ofX T.wM T.wL,.inl ⟨by rw[T.wL.mro];simp,fun e he=>?_⟩⟩;have se:Same H1 (upd H1 e (xO e a.bR (some dx))):=aA he;have ee:upd H1 e (xO e a.bR (some dx)) e=some (xO e a.bR (some dx)):=ao;have S:=s1.trans se;have Ri:=se _ _ hdx;have ec2:=se _ _ ec;generalize upd H1 e (xO e a.bR (some dx))=H2 at se ee S Ri ec2 ⊢;simp -dsimp[au,stC,-Bool.exists_bool,-List.map_take,-Prod.forall,-Prod.exists];refine⟨dx,ee,_,Ri,.ref c,rfl,fun p hp=>?_⟩;exact q2 x hx p c _ hc (bO ec2 hp) ao (S.trans (aA hp))
    ·subst hR;refine⟨Ay.ofX T.oR T.jZ,.inr ⟨by rw[T.jZ.mro];simp[neB.symm,neP],by rw[T.jZ.mro];simp,fun e he=>?_⟩⟩;have se:Same H1 (upd H1 e (xO e a.aW (some dx))):=aA he;have ee:upd H1 e (xO e a.aW (some dx)) e=some (xO e a.aW (some dx)):=ao;have S:=s1.trans se;have Ri:=se _ _ hdx;have ec2:=se _ _ ec;generalize upd H1 e (xO e a.aW (some dx))=H2 at se ee S Ri ec2 ⊢;simp -dsimp[au,stC,-Bool.exists_bool,-List.map_take,-Prod.forall,-Prod.exists];refine⟨dx,ee,_,Ri,_,rfl,dx,ee,_,Ri,.ref c,rfl,fun u hu p hp=>?_⟩;exact q3 hn k lot rest hb p u c _ hc (bO (bO ec2 hu) hp) (bO ao hp) ao (S.trans ((aA hu).trans (aA hp)))
theorem Rj {ps:List (Str×Str)} {xs:List Str} (hTs:qL xs ps) {e:Str×Str} {k:Nat} (hk:ps[k]? = some e) (hb:¬e.1∈dO ps xs k e.2):jU (dO ps xs k e.2) ps=[k]:=by
  have hps:∀e∈ps,e.1∈xs∧e.2∈xs:=fun e he=>⟨(hTs.ok e he).1,(hTs.ok e he).2.1⟩;have key:∀i,i≤ps.length→jM (mL (dO ps xs k e.2)) (ps.take i) 0=if k<i then [k] else []:=by
    intro i
    induction i with
    | zero=>intro _;simp[jM]
    | succ i ih=>
      intro hi;obtain⟨d,hd⟩:∃d,ps[i]? = some d:=⟨ps[i],by simp[show i<ps.length by omega]⟩;rw[xu _ hd,ih (by omega)];have hc:=yE hk (hps e (List.mem_of_getElem? hk)).2 hps hb hd;unfold mL
      by_cases hik:i=k
      ·subst hik;rw[if_neg (fun z=>(hc.mp z) rfl),if_neg (by omega),if_pos (by omega)];rfl
      · rw[if_pos (hc.mpr hik),List.append_nil]
        by_cases hki:k<i
        ·rw[if_pos hki,if_pos (by omega)]
        ·rw[if_neg hki,if_neg (by omega)]
  have hkl:k<ps.length:=(List.getElem?_eq_some_iff.mp hk).1;have:=key ps.length (Nat.le_refl _);rw[List.take_length,if_pos hkl] at this;exact this
theorem Rk {α:Type} [DecidableEq α] {xs:List α} {p:α→Bool}:xs.filter (fun y=>decide (y∈xs.filter p))=xs.filter p:=
  List.filter_congr fun y hy=>by
    rw[Bool.eq_iff_iff,decide_eq_true_iff,List.mem_filter];exact⟨fun z=>z.2,fun z=>⟨hy,z⟩⟩
theorem Wc {ps:List (Str×Str)} {xs:List Str} {k:Nat} {e:Str×Str} (hTs:qL xs ps) (he:ps[k]? = some e) (hn:¬e.1∈dO ps xs k e.2) :
    0<(dO ps xs k e.2).length∧(dO ps xs k e.2).length<xs.length∧(∀x∈dO ps xs k e.2,x∈xs)∧xs.filter (fun y=>decide (y∈dO ps xs k e.2))=dO ps xs k e.2:=by
  obtain⟨m1,m2,_⟩:=hTs.ok e (List.mem_of_getElem? he);refine⟨List.length_pos_of_mem (jq.mpr ⟨m2,.refl _⟩),?_,fun x hx=>(jq.mp hx).1,by unfold dO lK;exact Rk⟩;have hle:(dO ps xs k e.2).length≤xs.length:=List.length_filter_le _ _
  by_cases h:(dO ps xs k e.2).length=xs.length
  ·unfold dO lK at h;have:=List.length_filter_eq_length_iff.mp h e.1 m1;exact absurd (List.mem_filter.mpr ⟨m1,this⟩) hn
  ·omega
theorem Wd {ps:List (Str×Str)} {xs:List Str} {k:Nat} {e:Str×Str} {fx:Nat→Option Int} (h01:∀j d,fx j=some d→d=0∨d=1) (hTs:qL xs ps) (he:ps[k]? = some e) (hn:¬e.1∈dO ps xs k e.2) (st:Strong (aC fx ps 0) xs):fx k=none:=by
  obtain⟨m1,m2,_⟩:=hTs.ok e (List.mem_of_getElem? he);have hps:∀e∈ps,e.1∈xs∧e.2∈xs:=fun e he=>⟨(hTs.ok e he).1,(hTs.ok e he).2.1⟩;have hb:e.2∈dO ps xs k e.2:=jq.mpr ⟨m2,.refl _⟩;have cr:=fun {j:Nat} {d:Str×Str} (hj:ps[j]? = some d)=>yE he m2 hps hn hj;cases hf:fx k with
  | none=>rfl
  | some d=>
    exfalso
    rcases h01 k d hf with rfl | rfl
    · refine hn (RT.closed (P:=fun y=>y∈dO ps xs k e.2) (fun x y h hx=>?_) hb (st e.2 m2 e.1 m1));obtain⟨n,h⟩:=h;obtain⟨d,hd,h⟩:=dh.mp h
      by_cases hk:n=k
      ·subst hk;rw[he] at hd;cases hd;rw[hf] at h;simp at h;rw[h.1] at hx;exact absurd hx hn
      · have:=(cr hd).mpr hk
        rcases h with⟨_,rfl,rfl⟩ | ⟨_,rfl,rfl⟩
        ·exact this.mp hx
        ·exact this.mpr hx
    · refine RT.closed (P:=fun y=>¬y∈dO ps xs k e.2) (fun x y h hx=>?_) hn (st e.1 m1 e.2 m2) hb;obtain⟨n,h⟩:=h;obtain⟨d,hd,h⟩:=dh.mp h
      by_cases hk:n=k
      ·subst hk;rw[he] at hd;cases hd;rw[hf] at h;simp at h;rw[h.1] at hx;exact absurd hb hx
      · have:=(cr hd).mpr hk
        rcases h with⟨_,rfl,rfl⟩ | ⟨_,rfl,rfl⟩
        ·exact fun z=>hx (this.mpr z)
        ·exact fun z=>hx (this.mp z)
theorem Wf {ps:List (Str×Str)} {xs:List Str} {x:Str} {fs:List (Nat×Int)} (hfs:jL fs ps.length) (hTs:qL xs ps) {k:Nat} (hk:k∈jU (restOf (aC (cA fs) ps 0) xs x) ps) :
    ∃z e,(stL fs ps.length)[k]? = some z∧ps[k]? = some e∧0≤z∧z≤1∧¬Uj z e∈restOf (aC (cA fs) ps 0) xs x:=by
  obtain⟨e,he,hn⟩:=MN hk;have hkl:=(List.getElem?_eq_some_iff.mp he).1;obtain⟨m1,m2,_⟩:=hTs.ok e (List.mem_of_getElem? he);have hz:(stL fs ps.length)[k]? = some ((cA fs k).getD 2):=by
    unfold stL;rw[List.getElem?_map,List.getElem?_range hkl];rfl
  have f1:∀{p q:Str},p∈xs→q∈xs→(k,p,q)∈aC (cA fs) ps 0→q∈restOf (aC (cA fs) ps 0) xs x→p∈restOf (aC (cA fs) ps 0) xs x:=fun hp hq hs hr=>
    ji.mpr ⟨hp,fun z=>(ji.mp hr).2 (.tail z ⟨k,hs⟩)⟩
  have a12:(cA fs k).getD 0=0→e.2∈restOf (aC (cA fs) ps 0) xs x→e.1∈restOf (aC (cA fs) ps 0) xs x:=fun h=>f1 m1 m2 (dh.mpr ⟨e,he,.inl ⟨h,rfl,rfl⟩⟩);have a21:(cA fs k).getD 1=1→e.1∈restOf (aC (cA fs) ps 0) xs x→e.2∈restOf (aC (cA fs) ps 0) xs x:=fun h=>f1 m2 m1 (dh.mpr ⟨e,he,.inr ⟨h,rfl,rfl⟩⟩);cases hf:cA fs k with
  | none=>
    rw[hf] at a12 a21;exact absurd ⟨a21 rfl,a12 rfl⟩ hn
  | some d=>
    have h01:=oW hfs hf;rw[hf] at hz a12 a21;refine⟨d,e,hz,he,h01.1,h01.2.1,fun z=>?_⟩;unfold Uj at z;split at z
    ·rename_i h;subst h;exact hn ⟨fun _=>z,a12 rfl⟩
    · have:d=1:=by omega
      subst this;exact hn ⟨a21 rfl,fun _=>z⟩
theorem Wg (fs:List (Nat×Int)) {m i:Nat} (hi:i<m):((stL fs m).map V.int)[i]? = some (.int ((cA fs i).getD 2)):=by
  unfold stL;rw[List.getElem?_map,List.getElem?_map,List.getElem?_range hi];rfl
theorem Kg (x:Int) (xs:List Int):inV (.int x) (xs.map V.int)=decide (x∈xs):=by
  unfold inV
  induction xs with
  | nil=>rfl
  | cons y ys ih=>
    rw[List.map_cons,List.any_cons,ih]
    by_cases h:x=y
    ·subst h;simp[Qd]
    ·simp[Qd,h,Ne.symm h]
theorem Rm (xs:List Int):(xs.map V.int).all jl=true:=by
  rw[List.all_eq_true];intro v hv;obtain⟨x,_,rfl⟩:=List.mem_map.mp hv;rfl
def Wh (C:Addr):Sp:=fun vs H Q _=>∃(t n l o d:Addr) (xs:List Str) (tv:List V) (ps:List (Str×Str)) (fs:List (Nat×Int)),vs=[.ref o,.ref t,.ref d]∧fZ H t n l xs tv ps∧fL C H o xs ps∧H d=some (.dK (dw fs))∧jL fs ps.length∧
  ∀(H':Hp),Same H H'→Q (.bl true) H'
theorem Ce (T:Txt K mg a):bV P w K mg base jN 8 a.mD a.wu ["_law_made", "_law_web_here", "_law_fixed_here"] (Wh a.bT):=by
  refine T.wH.nJ rB (fun vs H Q E h=>?_) (fun cdv A outer s H vs Q E hr h=>?_)
  ·obtain⟨t,n,l,o,d,xs,tv,ps,fs,rfl,_⟩:=h;rfl
  · obtain⟨t,n,l,o,d,xs,tv,ps,fs,rfl,hG,hw,hd,hfs,q⟩:=h;refine⟨_,(aB (bK (i:=3) rB.nd rfl (Or.inr rfl) (PE.eqv (aO (V9 (K:=K) T) (hr.mono (by decide)) rfl T.O7 T.G9.kp T.O6 .nil bh (aj (aL 1) (aj (aL 2) aq))) (aK _ _ _)))
      (aB (wZ (PE.eqv (aO (Hw (K:=K) T) (hr.mono (by decide)) rfl T.Hh T.Bu.kp T.Hg .nil bh (aj (aL 0) (aj (aL 2) aq))) (aK _ _ _)) (PG.eqv (fj (K:=K) (n:=2) rfl rfl (jg.eqv (bw (aQ (i:=4) rB.nd rfl (Or.inl rfl)) (jg.eqv (bw (aQ (i:=5) rB.nd rfl (Or.inl rfl)) (jg.mono eZ g_)) (bx _ _))) (bx _ _))) (fB _ _ _)))
      (aB (dM (eY (cM (PE.eqv (aO (wV (K:=K) T) (hr.mono (by decide)) rfl T.rK T.ni.kp T.rJ .nil bh (aj (aL 1) (aj (aL 3) aq))) (aK _ _ _)))) (aG (aZ (gY (dB jV (aL 4) mG (bQ _)) (lA (PE.eqv (aO (M5 (K:=K) T) (hr.mono (by decide)) rfl T.Ey T.xU.kp T.Ew .nil bh (aj (aL 1) (aj (aL 3) (aj (aL 5) aq)))) (aK _ _ _)))))) bN)
      (aB (mJ (i:=6) rB.nd rfl rfl rfl rfl (show aX (ak j8) _ ["_law_made", "_law_web_here", "_law_fixed_here", "_law_state_here", "_law_word", "_law_told", "_law_barring"] ["_law_k"] [1,3] ["_law_k", "_law_web_here", "_law_state_here"] from⟨rfl,by decide+kernel,by decide+kernel,rfl,by decide+kernel,by decide+kernel⟩) rfl (PI.eqv (jk rfl T.nm.range (aj (aM (cD (K:=K) rfl) rfl T.nm.len PySem.boot_len (aj (aL 3) aq)) aq)) (jr _)) (fun C s H fp pn=>(aQ (i:=0) (show(["_law_k", "_law_web_here", "_law_state_here"]:List Str).Nodup by decide+kernel) rfl (Or.inl rfl))) (fun C s H fp pn=>(o_ (PW.pt (wY (bA jV (bJ (bM (K:=K) rfl) (aL 2) (aL 0) (fun _ _=>rfl)) aJ (bQ _)) (zc (cM (PE.eqv (aO (Rf (K:=K) T) (hr.mono (by decide)) rfl T.JK T.Bt.kp T.JH .nil bh (aj (aL 1) (aj (aL 0) aq))) (aK _ _ _)))))))) (fun C s H fp pn=>(aL 0)))
      (aB (dM (bA (Lh (K:=K) rfl hr.units) (aL 6) (jh aq) (bQ _)) (aG (aZ (gY (dB jV (aL 4) mG (bQ _)) (gY (PE.eqv (aO (Wb (K:=K) T) (hr.mono (by decide)) rfl T.O9 T.G_.kp T.O8 .nil bh (aj (aL 1) (aj (aL 2) (aj (aL 5) aq)))) (aK _ _ _)) (lA (PE.eqv (aO (wV (K:=K) T) (hr.mono (by decide)) rfl T.rK T.ni.kp T.rJ .nil bh (aj (aL 1) (aj (aL 5) aq))) (aK _ _ _))))))) bN)
      (aB (dM (PW.pt (qy (bA nG (aL 4) mG (bQ _)) (qy (cM (aM (nH (K:=K) rfl) rfl T.nm.isinstance boot_isinstance (aj (bJ (bM (K:=K) rfl) (aL 5) aJ (fun _ _=>rfl)) (aj (je (v:=.ty "bool") rfl T.LC.bool uq rfl) aq)))) (nu (bA (sG (K:=K) rfl) (bJ (bM (K:=K) rfl) (aL 5) aJ (fun _ _=>rfl)) (aL 6) rfl))))) (aG (aZ ou)) bN)
      (aG (aZ (gY (PE.eqv (aO (Fj (K:=K) T) (hr.mono (by decide)) rfl T.Bq T.wG.kp T.Bp .nil bh (aj (aL 1) (aj (bJ (bM (K:=K) rfl) (aL 5) aJ (fun _ _=>rfl)) aq))) (aK _ _ _)) (lA (dB (Lh (K:=K) rfl hr.units) (PE.eqv (aO (yS (K:=K) T) (hr.mono (by decide)) rfl T.uP T.qe.kp T.uO .nil bh (aj (aL 1) (aj (bJ (bM (K:=K) rfl) (aL 5) aJ (fun _ _=>rfl)) aq))) (aK _ _ _)) (jh (aj (bJ (bM (K:=K) rfl) (aL 5) aJ (fun _ _=>rfl)) aq)) (bQ _)))))))))))),?_⟩
    have Mt:60≤sizeLine:=by decide
    have hX:=hG.2.2.2.2.1;have hTs:=hG.2.2.2.2.2;have Dh:=hTs.len;have g2:∀e∈ps,e.1∈xs∧e.2∈xs:=fun e he=>⟨(hTs.ok e he).1,(hTs.ok e he).2.1⟩;simp -dsimp[au,stC,-Bool.exists_bool,-List.map_take,-Prod.forall,-Prod.exists];refine⟨t,n,l,d,xs,tv,ps,fs,rfl,hG,hd,fun g H1 hg e1 s1=>?_⟩;simp -dsimp[au,stC,-Bool.exists_bool,-List.map_take,-Prod.forall,-Prod.exists];refine⟨o,d,xs,ps,fs,rfl,hw.same s1,hX,hTs,s1 _ _ hd,hfs,fun hn hb tt r H2 hr e2 et s2=>?_,fun x hx tt c H2 hc e2 et s2=>?_,fun hn k lot rest hb tt u c H2 hc e2 eu et s2=>?_⟩
    · have hst:=yc hn;have S2:=s1.trans s2;simp -dsimp[au,stC,-Bool.exists_bool,-List.map_take,-Prod.forall,-Prod.exists];refine⟨_,dz.of et,rfl,?_⟩;simp -dsimp[au,stC,-Bool.exists_bool,-List.map_take,-Prod.forall,-Prod.exists];refine⟨t,n,l,g,xs,tv,ps,_,cA fs,rfl,hG.same S2,s2 _ _ e1,mF _ _,MP hfs,fun b H3 hb3 s3=>?_⟩;rw[show b=true from hb3.mpr hst];have S3:=S2.trans s3;have g3:=(s2.trans s3) _ _ e1;simp -dsimp[au,stC,-Bool.exists_bool,-List.map_take,-Prod.forall,-Prod.exists];refine⟨_,.inl (aY.of g3),by rw[List.length_map,mF];omega,fun D hD=>cmR (fun i σ H'=>(∃o',σ=[o',some (.ref t),some (.ref g)])∧H' D=some (.lst [])∧Same H3 H') ⟨⟨_,rfl⟩,ao,aA hD⟩ ?_ ?_⟩
      · rintro i σ H4 hi ⟨⟨o',rfl⟩,CK,s4⟩;rw[List.length_map,mF] at hi;obtain⟨e,he⟩:∃e,ps[i]? = some e:=⟨_,List.getElem?_eq_getElem hi⟩;have hz:=Wg fs hi;have S4:=S3.trans s4;simp -dsimp[au,stC,-Bool.exists_bool,-List.map_take,-Prod.forall,-Prod.exists];refine⟨_,.inl (aY.of (s4 _ _ g3)),_,aR hz,?_⟩;simp -dsimp[au,stC,-Bool.exists_bool,-List.map_take,-Prod.forall,-Prod.exists];refine gb.of (fun h=>?_) (fun h=>?_)
        · simp -dsimp[au,stC,-Bool.exists_bool,-List.map_take,-Prod.forall,-Prod.exists];refine⟨t,n,l,xs,tv,ps,i,e,rfl,hG.same S4,he,fun b5 H5 hb5 s5=>?_⟩;have:b5=false:=by
            cases b5 with
            | false=>rfl
            | true=>exact absurd (Kc hb i e he) (hb5.mp rfl)
          subst this;simp -dsimp[au,stC,-Bool.exists_bool,-List.map_take,-Prod.forall,-Prod.exists];exact⟨s5 _ _ CK,s4.trans s5⟩
        ·simp -dsimp[au,stC,-Bool.exists_bool,-List.map_take,-Prod.forall,-Prod.exists];exact⟨CK,s4⟩
      ·rintro σ H4 ⟨⟨o',rfl⟩,CK,s4⟩;have S4:=S3.trans s4;simp -dsimp[au,stC,-Bool.exists_bool,-List.map_take,-Prod.forall,-Prod.exists];intro p5 hp5;have s5:Same H4 (upd H4 p5 (.lst [])):=aA hp5;have e5:upd H4 p5 (.lst []) p5=some (.lst []):=ao;generalize upd H4 p5 (.lst [])=H5 at s5 e5 ⊢;refine⟨.list [],⟨D,_,rfl,aY.of (s5 _ _ CK),rfl⟩,.list [],⟨p5,_,rfl,aY.of e5,rfl⟩,rfl,rfl,by decide,?_⟩;refine gb.pos rfl ?_;simp -dsimp[au,stC,-Bool.exists_bool,-List.map_take,-Prod.forall,-Prod.exists];have S5:=S4.trans s5;refine⟨t,n,l,d,r,xs,tv,ps,fs,tU ps xs fs,rfl,hG.same S5,S5 _ _ hd,hfs,(s3.trans (s4.trans s5)) _ _ e2,tu _ _ _,Mx hfs,fun e he=>Q9 hfs he,fun H6 s6=>?_⟩;simp -dsimp[au,stC,-Bool.exists_bool,-List.map_take,-Prod.forall,-Prod.exists];have S6:=S5.trans s6;refine⟨t,n,l,r,xs,tv,ps,tU ps xs fs,_,rfl,hG.same S6,(s3.trans (s4.trans (s5.trans s6))) _ _ e2,tu _ _ _,qbQ hfs,fun b7 H7 hb7 s7=>?_⟩;rw[show b7=true from hb7.mpr (wQ g2 rfl (Kc hb) _ hfs (fun k hk=>wR.mp hk) (Hu _ _) hst)];exact q _ (S6.trans s7)
    · have S2:=s1.trans s2;obtain⟨RN,hxl⟩:=Js hx;obtain⟨r0,r9,rf⟩:=Lq hX.nd RN hxl;simp -dsimp[au,stC,-Bool.exists_bool,-List.map_take,-Prod.forall,-Prod.exists];refine⟨_,dz.of et,rfl,?_⟩;simp -dsimp[au,stC,-Bool.exists_bool,-List.map_take,-Prod.forall,-Prod.exists];refine⟨t,n,l,g,xs,tv,ps,_,cA fs,rfl,hG.same S2,s2 _ _ e1,mF _ _,MP hfs,fun b H3 hb3 s3=>?_⟩;have:b=false:=by
        cases b with
        | false=>rfl
        | true=>
          have:=Fd (hb3.mp rfl);rw[hx] at this;cases this
      subst this;have S3:=S2.trans s3;simp -dsimp[au,stC,-Bool.exists_bool,-List.map_take,-Prod.forall,-Prod.exists];refine⟨t,n,l,g,c,xs,_,tv,ps,stL fs ps.length,rfl,hG.same S3,(s2.trans s3) _ _ e1,s3 _ _ e2,r0,r9,fun y hy=>(ji.mp hy).1,rf,fun k hk=>Wf hfs hTs hk,fun H4 s4=>?_⟩;exact q _ (S3.trans s4)
    · have hst:=yc hn;have S2:=s1.trans s2;obtain⟨e,he,rfl,hne⟩:=Fg hb;obtain⟨c0,c9,cx,cf⟩:=Wc hTs he hne;have hk:k<ps.length:=(List.getElem?_eq_some_iff.mp he).1;have hfr:cA fs k=none:=Wd (fun j d hj=>by have:=oW hfs hj;omega) hTs he hne hst;have hbar:¬RT (gA (fun i=>i≠k) ps) e.1 e.2:=fun z=>hne (jq.mpr ⟨(g2 e (List.mem_of_getElem? he)).1,z.symm fun _ _ ⟨j,h1,h2⟩=>⟨j,h1,h2.symm⟩⟩);simp -dsimp[au,stC,-Bool.exists_bool,-List.map_take,-Prod.forall,-Prod.exists];refine⟨_,dz.of et,rfl,?_⟩;simp -dsimp[au,stC,-Bool.exists_bool,-List.map_take,-Prod.forall,-Prod.exists];refine⟨t,n,l,g,xs,tv,ps,_,cA fs,rfl,hG.same S2,s2 _ _ e1,mF _ _,MP hfs,fun b H3 hb3 s3=>?_⟩;rw[show b=true from hb3.mpr hst];have S3:=S2.trans s3;have g3:=(s2.trans s3) _ _ e1;simp -dsimp[au,stC,-Bool.exists_bool,-List.map_take,-Prod.forall,-Prod.exists];refine⟨_,.inl (aY.of g3),by rw[List.length_map,mF];omega,fun D hD=>cmR (fun i σ H'=>(∃o',σ=[o',some (.ref t),some (.ref g)])∧(∃bs:List Nat,H' D=some (.lst (eF bs))∧bs.length≤i∧(k<i→k∈bs))∧Same H3 H') ⟨⟨_,rfl⟩,⟨[],ao,by simp,fun z=>absurd z (by omega)⟩,aA hD⟩ ?_ ?_⟩
      · rintro i σ H4 hi ⟨⟨o',rfl⟩,⟨bs,CK,hbl,hbk⟩,s4⟩;rw[List.length_map,mF] at hi;obtain⟨e',he'⟩:∃e,ps[i]? = some e:=⟨_,List.getElem?_eq_getElem hi⟩;have hz:=Wg fs hi;have S4:=S3.trans s4;simp -dsimp[au,stC,-Bool.exists_bool,-List.map_take,-Prod.forall,-Prod.exists];refine⟨_,.inl (aY.of (s4 _ _ g3)),_,aR hz,?_⟩;simp -dsimp[au,stC,-Bool.exists_bool,-List.map_take,-Prod.forall,-Prod.exists];refine gb.of (fun h=>?_) (fun h=>?_)
        · simp -dsimp[au,stC,-Bool.exists_bool,-List.map_take,-Prod.forall,-Prod.exists];refine⟨t,n,l,xs,tv,ps,i,e',rfl,hG.same S4,he',fun b5 H5 hb5 s5=>?_⟩;cases b5 with
          | true=>
            simp -dsimp[au,stC,-Bool.exists_bool,-List.map_take,-Prod.forall,-Prod.exists];refine⟨_,s5 _ _ CK,by rw[eF,List.length_map];omega,⟨bs++[i],by rw[ao];simp[eF],by simp;omega,fun z=>?_⟩,aV (s4.trans s5) hD⟩
            by_cases hki:k<i
            ·exact List.mem_append_left _ (hbk hki)
            · have:k=i:=by omega
              rw[this];simp
          | false=>
            simp -dsimp[au,stC,-Bool.exists_bool,-List.map_take,-Prod.forall,-Prod.exists];refine⟨⟨bs,s5 _ _ CK,by omega,fun z=>?_⟩,s4.trans s5⟩
            by_cases hki:k<i
            ·exact hbk hki
            · have:k=i:=by omega
              subst this;rw[he] at he';cases he';exact absurd (hb5.mpr hbar) (by decide)
        · simp -dsimp[au,stC,-Bool.exists_bool,-List.map_take,-Prod.forall,-Prod.exists];refine⟨⟨bs,CK,by omega,fun z=>?_⟩,s4⟩
          by_cases hki:k<i
          ·exact hbk hki
          · have:k=i:=by omega
            subst this;rw[hfr] at h;simp at h
      · rintro σ H4 ⟨⟨o',rfl⟩,⟨bs,CK,hbl,hbk⟩,s4⟩;rw[List.length_map,mF] at hbl hbk;have hkb:=hbk hk;have S4:=S3.trans s4;have eb:eF bs=(bs.map fun n:Nat=>(n:Int)).map V.int:=by simp[eF]
        rw[eb] at CK;have YQ:∀ns:List Int,(PyData.list (eX ns)).canLay0=true:=fun ns=>by simp[PyData.canLay0,lay_ints]
        have qea:∀ns:List Int,(PyData.list (eX ns)).depth≤64:=fun ns=>by
          have:=Jd ns;simp[PyData.depth];omega
        have ieq:∀x y:List Int,PyData.eqv (.list (eX x)) (.list (eX y))=decide (x=y):=fun x y=>by simp[PyData.eqv,Je]
        simp -dsimp[au,stC,-Bool.exists_bool,-List.map_take,-Prod.forall,-Prod.exists];intro p5 hp5;have s5:Same H4 (upd H4 p5 (.lst [])):=aA hp5;have e5:upd H4 p5 (.lst []) p5=some (.lst []):=ao;generalize upd H4 p5 (.lst [])=H5 at s5 e5 ⊢;refine⟨.list (eX (bs.map fun n:Nat=>(n:Int))),⟨D,_,rfl,aY.of (s5 _ _ CK),su _⟩,.list (eX []),⟨p5,_,rfl,aY.of e5,rfl⟩,YQ _,YQ _,qea _,?_⟩;rw[ieq];refine gb.neg (by simp;exact fun z=>by rw[z] at hkb;cases hkb) ?_;have S5:=S4.trans s5;have eu5:=(s3.trans (s4.trans s5)) _ _ eu;have e25:=(s3.trans (s4.trans s5)) _ _ e2;simp -dsimp[au,stC,-Bool.exists_bool,-List.map_take,-Prod.forall,-Prod.exists];refine⟨_,.inr (dz.of eu5),_,aR (j:=0) rfl,_,.int _,_,pA K,gb.neg rfl ?_⟩;simp -dsimp[au,stC,-Bool.exists_bool,-List.map_take,-Prod.forall,-Prod.exists];refine⟨_,.inr (dz.of eu5),_,aR (j:=0) rfl,_,.inl (aY.of (s5 _ _ CK)),rfl,List.all_eq_true.mp (Rm _),false,?_,gb.neg rfl ?_⟩
        ·rw[Kg];rw[decide_eq_true (List.mem_map.mpr ⟨k,hkb,rfl⟩)];rfl
        simp -dsimp[au,stC,-Bool.exists_bool,-List.map_take,-Prod.forall,-Prod.exists];refine⟨_,.inr (dz.of eu5),_,aR (j:=1) rfl,t,n,l,c,xs,_,tv,ps,rfl,hG.same S5,e25,c0,c9,cx,cf,fun H6 s6=>?_⟩;simp -dsimp[au,stC,-Bool.exists_bool,-List.map_take,-Prod.forall,-Prod.exists];have S6:=S5.trans s6;refine⟨_,.inr (dz.of (s6 _ _ eu5)),_,aR (j:=1) rfl,t,n,l,c,xs,_,tv,ps,rfl,hG.same S6,s6 _ _ e25,fun d7 H7 hd7 e7 s7=>?_⟩;simp -dsimp[au,stC,-Bool.exists_bool,-List.map_take,-Prod.forall,-Prod.exists];have S7:=S6.trans s7;refine⟨_,.inr (dz.of ((s6.trans s7) _ _ eu5)),_,aR (j:=0) rfl,fun p8 hp8=>?_⟩;have s8:Same H7 (upd H7 p8 (.lst [.int (k:Nat)])):=aA hp8;have e8:upd H7 p8 (.lst [.int (k:Nat)]) p8=some (.lst [.int (k:Nat)]):=ao;generalize upd H7 p8 (.lst [.int (k:Nat)])=H8 at s8 e8 ⊢;rw[Rj hTs he hne] at e7;refine⟨.list (eX [(k:Int)]),⟨d7,_,rfl,aY.of (s8 _ _ e7),su [(k:Int)]⟩,.list (eX [(k:Int)]),⟨p8,_,rfl,aY.of e8,su [(k:Int)]⟩,YQ _,YQ _,qea _,?_⟩;rw[ieq,decide_eq_true rfl];exact q _ (S7.trans s8)
theorem qjl {x:Str} (h:nameB x=true):Az 0 100 (.str x):=by
  unfold nameB at h;simp only[Bool.and_eq_true,decide_eq_true_eq] at h;refine Az.str (fun c hc=>?_) (by omega);have:=Ug (List.all_eq_true.mp h.2 c hc);have:(16:Nat) ^ 8=4294967296:=by decide
  omega
theorem YS {ns:List Int} (h01:∀n∈ns,0≤n∧n≤1) (hl:ns.length≤20):Az 1 5000 (.list (eX ns)):=
  Az.list (k:=0) (n:=100) (fun c hc=>by
    obtain⟨i,hi,rfl⟩:=List.mem_map.mp hc;have:=h01 i hi;exact Yc (by omega) (by omega)) (by rw[eX,List.length_map];omega)
theorem Pq {xs c:List Str} (hX:Pa xs) (h:∀x∈c,x∈xs) (hl:c.length≤9):Az 1 5000 (.list (d9 c)):=
  Az.list (k:=0) (n:=100) (fun z hz=>by
    obtain⟨x,hx,rfl⟩:=List.mem_map.mp hz;exact qjl (hX.nm x (h x hx))) (by rw[d9,List.length_map];omega)
theorem Pr:∀ns:List Int,PyData.hasDict (.list (eX ns))=false:=fun ns=>by
  have:∀ns:List Int,PyData.hasDictAll (eX ns)=false:=fun ns=>by
    induction ns with
    | nil=>rfl
    | cons n ns ih=>simp only[eX,List.map_cons,PyData.hasDictAll] at ih ⊢;rw[ih];rfl
  simp[PyData.hasDict,this]
theorem Hx:∀c:List Str,PyData.hasDict (.list (d9 c))=false:=fun c=>by
  have:∀c:List Str,PyData.hasDictAll (d9 c)=false:=fun c=>by
    induction c with
    | nil=>rfl
    | cons n ns ih=>simp only[d9,List.map_cons,PyData.hasDictAll] at ih ⊢;rw[ih];rfl
  simp[PyData.hasDict,this]
def Dm (C:Addr):Sp:=fun vs H Q _=>∃(o d:Addr) (xs:List Str) (ps:List (Str×Str)) (fs:List (Nat×Int)),vs=[.ref o,.ref d]∧fL C H o xs ps∧Pa xs∧qL xs ps∧H d=some (.dK (dw fs))∧jL fs ps.length∧
  ∀(H':Hp),Same H H'→Q (.bl true) H'
theorem Dq (T:Txt K mg a):bV P w K mg base jN 8 a.dJ a.kI ["_law_made", "_law_fixed_here"] (Dm a.bT):=by
  refine T.qg.nJ j9 (fun vs H Q E h=>?_) (fun cdv A outer s H vs Q E hr h=>?_)
  ·obtain⟨o,d,xs,ps,fs,rfl,_⟩:=h;rfl
  · obtain⟨o,d,xs,ps,fs,rfl,hw,hX,hTs,hd,hfs,q⟩:=h;refine⟨_,(aB (wZ (PE.eqv (aO (Hw (K:=K) T) (hr.mono (by decide)) rfl T.Hh T.Bu.kp T.Hg .nil bh (aj (aL 0) (aj (aL 1) aq))) (aK _ _ _)) (PG.eqv (fj (K:=K) (n:=2) rfl rfl (jg.eqv (bw (aQ (i:=2) j9.nd rfl (Or.inl rfl)) (jg.eqv (bw (aQ (i:=3) j9.nd rfl (Or.inl rfl)) (jg.mono eZ g_)) (bx _ _))) (bx _ _))) (fB _ _ _)))
      (aB (bK (i:=4) j9.nd rfl (Or.inl rfl) (aM (Aq (K:=K) rfl hr.gd hr.units) rfl T.LC.repr boot_repr (aj (aL 3) aq)))
      (aB (dM (bA jV (aL 2) mG (bQ _)) (aG (gw (Og (K:=K) rfl PySem.F.plainAttrs_list PySem.F.slot_list_clear PySem.F.type_list_clear Eh (bJ (bM (K:=K) rfl) (aL 3) aJ (fun _ _=>rfl))))) (aG (gw (Og (K:=K) rfl PySem.F.plainAttrs_list PySem.F.slot_list_clear PySem.F.type_list_clear Eh (aL 3)))))
      (aG (aZ (dB jV (aM (Aq (K:=K) rfl hr.gd hr.units) rfl T.LC.repr boot_repr (aj (bJ (bM (K:=K) rfl) (PE.eqv (aO (Hw (K:=K) T) (hr.mono (by decide)) rfl T.Hh T.Bu.kp T.Hg .nil bh (aj (aL 0) (aj (aL 1) aq))) (aK _ _ _)) aJ (fun _ _=>rfl)) aq)) (aL 4) (bQ _))))))),?_⟩
    have Mt:60≤sizeLine:=by decide
    have z5:20000≤sizeLine:=by decide
    have Dh:=hTs.len;simp -dsimp[au,stC,-Bool.exists_bool,-List.map_take,-Prod.forall,-Prod.exists];refine⟨o,d,xs,ps,fs,rfl,hw,hX,hTs,hd,hfs,fun hn hb tt r H1 hr1 e1 et s1=>?_,fun x hx tt c H1 hc e1 et s1=>?_,fun hn k lot rest hb tt u c H1 hc e1 eu et s1=>?_⟩
    · have sm:=YS (Mx (xs:=xs) hfs) (by rw[tu];exact Dh);simp -dsimp[au,stC,-Bool.exists_bool,-List.map_take,-Prod.forall,-Prod.exists];refine⟨_,dz.of et,rfl,?_⟩;simp -dsimp[au,stC,-Bool.exists_bool,-List.map_take,-Prod.forall,-Prod.exists];refine⟨.list (eX (tU ps xs fs)),⟨r,_,rfl,aY.of e1,su _⟩,sm.sh,Pr _,Nat.le_trans sm.dp (by decide),Nat.le_trans sm.ln (by omega),?_⟩;refine gb.neg (by decide) ?_;simp -dsimp[au,stC,-Bool.exists_bool,-List.map_take,-Prod.forall,-Prod.exists];refine⟨⟨_,aY.of e1⟩,⟨_,e1⟩,?_⟩;have s2:Same H (upd H1 r (.lst [])):=aV s1 hr1;generalize upd H1 r (.lst [])=H2 at s2 ⊢;refine⟨o,d,xs,ps,fs,rfl,hw.same s2,hX,hTs,s2 _ _ hd,hfs,fun _ _ tt' r' H3 _ e3 et3 s3=>?_,fun x hx=>?_,fun _ k lot rest hb'=>?_⟩
      ·simp -dsimp[au,stC,-Bool.exists_bool,-List.map_take,-Prod.forall,-Prod.exists];refine⟨_,.inr (dz.of et3),_,aR (j:=1) rfl,.list (eX (tU ps xs fs)),⟨r',_,rfl,aY.of e3,su _⟩,sm.sh,Pr _,Nat.le_trans sm.dp (by decide),Nat.le_trans sm.ln (by omega),?_⟩;simp -dsimp[au,stC,-Bool.exists_bool,-List.map_take,-Prod.forall,-Prod.exists];exact q _ (s2.trans s3)
      ·rw[hn] at hx;cases hx
      ·rw[hb] at hb';cases hb'
    · have hcl:(restOf (aC (cA fs) ps 0) xs x).length≤9:=Nat.le_trans (List.length_filter_le _ _) hX.len.2;have sm:=Pq hX (fun y hy=>(ji.mp hy).1) hcl;simp -dsimp[au,stC,-Bool.exists_bool,-List.map_take,-Prod.forall,-Prod.exists];refine⟨_,dz.of et,rfl,?_⟩;simp -dsimp[au,stC,-Bool.exists_bool,-List.map_take,-Prod.forall,-Prod.exists];refine⟨.list (d9 (restOf (aC (cA fs) ps 0) xs x)),⟨c,_,rfl,aY.of e1,rZ _⟩,sm.sh,Hx _,Nat.le_trans sm.dp (by decide),Nat.le_trans sm.ln (by omega),?_⟩;refine gb.neg (by decide) ?_;simp -dsimp[au,stC,-Bool.exists_bool,-List.map_take,-Prod.forall,-Prod.exists];refine⟨⟨_,aY.of e1⟩,⟨_,e1⟩,?_⟩;have s2:Same H (upd H1 c (.lst [])):=aV s1 hc;generalize upd H1 c (.lst [])=H2 at s2 ⊢;refine⟨o,d,xs,ps,fs,rfl,hw.same s2,hX,hTs,s2 _ _ hd,hfs,fun hn=>?_,fun x' hx' tt' c' H3 _ e3 et3 s3=>?_,fun hn=>?_⟩
      ·rw[hn] at hx;cases hx
      ·rw[hx] at hx';cases hx';simp -dsimp[au,stC,-Bool.exists_bool,-List.map_take,-Prod.forall,-Prod.exists];refine⟨_,.inr (dz.of et3),_,aR (j:=1) rfl,.list (d9 (restOf (aC (cA fs) ps 0) xs x)),⟨c',_,rfl,aY.of e3,rZ _⟩,sm.sh,Hx _,Nat.le_trans sm.dp (by decide),Nat.le_trans sm.ln (by omega),?_⟩;simp -dsimp[au,stC,-Bool.exists_bool,-List.map_take,-Prod.forall,-Prod.exists];exact q _ (s2.trans s3)
      ·rw[hn] at hx;cases hx
    · obtain⟨e,he,qjm,hne⟩:=Fg hb;obtain⟨c0,c9,cx,cf⟩:=Wc hTs he hne;rw[← qjm] at c9 cx;have hX9:=hX.len.2;have hk:k<ps.length:=(List.getElem?_eq_some_iff.mp he).1;have sm0:=Pq hX cx (by omega);have sm:Az 2 20000 (.tuple [.int (k:Nat),.list (d9 lot)]):=Az.tuple (k:=1) (n:=5000) (fun z hz=>by
        rcases List.mem_cons.mp hz with rfl | hz
        ·exact(Yc (by omega) (by omega)).mono (by decide) (by decide)
        ·rw[List.mem_singleton] at hz;subst hz;exact sm0) (by simp)
      have Lz:PyData.hasDict (.tuple [.int (k:Nat),.list (d9 lot)])=false:=by
        have:=Hx lot;simp only[PyData.hasDict,PyData.hasDictAll] at this ⊢;simp[this]
      have hI:∀{H':Hp} {u c:Addr},H' u=some (.tup [.int (k:Nat),.ref c])→H' c=some (.lst (lot.map V.str))→Is K H' (.tuple [.int (k:Nat),.list (d9 lot)]) (.ref u):=fun {H' u c} h1 h2=>⟨u,_,rfl,dz.of h1,_,_,rfl,rfl,_,_,rfl,⟨c,_,rfl,aY.of h2,rZ _⟩,rfl⟩;simp -dsimp[au,stC,-Bool.exists_bool,-List.map_take,-Prod.forall,-Prod.exists];refine⟨_,dz.of et,rfl,?_⟩;simp -dsimp[au,stC,-Bool.exists_bool,-List.map_take,-Prod.forall,-Prod.exists];refine⟨_,hI eu e1,sm.sh,Lz,Nat.le_trans sm.dp (by decide),Nat.le_trans sm.ln (by omega),?_⟩;refine⟨_,.inr (dz.of eu),_,aR (j:=1) rfl,.inl ⟨rfl,_,aY.of e1⟩,⟨_,e1⟩,?_⟩;have s2:Same H (upd H1 c (.lst [])):=aV s1 hc;generalize upd H1 c (.lst [])=H2 at s2 ⊢;refine⟨o,d,xs,ps,fs,rfl,hw.same s2,hX,hTs,s2 _ _ hd,hfs,fun _ hb'=>?_,fun x hx=>?_,fun _ k' qlY rest' hb' tt' u' c' H3 _ e3 eu3 et3 s3=>?_⟩
      ·rw[hb] at hb';cases hb'
      ·rw[hn] at hx;cases hx
      ·rw[hb] at hb';cases hb';simp -dsimp[au,stC,-Bool.exists_bool,-List.map_take,-Prod.forall,-Prod.exists];refine⟨_,.inr (dz.of et3),_,aR (j:=1) rfl,_,hI eu3 e3,sm.sh,Lz,Nat.le_trans sm.dp (by decide),Nat.le_trans sm.ln (by omega),?_⟩;simp -dsimp[au,stC,-Bool.exists_bool,-List.map_take,-Prod.forall,-Prod.exists];exact q _ (s2.trans s3)
theorem YT (fs:List (Nat×Int)):dw fs=(fs.map fun e=>((e.1:Int),e.2)).map fun e=>((Sum.inl e.1:Key),V.int e.2):=by
  unfold dw;rw[List.map_map];rfl
theorem YW {fs:List (Nat×Int)} {m:Nat} (h:jL fs m) (hm:m≤20):Az 1 10000 (vO (fs.map fun e=>((e.1:Int),e.2))):=
  Yd (fun e he=>by
    obtain⟨f,hf,rfl⟩:=List.mem_map.mp he;have:=h.ok f hf;simp only;omega) (by rw[List.length_map];have:=h.len;omega)
def Hy (K:W.Frag):Sp:=fun vs H Q _=>∃(l:Addr) (ns:List Int),vs=[.ref l]∧aY K H l (ns.map V.int)∧ns.length≤63∧∀H',Q (.bl true) H'
theorem qbR (T:Txt K mg a):bV P w K mg base jN 9 a.yG a.G6 ["_law_script"] (Hy K):=by
  refine T.qaa.nJ uJ (fun vs H Q E h=>?_) (fun cdv A outer s H vs Q E hr h=>?_)
  ·obtain⟨l,ns,rfl,_⟩:=h;rfl
  · obtain⟨sl,ns0,rfl,hS,qly,q⟩:=h;refine⟨_,(aB (jQ PassesOwn.never rfl (PI.eqv (jk rfl T.nm.range (aj (aM (Ao rfl) rfl T.nm.max boot_max (aj aJ (aj (aM (Lj rfl) rfl T.nm.min boot_min (aj aJ (aj (aM (cD (K:=K) rfl) rfl T.nm.len PySem.boot_len (aj (aL 0) aq)) aq))) aq))) aq)) (jr _)) (aQ (i:=1) uJ.nd rfl (Or.inl rfl))
      (aB (bK (i:=2) uJ.nd rfl (Or.inl rfl) (PE.eqv (aO (qbA (K:=K) T) (hr.mono (by decide)) rfl T.Z6 T.Vv.kp T.Z5 .nil bh (aj (aL 0) (aj (aL 1) aq))) (aK _ _ _)))
      (aB (bK (i:=3) uJ.nd rfl (Or.inl rfl) (PE.eqv (aO (qbF (K:=K) T) (hr.mono (by decide)) rfl T.Z_ T.Vx.kp T.Z9 .nil bh (aj (aL 2) (aj aJ (aj aJ aq)))) (aK _ _ _)))
      (aB (bK (i:=4) uJ.nd rfl (Or.inl rfl) (PE.eqv (W9 T.qac (JT (K:=K) T) (hr.mono (by decide)) rfl T.qab T.Bl .nil bh (aj (bJ (bM (K:=K) rfl) (aL 3) aJ (fun _ _=>rfl)) (aj (bJ (bM (K:=K) rfl) (aL 3) aJ (fun _ _=>rfl)) aq))) (U7 _ _ _ _)))
      (aB (bK (i:=5) uJ.nd rfl (Or.inl rfl) (PE.eqv (aO (V7 (K:=K) T) (hr.mono (by decide)) rfl T.O5 T.G8.kp T.O4 .nil bh (aj (aL 2) (aj (aL 3) aq))) (aK _ _ _)))
      (aB (bK (i:=6) uJ.nd rfl (Or.inl rfl) (aM (yF hr.gd hr.units) rfl T.LC.repr boot_repr (aj (aL 5) aq)))
      (aB (dM (PW.pt (qy (eY (cM (PE.eqv (aO (Ce (K:=K) T) (hr.mono (by decide)) rfl T.zF T.wH.kp T.zE .nil bh (aj (aL 4) (aj (aL 3) (aj (aL 5) aq)))) (aK _ _ _)))) (qy (eY (cM (PE.eqv (aO (Ce (K:=K) T) (hr.mono (by decide)) rfl T.zF T.wH.kp T.zE .nil bh (aj (aL 4) (aj (aL 3) (aj Ad aq)))) (aK _ _ _)))) (nu (bA nG (aM (yF hr.gd hr.units) rfl T.LC.repr boot_repr (aj (aL 5) aq)) (aL 6) (bQ _)))))) (aG (aZ ou)) bN)
      (aG (dM (PW.pt (qy (eY (cM (PE.eqv (aO (Dq (K:=K) T) (hr.mono (by decide)) rfl T.wJ T.qg.kp T.wI .nil bh (aj (aL 4) (aj (aL 5) aq))) (aK _ _ _)))) (nu (eY (cM (PE.eqv (aO (Ce (K:=K) T) (hr.mono (by decide)) rfl T.zF T.wH.kp T.zE .nil bh (aj (aL 4) (aj (aL 3) (aj (aL 5) aq)))) (aK _ _ _))))))) (aG (aZ ou)) bN)))))))))
      (aG (aZ ou))),?_⟩
    have Mt:60≤sizeLine:=by decide
    have z5:20000≤sizeLine:=by decide
    simp -dsimp[au,stC,-Bool.exists_bool,-List.map_take,-Prod.forall,-Prod.exists];refine⟨_,.inl hS,?_⟩;simp only[List.length_map];obtain⟨m,hm,hm6⟩:∃m:Nat,(if 1<if (ns0.length:Int)<5 then (ns0.length:Int) else 5 then if (ns0.length:Int)<5 then (ns0.length:Int) else 5 else 1)=m∧m≤5:=by
      by_cases h1:(ns0.length:Int)<5
      · rw[if_pos h1]
        by_cases h2:1<(ns0.length:Int)
        ·exact⟨ns0.length,by rw[if_pos h2],by omega⟩
        ·exact⟨1,by rw[if_neg h2];rfl,by decide⟩
      ·rw[if_neg h1];exact⟨5,rfl,by decide⟩
    simp only[hm,Int.toNat_natCast];refine⟨by omega,by omega,frR (fun i σ H'=>(∃o1 o2 o3 o4 o5 o6,σ=[some (.ref sl),o1,o2,o3,o4,o5,o6])∧Same H H') ⟨⟨_,_,_,_,_,_,rfl⟩,Same.refl _⟩ ?_ ?_⟩
    · rintro i σ H0 hi ⟨⟨o1,o2,o3,o4,o5,o6,rfl⟩,s0⟩;simp -dsimp[au,stC,-Bool.exists_bool,-List.map_take,-Prod.forall,-Prod.exists];refine⟨sl,ns0,i,rfl,s0.seq hS,by omega,fun p Hp hp0 hPp hBp=>?_⟩;have sp1:Same H0 Hp:=fun b o e=>hBp b o (aP e hp0) e;simp -dsimp[au,stC,-Bool.exists_bool,-List.map_take,-Prod.forall,-Prod.exists];refine⟨p,9,20,rfl,hPp,by decide,by decide,by decide,by decide,fun t n l xs tv ps H1 ht0 hn0 hl0 ht1 hn1 hl1 qbS hX hTs _ _ Ko JV=>?_⟩;have np:n≠p:=(hPp.ne hn0).symm;have lp:l≠p:=(hPp.ne hl0).symm;have l9:=hX.len;have Dh:=hTs.len;simp -dsimp[au,stC,-Bool.exists_bool,-List.map_take,-Prod.forall,-Prod.exists];refine⟨_,.inr (dz.of ht1),_,aR (j:=0) rfl,_,.inr (dz.of ht1),_,aR (j:=1) rfl,fun o dx ho hdx qlZ=>?_⟩;have so:Same H1 (upd (upd H1 dx (.own o)) o (.ins a.bT dx [])):=fun b u e=>by
        rw[aD (aP e ho),aD (aP e hdx)];exact e
      have hpr:nj H1 tv ps:=⟨qbS.1,fun i v e h1 h2=>by
        obtain⟨t,rfl,z⟩:=qbS.2 i v e h1 h2;exact⟨t,rfl,.inr z⟩⟩
      refine⟨o,dx,n,l,tv,xs,ps,rfl,ao,.inl (so _ _ hl1),hpr.same so,.inl (so _ _ hn1),hX,hTs,fun H2 hW2 hB2=>⟨rfl,?_⟩⟩;have s2:Same H1 H2:=fun b u e=>hB2 b u (aP e ho) (so b u e);have hP2:=Ko.keep s2;have hG2:fZ H2 t n l xs tv ps:=⟨s2 _ _ ht1,s2 _ _ hn1,s2 _ _ hl1,bC.same qbS s2,hX,hTs⟩;simp -dsimp[au,stC,-Bool.exists_bool,-List.map_take,-Prod.forall,-Prod.exists];refine⟨p,t,n,l,xs,tv,ps,rfl,hP2,hG2,fun d fs H3 hd0 RW hfs JW hB3=>?_⟩;have hG3:=hG2.but hP2 hB3 np lp;have Pg:=hW2.but hP2 hB3;have B3:But p Hp H3:=(JV.same s2).trans hB3;have S3:Same H0 H3:=fun b u e=>B3 b u (aP e hp0) (sp1 b u e);have sm:=YW hfs Dh;have hdi:=RW;rw[YT] at hdi;simp -dsimp[au,stC,-Bool.exists_bool,-List.map_take,-Prod.forall,-Prod.exists];refine⟨_,hdi,sm.sh,Nat.le_trans sm.dp (by decide),Nat.le_trans sm.ln (by omega),?_⟩;refine⟨t,n,l,o,d,xs,tv,ps,fs,rfl,hG3,Pg,RW,hfs,fun H4 s4=>?_⟩;simp -dsimp[au,stC,-Bool.exists_bool,-List.map_take,-Prod.forall,-Prod.exists];intro ed hed;have s5:Same H4 (upd H4 ed (.dK [])):=aA hed;have e5:upd H4 ed (.dK []) ed=some (.dK (dw [])):=ao;generalize upd H4 ed (.dK [])=H5 at s5 e5 ⊢;have S5:=s4.trans s5;refine⟨t,n,l,o,ed,xs,tv,ps,[],rfl,hG3.same S5,Pg.same S5,e5,⟨by simp,by simp⟩,fun H6 s6=>?_⟩;have S6:=S5.trans s6;simp -dsimp[au,stC,-Bool.exists_bool,-List.map_take,-Prod.forall,-Prod.exists];refine⟨_,S6 _ _ hdi,sm.sh,Nat.le_trans sm.dp (by decide),Nat.le_trans sm.ln (by omega),false,by simp,gb.neg rfl ?_⟩;simp -dsimp[au,stC,-Bool.exists_bool,-List.map_take,-Prod.forall,-Prod.exists];refine⟨o,d,xs,ps,fs,rfl,Pg.same S6,hX,hTs,S6 _ _ RW,hfs,fun H7 s7=>?_⟩;have S7:=S6.trans s7;simp -dsimp[au,stC,-Bool.exists_bool,-List.map_take,-Prod.forall,-Prod.exists];refine⟨t,n,l,o,d,xs,tv,ps,fs,rfl,hG3.same S7,Pg.same S7,S7 _ _ RW,hfs,fun H8 s8=>?_⟩;simp -dsimp[au,stC,-Bool.exists_bool,-List.map_take,-Prod.forall,-Prod.exists];exact s0.trans (S3.trans (S7.trans s8))
    ·rintro σ H1 ⟨_,s1⟩;simp -dsimp[au,stC,-Bool.exists_bool,-List.map_take,-Prod.forall,-Prod.exists];exact q _
end K41
namespace K41
open PySem L2
theorem WQ {α:Type} {n:Nat} (l:List α) (h:l.length=n+1):∃a r,l=a::r:=by
  cases l with
  | nil=>cases h
  | cons a r=>exact⟨a,r,rfl⟩
theorem nZ {fd:FuncData} {ps:List Str} (h:∀v0,bindArgs fd {pos:=[v0]}=pure (ps.zip [v0])):∀us:List Value,us.length=1→bindArgs fd {pos:=us}=pure (ps.zip us):=by
  intro us hl;obtain⟨v0,us,rfl⟩:=WQ us hl;replace hl:=Nat.succ.inj hl;obtain rfl:=List.eq_nil_of_length_eq_zero hl;exact h v0
theorem dj {fd:FuncData} {ps:List Str} (h:∀v0 v1,bindArgs fd {pos:=[v0,v1]}=pure (ps.zip [v0,v1])):∀us:List Value,us.length=2→bindArgs fd {pos:=us}=pure (ps.zip us):=by
  intro us hl;obtain⟨v0,us,rfl⟩:=WQ us hl;replace hl:=Nat.succ.inj hl;obtain⟨v1,us,rfl⟩:=WQ us hl;replace hl:=Nat.succ.inj hl;obtain rfl:=List.eq_nil_of_length_eq_zero hl;exact h v0 v1
theorem qp {fd:FuncData} {ps:List Str} (h:∀v0 v1 v2,bindArgs fd {pos:=[v0,v1,v2]}=pure (ps.zip [v0,v1,v2])):∀us:List Value,us.length=3→bindArgs fd {pos:=us}=pure (ps.zip us):=by
  intro us hl;obtain⟨v0,us,rfl⟩:=WQ us hl;replace hl:=Nat.succ.inj hl;obtain⟨v1,us,rfl⟩:=WQ us hl;replace hl:=Nat.succ.inj hl;obtain⟨v2,us,rfl⟩:=WQ us hl;replace hl:=Nat.succ.inj hl;obtain rfl:=List.eq_nil_of_length_eq_zero hl;exact h v0 v1 v2
theorem qbT {fd:FuncData} {ps:List Str} (h:∀v0 v1 v2 v3,bindArgs fd {pos:=[v0,v1,v2,v3]}=pure (ps.zip [v0,v1,v2,v3])):∀us:List Value,us.length=4→bindArgs fd {pos:=us}=pure (ps.zip us):=by
  intro us hl;obtain⟨v0,us,rfl⟩:=WQ us hl;replace hl:=Nat.succ.inj hl;obtain⟨v1,us,rfl⟩:=WQ us hl;replace hl:=Nat.succ.inj hl;obtain⟨v2,us,rfl⟩:=WQ us hl;replace hl:=Nat.succ.inj hl;obtain⟨v3,us,rfl⟩:=WQ us hl;replace hl:=Nat.succ.inj hl;obtain rfl:=List.eq_nil_of_length_eq_zero hl;exact h v0 v1 v2 v3
theorem all_mk {l:W.OpenLaw} {w:World} {K:W.Frag} {h:Heap} {mg:Str→Option Value} {fa bT aN fK cC bR aW cW dH cX pJ dX cH iI gH iJ dI jD gJ fQ cY fU fV fG iK bH bU cu cZ bI fH cI vW pP lZ mj vZ wg iQ fJ jF gK gM mz mC jG iR kE pU mD dJ yG:Addr} (X:K.In h) (G:h.Ns mainGlobals mg) (hfa:mg "law" = some (.ref fa))
    {od1 an1 od2 an2 od3 an3 od4 an4 od5 an5 od6 an6 od7 an7 od8 an8 od9 an9 qjn qeb qjo qec qjp qee qjq qef qjr qeg qjs qeh qjt qei qju qej qjv qek qjw qel qjx qem qjy qen qjz qeo qjA qep qjB qeq qjC qer qjD qes qjE qet qjF qeu qjG qev qjH qew qjI qex qjJ qey qjK qez qjL qeA qjM qeB qjN qeC qjO qeD qjP qeE qjQ qeF qjR qeG qjS qeH qjT qeI qjU qeJ qjV qeK qjW qeL:Option Addr} {sl1 sl2 sl3 sl4 sl5 sl6 sl7 sl8 sl9 qjX qjY qjZ qj0 qj1 qj2 qj3 qj4 qj5 qj6 qj7 qj8 qj9 qj_ qka qkb qkc qkd qke qkf qkg qkh qki qkj qkk qkl qkm qkn qko qkp qkq qkr qks qkt qku qkv:Array (Option Value)} {oc1 kV1 dc1 pm1 cd1 ct1 oc2 kV2 dc2 pm2 cd2 ct2 oc3 kV3 dc3 pm3 cd3 ct3 oc4 kV4 dc4 pm4 cd4 ct4 oc5 kV5 dc5 pm5 cd5 ct5 oc6 kV6 dc6 pm6 cd6 ct6 oc7 kV7 dc7 pm7 cd7 ct7 oc8 kV8 dc8 pm8 cd8 ct8 oc9 kV9 dc9 pm9 cd9 ct9 qkw qeM qeN qeO qbU qeP qkx qeQ qeR qeS qbV qeT qky qeU qeV qeW qbW qeX qkz qeY qeZ qe0 qbX qe1 qkA qe2 qe3 qe4 qbY qe5 qkB qe6 qe7 qe8 qbZ qe9 qkC qe_ qfa qfb qb0 qfc qkD qfd qfe qff qb1 qfg qkE qfh qfi qfj qb2 qfk qkF qfl qfm qfn qb3 qfo qkG qfp qfq qfr qb4 qfs qkH qft qfu qfv qb5 qfw qkI qfx qfy qfz qb6 qfA qkJ qfB qfC qfD qb7 qfE qkK qfF qfG qfH qb8 qfI qkL qfJ qfK qfL qb9 qfM qkM qfN qfO qfP qb_ qfQ qkN qfR qfS qfT qca qfU qkO qfV qfW qfX qcb qfY qkP qfZ qf0 qf1 qcc qf2 qkQ qf3 qf4 qf5 qcd qf6 qkR qf7 qf8 qf9 qce qf_ qkS qga qgb qgc qcf qgd qkT qge qgf qgg qcg qgh qkU qgi qgj qgk qch qgl qkV qgm qgn qgo qci qgp qkW qgq qgr qgs qcj qgt qkX qgu qgv qgw qck qgx qkY qgy qgz qgA qcl qgB qkZ qgC qgD qgE qcm qgF qk0 qgG qgH qgI qcn qgJ qk1 qgK qgL qgM qco qgN qk2 qgO qgP qgQ qcp qgR qk3 qgS qgT qgU qcq qgV qk4 qgW qgX qgY qcr qgZ qk5 qg0 qg1 qg2 qcs qg3:Value} {uW lJ mR qt:Tok}
    {ug Cg uX Hz yd:ClassData} {YX YZ:Str} {qct:Addr} {Y0 Wi:List Value} {Y4 Y5:Bool} {Y6:List Str} {Wj:Option Bool} {Y7:Option Addr} {Y8 Y9 Y_ Za Zb:Option Value} {Rn Ro:Str} {Wk:Addr} {Rp M6:List Value} {Rq Rr:Bool} {Rt:List Str} {M7:Option Bool} {Ru:Option Addr} {Rv Rw Rx Ry Rz:Option Value}
    (M8:W.nsIn K mainGlobals "Web" = some (some (.ref bT)))
    (n6:W.nsIn K mainGlobals "PointError" = some (some (.ref aN)))
    (Ci:W.nsIn K mainGlobals "NoWeb" = some (some (.ref fK)))
    (uY:W.nsIn K mainGlobals "NoFixed" = some (some (.ref cC)))
    (HB:W.nsIn K mainGlobals "Shut" = some (some (.ref bR)))
    (yg:W.nsIn K mainGlobals "Barred" = some (some (.ref aW)))
    (a1:W.nsIn K mainGlobals "steps_along" = some (some (.ref cW)))
    (l1:K.lookup cW=some ⟨oc1,od1,.func (W.fnOf "steps_along" "steps_along" (aH cQ) (aF cQ) (ak cQ) .none kV1 dc1 pm1 an1 cd1 ct1),sl1⟩) (c1:W.codeIn K cd1 "steps_along" = true) (k1:W.keepIn K (.ref cW)=true)
    (a2:W.nsIn K mainGlobals "ways_along" = some (some (.ref dH)))
    (l2:K.lookup dH=some ⟨oc2,od2,.func (W.fnOf "ways_along" "ways_along" (aH dD) (aF dD) (ak dD) .none kV2 dc2 pm2 an2 cd2 ct2),sl2⟩) (c2:W.codeIn K cd2 "ways_along" = true) (k2:W.keepIn K (.ref dH)=true)
    (a3:W.nsIn K mainGlobals "found_along" = some (some (.ref cX)))
    (l3:K.lookup cX=some ⟨oc3,od3,.func (W.fnOf "found_along" "found_along" (aH cG) (aF cG) (ak cG) .none kV3 dc3 pm3 an3 cd3 ct3),sl3⟩) (c3:W.codeIn K cd3 "found_along" = true) (k3:W.keepIn K (.ref cX)=true)
    (a4:W.nsIn K mainGlobals "bars" = some (some (.ref pJ)))
    (l4:K.lookup pJ=some ⟨oc4,od4,.func (W.fnOf "bars" "bars" (aH nO) (aF nO) (ak nO) .none kV4 dc4 pm4 an4 cd4 ct4),sl4⟩) (c4:W.codeIn K cd4 "bars" = true) (k4:W.keepIn K (.ref pJ)=true)
    (a5:W.findIn K (.ref bR) "__init__" = some (some (.ref dX))) (i5:W.isFn K (.ref dX)=true)
    (l5:K.lookup dX=some ⟨oc5,od5,.func (W.fnOf "__init__" "Shut.__init__" (aH fC) (aF fC) (ak fC) .none kV5 dc5 pm5 an5 cd5 ct5),sl5⟩) (c5:W.codeIn K cd5 "Shut.__init__" = true) (k5:W.keepIn K (.ref dX)=true)
    (a6:W.findIn K (.ref aW) "__init__" = some (some (.ref cH))) (i6:W.isFn K (.ref cH)=true)
    (l6:K.lookup cH=some ⟨oc6,od6,.func (W.fnOf "__init__" "Barred.__init__" (aH cR) (aF cR) (ak cR) .none kV6 dc6 pm6 an6 cd6 ct6),sl6⟩) (c6:W.codeIn K cd6 "Barred.__init__" = true) (k6:W.keepIn K (.ref cH)=true)
    (a7:W.nsIn K mainGlobals "is_list" = some (some (.ref iI)))
    (l7:K.lookup iI=some ⟨oc7,od7,.func (W.fnOf "is_list" "is_list" (aH iD) (aF iD) (ak iD) .none kV7 dc7 pm7 an7 cd7 ct7),sl7⟩) (c7:W.codeIn K cd7 "is_list" = true) (k7:W.keepIn K (.ref iI)=true)
    (a8:W.nsIn K mainGlobals "is_whole" = some (some (.ref gH)))
    (l8:K.lookup gH=some ⟨oc8,od8,.func (W.fnOf "is_whole" "is_whole" (aH gC) (aF gC) (ak gC) .none kV8 dc8 pm8 an8 cd8 ct8),sl8⟩) (c8:W.codeIn K cd8 "is_whole" = true) (k8:W.keepIn K (.ref gH)=true)
    (a9:W.nsIn K mainGlobals "is_name" = some (some (.ref iJ)))
    (l9:K.lookup iJ=some ⟨oc9,od9,.func (W.fnOf "is_name" "is_name" (aH gR) (aF gR) (ak gR) .none kV9 dc9 pm9 an9 cd9 ct9),sl9⟩) (c9:W.codeIn K cd9 "is_name" = true) (k9:W.keepIn K (.ref iJ)=true)
    (a10:W.nsIn K mainGlobals "are_points" = some (some (.ref dI)))
    (l10:K.lookup dI=some ⟨qkw,qjn,.func (W.fnOf "are_points" "are_points" (aH cT) (aF cT) (ak cT) .none qeM qeN qeO qeb qbU qeP),qjX⟩) (c10:W.codeIn K qbU "are_points" = true) (k10:W.keepIn K (.ref dI)=true)
    (a11:W.nsIn K mainGlobals "is_tie" = some (some (.ref jD)))
    (l11:K.lookup jD=some ⟨qkx,qjo,.func (W.fnOf "is_tie" "is_tie" (aH jc) (aF jc) (ak jc) .none qeQ qeR qeS qec qbV qeT),qjY⟩) (c11:W.codeIn K qbV "is_tie" = true) (k11:W.keepIn K (.ref jD)=true)
    (a12:W.nsIn K mainGlobals "are_ties" = some (some (.ref gJ)))
    (l12:K.lookup gJ=some ⟨qky,qjp,.func (W.fnOf "are_ties" "are_ties" (aH fM) (aF fM) (ak fM) .none qeU qeV qeW qee qbW qeX),qjZ⟩) (c12:W.codeIn K qbW "are_ties" = true) (k12:W.keepIn K (.ref gJ)=true)
    (a13:W.findIn K (.ref bT) "__init__" = some (some (.ref fQ))) (i13:W.isFn K (.ref fQ)=true)
    (l13:K.lookup fQ=some ⟨qkz,qjq,.func (W.fnOf "__init__" "Web.__init__" (aH fO) (aF fO) (ak fO) .none qeY qeZ qe0 qef qbX qe1),qj0⟩) (c13:W.codeIn K qbX "Web.__init__" = true) (k13:W.keepIn K (.ref fQ)=true)
    (a14:W.findIn K (.ref bT) "points" = some (some (.ref cY))) (i14:W.isFn K (.ref cY)=true)
    (l14:K.lookup cY=some ⟨qkA,qjr,.func (W.fnOf "points" "Web.points" (aH dF) (aF dF) (ak dF) .none qe2 qe3 qe4 qeg qbY qe5),qj1⟩) (c14:W.codeIn K qbY "Web.points" = true) (k14:W.keepIn K (.ref cY)=true)
    (a15:W.findIn K (.ref bT) "ties" = some (some (.ref fU))) (i15:W.isFn K (.ref fU)=true)
    (l15:K.lookup fU=some ⟨qkB,qjs,.func (W.fnOf "ties" "Web.ties" (aH gD) (aF gD) (ak gD) .none qe6 qe7 qe8 qeh qbZ qe9),qj2⟩) (c15:W.codeIn K qbZ "Web.ties" = true) (k15:W.keepIn K (.ref fU)=true)
    (a16:W.findIn K (.ref bT) "many" = some (some (.ref fV))) (i16:W.isFn K (.ref fV)=true)
    (l16:K.lookup fV=some ⟨qkC,qjt,.func (W.fnOf "many" "Web.many" (aH gF) (aF gF) (ak gF) .none qe_ qfa qfb qei qb0 qfc),qj3⟩) (c16:W.codeIn K qb0 "Web.many" = true) (k16:W.keepIn K (.ref fV)=true)
    (a17:W.nsIn K mainGlobals "is_number" = some (some (.ref fG)))
    (l17:K.lookup fG=some ⟨qkD,qju,.func (W.fnOf "is_number" "is_number" (aH fD) (aF fD) (ak fD) .none qfd qfe qff qej qb1 qfg),qj4⟩) (c17:W.codeIn K qb1 "is_number" = true) (k17:W.keepIn K (.ref fG)=true)
    (a18:W.nsIn K mainGlobals "is_lead" = some (some (.ref iK)))
    (l18:K.lookup iK=some ⟨qkE,qjv,.func (W.fnOf "is_lead" "is_lead" (aH iG) (aF iG) (ak iG) .none qfh qfi qfj qek qb2 qfk),qj5⟩) (c18:W.codeIn K qb2 "is_lead" = true) (k18:W.keepIn K (.ref iK)=true)
    (a19:W.nsIn K mainGlobals "lot_without_way_in" = some (some (.ref bH)))
    (l19:K.lookup bH=some ⟨qkF,qjw,.func (W.fnOf "lot_without_way_in" "lot_without_way_in" (aH bB) (aF bB) (ak bB) .none qfl qfm qfn qel qb3 qfo),qj6⟩) (c19:W.codeIn K qb3 "lot_without_way_in" = true) (k19:W.keepIn K (.ref bH)=true)
    (a20:W.nsIn K mainGlobals "sure_of_fixed" = some (some (.ref bU)))
    (l20:K.lookup bU=some ⟨qkG,qjx,.func (W.fnOf "sure_of_fixed" "sure_of_fixed" (aH cg) (aF cg) (ak cg) .none qfp qfq qfr qem qb4 qfs),qj7⟩) (c20:W.codeIn K qb4 "sure_of_fixed" = true) (k20:W.keepIn K (.ref bU)=true)
    (a21:W.nsIn K mainGlobals "with_one_more" = some (some (.ref cu)))
    (l21:K.lookup cu=some ⟨qkH,qjy,.func (W.fnOf "with_one_more" "with_one_more" (aH cj) (aF cj) (ak cj) .none qft qfu qfv qen qb5 qfw),qj8⟩) (c21:W.codeIn K qb5 "with_one_more" = true) (k21:W.keepIn K (.ref cu)=true)
    (a22:W.nsIn K mainGlobals "lot_shut_by" = some (some (.ref cZ)))
    (l22:K.lookup cZ=some ⟨qkI,qjz,.func (W.fnOf "lot_shut_by" "lot_shut_by" (aH cU) (aF cU) (ak cU) .none qfx qfy qfz qeo qb6 qfA),qj9⟩) (c22:W.codeIn K qb6 "lot_shut_by" = true) (k22:W.keepIn K (.ref cZ)=true)
    (a23:W.nsIn K mainGlobals "sure_of_a_pointing" = some (some (.ref bI)))
    (l23:K.lookup bI=some ⟨qkJ,qjA,.func (W.fnOf "sure_of_a_pointing" "sure_of_a_pointing" (aH bG) (aF bG) (ak bG) .none qfB qfC qfD qep qb7 qfE),qj_⟩) (c23:W.codeIn K qb7 "sure_of_a_pointing" = true) (k23:W.keepIn K (.ref bI)=true)
    (a24:W.nsIn K mainGlobals "free_ties" = some (some (.ref fH)))
    (l24:K.lookup fH=some ⟨qkK,qjB,.func (W.fnOf "free_ties" "free_ties" (aH dU) (aF dU) (ak dU) .none qfF qfG qfH qeq qb8 qfI),qka⟩) (c24:W.codeIn K qb8 "free_ties" = true) (k24:W.keepIn K (.ref fH)=true)
    (a25:W.nsIn K mainGlobals "pointed_with" = some (some (.ref cI)))
    (l25:K.lookup cI=some ⟨qkL,qjC,.func (W.fnOf "pointed_with" "pointed_with" (aH b_) (aF b_) (ak b_) .none qfJ qfK qfL qer qb9 qfM),qkb⟩) (c25:W.codeIn K qb9 "pointed_with" = true) (k25:W.keepIn K (.ref cI)=true)
    (a26:W.nsIn K mainGlobals "_law_pot" = some (some (.ref vW)))
    (l26:K.lookup vW=some ⟨qkM,qjD,.func (W.fnOf "_law_pot" "_law_pot" (aH vP) (aF vP) (ak vP) .none qfN qfO qfP qes qb_ qfQ),qkc⟩) (c26:W.codeIn K qb_ "_law_pot" = true) (k26:W.keepIn K (.ref vW)=true)
    (a27:W.nsIn K mainGlobals "_law_take" = some (some (.ref pP)))
    (l27:K.lookup pP=some ⟨qkN,qjE,.func (W.fnOf "_law_take" "_law_take" (aH pD) (aF pD) (ak pD) .none qfR qfS qfT qet qca qfU),qkd⟩) (c27:W.codeIn K qca "_law_take" = true) (k27:W.keepIn K (.ref pP)=true)
    (a28:W.nsIn K mainGlobals "_law_names" = some (some (.ref lZ)))
    (l28:K.lookup lZ=some ⟨qkO,qjF,.func (W.fnOf "_law_names" "_law_names" (aH j6) (aF j6) (ak j6) .none qfV qfW qfX qeu qcb qfY),qke⟩) (c28:W.codeIn K qcb "_law_names" = true) (k28:W.keepIn K (.ref lZ)=true)
    (a29:W.nsIn K mainGlobals "_law_mixed" = some (some (.ref mj)))
    (l29:K.lookup mj=some ⟨qkP,qjG,.func (W.fnOf "_law_mixed" "_law_mixed" (aH lU) (aF lU) (ak lU) .none qfZ qf0 qf1 qev qcc qf2),qkf⟩) (c29:W.codeIn K qcc "_law_mixed" = true) (k29:W.keepIn K (.ref mj)=true)
    (a30:W.nsIn K mainGlobals "_law_tie" = some (some (.ref vZ)))
    (l30:K.lookup vZ=some ⟨qkQ,qjH,.func (W.fnOf "_law_tie" "_law_tie" (aH vQ) (aF vQ) (ak vQ) .none qf3 qf4 qf5 qew qcd qf6),qkg⟩) (c30:W.codeIn K qcd "_law_tie" = true) (k30:W.keepIn K (.ref vZ)=true)
    (a31:W.nsIn K mainGlobals "_law_web" = some (some (.ref wg)))
    (l31:K.lookup wg=some ⟨qkR,qjI,.func (W.fnOf "_law_web" "_law_web" (aH qF) (aF qF) (ak qF) .none qf7 qf8 qf9 qex qce qf_),qkh⟩) (c31:W.codeIn K qce "_law_web" = true) (k31:W.keepIn K (.ref wg)=true)
    (a32:W.nsIn K mainGlobals "_law_reached" = some (some (.ref iQ)))
    (l32:K.lookup iQ=some ⟨qkS,qjJ,.func (W.fnOf "_law_reached" "_law_reached" (aH iH) (aF iH) (ak iH) .none qga qgb qgc qey qcf qgd),qki⟩) (c32:W.codeIn K qcf "_law_reached" = true) (k32:W.keepIn K (.ref iQ)=true)
    (a33:W.nsIn K mainGlobals "_law_is_strong" = some (some (.ref fJ)))
    (l33:K.lookup fJ=some ⟨qkT,qjK,.func (W.fnOf "_law_is_strong" "_law_is_strong" (aH dW) (aF dW) (ak dW) .none qge qgf qgg qez qcg qgh),qkj⟩) (c33:W.codeIn K qcg "_law_is_strong" = true) (k33:W.keepIn K (.ref fJ)=true)
    (a34:W.nsIn K mainGlobals "_law_is_lot" = some (some (.ref jF)))
    (l34:K.lookup jF=some ⟨qkU,qjL,.func (W.fnOf "_law_is_lot" "_law_is_lot" (aH ig) (aF ig) (ak ig) .none qgi qgj qgk qeA qch qgl),qkk⟩) (c34:W.codeIn K qch "_law_is_lot" = true) (k34:W.keepIn K (.ref jF)=true)
    (a35:W.nsIn K mainGlobals "_law_crossing" = some (some (.ref gK)))
    (l35:K.lookup gK=some ⟨qkV,qjM,.func (W.fnOf "_law_crossing" "_law_crossing" (aH fP) (aF fP) (ak fP) .none qgm qgn qgo qeB qci qgp),qkl⟩) (c35:W.codeIn K qci "_law_crossing" = true) (k35:W.keepIn K (.ref gK)=true)
    (a36:W.nsIn K mainGlobals "_law_leads_in" = some (some (.ref gM)))
    (l36:K.lookup gM=some ⟨qkW,qjN,.func (W.fnOf "_law_leads_in" "_law_leads_in" (aH gG) (aF gG) (ak gG) .none qgq qgr qgs qeC qcj qgt),qkm⟩) (c36:W.codeIn K qcj "_law_leads_in" = true) (k36:W.keepIn K (.ref gM)=true)
    (a37:W.nsIn K mainGlobals "_law_fixed" = some (some (.ref mz)))
    (l37:K.lookup mz=some ⟨qkX,qjO,.func (W.fnOf "_law_fixed" "_law_fixed" (aH lV) (aF lV) (ak lV) .none qgu qgv qgw qeD qck qgx),qkn⟩) (c37:W.codeIn K qck "_law_fixed" = true) (k37:W.keepIn K (.ref mz)=true)
    (a38:W.nsIn K mainGlobals "_law_state" = some (some (.ref mC)))
    (l38:K.lookup mC=some ⟨qkY,qjP,.func (W.fnOf "_law_state" "_law_state" (aH j7) (aF j7) (ak j7) .none qgy qgz qgA qeE qcl qgB),qko⟩) (c38:W.codeIn K qcl "_law_state" = true) (k38:W.keepIn K (.ref mC)=true)
    (a39:W.nsIn K mainGlobals "_law_bars" = some (some (.ref jG)))
    (l39:K.lookup jG=some ⟨qkZ,qjQ,.func (W.fnOf "_law_bars" "_law_bars" (aH jy) (aF jy) (ak jy) .none qgC qgD qgE qeF qcm qgF),qkp⟩) (c39:W.codeIn K qcm "_law_bars" = true) (k39:W.keepIn K (.ref jG)=true)
    (a40:W.nsIn K mainGlobals "_law_is_left" = some (some (.ref iR)))
    (l40:K.lookup iR=some ⟨qk0,qjR,.func (W.fnOf "_law_is_left" "_law_is_left" (aH gU) (aF gU) (ak gU) .none qgG qgH qgI qeG qcn qgJ),qkq⟩) (c40:W.codeIn K qcn "_law_is_left" = true) (k40:W.keepIn K (.ref iR)=true)
    (a41:W.nsIn K mainGlobals "_law_keeps" = some (some (.ref kE)))
    (l41:K.lookup kE=some ⟨qk1,qjS,.func (W.fnOf "_law_keeps" "_law_keeps" (aH jz) (aF jz) (ak jz) .none qgK qgL qgM qeH qco qgN),qkr⟩) (c41:W.codeIn K qco "_law_keeps" = true) (k41:W.keepIn K (.ref kE)=true)
    (a42:W.nsIn K mainGlobals "_law_said" = some (some (.ref pU)))
    (l42:K.lookup pU=some ⟨qk2,qjT,.func (W.fnOf "_law_said" "_law_said" (aH pF) (aF pF) (ak pF) .none qgO qgP qgQ qeI qcp qgR),qks⟩) (c42:W.codeIn K qcp "_law_said" = true) (k42:W.keepIn K (.ref pU)=true)
    (a43:W.nsIn K mainGlobals "_law_right" = some (some (.ref mD)))
    (l43:K.lookup mD=some ⟨qk3,qjU,.func (W.fnOf "_law_right" "_law_right" (aH j8) (aF j8) (ak j8) .none qgS qgT qgU qeJ qcq qgV),qkt⟩) (c43:W.codeIn K qcq "_law_right" = true) (k43:W.keepIn K (.ref mD)=true)
    (a44:W.nsIn K mainGlobals "_law_told_again" = some (some (.ref dJ)))
    (l44:K.lookup dJ=some ⟨qk4,qjV,.func (W.fnOf "_law_told_again" "_law_told_again" (aH dG) (aF dG) (ak dG) .none qgW qgX qgY qeK qcr qgZ),qku⟩) (c44:W.codeIn K qcr "_law_told_again" = true) (k44:W.keepIn K (.ref dJ)=true)
    (a45:W.nsIn K mainGlobals "law" = some (some (.ref yG)))
    (l45:K.lookup yG=some ⟨qk5,qjW,.func (W.fnOf "law" "law" (aH vR) (aF vR) (ak vR) .none qg0 qg1 qg2 qeL qcs qg3),qkv⟩) (c45:W.codeIn K qcs "law" = true) (k45:W.keepIn K (.ref yG)=true)
    (jY:W.nsIn K mainGlobals "LETTERS" = some (some (.str "abcdefghijklmnopqrstuvwxyz" uW)))
    (eE:W.nsIn K mainGlobals "MOST_LETTERS" = some (some (.int 4 lJ)))
    (fW:W.nsIn K mainGlobals "MOST_POINTS" = some (some (.int 9 mR)))
    (iw:W.nsIn K mainGlobals "MOST_TIES" = some (some (.int 20 qt)))
    (M9:W.plainGet K bT Str.empty=true) (M_:W.hasDictIn K bT=true) (Nb:W.plainOver K bT=true) (Nf:W.findIn K (.ref bT) "__setattr__" = some (some (.builtin "object.__setattr__"))) (Ng:W.makesIn K bT=true) (Nh:W.keepIn K (.ref bT)=true)
    (Cj:W.findIn K (.ref bT) "names" = some none)
    (Ck:W.findIn K (.ref bT) "pairs" = some none)
    (Wm:W.nsIn K mainGlobals "len" = some none)
    (Wn:W.nsIn K mainGlobals "max" = some none)
    (Wo:W.nsIn K mainGlobals "min" = some none)
    (Wq:W.nsIn K mainGlobals "abs" = some none)
    (Cm:W.nsIn K mainGlobals "divmod" = some none)
    (HD:W.nsIn K mainGlobals "range" = some none)
    (Wr:W.nsIn K mainGlobals "zip" = some none)
    (Ni:W.nsIn K mainGlobals "list" = some none)
    (HF:W.nsIn K mainGlobals "tuple" = some none)
    (Ws:W.nsIn K mainGlobals "int" = some none)
    (Wt:W.nsIn K mainGlobals "str" = some none)
    (Wu:W.nsIn K mainGlobals "set" = some none)
    (Wv:W.nsIn K mainGlobals "all" = some none)
    (qu:W.nsIn K mainGlobals "isinstance" = some none)
    (rU:W.nsIn K mainGlobals "enumerate" = some none)
    (Ww:W.nsIn K mainGlobals "any" = some none)
    (Nj:W.nsIn K mainGlobals "dict" = some none)
    (Cp:W.nsIn K mainGlobals "sorted" = some none)
    (Nk:W.nsIn K mainGlobals "repr" = some none)
    (Np:W.nsIn K mainGlobals "bool" = some none)
    (Wx:W.nsIn K mainGlobals "sum" = some none)
    (kY:W.clsIn K aN=some ug) (kZ:ug.mro=[.ref aN,.type "ValueError",.type "Exception",.type "BaseException",.type "object"]) (n_:W.typeIn K (.ref aN)=some (.type "type"))
    (Cq:W.clsIn K fK=some Cg) (Cr:Cg.mro=[.ref fK,.ref aN,.type "ValueError",.type "Exception",.type "BaseException",.type "object"]) (Cu:W.typeIn K (.ref fK)=some (.type "type"))
    (uZ:W.clsIn K cC=some uX) (u0:uX.mro=[.ref cC,.ref aN,.type "ValueError",.type "Exception",.type "BaseException",.type "object"]) (u5:W.typeIn K (.ref cC)=some (.type "type"))
    (zK:W.clsIn K bR=some Hz) (zL:Hz.mro=[.ref bR,.ref aN,.type "ValueError",.type "Exception",.type "BaseException",.type "object"]) (zM:W.typeIn K (.ref bR)=some (.type "type"))
    (tD:W.clsIn K aW=some yd) (tE:yd.mro=[.ref aW,.ref aN,.type "ValueError",.type "Exception",.type "BaseException",.type "object"]) (tG:W.typeIn K (.ref aW)=some (.type "type"))
    (gO:W.excIn K aN lM "ValueError.__new__" = true)
    (wK:W.excIn K fK lM "ValueError.__new__" = true)
    (oO:W.excIn K cC lM "ValueError.__new__" = true)
    (oh:W.isClsIn K aN=true) (qcu:W.specialIn K (.ref aN) "__getattribute__" = some (some (.builtin "type.__getattribute__"))) (qcv:W.readsIn K aN (.type "type")=true) (qcw:W.findCls K (.ref aN) (.type "type") "__init__" = some (.val (.builtin "ValueError.__init__")))
    (JL:W.specialIn K (.builtin "object.__class__") "__get__" = some (some (.builtin "getset_descriptor.__get__"))) (JM:W.takesIn K (.builtin "object.__class__")=some true)
    (Nq:GQ [aN,fK,cC,bR,aW]=true)
    (Cv:Cg.hasDict=true) (Cw:W.findIn K (.ref fK) "__getattribute__" = some (some (.builtin "BaseException.__getattribute__"))) (Cy:W.findIn K (.ref fK) "__getattr__" = some none) (Cz:W.findIn K (.ref fK) "__class__" = some (some (.builtin "object.__class__"))) (CG:W.keepIn K (.ref fK)=true)
    (u6:uX.hasDict=true) (u9:W.findIn K (.ref cC) "__getattribute__" = some (some (.builtin "BaseException.__getattribute__"))) (u_:W.findIn K (.ref cC) "__getattr__" = some none) (vd:W.findIn K (.ref cC) "__class__" = some (some (.builtin "object.__class__"))) (vf:W.keepIn K (.ref cC)=true)
    (zN:Hz.hasDict=true) (zO:W.findIn K (.ref bR) "__getattribute__" = some (some (.builtin "BaseException.__getattribute__"))) (zP:W.findIn K (.ref bR) "__getattr__" = some none) (zQ:W.findIn K (.ref bR) "__class__" = some (some (.builtin "object.__class__"))) (wW:W.keepIn K (.ref bR)=true)
    (tH:yd.hasDict=true) (tK:W.findIn K (.ref aW) "__getattribute__" = some (some (.builtin "BaseException.__getattribute__"))) (tM:W.findIn K (.ref aW) "__getattr__" = some none) (tO:W.findIn K (.ref aW) "__class__" = some (some (.builtin "object.__class__"))) (oX:W.keepIn K (.ref aW)=true)
    (HJ:K.lookup bR=some (excClassObj YX YZ bR qct Y0 [.ref aN,.type "ValueError",.type "Exception",.type "BaseException",.type "object"] Y4 Y6 Wi Y5 Wj Y7 Y8 Y9 Y_ Za Zb "ValueError.__new__")) (HN:W.findIn K (.ref bR) "__setattr__" = some (some (.builtin "object.__setattr__")))
    (iB:W.findIn K (.ref bR) "lot" = some none)
    (yh:K.lookup aW=some (excClassObj Rn Ro aW Wk Rp [.ref aN,.type "ValueError",.type "Exception",.type "BaseException",.type "object"] Rq Rt M6 Rr M7 Ru Rv Rw Rx Ry Rz "ValueError.__new__")) (yj:W.findIn K (.ref aW) "__setattr__" = some (some (.builtin "object.__setattr__")))
    (fX:W.findIn K (.ref aW) "tie" = some none)
    (fY:W.findIn K (.ref aW) "lot" = some none)
    (jK:W.nsIn K mainGlobals "ValueError" = some none)
    : ∃fd:FuncData,(∀(s:Shared) (v:Value),BindsTo s fd ⟨[v],[]⟩ [("_law_script",v)])∧∀base:Heap,K.In base→base.Ns mainGlobals mg→bV l.prog w K mg base jN 9 fa fd ["_law_script"] (Hy K):=by
  have e:=hfa.symm.trans (W.mg_of X G a45);cases e;have F1:=bD (st:=cQ) l1 c1 k1;have b1:=F1.binds (ps:=["web", "fixed"]) fun _ _ _ _ _ _=>dj fun _ _=>rfl;have F2:=bD (st:=dD) l2 c2 k2;have b2:=F2.binds (ps:=["start", "steps"]) fun _ _ _ _ _ _=>dj fun _ _=>rfl;have F3:=bD (st:=cG) l3 c3 k3;have b3:=F3.binds (ps:=["web", "start", "steps"]) fun _ _ _ _ _ _=>qp fun _ _ _=>rfl;have F4:=bD (st:=nO) l4 c4 k4;have b4:=F4.binds (ps:=["web"]) fun _ _ _ _ _ _=>nZ fun _=>rfl;have F5:=bD (st:=fC) l5 c5 k5;have b5:=F5.binds (ps:=["self", "lot"]) fun _ _ _ _ _ _=>dj fun _ _=>rfl;have F6:=bD (st:=cR) l6 c6 k6;have b6:=F6.binds (ps:=["self", "tie", "lot"]) fun _ _ _ _ _ _=>qp fun _ _ _=>rfl;have F7:=bD (st:=iD) l7 c7 k7;have b7:=F7.binds (ps:=["thing"]) fun _ _ _ _ _ _=>nZ fun _=>rfl;have F8:=bD (st:=gC) l8 c8 k8;have b8:=F8.binds (ps:=["thing"]) fun _ _ _ _ _ _=>nZ fun _=>rfl;have F9:=bD (st:=gR) l9 c9 k9;have b9:=F9.binds (ps:=["thing"]) fun _ _ _ _ _ _=>nZ fun _=>rfl;have F10:=bD (st:=cT) l10 c10 k10;have b10:=F10.binds (ps:=["thing"]) fun _ _ _ _ _ _=>nZ fun _=>rfl;have F11:=bD (st:=jc) l11 c11 k11;have b11:=F11.binds (ps:=["thing", "points"]) fun _ _ _ _ _ _=>dj fun _ _=>rfl;have F12:=bD (st:=fM) l12 c12 k12;have b12:=F12.binds (ps:=["thing", "points"]) fun _ _ _ _ _ _=>dj fun _ _=>rfl;have F13:=bD (st:=fO) l13 c13 k13;have b13:=F13.binds (ps:=["self", "points", "ties"]) fun _ _ _ _ _ _=>qp fun _ _ _=>rfl;have F14:=bD (st:=dF) l14 c14 k14;have b14:=F14.binds (ps:=["self"]) fun _ _ _ _ _ _=>nZ fun _=>rfl;have F15:=bD (st:=gD) l15 c15 k15;have b15:=F15.binds (ps:=["self"]) fun _ _ _ _ _ _=>nZ fun _=>rfl;have F16:=bD (st:=gF) l16 c16 k16;have b16:=F16.binds (ps:=["self"]) fun _ _ _ _ _ _=>nZ fun _=>rfl;have F17:=bD (st:=fD) l17 c17 k17;have b17:=F17.binds (ps:=["web", "thing"]) fun _ _ _ _ _ _=>dj fun _ _=>rfl;have F18:=bD (st:=iG) l18 c18 k18;have b18:=F18.binds (ps:=["thing"]) fun _ _ _ _ _ _=>nZ fun _=>rfl;have F19:=bD (st:=bB) l19 c19 k19;have b19:=F19.binds (ps:=["web", "steps"]) fun _ _ _ _ _ _=>dj fun _ _=>rfl;have F20:=bD (st:=cg) l20 c20 k20;have b20:=F20.binds (ps:=["web", "thing"]) fun _ _ _ _ _ _=>dj fun _ _=>rfl;have F21:=bD (st:=cj) l21 c21 k21;have b21:=F21.binds (ps:=["fixed", "number", "lead"]) fun _ _ _ _ _ _=>qp fun _ _ _=>rfl;have F22:=bD (st:=cU) l22 c22 k22;have b22:=F22.binds (ps:=["web", "fixed"]) fun _ _ _ _ _ _=>dj fun _ _=>rfl;have F23:=bD (st:=bG) l23 c23 k23;have b23:=F23.binds (ps:=["web", "fixed"]) fun _ _ _ _ _ _=>dj fun _ _=>rfl;have F24:=bD (st:=dU) l24 c24 k24;have b24:=F24.binds (ps:=["web", "fixed"]) fun _ _ _ _ _ _=>dj fun _ _=>rfl;have F25:=bD (st:=b_) l25 c25 k25;have b25:=F25.binds (ps:=["web", "fixed"]) fun _ _ _ _ _ _=>dj fun _ _=>rfl;have F26:=bD (st:=vP) l26 c26 k26;have b26:=F26.binds (ps:=["_law_script", "_law_k"]) fun _ _ _ _ _ _=>dj fun _ _=>rfl;have F27:=bD (st:=pD) l27 c27 k27;have b27:=F27.binds (ps:=["_law_pot_here", "_law_many"]) fun _ _ _ _ _ _=>dj fun _ _=>rfl;have F28:=bD (st:=j6) l28 c28 k28;have b28:=F28.binds (ps:=["_law_pot_here", "_law_many"]) fun _ _ _ _ _ _=>dj fun _ _=>rfl;have F29:=bD (st:=lU) l29 c29 k29;have b29:=F29.binds (ps:=["_law_pot_here", "_law_things"]) fun _ _ _ _ _ _=>dj fun _ _=>rfl;have F30:=bD (st:=vQ) l30 c30 k30;have b30:=F30.binds (ps:=["_law_pot_here", "_law_names_here"]) fun _ _ _ _ _ _=>dj fun _ _=>rfl;have F31:=bD (st:=qF) l31 c31 k31;have b31:=F31.binds (ps:=["_law_pot_here", "_law_points", "_law_most"]) fun _ _ _ _ _ _=>qp fun _ _ _=>rfl;have F32:=bD (st:=iH) l32 c32 k32;have b32:=F32.binds (ps:=["_law_web_here", "_law_pointing", "_law_start"]) fun _ _ _ _ _ _=>qp fun _ _ _=>rfl;have F33:=bD (st:=dW) l33 c33 k33;have b33:=F33.binds (ps:=["_law_web_here", "_law_pointing"]) fun _ _ _ _ _ _=>dj fun _ _=>rfl;have F34:=bD (st:=ig) l34 c34 k34;have b34:=F34.binds (ps:=["_law_web_here", "_law_lot"]) fun _ _ _ _ _ _=>dj fun _ _=>rfl;have F35:=bD (st:=fP) l35 c35 k35;have b35:=F35.binds (ps:=["_law_web_here", "_law_lot"]) fun _ _ _ _ _ _=>dj fun _ _=>rfl;have F36:=bD (st:=gG) l36 c36 k36;have b36:=F36.binds (ps:=["_law_web_here", "_law_lot", "_law_k", "_law_turn"]) fun _ _ _ _ _ _=>qbT fun _ _ _ _=>rfl;have F37:=bD (st:=lV) l37 c37 k37;have b37:=F37.binds (ps:=["_law_pot_here", "_law_web_here"]) fun _ _ _ _ _ _=>dj fun _ _=>rfl;have F38:=bD (st:=j7) l38 c38 k38;have b38:=F38.binds (ps:=["_law_web_here", "_law_fixed_here"]) fun _ _ _ _ _ _=>dj fun _ _=>rfl;have F39:=bD (st:=jy) l39 c39 k39;have b39:=F39.binds (ps:=["_law_web_here", "_law_k"]) fun _ _ _ _ _ _=>dj fun _ _=>rfl;have F40:=bD (st:=gU) l40 c40 k40;have b40:=F40.binds (ps:=["_law_web_here", "_law_state_here", "_law_lot"]) fun _ _ _ _ _ _=>qp fun _ _ _=>rfl;have F41:=bD (st:=jz) l41 c41 k41;have b41:=F41.binds (ps:=["_law_web_here", "_law_fixed_here", "_law_row"]) fun _ _ _ _ _ _=>qp fun _ _ _=>rfl;have F42:=bD (st:=pF) l42 c42 k42;have b42:=F42.binds (ps:=["_law_made", "_law_fixed_here"]) fun _ _ _ _ _ _=>dj fun _ _=>rfl;have F43:=bD (st:=j8) l43 c43 k43;have b43:=F43.binds (ps:=["_law_made", "_law_web_here", "_law_fixed_here"]) fun _ _ _ _ _ _=>qp fun _ _ _=>rfl;have F44:=bD (st:=dG) l44 c44 k44;have b44:=F44.binds (ps:=["_law_made", "_law_fixed_here"]) fun _ _ _ _ _ _=>dj fun _ _=>rfl;have F45:=bD (st:=vR) l45 c45 k45;have b45:=F45.binds (ps:=["_law_script"]) fun _ _ _ _ _ _=>nZ fun _=>rfl;have T:Txt K mg {cW:=cW,jA:=W.fnOf "steps_along" "steps_along" (aH cQ) (aF cQ) (ak cQ) .none kV1 dc1 pm1 an1 cd1 ct1,dH:=dH,j_:=W.fnOf "ways_along" "ways_along" (aH dD) (aF dD) (ak dD) .none kV2 dc2 pm2 an2 cd2 ct2,cX:=cX,jB:=W.fnOf "found_along" "found_along" (aH cG) (aF cG) (ak cG) .none kV3 dc3 pm3 an3 cd3 ct3,pJ:=pJ,zu:=W.fnOf "bars" "bars" (aH nO) (aF nO) (ak nO) .none kV4 dc4 pm4 an4 cd4 ct4,dX:=dX,lW:=W.fnOf "__init__" "Shut.__init__" (aH fC) (aF fC) (ak fC) .none kV5 dc5 pm5 an5 cd5 ct5,cH:=cH,jC:=W.fnOf "__init__" "Barred.__init__" (aH cR) (aF cR) (ak cR) .none kV6 dc6 pm6 an6 cd6 ct6,iI:=iI,pK:=W.fnOf "is_list" "is_list" (aH iD) (aF iD) (ak iD) .none kV7 dc7 pm7 an7 cd7 ct7,gH:=gH,mZ:=W.fnOf "is_whole" "is_whole" (aH gC) (aF gC) (ak gC) .none kV8 dc8 pm8 an8 cd8 ct8,iJ:=iJ,pL:=W.fnOf "is_name" "is_name" (aH gR) (aF gR) (ak gR) .none kV9 dc9 pm9 an9 cd9 ct9,dI:=dI,kh:=W.fnOf "are_points" "are_points" (aH cT) (aF cT) (ak cT) .none qeM qeN qeO qeb qbU qeP,jD:=jD,sI:=W.fnOf "is_tie" "is_tie" (aH jc) (aF jc) (ak jc) .none qeQ qeR qeS qec qbV qeT,gJ:=gJ,m5:=W.fnOf "are_ties" "are_ties" (aH fM) (aF fM) (ak fM) .none qeU qeV qeW qee qbW qeX,fQ:=fQ,m6:=W.fnOf "__init__" "Web.__init__" (aH fO) (aF fO) (ak fO) .none qeY qeZ qe0 qef qbX qe1,cY:=cY,kj:=W.fnOf "points" "Web.points" (aH dF) (aF dF) (ak dF) .none qe2 qe3 qe4 qeg qbY qe5,fU:=fU,m7:=W.fnOf "ties" "Web.ties" (aH gD) (aF gD) (ak gD) .none qe6 qe7 qe8 qeh qbZ qe9,fV:=fV,m8:=W.fnOf "many" "Web.many" (aH gF) (aF gF) (ak gF) .none qe_ qfa qfb qei qb0 qfc,fG:=fG,lX:=W.fnOf "is_number" "is_number" (aH fD) (aF fD) (ak fD) .none qfd qfe qff qej qb1 qfg,iK:=iK,pO:=W.fnOf "is_lead" "is_lead" (aH iG) (aF iG) (ak iG) .none qfh qfi qfj qek qb2 qfk,bH:=bH,eU:=W.fnOf "lot_without_way_in" "lot_without_way_in" (aH bB) (aF bB) (ak bB) .none qfl qfm qfn qel qb3 qfo,bU:=bU,gq:=W.fnOf "sure_of_fixed" "sure_of_fixed" (aH cg) (aF cg) (ak cg) .none qfp qfq qfr qem qb4 qfs,cu:=cu,iM:=W.fnOf "with_one_more" "with_one_more" (aH cj) (aF cj) (ak cj) .none qft qfu qfv qen qb5 qfw,cZ:=cZ,jE:=W.fnOf "lot_shut_by" "lot_shut_by" (aH cU) (aF cU) (ak cU) .none qfx qfy qfz qeo qb6 qfA,bI:=bI,eV:=W.fnOf "sure_of_a_pointing" "sure_of_a_pointing" (aH bG) (aF bG) (ak bG) .none qfB qfC qfD qep qb7 qfE,fH:=fH,lY:=W.fnOf "free_ties" "free_ties" (aH dU) (aF dU) (ak dU) .none qfF qfG qfH qeq qb8 qfI,cI:=cI,jf:=W.fnOf "pointed_with" "pointed_with" (aH b_) (aF b_) (ak b_) .none qfJ qfK qfL qer qb9 qfM,vW:=vW,G3:=W.fnOf "_law_pot" "_law_pot" (aH vP) (aF vP) (ak vP) .none qfN qfO qfP qes qb_ qfQ,pP:=pP,zx:=W.fnOf "_law_take" "_law_take" (aH pD) (aF pD) (ak pD) .none qfR qfS qfT qet qca qfU,lZ:=lZ,vX:=W.fnOf "_law_names" "_law_names" (aH j6) (aF j6) (ak j6) .none qfV qfW qfX qeu qcb qfY,mj:=mj,vY:=W.fnOf "_law_mixed" "_law_mixed" (aH lU) (aF lU) (ak lU) .none qfZ qf0 qf1 qev qcc qf2,vZ:=vZ,G4:=W.fnOf "_law_tie" "_law_tie" (aH vQ) (aF vQ) (ak vQ) .none qf3 qf4 qf5 qew qcd qf6,wg:=wg,G5:=W.fnOf "_law_web" "_law_web" (aH qF) (aF qF) (ak qF) .none qf7 qf8 qf9 qex qce qf_,iQ:=iQ,pQ:=W.fnOf "_law_reached" "_law_reached" (aH iH) (aF iH) (ak iH) .none qga qgb qgc qey qcf qgd,fJ:=fJ,mq:=W.fnOf "_law_is_strong" "_law_is_strong" (aH dW) (aF dW) (ak dW) .none qge qgf qgg qez qcg qgh,jF:=jF,sJ:=W.fnOf "_law_is_lot" "_law_is_lot" (aH ig) (aF ig) (ak ig) .none qgi qgj qgk qeA qch qgl,gK:=gK,m9:=W.fnOf "_law_crossing" "_law_crossing" (aH fP) (aF fP) (ak fP) .none qgm qgn qgo qeB qci qgp,gM:=gM,m_:=W.fnOf "_law_leads_in" "_law_leads_in" (aH gG) (aF gG) (ak gG) .none qgq qgr qgs qeC qcj qgt,mz:=mz,wj:=W.fnOf "_law_fixed" "_law_fixed" (aH lV) (aF lV) (ak lV) .none qgu qgv qgw qeD qck qgx,mC:=mC,wk:=W.fnOf "_law_state" "_law_state" (aH j7) (aF j7) (ak j7) .none qgy qgz qgA qeE qcl qgB,jG:=jG,sO:=W.fnOf "_law_bars" "_law_bars" (aH jy) (aF jy) (ak jy) .none qgC qgD qgE qeF qcm qgF,iR:=iR,pR:=W.fnOf "_law_is_left" "_law_is_left" (aH gU) (aF gU) (ak gU) .none qgG qgH qgI qeG qcn qgJ,kE:=kE,rC:=W.fnOf "_law_keeps" "_law_keeps" (aH jz) (aF jz) (ak jz) .none qgK qgL qgM qeH qco qgN,pU:=pU,zy:=W.fnOf "_law_said" "_law_said" (aH pF) (aF pF) (ak pF) .none qgO qgP qgQ qeI qcp qgR,mD:=mD,wu:=W.fnOf "_law_right" "_law_right" (aH j8) (aF j8) (ak j8) .none qgS qgT qgU qeJ qcq qgV,dJ:=dJ,kI:=W.fnOf "_law_told_again" "_law_told_again" (aH dG) (aF dG) (ak dG) .none qgW qgX qgY qeK qcr qgZ,yG:=fa,G6:=W.fnOf "law" "law" (aH vR) (aF vR) (ak vR) .none qg0 qg1 qg2 qeL qcs qg3,jY:=.str "abcdefghijklmnopqrstuvwxyz" uW,eE:=.int 4 lJ,fW:=.int 9 mR,iw:=.int 20 qt,bT:=bT,aN:=aN,fK:=fK,cC:=cC,bR:=bR,aW:=aW}:={kJ:=F1,nP:=b1,nQ:=W.mg_of X G a1,pW:=F2,wz:=b2,wA:=W.mg_of X G a2,kO:=F3,nR:=b3,nU:=W.mg_of X G a3,Mf:=F4,Vt:=b4,Vu:=W.mg_of X G a4,yH:=F5,yI:=b5,tZ:=F6,t_:=b6,oK:=F7,sS:=b7,sU:=W.mg_of X G a7,pX:=F8,uK:=b8,uL:=W.mg_of X G a8,sV:=F9,xQ:=b9,xR:=W.mg_of X G a9,pY:=F10,wB:=b10,wC:=W.mg_of X G a10,Bg:=F11,JF:=b11,JG:=W.mg_of X G a11,uM:=F12,Bh:=b12,Bj:=W.mg_of X G a12,Bk:=F13,Bl:=b13,wD:=F14,pZ:=b14,qj:=⟨a14,i14,k14⟩,Bm:=F15,uN:=b15,uR:=⟨a15,i15,k15⟩,Bo:=F16,p7:=b16,ql:=⟨a16,i16,k16⟩,rD:=F17,yJ:=b17,yK:=W.mg_of X G a17,xT:=F18,Et:=b18,Eu:=W.mg_of X G a18,iy:=F19,k_:=b19,lg:=W.mg_of X G a19,lG:=F20,qG:=b20,qH:=W.mg_of X G a20,lH:=F21,qI:=b21,qJ:=W.mg_of X G a21,kW:=F22,nW:=b22,nY:=W.mg_of X G a22,iz:=F23,lq:=b23,lu:=W.mg_of X G a23,rE:=F24,yL:=b24,yM:=W.mg_of X G a24,mQ:=F25,rF:=b25,rG:=W.mg_of X G a25,Vv:=F26,Z5:=b26,Z6:=W.mg_of X G a26,jj:=F27,jH:=b27,jJ:=W.mg_of X G a27,G7:=F28,O1:=b28,O2:=W.mg_of X G a28,wF:=F29,zA:=b29,zB:=W.mg_of X G a29,Vw:=F30,Z7:=b30,Z8:=W.mg_of X G a30,Vx:=F31,Z9:=b31,Z_:=W.mg_of X G a31,oM:=F32,sW:=b32,sX:=W.mg_of X G a32,ni:=F33,rJ:=b33,rK:=W.mg_of X G a33,wG:=F34,Bp:=b34,Bq:=W.mg_of X G a34,qe:=F35,uO:=b35,uP:=W.mg_of X G a35,uQ:=F36,Br:=b36,Bs:=W.mg_of X G a36,G8:=F37,O4:=b37,O5:=W.mg_of X G a37,G9:=F38,O6:=b38,O7:=W.mg_of X G a38,Bt:=F39,JH:=b39,JK:=W.mg_of X G a39,xU:=F40,Ew:=b40,Ey:=W.mg_of X G a40,G_:=F41,O8:=b41,O9:=W.mg_of X G a41,Bu:=F42,Hg:=b42,Hh:=W.mg_of X G a42,wH:=F43,zE:=b43,zF:=W.mg_of X G a43,qg:=F44,wI:=b44,wJ:=W.mg_of X G a44,qaa:=F45,qdU:=b45,qdV:=W.mg_of X G a45,Ez:=W.mg_of X G jY,EY:=⟨uW,rfl⟩,rM:=W.mg_of X G eE,rN:=⟨lJ,rfl⟩,uc:=W.mg_of X G fW,ud:=⟨mR,rfl⟩,yN:=W.mg_of X G iw,yO:=⟨qt,rfl⟩,Hi:=Cj,zG:=Ck,qab:=W.mg_of X G M8,oN:=⟨M9,M_,Nb,Nf⟩,qac:=⟨Ng,a13,i13,Nh⟩,nm:=⟨W.mg_none_of X G Wm,W.mg_none_of X G Wn,W.mg_none_of X G Wo,W.mg_none_of X G Wq,W.mg_none_of X G Cm,W.mg_none_of X G HD,W.mg_none_of X G Wr,W.mg_none_of X G Ni,W.mg_none_of X G HF,W.mg_none_of X G Ws,W.mg_none_of X G Wt,W.mg_none_of X G Wu,W.mg_none_of X G Wv,W.mg_none_of X G qu⟩,LC:=⟨W.mg_none_of X G rU,W.mg_none_of X G Ww,W.mg_none_of X G Nj,W.mg_none_of X G Cp,W.mg_none_of X G Nk,W.mg_none_of X G Np⟩,nm3:=⟨W.mg_none_of X G Wx⟩,qm:=W.mg_of X G n6,Yt:=W.mg_of X G Ci,QW:=W.mg_of X G uY,Mg:=W.mg_of X G HB,Bv:=W.mg_of X G yg,gO:=gO,wK:=wK,oO:=oO,ib:=oh,tb:=n_,ini:=⟨qcu,qcv,qcw⟩,JL:=JL,JM:=JM,nd:=Em Nq,Vy:=⟨⟨_,Cq,Cr,Cv⟩,Cu,Cw,Cy,Cz,CG⟩,Mh:=⟨⟨_,uZ,u0,u6⟩,u5,u9,u_,vd,vf⟩,wL:=⟨⟨_,zK,zL,zN⟩,zM,zO,zP,zQ,wW⟩,jZ:=⟨⟨_,tD,tE,tH⟩,tG,tK,tM,tO,oX⟩,wM:=⟨⟨_,_,_,_,_,_,_,_,_,_,_,_,_,_,_,HJ⟩,gO,⟨_,kY,kZ⟩,a5,beq_iff_eq.mp i5,wW⟩,O_:=XC.set ⟨⟨_,zK,zL,zN⟩,zM,zO,zP,zQ,wW⟩ HN,iB:=iB,oR:=⟨⟨_,_,_,_,_,_,_,_,_,_,_,_,_,_,_,yh⟩,gO,⟨_,kY,kZ⟩,a6,beq_iff_eq.mp i6,oX⟩,xV:=XC.set ⟨⟨_,tD,tE,tH⟩,tG,tK,tM,tO,oX⟩ yj,fX:=fX,fY:=fY,jK:=W.mg_none_of X G jK};exact⟨_,fun s v=>.of_eq rfl,fun base _ _=>qbR T⟩
theorem walk {l:W.OpenLaw} {q:Program} {loose:List Str} {XP:(Str→Option Value)→Heap→Prop} {YP:World→Heap→Prop} {d:DefRec} {K:Params→W.Frag} (hn:l.most=some 63) (hdf:d.params.defaults=[])
    (hY:∀(w:World) (h:Heap),YP w h→(K w.params).In h)
    (F:∀(w:World) (mg:Str→Option Value) (fa:Addr) (h:Heap),(K w.params).In h→h.Ns mainGlobals mg→mg d.name=some (.ref fa)→
      ∃fd:FuncData,(∀(s:Shared) (u:Value),BindsTo s fd ⟨[u],[]⟩ [("_law_script",u)])∧∀base:Heap,(K w.params).In base→base.Ns mainGlobals mg→bV l.prog w (K w.params) mg base jN 9 fa fd ["_law_script"] (Hy (K w.params))) :
    W.WalkO q loose XP YP l.row.toRowW d [] (fun f vs=>PySem.call f vs):=
  L2.Xf (n:=63) (k:=9) (x:= "_law_script") (CX:=fun _=>jN) (sp:=fun w=>Hy (K w.params)) hn (by decide) hdf ⟨rfl,by decide,by decide,rfl⟩ hY F (fun _ _ a ns hl _ hS=>⟨a,ns,rfl,hS,hl,fun _=>rfl⟩) fun _ _ _ _ _ z=>z
end K41
end
set_option Elab.async false
set_option maxRecDepth 100000
set_option maxHeartbeats 4000000
open PySem PySem.W PyProof.Rows
namespace PySem.W.Fast
def tw7028527840775186755:=0
def tw15504523857667541012:=0
def tw9671239145473408264:=0
def tw15374860664920284313:=0
def tw16808661243616698492:=0
def tw9814473977753715427:=0
def tw7417766056341053741:=0
def tw10953020281537579279:=0
end PySem.W.Fast
set_option maxRecDepth 100000 in
set_option maxHeartbeats 0 in
theorem PySem.Challenge.cw_pointways_k41_whole_kept_or_shut_or_barr_holds : PySem.Challenge.rw_pointways_k41_whole_kept_or_shut_or_barr.Holds := by
  w_on;o_law;k_head;(case hw=>w_witness2)
  k_fill
  refine K41.walk (l:=PySem.Challenge.rw_pointways_k41_whole_kept_or_shut_or_barr) rfl rfl (fun w h Y=>W.kIn_of Y) ?F
  case F=>
    intro w mg fa h KX G hmg;refine' K41.all_mk KX G hmg ?M8 ?n6 ?Ci ?uY ?HB ?yg ?a1 ?l1 ?c1 ?k1 ?a2 ?l2 ?c2 ?k2 ?a3 ?l3 ?c3 ?k3 ?a4 ?l4 ?c4 ?k4 ?a5 ?i5 ?l5 ?c5 ?k5 ?a6 ?i6 ?l6 ?c6 ?k6 ?a7 ?l7 ?c7 ?k7 ?a8 ?l8 ?c8 ?k8 ?a9 ?l9 ?c9 ?k9 ?a10 ?l10 ?c10 ?k10 ?a11 ?l11 ?c11 ?k11 ?a12 ?l12 ?c12 ?k12 ?a13 ?i13 ?l13 ?c13 ?k13 ?a14 ?i14 ?l14 ?c14 ?k14 ?a15 ?i15 ?l15 ?c15 ?k15 ?a16 ?i16 ?l16 ?c16 ?k16 ?a17 ?l17 ?c17 ?k17 ?a18 ?l18 ?c18 ?k18 ?a19 ?l19 ?c19 ?k19 ?a20 ?l20 ?c20 ?k20 ?a21 ?l21 ?c21 ?k21 ?a22 ?l22 ?c22 ?k22 ?a23 ?l23 ?c23 ?k23 ?a24 ?l24 ?c24 ?k24 ?a25 ?l25 ?c25 ?k25 ?a26 ?l26 ?c26 ?k26 ?a27 ?l27 ?c27 ?k27 ?a28 ?l28 ?c28 ?k28 ?a29 ?l29 ?c29 ?k29 ?a30 ?l30 ?c30 ?k30 ?a31 ?l31 ?c31 ?k31 ?a32 ?l32 ?c32 ?k32 ?a33 ?l33 ?c33 ?k33 ?a34 ?l34 ?c34 ?k34 ?a35 ?l35 ?c35 ?k35 ?a36 ?l36 ?c36 ?k36 ?a37 ?l37 ?c37 ?k37 ?a38 ?l38 ?c38 ?k38 ?a39 ?l39 ?c39 ?k39 ?a40 ?l40 ?c40 ?k40 ?a41 ?l41 ?c41 ?k41 ?a42 ?l42 ?c42 ?k42 ?a43 ?l43 ?c43 ?k43 ?a44 ?l44 ?c44 ?k44 ?a45 ?l45 ?c45 ?k45 ?jY ?eE ?fW ?iw ?M9 ?M_ ?Nb ?Nf ?Ng ?Nh ?Cj ?Ck ?Wm ?Wn ?Wo ?Wq ?Cm ?HD ?Wr ?Ni ?HF ?Ws ?Wt ?Wu ?Wv ?qu ?rU ?Ww ?Nj ?Cp ?Nk ?Np ?Wx ?kY ?kZ ?n_ ?Cq ?Cr ?Cu ?uZ ?u0 ?u5 ?zK ?zL ?zM ?tD ?tE ?tG ?gO ?wK ?oO ?oh ?qcu ?qcv ?qcw ?JL ?JM ?Nq ?Cv ?Cw ?Cy ?Cz ?CG ?u6 ?u9 ?u_ ?vd ?vf ?zN ?zO ?zP ?zQ ?wW ?tH ?tK ?tM ?tO ?oX ?HJ ?HN ?iB ?yh ?yj ?fX ?fY ?jK
    (case M8=>k_is)
    (case n6=>k_is)
    (case Ci=>k_is)
    (case uY=>k_is)
    (case HB=>k_is)
    (case yg=>k_is)
    (case a1=>k_is)
    (case l1=>k_is)
    (case c1=>k_is)
    (case k1=>k_is)
    (case a2=>k_is)
    (case l2=>k_is)
    (case c2=>k_is)
    (case k2=>k_is)
    (case a3=>k_is)
    (case l3=>k_is)
    (case c3=>k_is)
    (case k3=>k_is)
    (case a4=>k_is)
    (case l4=>k_is)
    (case c4=>k_is)
    (case k4=>k_is)
    (case a5=>k_is)
    (case i5=>k_is)
    (case l5=>k_is)
    (case c5=>k_is)
    (case k5=>k_is)
    (case a6=>k_is)
    (case i6=>k_is)
    (case l6=>k_is)
    (case c6=>k_is)
    (case k6=>k_is)
    (case a7=>k_is)
    (case l7=>k_is)
    (case c7=>k_is)
    (case k7=>k_is)
    (case a8=>k_is)
    (case l8=>k_is)
    (case c8=>k_is)
    (case k8=>k_is)
    (case a9=>k_is)
    (case l9=>k_is)
    (case c9=>k_is)
    (case k9=>k_is)
    (case a10=>k_is)
    (case l10=>k_is)
    (case c10=>k_is)
    (case k10=>k_is)
    (case a11=>k_is)
    (case l11=>k_is)
    (case c11=>k_is)
    (case k11=>k_is)
    (case a12=>k_is)
    (case l12=>k_is)
    (case c12=>k_is)
    (case k12=>k_is)
    (case a13=>k_is)
    (case i13=>k_is)
    (case l13=>k_is)
    (case c13=>k_is)
    (case k13=>k_is)
    (case a14=>k_is)
    (case i14=>k_is)
    (case l14=>k_is)
    (case c14=>k_is)
    (case k14=>k_is)
    (case a15=>k_is)
    (case i15=>k_is)
    (case l15=>k_is)
    (case c15=>k_is)
    (case k15=>k_is)
    (case a16=>k_is)
    (case i16=>k_is)
    (case l16=>k_is)
    (case c16=>k_is)
    (case k16=>k_is)
    (case a17=>k_is)
    (case l17=>k_is)
    (case c17=>k_is)
    (case k17=>k_is)
    (case a18=>k_is)
    (case l18=>k_is)
    (case c18=>k_is)
    (case k18=>k_is)
    (case a19=>k_is)
    (case l19=>k_is)
    (case c19=>k_is)
    (case k19=>k_is)
    (case a20=>k_is)
    (case l20=>k_is)
    (case c20=>k_is)
    (case k20=>k_is)
    (case a21=>k_is)
    (case l21=>k_is)
    (case c21=>k_is)
    (case k21=>k_is)
    (case a22=>k_is)
    (case l22=>k_is)
    (case c22=>k_is)
    (case k22=>k_is)
    (case a23=>k_is)
    (case l23=>k_is)
    (case c23=>k_is)
    (case k23=>k_is)
    (case a24=>k_is)
    (case l24=>k_is)
    (case c24=>k_is)
    (case k24=>k_is)
    (case a25=>k_is)
    (case l25=>k_is)
    (case c25=>k_is)
    (case k25=>k_is)
    (case a26=>k_is)
    (case l26=>k_is)
    (case c26=>k_is)
    (case k26=>k_is)
    (case a27=>k_is)
    (case l27=>k_is)
    (case c27=>k_is)
    (case k27=>k_is)
    (case a28=>k_is)
    (case l28=>k_is)
    (case c28=>k_is)
    (case k28=>k_is)
    (case a29=>k_is)
    (case l29=>k_is)
    (case c29=>k_is)
    (case k29=>k_is)
    (case a30=>k_is)
    (case l30=>k_is)
    (case c30=>k_is)
    (case k30=>k_is)
    (case a31=>k_is)
    (case l31=>k_is)
    (case c31=>k_is)
    (case k31=>k_is)
    (case a32=>k_is)
    (case l32=>k_is)
    (case c32=>k_is)
    (case k32=>k_is)
    (case a33=>k_is)
    (case l33=>k_is)
    (case c33=>k_is)
    (case k33=>k_is)
    (case a34=>k_is)
    (case l34=>k_is)
    (case c34=>k_is)
    (case k34=>k_is)
    (case a35=>k_is)
    (case l35=>k_is)
    (case c35=>k_is)
    (case k35=>k_is)
    (case a36=>k_is)
    (case l36=>k_is)
    (case c36=>k_is)
    (case k36=>k_is)
    (case a37=>k_is)
    (case l37=>k_is)
    (case c37=>k_is)
    (case k37=>k_is)
    (case a38=>k_is)
    (case l38=>k_is)
    (case c38=>k_is)
    (case k38=>k_is)
    (case a39=>k_is)
    (case l39=>k_is)
    (case c39=>k_is)
    (case k39=>k_is)
    (case a40=>k_is)
    (case l40=>k_is)
    (case c40=>k_is)
    (case k40=>k_is)
    (case a41=>k_is)
    (case l41=>k_is)
    (case c41=>k_is)
    (case k41=>k_is)
    (case a42=>k_is)
    (case l42=>k_is)
    (case c42=>k_is)
    (case k42=>k_is)
    (case a43=>k_is)
    (case l43=>k_is)
    (case c43=>k_is)
    (case k43=>k_is)
    (case a44=>k_is)
    (case l44=>k_is)
    (case c44=>k_is)
    (case k44=>k_is)
    (case a45=>k_is)
    (case l45=>k_is)
    (case c45=>k_is)
    (case k45=>k_is)
    (case jY=>k_is)
    (case eE=>k_is)
    (case fW=>k_is)
    (case iw=>k_is)
    (case M9=>k_is)
    (case M_=>k_is)
    (case Nb=>k_is)
    (case Nf=>k_is)
    (case Ng=>k_is)
    (case Nh=>k_is)
    (case Cj=>k_is)
    (case Ck=>k_is)
    (case Wm=>k_is)
    (case Wn=>k_is)
    (case Wo=>k_is)
    (case Wq=>k_is)
    (case Cm=>k_is)
    (case HD=>k_is)
    (case Wr=>k_is)
    (case Ni=>k_is)
    (case HF=>k_is)
    (case Ws=>k_is)
    (case Wt=>k_is)
    (case Wu=>k_is)
    (case Wv=>k_is)
    (case qu=>k_is)
    (case rU=>k_is)
    (case Ww=>k_is)
    (case Nj=>k_is)
    (case Cp=>k_is)
    (case Nk=>k_is)
    (case Np=>k_is)
    (case Wx=>k_is)
    (case kY=>k_is)
    (case kZ=>rfl)
    (case n_=>k_is)
    (case Cq=>k_is)
    (case Cr=>rfl)
    (case Cu=>k_is)
    (case uZ=>k_is)
    (case u0=>rfl)
    (case u5=>k_is)
    (case zK=>k_is)
    (case zL=>rfl)
    (case zM=>k_is)
    (case tD=>k_is)
    (case tE=>rfl)
    (case tG=>k_is)
    (case gO=>k_exc)
    (case wK=>k_exc)
    (case oO=>k_exc)
    (case oh=>k_is)
    (case qcu=>k_is)
    (case qcv=>k_is)
    (case qcw=>k_is)
    (case JL=>k_is)
    (case JM=>k_is)
    (case Nq=>decide+kernel)
    (case Cv=>rfl)
    (case Cw=>k_is)
    (case Cy=>k_is)
    (case Cz=>k_is)
    (case CG=>k_is)
    (case u6=>rfl)
    (case u9=>k_is)
    (case u_=>k_is)
    (case vd=>k_is)
    (case vf=>k_is)
    (case zN=>rfl)
    (case zO=>k_is)
    (case zP=>k_is)
    (case zQ=>k_is)
    (case wW=>k_is)
    (case tH=>rfl)
    (case tK=>k_is)
    (case tM=>k_is)
    (case tO=>k_is)
    (case oX=>k_is)
    (case HJ=>k_is)
    (case HN=>k_is)
    (case iB=>k_is)
    (case yh=>k_is)
    (case yj=>k_is)
    (case fX=>k_is)
    (case fY=>k_is)
    (case jK=>k_is)


