import PyProof.Rows.All
import Wide.All
import OpenK.AllK
import Wide.FinOn
import Lean
import PyProof.EqAt
import PyProof.EqKinds
import PyProof.TupleCall
import PyProof.NeData
import PyProof.AttrMissHeap
import PyProof.FactsAll.enumerate_1
import KE.KDictOf
import PyProof.EnumMake
import PyProof.Rows.SumAny
import PyProof.Rows.StrJoin2
import PyProof.Rows.CountFlat
import PyProof.Rows.FoldWordsD
import PyProof.Rows.SeqMore2
import PyProof.Rows.MinMaxN
import PyProof.Rows.StrInSeq3
import PyProof.Rows.ReprR
import PyProof.StrLawsRepr
import PyProof.StrCalls2
import PyProof.Rows.StrNews2
import PyProof.Rows.StrSplitJoin
import PyProof.StrLawsTight
import PyProof.StrLawsChain
import PyProof.FString4
import PyProof.RulesTry
import PyProof.StrOps2
import PyProof.Rows.SeqMore
import KE.KEqDict
import PySem.Challenge.RW_pointways_k83_steps_refused
set_option genSizeOfSpec false
noncomputable section
set_option Elab.async false
set_option linter.all false
set_option maxRecDepth 100000
namespace L2
open PySem PySem.Spec PyProof.Rows
abbrev Key:=Sum Int Str
def xg:Key→Value→Bool
  | .inl k,v=>Value.isInt k v
  | .inr x,v=>Value.isStrOf x v
def qj5 (w:World):Key→Int
  | .inl k=>hashInt k
  | .inr x=>hashStr w x
theorem dI:∀{k:Key} {v:Value},xg k v=true→(∃i t,k=Sum.inl i∧v=Value.int i t)∨(∃x t,k=Sum.inr x∧v=Value.str x t)
  | .inl i,v,h=>by
    obtain⟨t,e⟩:=Value.isInt_shape (k:=i) (v:=v) h;exact .inl ⟨i,t,rfl,e⟩
  | .inr x,v,h=>by
    obtain⟨t,e⟩:=Value.isStrOf_shape (x:=x) (v:=v) h;exact .inr ⟨x,t,rfl,e⟩
theorem Mf (i:Int) (t:Tok):xg (.inl i) (.int i t)=true:=by simp[xg,Value.isInt]
theorem Mg (x:Str) (t:Tok):xg (.inr x) (.str x t)=true:=by simp[xg,Value.isStrOf]
theorem qeF (a b:Int):decide ((Sum.inl a:Key)=Sum.inl b)=(a == b):=by
  by_cases e:a=b
  ·subst e;simp
  ·have h:¬(Sum.inl a:Key)=Sum.inl b:=fun q=>e (Sum.inl.inj q);rw[decide_eq_false h];exact(beq_eq_false_iff_ne.mpr e).symm
theorem qeG (a b:Str):decide ((Sum.inr a:Key)=Sum.inr b)=decide (a=b):=by
  by_cases e:a=b
  ·subst e;simp
  ·have h:¬(Sum.inr a:Key)=Sum.inr b:=fun q=>e (Sum.inr.inj q);rw[decide_eq_false h,decide_eq_false e]
theorem qeH (a:Int) (b:Str):decide ((Sum.inl a:Key)=Sum.inr b)=false:=decide_eq_false (fun q=>nomatch q)
theorem qeI (a:Str) (b:Int):decide ((Sum.inr a:Key)=Sum.inl b)=false:=decide_eq_false (fun q=>nomatch q)
def bR (prog:Program) (w:World):PySem.KeyKind prog w Key where
  is:=xg
  hash:=qj5 w
  inj:=fun v a b ha hb=>by
    rcases dI ha with⟨i,t,rfl,rfl⟩ | ⟨x,t,rfl,rfl⟩
    · rcases dI hb with⟨j,u,rfl,e⟩ | ⟨y,u,rfl,e⟩
      ·injection e with e1 _;rw[e1]
      ·exact nomatch e
    · rcases dI hb with⟨j,u,rfl,e⟩ | ⟨y,u,rfl,e⟩
      ·exact nomatch e
      ·injection e with e1 _;rw[e1]
  byValue:=fun k v h=>by
    rcases dI h with⟨i,t,rfl,rfl⟩ | ⟨x,t,rfl,rfl⟩ <;> rfl
  pyHash:=fun hv h=>by
    rcases dI hv with⟨i,t,rfl,rfl⟩ | ⟨x,t,rfl,rfl⟩
    ·exact wpAny_pyHash_int h
    ·exact wpAny_pyHash_str h
  eqBool:=fun hu hv h=>by
    rcases dI hu with⟨i,t,rfl,rfl⟩ | ⟨x,t,rfl,rfl⟩
    · rcases dI hv with⟨j,u,rfl,rfl⟩ | ⟨y,u,rfl,rfl⟩
      ·rw[qeF] at h;exact wpAny_eqBool_int h
      ·rw[qeH] at h;exact SeqAt.EqAt.int_str i t y u _ _ _ _ h
    · rcases dI hv with⟨j,u,rfl,rfl⟩ | ⟨y,u,rfl,rfl⟩
      ·rw[qeI] at h;exact SeqAt.EqAt.str_int x t j u _ _ _ _ h
      ·rw[qeG] at h;exact wpAny_eqBool_str h
  «strs»:=fun k x t v h=>by
    rcases dI h with⟨i,u,rfl,e⟩ | ⟨y,u,rfl,e⟩
    ·exact nomatch e
    ·injection e with e1 _;subst e1;cases v <;> rfl
theorem Ua (prog:Program) (w:World) (k:Key) (v:Value):(bR prog w).is k v=xg k v:=rfl
theorem FZ (prog:Program) (w:World) (i:Int) (t:Tok):(bR prog w).is (.inl i) (.int i t)=true:=Mf i t
theorem Q8 (prog:Program) (w:World) (x:Str) (t:Tok):(bR prog w).is (.inr x) (.str x t)=true:=Mg x t
inductive V where
  | non | bl (b:Bool) | int (i:Int) | str (x:Str) | ZF (b:Array UInt8) | flt (b:UInt64) | ref (a:Addr) | ty (n:String)
  deriving DecidableEq
def RelV:V→Value→Prop
  | .non,u=>u=Value.none
  | .bl b,u=>u=Value.bool b
  | .int i,u=>∃t,u=Value.int i t
  | .str x,u=>∃t,u=Value.str x t
  | .ZF b,u=>∃t,u=Value.bytes b t
  | .flt b,u=>∃t,u=Value.float b t
  | .ref a,u=>u=Value.ref a
  | .ty n,u=>u=Value.type n
abbrev Vals:List V→List Value→Prop:=Paired RelV
theorem Vals.length {xs:List V} {us:List Value} (r:Vals xs us):xs.length=us.length:=Paired.length r
theorem Vals.get:∀{xs:List V} {us:List Value} {i:Nat} {x:V},Vals xs us→xs[i]? = some x→∃u,us[i]? = some u∧RelV x u
  | _,_,_,_,.nil,e=>by simp at e
  | _,_,0,_,.cons r _,e=>by simp at e;subst e;exact⟨_,rfl,r⟩
  | _,_,i+1,x,.cons _ t,e=>by
    obtain⟨u,h1,h2⟩:=Vals.get (i:=i) (x:=x) t (by simpa using e);exact⟨u,by simpa using h1,h2⟩
theorem Vals.set {x:V} {u:Value} (r:RelV x u):∀{xs:List V} {us:List Value} (i:Nat),Vals xs us→Vals (xs.set i x) (us.set i u)
  | _,_,_,.nil=>.nil
  | _,_,0,.cons _ t=>.cons r t
  | _,_,i+1,.cons q t=>.cons q (Vals.set r i t)
theorem Vals.append:∀{xs ys:List V} {us ws:List Value},Vals xs us→Vals ys ws→Vals (xs++ys) (us++ws)
  | _,_,_,_,.nil,s=>s
  | _,_,_,_,.cons r t,s=>.cons r (Vals.append t s)
theorem Vals.take:∀{xs:List V} {us:List Value} (n:Nat),Vals xs us→Vals (xs.take n) (us.take n)
  | _,_,0,_=>.nil
  | _,_,_+1,.nil=>.nil
  | _,_,n+1,.cons r t=>.cons r (Vals.take n t)
theorem Vals.drop:∀{xs:List V} {us:List Value} (n:Nat),Vals xs us→Vals (xs.drop n) (us.drop n)
  | _,_,0,r=>r
  | _,_,_+1,.nil=>.nil
  | _,_,n+1,.cons _ t=>Vals.drop n t
def xP:Option V→Option Value→Prop
  | some v,some u=>RelV v u
  | none,none=>True
  | _,_=>False
def KV {κ:Type}:List (κ×V)→List (κ×Value)→Prop:=Paired fun(p:κ×V) (q:κ×Value)=>p.1=q.1∧RelV p.2 q.2
def kV:Key→V
  | .inl i=>.int i
  | .inr x=>.str x
inductive HO where
  | lst (xs:List V)
  | tup (xs:List V)
  | dK (kvs:List (Key×V)) | dT (kvs:List (List Key×V))
  | set (S:Int→Bool) (n:Nat)
  | ins (C dx:Addr) (fs:List (Str×V))
  | own (x:Addr)
  | xd (fs:List (Str×V))
  | met (f x:Addr)
  | rng (lo hi:Int)
  | Q9 (o:Obj) (u:HO)
  | tbl (ps:Array Value)
  | ext (φ:Heap→Prop)
abbrev Hp:=Addr→Option HO
def upd (H:Hp) (a:Addr) (o:HO):Hp:=fun b=>if b=a then some o else H b
theorem ak {H:Hp} {a:Addr} {o:HO}:upd H a o a=some o:=by unfold upd;rw[if_pos rfl]
theorem aM {H:Hp} {a b:Addr} {o:HO} (h:b≠a):upd H a o b=H b:=by unfold upd;rw[if_neg h]
theorem HY {H:Hp} {a b:Addr} {o u:HO} (h:H a=some o) (h':H b=some u) (d:o≠u):a≠b:=by
  intro e;subst e;rw[h] at h';exact d (Option.some.inj h')
theorem aQ {H:Hp} {a b:Addr} {o:HO} (h:H a=some o) (h':H b=none):a≠b:=by
  intro e;subst e;rw[h] at h';cases h'
section
variable (P:Program) (w:World)
def dj (H:Hp) (h:Heap) (a:Addr):HO→Prop
  | .lst xs=>xs.length≤sizeLine∧∃(its:List Value) (n:Nat),Vals xs its∧h.get? a=some {cls:=.type "list",data:=.seq its.toArray n}
  | .tup xs=>xs.length≤sizeLine∧∃its:List Value,Vals xs its∧IsTup h a its.toArray
  | .dK kvs=>kvs.length≤sizeLine∧(a == sysModules)=false∧∃vs,KV kvs vs∧h.DictOf (bR P w) a vs
  | .dT kvs=>kvs.length≤sizeLine∧(a == sysModules)=false∧∃xs:List (List Key×Addr×Value),
      Paired (fun(p:List Key×V) (q:List Key×Addr×Value)=>p.1=q.1∧H q.2.1=some (.tup (p.1.map kV))∧RelV p.2 q.2.2) kvs xs∧
      ∃o es ep,h.get? a=some o∧o.ExactDict∧o.data = .dict es ep∧es.toList=xs.map (entryOfKey (tupleKind (bR P w)))∧(xs.map (·.1)).Nodup
  | .set S n=>h.SetOf (intKind P w) a S n
  | .ins C dx fs=>H dx=some (.own a)∧fs.length≤1000∧dx≠a∧h.get? a=some (W.instObj C dx)∧
      ∃mA,h.Ns1 dx mA∧(∀f,xP (fs.lookup f) (mA f))∧PySem.Within mA (fs.map (·.1))
  | .own _=>∃o,h.get? a=some o
  | .xd fs=>∃mA,h.Ns1 a mA∧∀f,xP (fs.lookup f) (mA f)
  | .rng lo hi=>∃t u v,h.get? a=some {cls:=.type "range",data:=.fields #[.int lo t,.int hi u,.int 1 v]}
  | .Q9 o u=>h.get? a=some o∧dj H h a u
  | .tbl ps=>h.get? a=some {cls:=.none,data:=.fields ps}
  | .met f x=>h.get? a=some (W.methodObj (.ref f) (.ref x))
  | .ext φ=>φ h∧(∃o,h.get? a=some o)∧∀h1 h2:Heap,φ h1→(∀o,h1.get? a=some o→h2.get? a=some o)→φ h2
def xT (H:Hp) (h:Heap):Prop:=∀a o,H a=some o→dj P w H h a o
end
section
variable {P:Program} {w:World} {H H':Hp} {h h':Heap} {a:Addr} {o:HO}
theorem dj.lt (x:dj P w H h a o):a<h.objs.size:=by
  cases o with
  | lst xs=>obtain⟨_,_,_,_,e⟩:=x;exact Heap.lt_size e
  | tup xs=>obtain⟨_,_,_,p⟩:=x;exact p.lt
  | dK kvs=>obtain⟨_,_,_,_,o,_,_,e,_⟩:=x;exact Heap.lt_size e
  | dT kvs=>obtain⟨_,_,_,_,o,_,_,e,_⟩:=x;exact Heap.lt_size e
  | set S n=>obtain⟨o,_,_,_,e,_⟩:=x;exact Heap.lt_size e
  | ins C dx fs=>obtain⟨_,_,_,e,_⟩:=x;exact Heap.lt_size e
  | own y=>obtain⟨_,e⟩:=x;exact Heap.lt_size e
  | xd fs=>obtain⟨_,⟨_,_,_,e,_⟩,_⟩:=x;exact Heap.lt_size e
  | rng lo hi=>obtain⟨_,_,_,e⟩:=x;exact Heap.lt_size e
  | Q9 ob u=>obtain⟨e,_⟩:=x;exact Heap.lt_size e
  | tbl ps=>exact Heap.lt_size (show h.get? a=some _ from x)
  | met f y=>exact Heap.lt_size (show h.get? a=some _ from x)
  | ext φ=>obtain⟨_,⟨_,e⟩,_⟩:=x;exact Heap.lt_size e
theorem Paired.qeJ {α β:Type} {F G:α→β→Prop}:∀{l₁:List α} {l₂:List β},Paired F l₁ l₂→(∀a b,F a b→G a b)→Paired G l₁ l₂
  | _,_,.nil,_=>.nil
  | _,_,.cons r t,f=>.cons (f _ _ r) (Paired.qeJ t f)
theorem dj.stay (x:dj P w H h a o) (k:∀b u,(b=a∨H b=some (.own a))→h.get? b=some u→h'.get? b=some u)
    (ho:∀b,H b=some (.own a)→H' b=some (.own a)) (ht:∀b xs,H b=some (.tup xs)→H' b=some (.tup xs)):dj P w H' h' a o:=by
  induction o with
  | lst xs=>obtain⟨z,its,n,r,e⟩:=x;exact⟨z,its,n,r,k _ _ (.inl rfl) e⟩
  | tup xs=>obtain⟨z,its,r,ob,e,c⟩:=x;exact⟨z,its,r,ob,k _ _ (.inl rfl) e,c⟩
  | dK kvs=>obtain⟨z,y,vs,r,ob,es,ep,e,c⟩:=x;exact⟨z,y,vs,r,ob,es,ep,k _ _ (.inl rfl) e,c⟩
  | dT kvs=>
    obtain⟨z,y,xs,r,ob,es,ep,e,c⟩:=x;exact⟨z,y,xs,Paired.qeJ r fun p q z=>⟨z.1,ht _ _ z.2.1,z.2.2⟩,ob,es,ep,k _ _ (.inl rfl) e,c⟩
  | set S n=>obtain⟨ob,es,ep,t,e,c⟩:=x;exact⟨ob,es,ep,t,k _ _ (.inl rfl) e,c⟩
  | ins C dx fs=>
    obtain⟨d,z,ne,e,mA,⟨od,es,ep,e2,c⟩,r⟩:=x;exact⟨ho _ d,z,ne,k _ _ (.inl rfl) e,mA,⟨od,es,ep,k _ _ (.inr d) e2,c⟩,r⟩
  | own y=>obtain⟨ob,e⟩:=x;exact⟨ob,k _ _ (.inl rfl) e⟩
  | xd fs=>obtain⟨mA,⟨od,es,ep,e,c⟩,r⟩:=x;exact⟨mA,⟨od,es,ep,k _ _ (.inl rfl) e,c⟩,r⟩
  | rng lo hi=>obtain⟨t,u,v,e⟩:=x;exact⟨t,u,v,k _ _ (.inl rfl) e⟩
  | Q9 ob u ih=>obtain⟨e,q⟩:=x;exact⟨k _ _ (.inl rfl) e,ih q⟩
  | tbl ps=>
    have e:h.get? a=some {cls:=.none,data:=.fields ps}:=x;show h'.get? a=some {cls:=.none,data:=.fields ps};exact k a _ (.inl rfl) e
  | met f y=>
    have e:h.get? a=some (W.methodObj (.ref f) (.ref y)):=x;show h'.get? a=some (W.methodObj (.ref f) (.ref y));exact k a _ (.inl rfl) e
  | ext φ=>obtain⟨p,⟨o,e⟩,st⟩:=x;exact⟨st _ _ p fun o q=>k _ _ (.inl rfl) q,⟨o,k _ _ (.inl rfl) e⟩,st⟩
theorem xT.lt (x:xT P w H h) (e:H a=some o):a<h.objs.size:=(x a o e).lt
theorem xT.fresh (x:xT P w H h) (e:h.objs.size≤a):H a=none:=by
  cases q:H a with
  | none=>rfl
  | some u=>exact absurd (Nat.lt_of_lt_of_le (x.lt q) e) (Nat.lt_irrefl _)
theorem xT.kept (x:xT P w H h) (k:∀b u,h.get? b=some u→h'.get? b=some u):xT P w H h':=fun a o e=>
  (x a o e).stay (fun b u _ q=>k b u q) (fun _ q=>q) fun _ _ q=>q
theorem xT.laid (x:xT P w H h) (k:∀b u,h.get? b=some u→h'.get? b=some u) (hp:h.objs.size≤a) (new:dj P w (upd H a o) h' a o):xT P w (upd H a o) h':=fun b u e=>by
  have hn:=x.fresh hp
  by_cases hb:b=a
  ·subst hb;rw[ak] at e;cases e;exact new
  ·rw[aM hb] at e;exact(x b u e).stay (fun c v _ q=>k c v q) (fun c q=>by rw[aM (aQ q hn)];exact q) fun c xs q=>by rw[aM (aQ q hn)];exact q
end
def Rd (H:Hp) (a:Addr) (u:HO):Prop:=H a=some u∨∃o,H a=some (.Q9 o u)
theorem Rd.ok {P:Program} {w:World} {H:Hp} {h:Heap} {a:Addr} {u:HO} (r:Rd H a u) (x:xT P w H h):dj P w H h a u:=by
  rcases r with r | ⟨o,r⟩
  ·exact x a u r
  ·obtain⟨_,q⟩:=x a _ r;exact q
def Mut:Option HO→Prop
  | some (.lst _)=>True
  | some (.dK _)=>True
  | some (.dT _)=>True
  | some (.set _ _)=>True
  | some (.ins _ _ _)=>True
  | some (.ext _)=>True
  | _=>False
section
variable {P:Program} {w:World} {H:Hp} {h h':Heap} {x e:Addr} {o':HO}
theorem xT.write (ok:xT P w H h) (mu:Mut (H x)) (he:e=x∨H e=some (.own x)) (k:∀b u,b≠e→h.get? b=some u→h'.get? b=some u) (heo:∃u,h'.get? e=some u)
    (new:dj P w (upd H x o') h' x o'):xT P w (upd H x o') h':=fun b u q=>by
  have qgN:∀c y,H c=some (.own y)→c≠x:=fun c y r z=>by subst z;rw[r] at mu;exact mu
  have qj6:∀c xs,H c=some (.tup xs)→c≠x:=fun c xs r z=>by subst z;rw[r] at mu;exact mu
  by_cases hb:b=x
  ·subst hb;rw[ak] at q;cases q;exact new
  · rw[aM hb] at q
    by_cases hbe:b=e
    · have q':H b=some (.own x):=by
        rcases he with z | z
        ·exact absurd (hbe.trans z) hb
        ·rw[hbe];exact z
      rw[q] at q';cases q';obtain⟨v,hv⟩:=heo;exact⟨v,by rw[hbe];exact hv⟩
    · refine(ok b u q).stay (fun c v hc r=>k c v ?_ r) (fun c r=>by rw[aM (qgN c b r)];exact r) fun c xs r=>by rw[aM (qj6 c xs r)];exact r
      rcases hc with rfl | hc
      ·exact hbe
      · rintro rfl
        rcases he with z | z
        ·exact qgN c b hc z
        ·rw[hc] at z;cases z;exact hb rfl
end
structure Un (fs ex:List Addr) (H H':Hp) (h h':Heap):Prop where
  keep:∀b o,h.get? b=some o→H b=none→b∉fs→b∉ex→h'.get? b=some o
  slot:∀b o,h.get? b=some o→H b=none→b∈fs→b∉ex→∃sl,h'.get? b=some {o with slots:=sl}
  free:∀b o,h.get? b=some o→H b=none→b∉ex→H' b=none
  there:∀b o,h.get? b=some o→b∉ex→∃o',h'.get? b=some o'
  tups:∀b xs,H b=some (.tup xs)→H' b=some (.tup xs)
  Ac:∀b o u,H b=some (.Q9 o u)→H' b=some (.Q9 o u)
  A_:∀b ps,H b=some (.tbl ps)→∃more,H' b=some (.tbl (ps++more))
section
variable {fs fs' ex ex':List Addr} {H H1 H2:Hp} {h h1 h2 h':Heap} {a x e:Addr} {o:HO}
theorem Un.any (u:Un fs ex H H1 h h1) {b:Addr} {ob:Obj} (q:h.get? b=some ob) (n:H b=none) (hx:b∉ex):∃sl,h1.get? b=some {ob with slots:=sl}:=by
  by_cases hb:b∈fs
  ·exact u.slot b ob q n hb hx
  ·exact⟨ob.slots,u.keep b ob q n hb hx⟩
theorem Un.kept (k:∀b u,h.get? b=some u→h'.get? b=some u):Un fs ex H H h h':=
  ⟨fun b ob q _ _ _=>k b ob q,fun b ob q _ _ _=>⟨ob.slots,k b ob q⟩,fun _ _ _ n _=>n,fun b ob q _=>⟨ob,k b ob q⟩,fun _ _ q=>q,fun _ _ _ q=>q,fun _ ps q=>⟨#[],by rw[q];simp⟩⟩
theorem Un.refl:Un fs ex H H h h:=Un.kept fun _ _ q=>q
theorem Un.laid (k:∀b u,h.get? b=some u→h'.get? b=some u) (hp:h.objs.size≤a) (hn:H a=none):Un fs ex H (upd H a o) h h' where
  keep:=fun b u q _ _ _=>k b u q
  slot:=fun b u q _ _ _=>⟨u.slots,k b u q⟩
  free:=fun b u q n _=>by rw[aM (Nat.ne_of_lt (Nat.lt_of_lt_of_le (Heap.lt_size q) hp))];exact n
  there:=fun b u q _=>⟨u,k b u q⟩
  tups:=fun b xs q=>by rw[aM (aQ q hn)];exact q
  Ac:=fun b u xs q=>by rw[aM (aQ q hn)];exact q
  A_:=fun b ps q=>⟨#[],by rw[aM (aQ q hn),q];simp⟩
theorem Un.write (mu:Mut (H x)) (he:e=x∨H e=some (.own x)) (k:∀b u,b≠e→h.get? b=some u→h'.get? b=some u) (heo:∃u,h'.get? e=some u):Un fs ex H (upd H x o) h h':=by
  have hx:∀b,H b=none→b≠x:=fun b n z=>by subst z;rw[n] at mu;exact mu
  have hb:∀b,H b=none→b≠e:=fun b n z=>by
    subst z
    rcases he with r | r
    ·exact hx b n r
    ·rw[n] at r;cases r
  have hm:∀b u,H b=some u→¬Mut (some u)→b≠x:=fun b u q nm z=>by subst z;rw[q] at mu;exact nm mu
  refine⟨fun b u q n _ _=>k b u (hb b n) q,fun b u q n _ _=>⟨u.slots,k b u (hb b n) q⟩,fun b u q n _=>by rw[aM (hx b n)];exact n,fun b u q _=>?_,
    fun b xs q=>by rw[aM (hm b _ q fun z=>z)];exact q,fun b u xs q=>by rw[aM (hm b _ q fun z=>z)];exact q,fun b ps q=>⟨#[],by rw[aM (hm b _ q fun z=>z),q];simp⟩⟩
  by_cases hbe:b=e
  ·subst hbe;exact heo
  ·exact⟨u,k b u hbe q⟩
end
def trk (h:Heap) (H:Hp):List Addr:=(List.range h.objs.size).filter fun a=>(H a).isSome
def Ol (h:Heap) (H:Hp):Heap:=W.hideAll h (trk h H)
theorem Xw (h:Heap) (H:Hp):(Ol h H).objs.size=h.objs.size:=W.hideAll_size _ _
theorem ZR {h:Heap} {H:Hp} {b:Addr} {o:Obj} (e:h.get? b=some o) (n:H b=none):(Ol h H).get? b=some o:=
  W.hideAll_get _ e fun hm=>by
    have q:(H b).isSome=true:=(List.mem_filter.mp hm).2;rw[n] at q;simp at q
theorem qcD {h:Heap} {H:Hp} {b:Addr} {o:Obj} (e:(Ol h H).get? b=some o):h.get? b=some o∧H b=none:=by
  have e':h.get? b=some o:=W.of_hideAll (trk h H) e;refine⟨e',?_⟩;cases q:H b with
  | none=>rfl
  | some x=>
    have hm:b∈trk h H:=List.mem_filter.mpr ⟨List.mem_range.mpr (Heap.lt_size e'),by simp[q]⟩;have z:(Ol h H).get? b=none:=W.hideAll_none (trk h H) hm;rw[z] at e;cases e
def qcE (g h:Heap) (L:Addr):List (Addr×Obj):=(List.range h.objs.size).filterMap fun a=>if a=L∨(g.get? a).isSome=true then none else (h.get? a).map fun o=>(a,o)
def rest (g h:Heap) (L d:Addr):List (Addr×Obj):=(qcE g h L).filter fun p=>decide (p.1≠d)
structure Mod (K:W.Frag) (mg:Str→Option Value) (base:Heap):Prop where
  kin:K.In base
  glob:base.Ns mainGlobals mg
  blt:∃mb,base.Ns builtinsNs mb∧∀x:Str,x≠ "__name__" →mb x=bootBuiltins x
  nolimit:base.NoLimit
set_option genInjectivity false in
structure Cx where
  prog:Program
  w:World
  K:W.Frag
  mg:Str→Option Value
  base:Heap
  A:Around
  N:List Str
  s₀:Shared
  H₀:Hp
  env:Env
  outer:List Env
  stack:List Env
  ex:List Addr
  fn:Str→Bool
  calm:Bool
  pn:List (Addr×Obj)
  xe:Value→Shared→Prop
def frs (l:List Env):List Addr:=l.filterMap (·.frame)
abbrev Cx.fs (X:Cx):List Addr:=frs X.outer
def Vis (sc:Scope) (x:Str):Prop:=sc.names.lookup x=some .local∨sc.names.lookup x=some .cell∨sc.names.lookup x=some .free
def Loc (sc:Scope) (x:Str):Prop:=sc.names.lookup x=some .local∨sc.names.lookup x=some .cell
def Look (env:Env) (h:Heap) (m:Str→Option Value) (x:Str) (u:Value):Prop:=
  (env.kindOf x=some .local∧m x=some u)∨((env.kindOf x=some .cell∨env.kindOf x=some .free)∧∃c,env.cells.lookup x=some c∧h.IsCell c (some u))
structure Cx.Ok (X:Cx):Prop where
  mod:Mod X.K X.mg X.base
  kind:X.env.scope.kind = .function
  glob:X.env.globals=mainGlobals
  blt:X.env.builtins=builtinsNs
  above:X.s₀.heap.objs.size≤X.env.locals
  inj:∀x y c,X.env.cells.lookup x=some c→X.env.cells.lookup y=some c→x=y
  has:∀x,(X.env.kindOf x=some .cell∨X.env.kindOf x=some .free)→∃c,X.env.cells.lookup x=some c
  cab:∀x c,X.fn x=true→X.env.cells.lookup x=some c→X.s₀.heap.objs.size≤c
  hd:X.calm=true→X.A.handled=none
  frames:X.A.frames=some X.stack
  stk:X.stack=X.outer∨(X.stack=X.env::X.outer∧X.env.frame=some X.env.locals)
  exf:∀b∈X.ex,b≠X.env.locals∧∀x c,X.env.cells.lookup x=some c→c≠b
  bs:∀b o,X.base.get? b=some o→X.s₀.heap.get? b=some o∧X.H₀ b=none
  Xx:X.base.objs.size≤X.s₀.heap.objs.size
  Q_:∀b o,X.base.get? b=some o→b∉X.ex
  Om:∀b∈X.ex,b∉X.fs
  xV:X.s₀.heap.FunFrames X.base X.outer
  ZS:∀b∈X.fs,X.H₀ b=none
structure Inv (X:Cx) (p_:List (Addr×Obj)) (σ:List (Option V)) (H:Hp) (s:Shared):Prop where
  ok:X.Ok
  os:s.os=X.s₀.os
  bare:AllBare s.gens
  base:Un X.fs X.ex X.H₀ H X.s₀.heap s.heap
  loc:∃m,s.heap.Ns X.env.locals m∧∀(i:Nat) (x:Str) (v:V),X.N[i]? = some x→σ[i]? = some (some v)→Vis X.env.scope x→∃u,RelV v u∧Look X.env s.heap m x u
  cell:∀x c,X.env.cells.lookup x=some c→∃v,s.heap.IsCell c v
  free:H X.env.locals=none
  lN:∀x c,X.env.cells.lookup x=some c→H c=none
  pin:∀p∈X.pn++p_,s.heap.get? p.1=some p.2∧H p.1=none∧p.1≠X.env.locals∧p.1∉X.fs∧∀v,p.2.data≠.cell v
  hok:xT X.prog X.w H s.heap
  len:σ.length=X.N.length
section
variable {X:Cx} {p_:List (Addr×Obj)} {σ:List (Option V)} {H H':Hp} {s:Shared} {h':Heap}
theorem Cx.Ok.qj7 (ok:X.Ok) {b:Addr} {o:Obj} (e:X.base.get? b=some o):b∉X.fs:=fun hb=>by
  have:=(ok.xV.mem hb).1;rw[e] at this;cases this
theorem Inv.bs (I:Inv X p_ σ H s):∀b o,X.base.get? b=some o→s.heap.get? b=some o∧H b=none:=fun b o e=>
  ⟨I.base.keep b o (I.ok.bs b o e).1 (I.ok.bs b o e).2 (I.ok.qj7 e) (I.ok.Q_ b o e),I.base.free b o (I.ok.bs b o e).1 (I.ok.bs b o e).2 (I.ok.Q_ b o e)⟩
theorem Inv.bk (I:Inv X p_ σ H s):∀b o,X.base.get? b=some o→s.heap.get? b=some o:=fun b o e=>(I.bs b o e).1
theorem Inv.mod (I:Inv X p_ σ H s):Mod X.K X.mg X.base:=I.ok.mod
theorem Inv.Ad (I:Inv X p_ σ H s):X.K.In s.heap:=I.ok.mod.kin.keeps I.bk
theorem Inv.lt (I:Inv X p_ σ H s):X.env.locals<s.heap.objs.size:=let ⟨_,hn,_⟩:=I.loc;hn.lt
theorem Inv.sz (I:Inv X p_ σ H s):X.s₀.heap.objs.size≤s.heap.objs.size:=Nat.le_trans I.ok.above (Nat.le_of_lt I.lt)
theorem Inv.qj8 (I:Inv X p_ σ H s) {a:Addr} (h:s.heap.objs.size≤a):a∉X.fs:=fun hb=>by
  obtain⟨_,o,ho,_⟩:=I.ok.xV.mem hb;exact absurd (Nat.lt_of_lt_of_le (Heap.lt_size ho) (Nat.le_trans I.sz h)) (Nat.lt_irrefl _)
theorem Inv.cne (I:Inv X p_ σ H s):∀x c,X.env.cells.lookup x=some c→c≠X.env.locals:=fun x c e z=>by
  obtain⟨v,o,ho,hd⟩:=I.cell x c e;obtain⟨m,⟨o',es,ep,ho',hd',_⟩,_⟩:=I.loc;rw[z,ho'] at ho;cases ho;rw[hd'] at hd;cases hd
theorem Inv.xV (I:Inv X p_ σ H s):s.heap.FunFrames X.base X.outer:=by
  have all:∀(l:List Env),(∀b∈frs l,b∈X.fs)→X.s₀.heap.FunFrames X.base l→s.heap.FunFrames X.base l:=by
    intro l
    induction l with
    | nil=>intro _ _;trivial
    | cons env r ih=>
      intro hs hl;obtain⟨hk,⟨L,o,hf,hn,ho,hd⟩,hr⟩:=hl;have hL:L∈X.fs:=hs L (by unfold frs;rw[List.filterMap_cons,hf];exact List.mem_cons_self);obtain⟨sl,e⟩:=I.base.slot L o ho (I.ok.ZS L hL) hL fun z=>I.ok.Om L z hL;exact⟨hk,⟨L,_,hf,hn,e,hd⟩,ih (fun b hb=>hs b (by unfold frs;rw[List.filterMap_cons,hf];exact List.mem_cons_of_mem _ hb)) hr⟩
  exact all X.outer (fun _ hb=>hb) I.ok.xV
theorem Inv.stack (I:Inv X p_ σ H s):s.heap.FunFrames X.base X.stack:=by
  rcases I.ok.stk with e | ⟨e,hf⟩
  ·rw[e];exact I.xV
  ·rw[e];obtain⟨m,hn,_⟩:=I.loc;refine .cons (by rw[I.ok.kind];decide) hf hn ?_ I.xV;exact Heap.get?_none_of_le (Nat.le_trans I.ok.Xx I.ok.above)
theorem Inv.Ba (I:Inv X p_ σ H s):∀b∈frs X.stack,b∈X.env.locals::X.fs:=fun b hb=>by
  rcases I.ok.stk with e | ⟨e,hf⟩
  ·rw[e] at hb;exact List.mem_cons_of_mem _ hb
  ·rw[e] at hb;unfold frs at hb;rw[List.filterMap_cons,hf] at hb;exact hb
theorem Inv.Hg (I:Inv X p_ σ H s):∀b∈frs X.stack,H b=none:=fun b hb=>by
  rcases List.mem_cons.mp (I.Ba b hb) with e | hb
  ·rw[e];exact I.free
  ·obtain⟨_,o,ho,_⟩:=I.ok.xV.mem hb;exact I.base.free b o ho (I.ok.ZS b hb) fun z=>I.ok.Om b z hb
theorem Inv.step {g':Array GenState} {t':Nat} {d':Drawn} {ch:List Addr} (I:Inv X p_ σ H s)
    (hch:∀b∈ch,(b∈X.ex∨X.s₀.heap.objs.size≤b)∧b≠X.env.locals∧(∀x c,X.env.cells.lookup x=some c→c≠b)∧∀p∈X.pn++p_,p.1≠b)
    (keep:∀b o,b≠X.env.locals→b∉X.fs→b∉ch→s.heap.get? b=some o→H b=none→h'.get? b=some o)
    (slot:∀b o,b≠X.env.locals→b∈X.fs→b∉ch→s.heap.get? b=some o→H b=none→∃sl,h'.get? b=some {o with slots:=sl}) (free:∀b o,b∉ch→s.heap.get? b=some o→H b=none→H' b=none)
    (there:∀b o,b∉ch→s.heap.get? b=some o→∃o',h'.get? b=some o')
    (tups:∀b xs,H b=some (.tup xs)→H' b=some (.tup xs)) (Ac:∀b o u,H b=some (.Q9 o u)→H' b=some (.Q9 o u)) (A_:∀b ps,H b=some (.tbl ps)→∃more,H' b=some (.tbl (ps++more)))
    (ns:∀m,s.heap.Ns X.env.locals m→h'.Ns X.env.locals m) (hok:xT X.prog X.w H' h') (hg:AllBare g') :
    Inv X p_ σ H' {s with heap:=h',gens:=g',drawn:=d',toks:=t'}:=by
  have neL:∀b o,X.s₀.heap.get? b=some o→b≠X.env.locals:=fun b o e=>Nat.ne_of_lt (Nat.lt_of_lt_of_le (Heap.lt_size e) I.ok.above);have neC:∀b o,X.s₀.heap.get? b=some o→b∉X.ex→b∉ch:=fun b o e hx hb=>by
    rcases(hch b hb).1 with z | z
    ·exact hx z
    ·exact absurd (Nat.lt_of_lt_of_le (Heap.lt_size e) z) (Nat.lt_irrefl _)
  have cellK:∀x c,X.env.cells.lookup x=some c→∀v,s.heap.IsCell c v→h'.IsCell c v:=fun x c e v ⟨o,ho,hd⟩=>by
    have nch:c∉ch:=fun z=>(hch c z).2.2.1 x c e rfl
    by_cases hc:c∈X.fs
    ·obtain⟨sl,q⟩:=slot c o (I.cne x c e) hc nch ho (I.lN x c e);exact⟨_,q,hd⟩
    ·exact⟨o,keep c o (I.cne x c e) hc nch ho (I.lN x c e),hd⟩
  refine⟨I.ok,I.os,hg,⟨fun b o e n hb hx=>?_,fun b o e n hb hx=>?_,fun b o e n hx=>?_,fun b o e hx=>?_,fun b xs e=>tups b xs (I.base.tups b xs e),fun b o xs e=>Ac b o xs (I.base.Ac b o xs e),fun b ps e=>?_⟩,?_,fun x c e=>?_,?_,fun x c e=>?_,fun p hp=>?_,hok,I.len⟩
  ·exact keep b o (neL b o e) hb (neC b o e hx) (I.base.keep b o e n hb hx) (I.base.free b o e n hx)
  ·obtain⟨sl,e1⟩:=I.base.slot b o e n hb hx;obtain⟨sl',e2⟩:=slot b _ (neL b o e) hb (neC b o e hx) e1 (I.base.free b o e n hx);exact⟨sl',e2⟩
  ·obtain⟨o',e1⟩:=I.base.there b o e hx;exact free b o' (neC b o e hx) e1 (I.base.free b o e n hx)
  ·obtain⟨o',e1⟩:=I.base.there b o e hx;exact there b o' (neC b o e hx) e1
  ·obtain⟨m1,e1⟩:=I.base.A_ b ps e;obtain⟨m2,e2⟩:=A_ b _ e1;exact⟨m1++m2,by rw[e2,Array.append_assoc]⟩
  · obtain⟨m,hn,hl⟩:=I.loc;refine⟨m,ns m hn,fun i x v e1 e2 e3=>?_⟩;obtain⟨u,r,l⟩:=hl i x v e1 e2 e3;refine⟨u,r,?_⟩
    rcases l with l | ⟨k,c,e,z⟩
    ·exact .inl l
    ·exact .inr ⟨k,c,e,cellK x c e _ z⟩
  ·obtain⟨v,z⟩:=I.cell x c e;exact⟨v,cellK x c e v z⟩
  ·obtain⟨m,⟨o,_,_,ho,_⟩,_⟩:=I.loc;exact free _ o (fun z=>(hch _ z).2.1 rfl) ho I.free
  ·obtain⟨v,o,ho,hd⟩:=I.cell x c e;exact free c o (fun z=>(hch c z).2.2.1 x c e rfl) ho (I.lN x c e)
  ·obtain⟨e,n,ne,nf,d⟩:=I.pin p hp;have nch:p.1∉ch:=fun z=>(hch p.1 z).2.2.2 p hp rfl;exact⟨keep p.1 p.2 ne nf nch e n,free p.1 p.2 nch e n,ne,nf,d⟩
theorem Inv.un {t':Nat} (I:Inv X p_ σ H s) (u:Un X.fs [] H H' s.heap h') (hok:xT X.prog X.w H' h'):Inv X p_ σ H' {s with heap:=h',toks:=t'}:=by
  obtain⟨m,⟨o,es,ep,ho,r⟩,_⟩:=id I.loc;obtain⟨sl,hL⟩:=u.any ho I.free (by simp);exact I.step (g':=s.gens) (d':=s.drawn) (ch:=[]) (fun _ z=>nomatch z) (fun b o _ hb _ e n=>u.keep b o e n hb (by simp)) (fun b o _ hb _ e n=>u.slot b o e n hb (by simp)) (fun b o _ e n=>u.free b o e n (by simp)) (fun b o _ e=>u.there b o e (by simp)) u.tups u.Ac u.A_ (fun m' hm=>by
    obtain⟨o',es',ep',ho',r'⟩:=hm;rw[ho] at ho';cases ho';exact⟨_,es',ep',hL,r'⟩) hok I.bare
theorem Inv.call {g':Array GenState} {t':Nat} {d':Drawn} {ch:List Addr} (I:Inv X p_ σ H s) (u:Un (frs X.stack) ch H H' s.heap h') (hok:xT X.prog X.w H' h') (hg:AllBare g')
    (hch:∀b∈ch,(b∈X.ex∨X.s₀.heap.objs.size≤b)∧b≠X.env.locals∧(∀x c,X.env.cells.lookup x=some c→c≠b)∧∀p∈X.pn++p_,p.1≠b) :
    Inv X p_ σ H' {s with heap:=h',gens:=g',drawn:=d',toks:=t'}:=by
  obtain⟨m,⟨o,es,ep,ho,r⟩,_⟩:=id I.loc;obtain⟨sl,hL⟩:=u.any ho I.free fun z=>(hch _ z).2.1 rfl;exact I.step (ch:=ch) hch (fun b o hL hb hc e n=>u.keep b o e n (fun z=>(List.mem_cons.mp (I.Ba b z)).elim hL hb) hc) (fun b o _ _ hc e n=>u.any e n hc) (fun b o hc e n=>u.free b o e n hc) (fun b o hc e=>u.there b o e hc) u.tups u.Ac u.A_ (fun m' hm=>by
    obtain⟨o',es',ep',ho',r'⟩:=hm;rw[ho] at ho';cases ho';exact⟨_,es',ep',hL,r'⟩) hok hg
theorem Inv.turned {t':Nat} {it:Addr} (I:Inv X p_ σ H s) (k:∀b o,b≠it→s.heap.get? b=some o→h'.get? b=some o) (hn:H it=none) (hL:it≠X.env.locals)
    (h1:it∈X.ex∨X.s₀.heap.objs.size≤it) (h2:∀x c,X.env.cells.lookup x=some c→c≠it) (h3:∀p∈X.pn++p_,p.1≠it):Inv X p_ σ H {s with heap:=h',toks:=t'}:=by
  have nit:∀b u,H b=some u→b≠it:=fun b u e z=>by rw[z,hn] at e;cases e
  refine I.step (g':=s.gens) (d':=s.drawn) (ch:=[it]) (fun b hb=>?_) (fun b o _ _ hc e _=>k b o (fun z=>hc (by simp[z])) e) (fun b o _ _ hc e _=>⟨o.slots,k b o (fun z=>hc (by simp[z])) e⟩) (fun _ _ _ _ n=>n)
    (fun b o hc e=>⟨o,k b o (fun z=>hc (by simp[z])) e⟩) (fun _ _ e=>e) (fun _ _ _ e=>e) (fun b ps e=>⟨#[],by rw[e];simp⟩) (fun m hm=>?_) (fun b u e=>?_) I.bare
  · have e:b=it:=by simpa using hb
    subst e;exact⟨h1,hL,h2,h3⟩
  ·obtain⟨o,es,ep,ho,r⟩:=hm;exact⟨o,es,ep,k _ o (Ne.symm hL) ho,r⟩
  · refine(I.hok b u e).stay (fun c v hc q=>k c v ?_ q) (fun _ q=>q) fun _ _ q=>q
    rcases hc with z | z
    ·rw[z];exact nit b u e
    ·exact nit c _ z
theorem Inv.tok (I:Inv X p_ σ H s) (t:Nat):Inv X p_ σ H {s with toks:=t}:=I.un (h':=s.heap) (t':=t) Un.refl I.hok
theorem Inv.kept {t':Nat} (I:Inv X p_ σ H s) (k:∀b u,s.heap.get? b=some u→h'.get? b=some u):Inv X p_ σ H {s with heap:=h',toks:=t'}:=I.un (Un.kept k) (I.hok.kept k)
theorem Inv.laid {a:Addr} {o:HO} {t':Nat} (I:Inv X p_ σ H s) (k:∀b u,s.heap.get? b=some u→h'.get? b=some u) (hp:s.heap.objs.size≤a) (new:dj X.prog X.w (upd H a o) h' a o) :
    Inv X p_ σ (upd H a o) {s with heap:=h',toks:=t'}:=I.un (Un.laid k hp (I.hok.fresh hp)) (I.hok.laid k hp new)
theorem Inv.write {x e:Addr} {o:HO} {t':Nat} (I:Inv X p_ σ H s) (mu:Mut (H x)) (he:e=x∨H e=some (.own x)) (k:∀b u,b≠e→s.heap.get? b=some u→h'.get? b=some u) (heo:∃u,h'.get? e=some u)
    (new:dj X.prog X.w (upd H x o) h' x o):Inv X p_ σ (upd H x o) {s with heap:=h',toks:=t'}:=I.un (Un.write mu he k heo) (I.hok.write mu he k heo new)
theorem Inv.Wh {H_:List (Addr×Obj)} (I:Inv X p_ σ H s) (h:∀p∈H_,s.heap.get? p.1=some p.2∧H p.1=none∧p.1≠X.env.locals∧p.1∉X.fs∧∀v,p.2.data≠.cell v):Inv X H_ σ H s:=
  ⟨I.ok,I.os,I.bare,I.base,I.loc,I.cell,I.free,I.lN,fun p hp=>(List.mem_append.mp hp).elim (fun z=>I.pin p (List.mem_append_left _ z)) (h p),I.hok,I.len⟩
theorem Ia {N:List Str} (hN:N.Nodup) {i j:Nat} {x:Str} (a:N[i]? = some x) (b:N[j]? = some x):i=j:=by
  obtain⟨h1,e1⟩:=List.getElem?_eq_some_iff.mp a;obtain⟨h2,e2⟩:=List.getElem?_eq_some_iff.mp b;exact(List.getElem_inj hN).mp (e1.trans e2.symm)
theorem zK {M:Model} {A:Around} {E:Value→Shared→Prop} {i:Nat} {x:Str} {v:V} {u:Value} {Q:Unit→Shared→Prop} (I:Inv X p_ σ H s) (hN:X.N.Nodup) (hi:X.N[i]? = some x) (hx:Loc X.env.scope x) (r:RelV v u)
    (h:∀s',Inv X p_ (σ.set i (some v)) H s'→(∃a,Heap.SameBut a s.heap s'.heap∧(a=X.env.locals∨X.env.cells.lookup x=some a))→Q () s') (hf:X.fn x=true∨X.env.scope.names.lookup x=some .local:=by first | exact .inl rfl | exact .inr rfl | assumption):wpAny M A (storeName X.env x u) Q E s:=by
  obtain⟨m,hn,hl⟩:=id I.loc;have hcls:(X.env.scope.kind == .class || (X.env.scope.kind == .module && X.env.locals != X.env.globals))=false:=by rw[I.ok.kind];rfl
  have hiσ:i<σ.length:=by rw[I.len];exact(List.getElem?_eq_some_iff.mp hi).1
  have cne:=I.cne;have tracked:∀{a:Addr} {h':Heap},(∃o,s.heap.get? a=some o∧H a=none)→Heap.SameBut a s.heap h'→xT X.prog X.w H h':=fun {a h'} ha hs b ob e=>by
    obtain⟨_,_,hfree⟩:=ha;refine(I.hok b ob e).stay (fun c w' hc q=>(hs.2 c ?_).trans q) (fun _ q=>q) fun _ _ q=>q;rintro rfl
    rcases hc with rfl | hc
    ·rw[hfree] at e;cases e
    ·rw[hfree] at hc;cases hc
  rcases hx with hk | hk
  · refine wpAny_storeName_local hk hn (fun h' hn' hs=>?_) hcls;obtain⟨oL,_,_,hoL,_⟩:=id hn;refine h _ ⟨I.ok,I.os,I.bare,⟨fun b o e n hb hx=>?_,fun b o e n hb hx=>?_,I.base.free,fun b o e hx=>?_,I.base.tups,I.base.Ac,I.base.A_⟩,⟨_,hn',fun j y v' e1 e2 e3=>?_⟩,fun y c e=>?_,I.free,I.lN,fun p hp=>?_,tracked ⟨oL,hoL,I.free⟩ hs,by simpa using I.len⟩ ⟨_,hs,.inl rfl⟩
    ·exact(hs.2 b (Nat.ne_of_lt (Nat.lt_of_lt_of_le (Heap.lt_size e) I.ok.above))).trans (I.base.keep b o e n hb hx)
    ·obtain⟨sl,e1⟩:=I.base.slot b o e n hb hx;exact⟨sl,(hs.2 b (Nat.ne_of_lt (Nat.lt_of_lt_of_le (Heap.lt_size e) I.ok.above))).trans e1⟩
    ·obtain⟨o',e1⟩:=I.base.there b o e hx;exact⟨o',(hs.2 b (Nat.ne_of_lt (Nat.lt_of_lt_of_le (Heap.lt_size e) I.ok.above))).trans e1⟩
    · by_cases hj:j=i
      ·subst hj;rw[hi] at e1;cases e1;rw[List.getElem?_set_self hiσ] at e2;cases e2;exact⟨u,r,.inl ⟨hk,by simp⟩⟩
      · rw[List.getElem?_set_ne (Ne.symm hj)] at e2;obtain⟨u',r',q⟩:=hl j y v' e1 e2 e3;refine⟨u',r',?_⟩
        rcases q with⟨k,e⟩ | ⟨k,c,e,z⟩
        ·refine .inl ⟨k,?_⟩;have:y≠x:=fun e=>hj (Ia hN e1 (e▸hi));simp[this,e]
        ·exact .inr ⟨k,c,e,z.sameBut hs (cne y c e)⟩
    ·obtain⟨w',z⟩:=I.cell y c e;exact⟨w',z.sameBut hs (cne y c e)⟩
    ·obtain⟨e,n,ne,nf,d⟩:=I.pin p hp;exact⟨(hs.2 p.1 ne).trans e,n,ne,nf,d⟩
  · have hfn:X.fn x=true:=by
      rcases hf with z | z
      ·exact z
      ·rw[z] at hk;cases hk
    obtain⟨c,hc⟩:=I.ok.has x (.inl hk);obtain⟨w',z⟩:=I.cell x c hc;refine wpAny_storeName_cell I.ok.kind hk hc z (fun h' hc' hs=>?_);obtain⟨oc,hoc,qj9⟩:=id z;refine h {s with heap:=h'} ⟨I.ok,I.os,I.bare,⟨fun b o e n hb hx=>?_,fun b o e n hb hx=>?_,I.base.free,fun b o e hx=>?_,I.base.tups,I.base.Ac,I.base.A_⟩,⟨m,hn.sameBut hs (Ne.symm (cne x c hc)),fun j y v' e1 e2 e3=>?_⟩,fun y c' e=>?_,I.free,I.lN,fun p hp=>?_,tracked ⟨oc,hoc,I.lN x c hc⟩ hs,by simpa using I.len⟩ ⟨c,hs,.inr hc⟩
    ·exact(hs.2 b (Nat.ne_of_lt (Nat.lt_of_lt_of_le (Heap.lt_size e) (I.ok.cab x c hfn hc)))).trans (I.base.keep b o e n hb hx)
    ·obtain⟨sl,e1⟩:=I.base.slot b o e n hb hx;exact⟨sl,(hs.2 b (Nat.ne_of_lt (Nat.lt_of_lt_of_le (Heap.lt_size e) (I.ok.cab x c hfn hc)))).trans e1⟩
    ·obtain⟨o',e1⟩:=I.base.there b o e hx;exact⟨o',(hs.2 b (Nat.ne_of_lt (Nat.lt_of_lt_of_le (Heap.lt_size e) (I.ok.cab x c hfn hc)))).trans e1⟩
    · by_cases hj:j=i
      ·subst hj;rw[hi] at e1;cases e1;rw[List.getElem?_set_self hiσ] at e2;cases e2;exact⟨u,r,.inr ⟨.inl hk,c,hc,hc'⟩⟩
      · rw[List.getElem?_set_ne (Ne.symm hj)] at e2;obtain⟨u',r',q⟩:=hl j y v' e1 e2 e3;refine⟨u',r',?_⟩
        rcases q with q | ⟨k,c',e,z'⟩
        ·exact .inl q
        ·refine .inr ⟨k,c',e,z'.sameBut hs ?_⟩;rintro rfl;exact hj (Ia hN e1 (I.ok.inj _ _ _ e hc▸hi))
    · by_cases hcc:c'=c
      ·subst hcc;exact⟨_,hc'⟩
      ·obtain⟨w2,z2⟩:=I.cell y c' e;exact⟨w2,z2.sameBut hs hcc⟩
    ·obtain⟨e,n,ne,nf,d⟩:=I.pin p hp;refine⟨(hs.2 p.1 ?_).trans e,n,ne,nf,d⟩;intro q;rw[q,hoc] at e;have q':oc=p.2:=Option.some.inj e;exact d w' (by rw[← q'];exact qj9)
theorem Ib {M:Model} {A:Around} {E:Value→Shared→Prop} {i:Nat} {x:Str} {v:V} {u:Value} {Q:Unit→Shared→Prop} (I:Inv X p_ σ H s) (hN:X.N.Nodup) (hi:X.N[i]? = some x) (hx:Loc X.env.scope x) (r:RelV v u)
    (h:∀s',Inv X p_ (σ.set i (some v)) H s'→Q () s') (hf:X.fn x=true∨X.env.scope.names.lookup x=some .local:=by first | exact .inl rfl | exact .inr rfl | assumption):wpAny M A (storeName X.env x u) Q E s:=
  zK I hN hi hx r (fun s' I' _=>h s' I') hf
theorem Inv.call' {s':Shared} {ch:List Addr} (I:Inv X p_ σ H s) (ho:s'.os=s.os) (u:Un (frs X.stack) ch H H' s.heap s'.heap) (hok:xT X.prog X.w H' s'.heap) (hg:AllBare s'.gens)
    (hch:∀b∈ch,(b∈X.ex∨X.s₀.heap.objs.size≤b)∧b≠X.env.locals∧(∀x c,X.env.cells.lookup x=some c→c≠b)∧∀p∈X.pn++p_,p.1≠b):Inv X p_ σ H' s':=by
  obtain⟨h',g',d',t',o'⟩:=s';have e:o'=s.os:=ho;subst e;exact I.call (g':=g') (t':=t') (d':=d') u hok hg hch
end
abbrev XK:=Value→Option Addr→Hp→Prop
abbrev St:=List (Option V)
abbrev VK:=V→Hp→Prop
abbrev TE:=St→Hp→VK→Prop
abbrev TT:=St→Hp→(Bool→Hp→Prop)→Prop
abbrev TA:=St→Hp→(List V→Hp→Prop)→Prop
structure Ends where
  nx:St→Hp→Prop
  rt:VK
  bk:St→Hp→Prop:=fun _ _=>False
  ct:St→Hp→Prop:=fun _ _=>False
abbrev TS:=Ends→St→Hp→Prop
def EP (X:Cx) (p_:List (Addr×Obj)) (σ:St) (Q:VK) (u:Value) (s':Shared):Prop:=∃v H',Inv X p_ σ H' s'∧RelV v u∧Q v H'
def TP (X:Cx) (p_:List (Addr×Obj)) (σ:St) (Q:Bool→Hp→Prop) (b:Bool) (s':Shared):Prop:=∃H',Inv X p_ σ H' s'∧Q b H'
def AP (X:Cx) (p_:List (Addr×Obj)) (σ:St) (Q:List V→Hp→Prop) (us:List Value) (s':Shared):Prop:=∃vs H',Inv X p_ σ H' s'∧Vals vs us∧Q vs H'
def SP (X:Cx) (p_:List (Addr×Obj)) (D:Ends) (f:Flow) (s':Shared):Prop:=
  match f with
  | .next=>∃σ' H',Inv X p_ σ' H' s'∧D.nx σ' H'
  | .brk=>∃σ' H',Inv X p_ σ' H' s'∧D.bk σ' H'
  | .cont=>∃σ' H',Inv X p_ σ' H' s'∧D.ct σ' H'
  | .ret u=>∃v σ' H',Inv X p_ σ' H' s'∧RelV v u∧D.rt v H'
def PE (X:Cx) (e:Expr) (t:TE):Prop:=
  ∀(p_:List (Addr×Obj)) (s:Shared) (σ:St) (H:Hp) (Q:VK),Inv X p_ σ H s→t σ H Q→wpAny (model X.prog X.w) X.A (eval e X.env) (EP X p_ σ Q) X.xe s
def PT (X:Cx) (e:Expr) (t:TT):Prop:=
  ∀(p_:List (Addr×Obj)) (s:Shared) (σ:St) (H:Hp) (Q:Bool→Hp→Prop),Inv X p_ σ H s→t σ H Q→wpAny (model X.prog X.w) X.A (isTrue e X.env (eval e X.env)) (TP X p_ σ Q) X.xe s
def PW (X:Cx) (e:Expr) (t:TT):Prop:=
  ∀(whole:Sem Value) (p_:List (Addr×Obj)) (s:Shared) (σ:St) (H:Hp) (Q:Bool→Hp→Prop),Inv X p_ σ H s→t σ H Q→wpAny (model X.prog X.w) X.A (isTrue e X.env whole) (TP X p_ σ Q) X.xe s
theorem PW.pt {X:Cx} {e:Expr} {t:TT} (h:PW X e t):PT X e t:=h _
def PA (X:Cx) (es:List Expr) (t:TA):Prop:=
  ∀(pos:Pos) (p_:List (Addr×Obj)) (s:Shared) (σ:St) (H:Hp) (Q:List V→Hp→Prop),Inv X p_ σ H s→t σ H Q→wpAny (model X.prog X.w) X.A (spliced (backTo pos (starEach es X.env))) (AP X p_ σ Q) X.xe s
def PS (X:Cx) (st:Stmt) (t:TS):Prop:=
  ∀(p_:List (Addr×Obj)) (s:Shared) (σ:St) (H:Hp) (D:Ends),Inv X p_ σ H s→t D σ H→wpAny (model X.prog X.w) X.A (exec st X.env) (SP X p_ D) X.xe s
def K9 (X:Cx) (st:List Stmt) (t:TS):Prop:=
  ∀(p_:List (Addr×Obj)) (s:Shared) (σ:St) (H:Hp) (D:Ends),Inv X p_ σ H s→t D σ H→wpAny (model X.prog X.w) X.A (execs st X.env) (SP X p_ D) X.xe s
theorem cU {α:Type} {t:Sem α} {Q Q':α→Shared→Prop} {M:Model} {A:Around} {E:Value→Shared→Prop} {s:Shared} (h:wpAny M A t Q E s) (hQ:∀a s,Q a s→Q' a s):wpAny M A t Q' E s:=wpAny_mono h hQ fun _ _ x=>x
section
variable {X:Cx}
def qeK (i:Nat):TE:=fun σ H Q=>∃v,σ[i]? = some (some v)∧Q v H
def tC (v:V):TE:=fun _ H Q=>Q v H
theorem qeL {i:Nat} {x:Str} {pos:Pos} (hN:X.N[i]? = some x) (hv:Vis X.env.scope x) (hd:(x == ("__debug__" : Str))=false:=by decide) (hcd:(x == ("__classdict__" : Str))=false:=by decide):PE X (.Name x pos) (qeK i):=by
  intro p_ s σ H Q I h;obtain⟨v,e,h⟩:=h;obtain⟨m,hn,hl⟩:=I.loc;obtain⟨u,r,l⟩:=hl i x v hN e hv;have fin:EP X p_ σ Q u s:=⟨v,H,I,r,h⟩
  rcases l with⟨hk,hm⟩ | ⟨hk,c,hc,hcell⟩
  ·exact wpAny_Name (wpAny_loadName_local I.ok.kind hk hn hm fin) hd
  · rcases hk with hk | hk
    ·exact wpAny_Name (wpAny_loadName_cell I.ok.kind hk hc hcell fin) hd
    ·exact wpAny_Name (wpAny_loadName_free I.ok.kind hk hc hcell fin hcd) hd
theorem aN {i j pos}:PE X (.Constant (.int i) j pos) (tC (.int i)):=fun _ _ _ H _ I h=>wpAny_Constant_int ⟨.int i,H,I.tok _,⟨_,rfl⟩,h⟩
theorem mz {b j pos}:PE X (.Constant (.bool b) j pos) (tC (.bl b)):=fun _ _ _ H _ I h=>Constant_bool ⟨.bl b,H,I,rfl,h⟩
theorem Ub {j pos}:PE X (.Constant .none j pos) (tC .non):=fun _ _ _ H _ I h=>Constant_none ⟨.non,H,I,rfl,h⟩
theorem bH {x j pos}:PE X (.Constant (.str x) j pos) (tC (.str x)):=fun _ _ _ H _ I h=>Calls.Constant_str ⟨.str x,H,I.tok _,⟨_,rfl⟩,h⟩
def Gl (X:Cx) (x:Str):Prop:=X.env.kindOf x=some .globalImplicit
theorem vV {E:Value→Shared→Prop} {p_:List (Addr×Obj)} {s:Shared} {σ:St} {H:Hp} {x:Str} {u:Value} {pos:Pos} {Q:Value→Shared→Prop} (I:Inv X p_ σ H s) (hg:Gl X x) (hm:X.mg x=some u) (h:Q u s)
    (hd:(x == ("__debug__" : Str))=false:=by decide):wpAny (model X.prog X.w) X.A (eval (.Name x pos) X.env) Q E s:=
  Calls.Name_function_global I.ok.kind hg (Calls.loadGlobal_global (by rw[I.ok.glob];exact I.mod.glob.keeps I.bk) hm h) hd
theorem rR {E:Value→Shared→Prop} {p_:List (Addr×Obj)} {s:Shared} {σ:St} {H:Hp} {x:Str} {u:Value} {pos:Pos} {Q:Value→Shared→Prop} (I:Inv X p_ σ H s) (hg:Gl X x) (hm:X.mg x=none) (hv:bootBuiltins x=some u) (h:Q u s)
    (hn:x≠ "__name__" :=by decide) (hd:(x == ("__debug__" : Str))=false:=by decide):wpAny (model X.prog X.w) X.A (eval (.Name x pos) X.env) Q E s:=by
  obtain⟨mb,h1,h2⟩:=I.mod.blt;exact Calls.Name_function_global I.ok.kind hg (Calls.loadGlobal_builtin (by rw[I.ok.glob];exact I.mod.glob.keeps I.bk) hm (by rw[I.ok.blt];exact h1.keeps I.bk) ((h2 x hn).trans hv) h) hd
theorem bL {x:Str} {v:V} {u:Value} {pos:Pos} (hg:Gl X x) (hm:X.mg x=some u) (r:RelV v u) (hd:(x == ("__debug__" : Str))=false:=by decide):PE X (.Name x pos) (tC v):=
  fun _ _ _ H _ I h=>vV I hg hm ⟨v,H,I,r,h⟩ hd
theorem mC {x:Str} {v:V} {u:Value} {pos:Pos} (hg:Gl X x) (hm:X.mg x=none) (hv:bootBuiltins x=some u) (r:RelV v u) (hn:x≠ "__name__" :=by decide) (hd:(x == ("__debug__" : Str))=false:=by decide):PE X (.Name x pos) (tC v):=
  fun _ _ _ H _ I h=>rR I hg hm hv ⟨v,H,I,r,h⟩ hn hd
variable {a b:Expr} {ta tb:TE} {pos:Pos}
def PC (X:Cx) (op:CmpOp) (a b:Expr) (t:TE):Prop:=
  ∀(p_:List (Addr×Obj)) (s:Shared) (σ:St) (H:Hp) (Q:VK),Inv X p_ σ H s→t σ H Q→
    wpAny (model X.prog X.w) X.A (eval a X.env) (fun v s₁=>wpAny (model X.prog X.w) X.A (eval b X.env) (fun u s₂=>wpAny (model X.prog X.w) X.A (compareOp op v u) (EP X p_ σ Q) X.xe s₂) X.xe s₁) X.xe s
theorem Ra (b:Expr) {op:CmpOp} (h:op≠.In) (h2:op≠.NotIn):behindInMarks op b=false:=by
  have e1:(op == CmpOp.In)=false:=by cases op <;> first | rfl | exact absurd rfl h
  have e2:(op == CmpOp.NotIn)=false:=by cases op <;> first | rfl | exact absurd rfl h2
  cases b <;> simp[behindInMarks,e1,e2]
def tB (t:TE):TT:=fun σ H Q=>t σ H fun x H1=>∃c,x = .bl c∧Q c H1
theorem qeM {op:CmpOp} {t:TE} (h:PC X op a b t) (h1:behindInMarks op b=false:=by first | exact Ra _ (by decide) (by decide) | rfl):PT X (.Compare a [op] [b] pos) (tB t):=by
  intro p_ s σ H Q I hw;refine wpAny_isTrue_Compare1 (cU (h p_ s σ H _ I hw) fun v s1 h1=>cU h1 fun u s2 h2=>cU h2 fun c s3 zz=>?_) h1;obtain⟨x,H1,I1,r1,q1⟩:=zz;obtain⟨d,rfl,q⟩:=q1;cases r1;exact wpAny_truthy_bool ⟨H1,I1,q⟩
theorem qeN {e:Expr} {t:TE} (h:PE X e t) (he:∀whole,isTrue e X.env whole=(do let v ← whole;standAt e.pos;holding [v] (truthy v)):=by intro _;rfl):PT X e (tB t):=by
  intro p_ s σ H Q I hw;refine isTrue_plain (cU (h p_ s σ H _ I hw) fun v s1 zz=>?_) (he _);obtain⟨x,H1,I1,r1,q1⟩:=zz;obtain⟨d,rfl,q⟩:=q1;cases r1;exact wpAny_truthy_bool ⟨H1,I1,q⟩
variable {tA tB':TT} {rest:List Expr}
def qgO (t u:TT):TT:=fun σ H Q=>t σ H fun c H1=>if c=true then u σ H1 Q else Q false H1
def tOr (t u:TT):TT:=fun σ H Q=>t σ H fun c H1=>if c=true then Q true H1 else u σ H1 Q
def qgP (t:TT):TT:=fun σ H Q=>t σ H fun c H1=>Q (!c) H1
theorem Oo (ha:PT X a tA):PW X (.BoolOp .And [a] pos) tA:=by
  intro wh p_ s σ H Q I h;refine isTrue_and (cU (ha p_ s σ H Q I h) fun c s1 e=>?_);cases c with
  | true=>exact isTrue_and_nil e
  | false=>exact e
theorem qm (ha:PT X a tA):PW X (.BoolOp .Or [a] pos) tA:=by
  intro wh p_ s σ H Q I h;refine isTrue_or (cU (ha p_ s σ H Q I h) fun c s1 e=>?_);cases c with
  | false=>exact isTrue_or_nil e
  | true=>exact e
theorem Uc (ha:PT X a tA) (hb:PW X (.BoolOp .And (b::rest) pos) tB'):PW X (.BoolOp .And (a::b::rest) pos) (qgO tA tB'):=by
  intro wh p_ s σ H Q I h;refine isTrue_and (cU (ha p_ s σ H _ I h) fun c s1 zz=>?_);obtain⟨H1,I1,q1⟩:=zz;cases c with
  | true=>exact hb wh p_ s1 σ H1 Q I1 q1
  | false=>exact⟨H1,I1,q1⟩
theorem xq (ha:PT X a tA) (hb:PW X (.BoolOp .Or (b::rest) pos) tB'):PW X (.BoolOp .Or (a::b::rest) pos) (tOr tA tB'):=by
  intro wh p_ s σ H Q I h;refine isTrue_or (cU (ha p_ s σ H _ I h) fun c s1 zz=>?_);obtain⟨H1,I1,q1⟩:=zz;cases c with
  | true=>exact⟨H1,I1,q1⟩
  | false=>exact hb wh p_ s1 σ H1 Q I1 q1
theorem fO (ha:PT X a tA):PT X (.UnaryOp .Not a pos) (qgP tA):=by
  intro p_ s σ H Q I h;exact isTrue_not (ha p_ s σ H (fun c H1=>Q (!c) H1) I h)
def ZV (ta tb:TE):TE:=fun σ H Q=>ta σ H fun x H1=>∃c,x = .bl c∧if c=true then tb σ H1 Q else Q (.bl false) H1
def ZW (ta:TE):TE:=fun σ H Q=>ta σ H fun x H1=>∃c,x = .bl c∧Q (.bl (!c)) H1
theorem Ie {op} {t:TE} (h:PE X a t):PE X (.BoolOp op [a] pos) t:=fun p_ s σ H Q I hw=>BoolOp_one (h p_ s σ H Q I hw)
theorem qeO (ha:PE X a ta) (hb:PE X (.BoolOp .And (b::rest) pos) tb):PE X (.BoolOp .And (a::b::rest) pos) (ZV ta tb):=by
  intro p_ s σ H Q I h;refine BoolOp_and (cU (ha p_ s σ H _ I h) fun v s1 zz=>?_);obtain⟨x,H1,I1,r1,q1⟩:=zz;obtain⟨c,rfl,q1⟩:=q1;cases r1;refine wpAny_truthy_bool ?_;cases c with
  | true=>exact hb p_ s1 σ H1 Q I1 q1
  | false=>exact⟨.bl false,H1,I1,rfl,q1⟩
theorem qeP (ha:PE X a ta):PE X (.UnaryOp .Not a pos) (ZW ta):=by
  intro p_ s σ H Q I h;refine UnaryOp_ (cU (ha p_ s σ H _ I h) fun v s1 zz=>?_);obtain⟨x,H1,I1,r1,q1⟩:=zz;obtain⟨c,rfl,q1⟩:=q1;cases r1;exact not_of (wpAny_truthy_bool ⟨.bl (!c),H1,I1,rfl,q1⟩)
def tIf (t:TT) (ta tb:TE):TE:=fun σ H Q=>t σ H fun c H1=>if c=true then ta σ H1 Q else tb σ H1 Q
theorem Rb {c:Expr} (hc:PT X c tA) (ha:PE X a ta) (hb:PE X b tb):PE X (.IfExp c a b pos) (tIf tA ta tb):=by
  intro p_ s σ H Q I h;refine wpAny_IfExp (cU (hc p_ s σ H _ I h) fun d s1 zz=>?_);obtain⟨H1,I1,q1⟩:=zz;cases d with
  | true=>exact ha p_ s1 σ H1 Q I1 q1
  | false=>exact hb p_ s1 σ H1 Q I1 q1
end
def bC (K:W.Frag) (H:Hp) (a:Addr) (xs:List V):Prop:=
  Rd H a (.lst xs)∨
    ∃(o:Obj) (its:Array Value) (n:Nat),K.lookup a=some o∧o.cls = .type "list" ∧o.dict=none∧o.data = .seq its n∧its.size≤sizeLine∧Vals xs its.toList
def gq (K:W.Frag) (H:Hp) (a:Addr) (xs:List V):Prop:=
  Rd H a (.tup xs)∨
    ∃(o:Obj) (its:Array Value) (n:Nat),K.lookup a=some o∧o.cls = .type "tuple" ∧o.data = .seq its n∧its.size≤sizeLine∧Vals xs its.toList
def qj_:Value→Option V
  | .none=>some .non
  | .bool b=>some (.bl b)
  | .int i _=>some (.int i)
  | .str x _=>some (.str x)
  | .bytes b _=>some (.ZF b)
  | .float b _=>some (.flt b)
  | .ref a=>some (.ref a)
  | .type n=>some (.ty n)
  | _=>none
theorem RelV.abs {x:V} {u:Value} (r:RelV x u):qj_ u=some x:=by
  cases x with
  | non=>cases r;rfl
  | bl _=>cases r;rfl
  | int _=>obtain⟨t,rfl⟩:=r;rfl
  | str _=>obtain⟨t,rfl⟩:=r;rfl
  | ZF _=>obtain⟨t,rfl⟩:=r;rfl
  | flt _=>obtain⟨t,rfl⟩:=r;rfl
  | ref _=>cases r;rfl
  | ty _=>cases r;rfl
theorem RelV.inj {x y:V} {u:Value} (r:RelV x u) (q:RelV y u):x=y:=Option.some.inj (r.abs.symm.trans q.abs)
theorem Vals.inj:∀{xs ys:List V} {us:List Value},Vals xs us→Vals ys us→xs=ys
  | _,_,_,.nil,.nil=>rfl
  | _,_,_,.cons r t,.cons r' t'=>by rw[r.inj r',Vals.inj t t']
section
variable {X:Cx} {p_:List (Addr×Obj)} {σ:St} {H:Hp} {s:Shared} {a:Addr} {xs ys:List V}
theorem bC.of {K:W.Frag} (h:H a=some (.lst xs)):bC K H a xs:=.inl (.inl h)
theorem gq.of {K:W.Frag} (h:H a=some (.tup xs)):gq K H a xs:=.inl (.inl h)
theorem Inv.list (I:Inv X p_ σ H s) (h:bC X.K H a xs):∃its:List Value,Vals xs its∧PlainL s.heap a its.toArray∧xs.length≤sizeLine:=by
  rcases h with h | ⟨o,its,n,hk,hc,hd,hs,hz,r⟩
  ·obtain⟨z,its,n,r,e⟩:=h.ok I.hok;exact⟨its,r,⟨_,n,e,rfl,rfl,rfl⟩,z⟩
  ·refine⟨its.toList,r,⟨o,n,I.Ad a o hk,hc,hd,by simpa using hs⟩,?_⟩;have e:=r.length;simp only[Array.length_toList] at e;omega
theorem Inv.tuple (I:Inv X p_ σ H s) (h:gq X.K H a xs):∃its:List Value,Vals xs its∧IsTup s.heap a its.toArray∧xs.length≤sizeLine:=by
  rcases h with h | ⟨o,its,n,hk,hc,hs,hz,r⟩
  ·obtain⟨z,its,r,p⟩:=h.ok I.hok;exact⟨its,r,p,z⟩
  ·refine⟨its.toList,r,⟨o,I.Ad a o hk,hc,n,by simpa using hs⟩,?_⟩;have e:=r.length;simp only[Array.length_toList] at e;omega
theorem Inv.rT (I:Inv X p_ σ H s) (h:bC X.K H a xs) (h':bC X.K H a ys):xs=ys:=by
  obtain⟨its,r,⟨o,n,e,_,_,d⟩,_⟩:=I.list h;obtain⟨its',r',⟨o',n',e',_,_,d'⟩,_⟩:=I.list h';rw[e] at e';cases e';rw[d] at d';injection d' with d1 _;have:its=its':=by simpa using congrArg Array.toList d1
  subst this;exact r.inj r'
theorem Inv.Mh (I:Inv X p_ σ H s) (h:gq X.K H a xs) (h':gq X.K H a ys):xs=ys:=by
  obtain⟨its,r,⟨o,e,_,n,d⟩,_⟩:=I.tuple h;obtain⟨its',r',⟨o',e',_,n',d'⟩,_⟩:=I.tuple h';rw[e] at e';cases e';rw[d] at d';injection d' with d1 _;have:its=its':=by simpa using congrArg Array.toList d1
  subst this;exact r.inj r'
end
abbrev Cx.wish (X:Cx) (E:Value→Shared→Prop):Cx:={X with xe:=E}
abbrev Cx.ZG (X:Cx):Cx:=X.wish fun _ _=>False
theorem Cx.Ok.wish {X:Cx} (ok:X.Ok) (E:Value→Shared→Prop):(X.wish E).Ok:=
  ⟨ok.mod,ok.kind,ok.glob,ok.blt,ok.above,ok.inj,ok.has,ok.cab,ok.hd,ok.frames,ok.stk,ok.exf,ok.bs,ok.Xx,ok.Q_,ok.Om,ok.xV,ok.ZS⟩
theorem Cx.Ok.xW {X:Cx} {E:Value→Shared→Prop} (ok:(X.wish E).Ok):X.Ok:=
  ⟨ok.mod,ok.kind,ok.glob,ok.blt,ok.above,ok.inj,ok.has,ok.cab,ok.hd,ok.frames,ok.stk,ok.exf,ok.bs,ok.Xx,ok.Q_,ok.Om,ok.xV,ok.ZS⟩
section
variable {X:Cx} {p_:List (Addr×Obj)} {σ:St} {H:Hp} {s:Shared} {E:Value→Shared→Prop}
theorem Inv.wish (I:Inv X p_ σ H s) (E:Value→Shared→Prop):Inv (X.wish E) p_ σ H s:=⟨I.ok.wish E,I.os,I.bare,I.base,I.loc,I.cell,I.free,I.lN,I.pin,I.hok,I.len⟩
theorem Inv.xW (I:Inv (X.wish E) p_ σ H s):Inv X p_ σ H s:=⟨I.ok.xW,I.os,I.bare,I.base,I.loc,I.cell,I.free,I.lN,I.pin,I.hok,I.len⟩
theorem SP.xW {D:Ends} {f:Flow} {s':Shared} (h:SP (X.wish E) p_ D f s'):SP X p_ D f s':=by
  cases f with
  | next=>obtain⟨σ',H',I,q⟩:=h;exact⟨σ',H',I.xW,q⟩
  | brk=>obtain⟨σ',H',I,q⟩:=h;exact⟨σ',H',I.xW,q⟩
  | cont=>obtain⟨σ',H',I,q⟩:=h;exact⟨σ',H',I.xW,q⟩
  | ret u=>obtain⟨v,σ',H',I,r,q⟩:=h;exact⟨v,σ',H',I.xW,r,q⟩
theorem K9.ZG {st:List Stmt} {t:TS} (h:K9 X.ZG st t):K9 X st t:=fun p_ s σ H D I hw=>
  wpAny_mono (h p_ s σ H D (I.wish _) hw) (fun _ _ q=>q.xW) fun _ _ z=>False.elim z
end
section
variable {X:Cx} {st:Stmt} {rest:List Stmt} {t u:TS} {e:Expr} {te:TE} {pos:Pos}
def qdZ:TS:=fun D σ H=>D.nx σ H
def qeQ (t u:TS):TS:=fun D σ H=>t {D with nx:=u D} σ H
theorem cu:K9 X [] qdZ:=fun _ _ σ H _ I h=>wpAny_execs_nil ⟨σ,H,I,h⟩
theorem aC (h1:PS X st t) (h2:K9 X rest u):K9 X (st::rest) (qeQ t u):=by
  intro p_ s σ H D I h;refine wpAny_execs_cons (cU (h1 p_ s σ H {D with nx:=u D} I h) fun f s1 q=>?_);cases f with
  | next=>
    obtain⟨σ',H',I',q⟩:=q;exact h2 p_ s1 σ' H' D I' q
  | ret v=>exact q
  | brk=>exact q
  | cont=>exact q
theorem aJ (h1:PS X st t):K9 X [st] t:=by
  intro p_ s σ H D I h;refine wpAny_execs_cons (cU (h1 p_ s σ H D I h) fun f s1 q=>?_);cases f with
  | next=>exact wpAny_execs_nil q
  | ret v=>exact q
  | brk=>exact q
  | cont=>exact q
theorem Inv.quiet {p_:List (Addr×Obj)} {σ:St} {H:Hp} {s:Shared} (I:Inv X p_ σ H s):interactive X.env=false:=by simp[interactive,I.ok.kind]
def qd0 (te:TE):TS:=fun D σ H=>te σ H fun _ H1=>D.nx σ H1
theorem fu (he:PE X e te) (hs:swapsWith e none pos.line X.env=pure false:=by rfl):PS X (.Expr e pos) (qd0 te):=by
  intro p_ s σ H D I h;refine wpAny_Expr_any (cU (he p_ s σ H _ I h) fun v s1 zz=>?_) I.quiet hs;obtain⟨x,H1,I1,r1,q1⟩:=zz;exact⟨σ,H1,I1,q1⟩
def qeR (te:TE):TS:=fun D σ H=>te σ H D.rt
theorem bw (he:PE X e te):PS X (.Return (some e) pos) (qeR te):=by
  intro p_ s σ H D I h;refine wpAny_Return_some (cU (he p_ s σ H _ I h) fun v s1 zz=>?_);obtain⟨x,H1,I1,r1,q1⟩:=zz;exact⟨x,σ,H1,I1,r1,q1⟩
def qgQ (c:TT) (t u:TS):TS:=fun D σ H=>c σ H fun b H1=>if b=true then t D σ H1 else u D σ H1
theorem eX {c:Expr} {a b:List Stmt} {tc:TT} (hc:PT X c tc) (ha:K9 X a t) (hb:K9 X b u):PS X (.If c a b pos) (qgQ tc t u):=by
  intro p_ s σ H D I h;refine wpAny_If (cU (hc p_ s σ H _ I h) fun d s1 zz=>?_);obtain⟨H1,I1,q1⟩:=zz;cases d with
  | true=>exact ha p_ s1 σ H1 D I1 q1
  | false=>exact hb p_ s1 σ H1 D I1 q1
def Ud:TS:=fun _ _ _=>False
theorem pD:PS X st Ud:=fun _ _ _ _ _ _ h=>h.elim
theorem Mi {sts:List Stmt}:K9 X sts Ud:=fun _ _ _ _ _ _ h=>h.elim
end
abbrev TG:=V→St→Hp→(St→Hp→Prop)→Prop
abbrev Mj:=List V→St→Hp→(St→Hp→Prop)→Prop
def PG (X:Cx) (target:Expr) (t:TG):Prop:=
  ∀(p_:List (Addr×Obj)) (s:Shared) (σ:St) (H:Hp) (v:V) (u:Value) (Q:St→Hp→Prop),Inv X p_ σ H s→RelV v u→t v σ H Q→
    wpAny (model X.prog X.w) X.A (assign target X.env u) (fun _ s'=>∃σ' H',Inv X p_ σ' H' s'∧Q σ' H') X.xe s
def fB (X:Cx) (ts:List Expr) (t:Mj):Prop:=
  ∀(p_:List (Addr×Obj)) (s:Shared) (σ:St) (H:Hp) (vs:List V) (us:List Value) (Q:St→Hp→Prop),Inv X p_ σ H s→Vals vs us→t vs σ H Q→
    wpAny (model X.prog X.w) X.A (assignInOrder ((assignEach ts X.env).map (·.2)) us) (fun _ s'=>∃σ' H',Inv X p_ σ' H' s'∧Q σ' H') X.xe s
abbrev Xy:=V→V→V→Hp→(Hp→Prop)→Prop
def Xz (X:Cx) (t:Xy):Prop:=
  ∀(p_:List (Addr×Obj)) (s:Shared) (σ:St) (H:Hp) (o i v:V) (ov iv u:Value) (Q:Hp→Prop),Inv X p_ σ H s→RelV o ov→RelV i iv→RelV v u→t o i v H Q→
    wpAny (model X.prog X.w) X.A (setItem ov iv u) (fun _ s'=>∃H',Inv X p_ σ H' s'∧Q H') X.xe s
abbrev TIp:=V→V→Hp→VK→Prop
def PIp (X:Cx) (op:Operator) (t:TIp):Prop:=
  ∀(p_:List (Addr×Obj)) (s:Shared) (σ:St) (H:Hp) (x y:V) (v u:Value) (Q:VK),Inv X p_ σ H s→RelV x v→RelV y u→t x y H Q→
    wpAny (model X.prog X.w) X.A (inplaceOp op v u) (EP X p_ σ Q) X.xe s
section
variable {X:Cx} {pos:Pos}
def Ml (i:Nat):TG:=fun v σ H Q=>Q (σ.set i (some v)) H
theorem aP {i:Nat} {x:Str} (hN:X.N.Nodup) (hi:X.N[i]? = some x) (hx:Loc X.env.scope x) (hf:X.fn x=true∨X.env.scope.names.lookup x=some .local:=by first | exact .inl rfl | exact .inr rfl | assumption):PG X (.Name x pos) (Ml i):=by
  intro p_ s σ H v u Q I r h;exact wpAny_assign_Name (Ib I hN hi hx r (fun s' I'=>⟨_,H,I',h⟩) hf)
def qeS:Mj:=fun vs σ H Q=>vs=[]∧Q σ H
def ZX (t:TG) (u:Mj):Mj:=fun vs σ H Q=>∃v r,vs=v::r∧t v σ H fun σ' H'=>u r σ' H' Q
theorem cM:fB X [] qeS:=by
  intro p_ s σ H vs us Q I r h;obtain⟨e,h⟩:=h;subst e;cases r;exact assignInOrder_nil ⟨σ,H,I,h⟩
theorem aU {e:Expr} {es:List Expr} {t:TG} {u:Mj} (h1:PG X e t) (h2:fB X es u)
    (hs:(assignEach (e::es) X.env).map (·.2)=assign e X.env::(assignEach es X.env).map (·.2):=by rfl):fB X (e::es) (ZX t u):=by
  intro p_ s σ H vs us Q I r h;obtain⟨v,vr,e1,h⟩:=h;subst e1;cases r with
  | cons r rr=>
    rw[hs];refine assignInOrder_cons (cU (h1 p_ s σ H _ _ _ I r h) fun _ s1 zz=>?_);obtain⟨σ1,H1,I1,q1⟩:=zz;exact h2 p_ s1 σ1 H1 _ _ Q I1 rr q1
def qcF (K:W.Frag) (n:Nat) (t:Mj):TG:=fun v σ H Q=>∃a xs,v = .ref a∧gq K H a xs∧xs.length=n∧t xs σ H Q
theorem qeT {es:List Expr} {k:Nat} {t:Mj} {n:Nat} (hc:X.calm=true) (h:fB X es t)
    (hn:(assignEach es X.env).length=n:=by rfl) (hst:(assignEach es X.env).findIdx? (·.1)=none:=by rfl):PG X (.Tuple es k pos) (qcF X.K n t):=by
  intro p_ s σ H v u Q I r hw;obtain⟨a,xs,e1,hq,hl,hw⟩:=hw;subst e1;cases r;obtain⟨its,rv,ht,hz⟩:=I.tuple hq;refine assign_Tuple_tuple (I.ok.hd hc) ht (by simp[hn,← hl,rv.length]) hst fun h' hx=>?_;have I1:Inv X p_ σ H {s with heap:=h'}:=I.kept (t':=s.toks) fun b o e=>hx b o (Nat.ne_of_lt (Heap.lt_size e)) e;exact h p_ _ σ H xs _ Q I1 (by simpa using rv) hw
def qgR (to ti:TE) (t:Xy):TG:=fun v σ H Q=>to σ H fun o H1=>ti σ H1 fun i H2=>t o i v H2 fun H3=>Q σ H3
theorem Z0 {o i:Expr} {to ti:TE} {t:Xy} (ho:PE X o to) (hi:PE X i ti) (hs:Xz X t)
    (ha:∀v,assign (.Subscript o i pos) X.env v=(do
      let ov ← holding [v] (eval o X.env)
      let iv ← holding [v,ov] (eval i X.env)
      standAt pos
      holding [v,ov,iv] (setItem ov iv v)
      release [v,ov,iv] []):=by intro _;rfl):PG X (.Subscript o i pos) (qgR to ti t):=by
  intro p_ s σ H v u Q I r h;rw[ha];refine wpAny_bind (wpAny_holding (cU (ho p_ s σ H _ I h) fun ov s1 zz=>?_));obtain⟨x,H1,I1,r1,q1⟩:=zz;refine wpAny_bind (wpAny_holding (cU (hi p_ s1 σ H1 _ I1 q1) fun iv s2 zz=>?_));obtain⟨y,H2,I2,r2,q2⟩:=zz;refine wpAny_bind (wpAny_standAt (wpAny_bind (wpAny_holding (cU (hs p_ s2 σ H2 x y v ov iv u _ I2 r1 r2 r q2) fun _ s3 zz=>?_))));obtain⟨H3,I3,q3⟩:=zz;exact wpAny_release ⟨σ,H3,I3,q3⟩
def Z1 (te:TE) (g:TG):TS:=fun D σ H=>te σ H fun x H1=>g x σ H1 D.nx
theorem Ig {tg e:Expr} {te:TE} {g:TG} (he:PE X e te) (hg:PG X tg g) (hs:swapsWithSole [tg] e pos.line X.env=pure false:=by rfl) (hw:swappedStores [tg] e X.env=pure none:=by rfl)
    (h1:(assignEach [tg] X.env).map (·.2)=[assign tg X.env]:=by rfl):PS X (.Assign [tg] e pos) (Z1 te g):=by
  intro p_ s σ H D I h;refine wpAny_Assign_stores (cU (he p_ s σ H _ I h) fun v s1 zz=>?_) hs hw;obtain⟨x,H1,I1,r1,q1⟩:=zz;rw[h1];exact cU (hg p_ s1 σ H1 x v _ I1 r1 q1) fun _ s2 q=>q
theorem bx {i:Nat} {x:Str} {e:Expr} {te:TE} {pos':Pos} (hN:X.N.Nodup) (hi:X.N[i]? = some x) (hx:Loc X.env.scope x) (he:PE X e te) (hs:swapsWith e (some (.Name x pos')) pos.line X.env=pure false:=by rfl) (hf:X.fn x=true∨X.env.scope.names.lookup x=some .local:=by first | exact .inl rfl | exact .inr rfl | assumption) :
    PS X (.Assign [.Name x pos'] e pos) (Z1 te (Ml i)):=by
  intro p_ s σ H D I h;refine wpAny_Assign_Name (cU (he p_ s σ H _ I h) fun v s1 zz=>?_) hs;obtain⟨y,H1,I1,r1,q1⟩:=zz;exact Ib I1 hN hi hx r1 (fun s2 I2=>⟨_,H1,I2,q1⟩) hf
def qeU (i:Nat) (te:TE) (ti:TIp):TS:=fun D σ H=>∃x,σ[i]? = some (some x)∧te σ H fun y H1=>ti x y H1 fun z H2=>D.nx (σ.set i (some z)) H2
theorem qeV {i:Nat} {x:Str} {e:Expr} {te:TE} {op:Operator} {ti:TIp} {pos':Pos} (hN:X.N.Nodup) (hi:X.N[i]? = some x) (hx:Loc X.env.scope x) (he:PE X e te) (ho:PIp X op ti) (hf:X.fn x=true∨X.env.scope.names.lookup x=some .local:=by first | exact .inl rfl | exact .inr rfl | assumption) :
    PS X (.AugAssign (.Name x pos') op e pos) (qeU i te ti):=by
  intro p_ s σ H D I h;obtain⟨v,e1,h⟩:=h;obtain⟨m,hn,hl⟩:=I.loc;have vis:Vis X.env.scope x:=by rcases hx with k | k;exact .inl k;exact .inr (.inl k)
  obtain⟨u,r,l⟩:=hl i x v hi e1 vis;refine wpAny_AugAssign_Name ?_;have go:wpAny (model X.prog X.w) X.A (eval e X.env) (fun w s₂=>wpAny (model X.prog X.w) X.A (inplaceOp op u w) (fun r s₃=>wpAny (model X.prog X.w) X.A (storeName X.env x r) (fun _=>SP X p_ D .next) X.xe s₃) X.xe s₂) X.xe s:=by
    refine cU (he p_ s σ H _ I h) fun w s1 zz=>?_;obtain⟨y,H1,I1,r1,q1⟩:=zz;refine cU (ho p_ s1 σ H1 v y u w _ I1 r r1 q1) fun z s2 zz=>?_;obtain⟨zv,H2,I2,r2,q2⟩:=zz;exact Ib I2 hN hi hx r2 (fun s3 I3=>⟨_,H2,I3,q2⟩) hf
  rcases l with⟨hk,hm⟩ | ⟨hk,c,hc,hcell⟩
  ·exact wpAny_loadName_local I.ok.kind hk hn hm go
  · rcases hk with hk | hk
    ·exact wpAny_loadName_cell I.ok.kind hk hc hcell go
    · rcases hx with k | k
      ·have:X.env.scope.names.lookup x=some .free:=hk;rw[k] at this;cases this
      ·have:X.env.scope.names.lookup x=some .free:=hk;rw[k] at this;cases this
def ipI (f:Int→Int→Int):TIp:=fun x y H Q=>∃i j,x = .int i∧y = .int j∧Q (.int (f i j)) H
theorem qeW:PIp X .Add (ipI fun i j=>i+j):=by
  intro p_ s σ H x y v u Q I r1 r2 h;obtain⟨i,j,e1,e2,q⟩:=h;subst e1;subst e2;obtain⟨t,rfl⟩:=r1;obtain⟨t',rfl⟩:=r2;exact iadd_int ⟨.int _,H,I.tok _,⟨_,rfl⟩,q⟩
end
section
variable {X:Cx} {pos:Pos}
def Ih (c:TT) (tb:TS):TS:=fun D σ H=>∃qp:Nat→St→Hp→Prop,(∃m,qp m σ H)∧∀m σ H,qp m σ H→
  c σ H fun b H1=>if b=true then ∃N:St→Hp→Prop,(∀σ' H',N σ' H'→∃m',m'<m∧qp m' σ' H')∧tb {D with nx:=N,ct:=N,bk:=D.nx} σ H1 else D.nx σ H1
theorem Ii {c:Expr} {body:List Stmt} {tc:TT} {tb:TS} (hp:PassesOwn (model X.prog X.w) X.A X.env X.xe) (hc:PT X c tc) (hb:K9 X body tb):PS X (.While c body [] pos) (Ih tc tb):=by
  intro p_ s σ H D I h;obtain⟨qp,⟨m0,w0⟩,turn⟩:=h;refine wpAny_While (codeAny_whileLoop (fun n s'=>∃σ' H',Inv X p_ σ' H' s'∧qp n σ' H') ?_ m0 ⟨σ,H,I,w0⟩);rintro n s1 ⟨σ1,H1,I1,w1⟩;refine wpAny_passesOwn hp (cU (hc p_ s1 σ1 H1 _ I1 (turn n σ1 H1 w1)) fun b s2 zz=>?_);obtain⟨H2,I2,q2⟩:=zz;cases b with
  | true=>
    obtain⟨N,hN,q2⟩:=q2;rw[if_pos rfl];refine wpAny_passesOwn hp (cU (hb p_ s2 σ1 H2 _ I2 q2) fun f s3 q3=>?_);cases f with
    | next=>
      obtain⟨σ3,H3,I3,n3⟩:=q3;obtain⟨m',hm,w3⟩:=hN σ3 H3 n3;exact⟨m',hm,σ3,H3,I3,w3⟩
    | cont=>
      obtain⟨σ3,H3,I3,n3⟩:=q3;obtain⟨m',hm,w3⟩:=hN σ3 H3 n3;exact⟨m',hm,σ3,H3,I3,w3⟩
    | brk=>exact q3
    | ret v=>exact q3
  | false=>
    rw[if_neg Bool.false_ne_true];exact wpAny_execs_nil ⟨σ1,H2,I2,q2⟩
end
structure It where
  go:Nat→Hp→Prop
  Z2:Nat→Hp→V→Hp→Prop
  stop:Nat→Hp→Prop
def tQ (X:Cx) (p_:List (Addr×Obj)) (H:Hp) (b:Addr):Prop:=
  H b=none∧b≠X.env.locals∧b∉X.fs∧(b∈X.ex∨X.s₀.heap.objs.size≤b)∧(∀x c,X.env.cells.lookup x=some c→c≠b)∧∀p∈X.pn++p_,p.1≠b
theorem Inv.Ij {X:Cx} {p_:List (Addr×Obj)} {σ:St} {H H':Hp} {s:Shared} {b:Addr} (I:Inv X p_ σ H s) (hb:s.heap.objs.size≤b) (hn:H' b=none):tQ X p_ H' b:=by
  refine⟨hn,Nat.ne_of_gt (Nat.lt_of_lt_of_le I.lt hb),I.qj8 hb,.inr (Nat.le_trans I.sz hb),fun x c e z=>?_,fun p hp z=>?_⟩
  ·obtain⟨v,q⟩:=I.cell x c e;exact absurd (Nat.lt_of_lt_of_le q.lt (by rw[z];exact hb)) (Nat.lt_irrefl _)
  ·exact absurd (Nat.lt_of_lt_of_le (Heap.lt_size (I.pin p hp).1) (by rw[z];exact hb)) (Nat.lt_irrefl _)
structure Turn (P:Program) (w:World) (K:W.Frag) (tg:Expr) (J:It) (fp:List Addr) (it:Addr) (tn:Nat→Heap→Prop):Prop where
  mem:it∈fp
  obj:∀i h,tn i h→∀b∈fp,∃o,h.get? b=some o∧∀v,o.data≠.cell v
  keep:∀i h h',tn i h→(∀b∈fp,∀o,h.get? b=some o→h'.get? b=some o)→tn i h'
  item:∀(X:Cx),X.prog=P→X.w=w→X.K=K→X.calm=true→∀(i:Nat) (p_:List (Addr×Obj)) (s:Shared) (σ:St) (H:Hp) (E:Value→Shared→Prop),Inv X p_ σ H s→(∀b∈fp,tQ X p_ H b)→tn i s.heap→J.go i H→
    wpAny (model P w) X.A (pyNext (.ref it)) (fun r s1=>∃u,r=some u∧
      wpAny (model P w) X.A (letOwnedTupleGo tg (.ref it) u) (fun _ s2=>∃x H',Inv X p_ σ H' s2∧RelV x u∧J.Z2 i H x H'∧tn (i+1) s2.heap∧∀b∈fp,H' b=none) E s1) E s
  done:∀(X:Cx),X.prog=P→X.w=w→X.K=K→X.calm=true→∀(i:Nat) (p_:List (Addr×Obj)) (s:Shared) (σ:St) (H:Hp) (E:Value→Shared→Prop),Inv X p_ σ H s→(∀b∈fp,tQ X p_ H b)→tn i s.heap→J.stop i H→
    wpAny (model P w) X.A (pyNext (.ref it)) (fun r s1=>r=none∧Inv X p_ σ H s1) E s
  self:∀(A:Around) (i:Nat) (s:Shared) (Q:Value→Shared→Prop) (E:Value→Shared→Prop),tn i s.heap→Q (.ref it) s→wpAny (model P w) A (pyIter (.ref it)) Q E s
abbrev TI:=St→Hp→(It→Hp→Prop)→Prop
def PIE (X:Cx) (p_:List (Addr×Obj)) (σ:St) (tg:Expr) (R:It→Hp→Prop) (itv:Value) (s2:Shared):Prop:=
  ∃(it:Addr) (fp:List Addr) (tn:Nat→Heap→Prop) (J:It) (H':Hp),itv = .ref it∧Inv X p_ σ H' s2∧Turn X.prog X.w X.K tg J fp it tn∧tn 0 s2.heap∧(∀b∈fp,tQ X p_ H' b)∧R J H'
def PI (X:Cx) (tg iter:Expr) (wi:TI):Prop:=
  ∀(p_:List (Addr×Obj)) (s:Shared) (σ:St) (H:Hp) (R:It→Hp→Prop),Inv X p_ σ H s→wi σ H R→
    wpAny (model X.prog X.w) X.A (eval iter X.env) (fun v s1=>wpAny (model X.prog X.w) X.A (pyIter v) (PIE X p_ σ tg R) X.xe s1) X.xe s
theorem Z4 {M:Model} {A:Around} {E:Value→Shared→Prop} {s:Shared} {tg:Expr} {it:Addr} {u:Value} {o:Obj} {n:String} {vs:Array Value} {Q:Unit→Shared→Prop} (ho:s.heap.get? it=some o) (hc:o.cls = .type n) (hd:o.data = .fields vs)
    (hn : ["enumerate", "zip", "dict_itemiterator", "dict_reverseitemiterator", "odict_iterator", "itertools.zip_longest", "itertools.pairwise"].contains n=false) (hQ:Q () s):wpAny M A (letOwnedTupleGo tg (.ref it) u) Q E s:=by
  unfold letOwnedTupleGo;cases tg <;> first
    | exact wpAny_pure hQ
    | (cases u <;> first
        | exact wpAny_pure hQ
        | (refine wpAny_bind (wpAny_load ho ?_)
           rw[hc,hd];show wpAny M A (if (["enumerate", "zip", "dict_itemiterator", "dict_reverseitemiterator", "odict_iterator", "itertools.zip_longest", "itertools.pairwise"].contains n && vs[0]? == some (rawInt _))=true then _ else _) Q E s
           rw[if_neg (by intro h;rw[hn,Bool.false_and] at h;cases h)];exact wpAny_pure hQ))
def ZJ (K:W.Frag) (a:Addr):It:=
  ⟨fun i H=>∃xs x,bC K H a xs∧xs[i]? = some x,fun i H x H'=>H'=H∧∀xs,bC K H a xs→xs[i]? = some x,fun i H=>∃xs,bC K H a xs∧xs.length≤i⟩
def Itt (K:W.Frag) (a:Addr):It:=
  ⟨fun i H=>∃xs x,gq K H a xs∧xs[i]? = some x,fun i H x H'=>H'=H∧∀xs,gq K H a xs→xs[i]? = some x,fun i H=>∃xs,gq K H a xs∧xs.length≤i⟩
def T9 (lo:Int) (n:Nat):It:=⟨fun i _=>i<n,fun i H x H'=>H'=H∧x = .int (lo+i),fun i _=>n≤i⟩
theorem Mp {P:Program} {w:World} {K:W.Frag} {tg:Expr} (a it:Addr):Turn P w K tg (ZJ K a) [it] it (fun i h=>h.IsListIter it a i) where
  mem:=by simp
  obj:=fun i h st b hb=>by
    have e:b=it:=by simpa using hb
    subst e;obtain⟨o,e,c,d⟩:=st;exact⟨o,e,fun v z=>by rw[d] at z;cases z⟩
  keep:=fun i h h' st k=>st.at fun o e=>k it (by simp) o e
  item:=by
    intro X hP hw hK hc i p_ s σ H E I hf st hg;subst hP hw hK;obtain⟨xs,x,hq,hx⟩:=hg;obtain⟨its,rv,p,hz⟩:=I.list hq;obtain⟨u,hu,ru⟩:=rv.get hx;obtain⟨f0,f1,f2,f3,f4,f5⟩:=hf it (by simp);refine wpAny_pyNext_list_item st p.isList (x:=u) (by simpa using hu) fun h' st' sb=>?_;have I1:Inv X p_ σ H {s with heap:=h'}:=I.turned (t':=s.toks) (fun b o hb e=>(sb.2 b hb).trans e) f0 f1 f3 f4 f5;obtain⟨o,e,c,d⟩:=id st';exact⟨u,rfl,Z4 (s:={s with heap:=h'}) e c d (by decide) ⟨x,H,I1,ru,⟨rfl,fun ys hy=>by rw[I.rT hy hq];exact hx⟩,st',fun b hb=>(hf b hb).1⟩⟩
  done:=by
    intro X hP hw hK hc i p_ s σ H E I hf st hg;subst hP hw hK;obtain⟨xs,hq,hx⟩:=hg;obtain⟨its,rv,p,hz⟩:=I.list hq;obtain⟨f0,f1,f2,f3,f4,f5⟩:=hf it (by simp);have hl:=rv.length;exact wpAny_pyNext_list_end (I.ok.hd hc) st p.isList (by simp;omega) fun h' eb=>⟨rfl,I.turned (t':=s.toks) (fun b o hb e=>eb b o hb e) f0 f1 f3 f4 f5⟩
  self:=fun _ _ _ _ _ st h=>wpAny_pyIter_listiter st h
theorem Ue {P:Program} {w:World} {K:W.Frag} {tg:Expr} (a it:Addr):Turn P w K tg (Itt K a) [it] it (fun i h=>h.IsTupleIter it a i) where
  mem:=by simp
  obj:=fun i h st b hb=>by
    have e:b=it:=by simpa using hb
    subst e;obtain⟨o,e,c,d⟩:=st;exact⟨o,e,fun v z=>by rw[d] at z;cases z⟩
  keep:=fun i h h' st k=>st.at fun o e=>k it (by simp) o e
  item:=by
    intro X hP hw hK hc i p_ s σ H E I hf st hg;subst hP hw hK;obtain⟨xs,x,hq,hx⟩:=hg;obtain⟨its,rv,p,hz⟩:=I.tuple hq;obtain⟨u,hu,ru⟩:=rv.get hx;obtain⟨f0,f1,f2,f3,f4,f5⟩:=hf it (by simp);refine wpAny_pyNext_tuple_item st (show s.heap.IsTuple a its.toArray from p) (x:=u) (by simpa using hu) fun h' st' sb=>?_;have I1:Inv X p_ σ H {s with heap:=h'}:=I.turned (t':=s.toks) (fun b o hb e=>(sb.2 b hb).trans e) f0 f1 f3 f4 f5;obtain⟨o,e,c,d⟩:=id st';exact⟨u,rfl,Z4 (s:={s with heap:=h'}) e c d (by decide) ⟨x,H,I1,ru,⟨rfl,fun ys hy=>by rw[I.Mh hy hq];exact hx⟩,st',fun b hb=>(hf b hb).1⟩⟩
  done:=by
    intro X hP hw hK hc i p_ s σ H E I hf st hg;subst hP hw hK;obtain⟨xs,hq,hx⟩:=hg;obtain⟨its,rv,p,hz⟩:=I.tuple hq;obtain⟨f0,f1,f2,f3,f4,f5⟩:=hf it (by simp);have hl:=rv.length;exact wpAny_pyNext_tuple_end (I.ok.hd hc) st (show s.heap.IsTuple a its.toArray from p) (by simp;omega) fun h' eb=>⟨rfl,I.turned (t':=s.toks) (fun b o hb e=>eb b o hb e) f0 f1 f3 f4 f5⟩
  self:=fun _ _ _ _ _ st h=>wpAny_pyIter_tupleiter st h
theorem Ug {P:Program} {w:World} {K:W.Frag} {tg:Expr} (it:Addr) (lo:Int) (n:Nat):Turn P w K tg (T9 lo n) [it] it (fun i h=>IsRangeIter h it (lo+(i:Nat) * 1) ((n:Int) - (i:Nat)) 1) where
  mem:=by simp
  obj:=fun i h st b hb=>by
    have e:b=it:=by simpa using hb
    subst e;exact⟨_,st,fun v z=>by
      have z':Data.fields _=Data.cell v:=z;cases z'⟩
  keep:=fun i h h' st k=>k it (by simp) _ st
  item:=by
    intro X hP hw hK hc i p_ s σ H E I hf st hg;subst hP hw hK;obtain⟨f0,f1,f2,f3,f4,f5⟩:=hf it (by simp);have qp:=Walks.range (prog:=X.prog) (w:=X.w) (I.ok.hd hc) it lo 1 n;refine qp.item i s _ _ hg st fun v h' tk hv st' kk=>?_;obtain⟨t,rfl⟩:=hv;have I1:Inv X p_ σ H {s with heap:=h',toks:=tk}:=I.turned (fun b o hb e=>kk b o (by simpa using hb) e) f0 f1 f3 f4 f5;refine⟨_,rfl,Z4 (s:={s with heap:=h',toks:=tk}) (n:= "range_iterator") st' rfl rfl (by decide) ⟨.int (lo+i),H,I1,⟨t,?_⟩,⟨rfl,rfl⟩,st',fun b hb=>(hf b hb).1⟩⟩;rw[Int.mul_one]
  done:=by
    intro X hP hw hK hc i p_ s σ H E I hf st hg;subst hP hw hK;obtain⟨f0,f1,f2,f3,f4,f5⟩:=hf it (by simp);exact wpAny_pyNext_range_end (I.ok.hd hc) st (by have:n≤i:=hg;omega) fun h' eb=>⟨rfl,I.turned (t':=s.toks) (fun b o hb e=>eb b o hb e) f0 f1 f3 f4 f5⟩
  self:=fun _ _ _ _ _ st h=>wpAny_pyIter_rangeiter st h
section
variable {X:Cx} {tg:Expr}
def Wi (K:W.Frag) (tl:TE):TI:=fun σ H R=>tl σ H fun x H1=>∃a,x = .ref a∧(∃xs,bC K H1 a xs)∧R (ZJ K a) H1
theorem qcG {l:Expr} {tl:TE} (hl:PE X l tl):PI X tg l (Wi X.K tl):=by
  intro p_ s σ H R I h;refine cU (hl p_ s σ H _ I h) fun v s1 zz=>?_;obtain⟨x,H1,I1,r1,q1⟩:=zz;obtain⟨a,e,⟨xs,hq⟩,q⟩:=q1;subst e;cases r1;obtain⟨its,rv,p,hz⟩:=I1.list hq;refine wpAny_pyIter_list p.isList ?_;refine⟨s1.heap.objs.size,[s1.heap.objs.size],_,_,H1,rfl,I1.kept (t':=s1.toks) fun b o e=>Heap.get?_push_of_some _ e,Mp a _,⟨_,Heap.get?_push_size _ rfl,rfl,rfl⟩,fun b hb=>?_,q⟩;have e:b=s1.heap.objs.size:=by simpa using hb
  subst e;exact I1.Ij (Nat.le_refl _) (I1.hok.fresh (Nat.le_refl _))
theorem Rf {p_:List (Addr×Obj)} {σ:St} {H:Hp} {s:Shared} {R:It→Hp→Prop} {E:Value→Shared→Prop} {lo hi:Int} {t u v:Tok} {tk:Nat} (I:Inv X p_ σ H s) (h1 : -(2 ^ 62)≤lo) (h2:lo<2 ^ 62) (h3 : -(2 ^ 62)≤hi) (h4:hi<2 ^ 62)
    (q:R (T9 lo (hi - lo).toNat) H):wpAny (model X.prog X.w) X.A (pyIter (.ref s.heap.objs.size)) (PIE X p_ σ tg R) E {s with heap:=s.heap.push {cls:=.type "range",data:=.fields #[.int lo t,.int hi u,.int 1 v]},toks:=tk}:=by
  refine wpAny_pyIter_range (IsRange.new ..) (small_one h1 h2 h3 h4) ?_;have I1:Inv X p_ σ H {s with heap:=s.heap.push {cls:=.type "range",data:=.fields #[.int lo t,.int hi u,.int 1 v]},toks:=tk}:=I.kept fun b o e=>Heap.get?_push_of_some _ e;refine⟨(s.heap.push {cls:=.type "range",data:=.fields #[.int lo t,.int hi u,.int 1 v]}).objs.size,[(s.heap.push {cls:=.type "range",data:=.fields #[.int lo t,.int hi u,.int 1 v]}).objs.size],_,_,H,rfl,
    I1.kept (t':=tk) fun b o e=>Heap.get?_push_of_some _ e,Ug _ lo (hi - lo).toNat,?_,fun b hb=>?_,q⟩
  · have e1:lo+((0:Nat):Int) * 1=lo:=by simp
    have e2:(((hi - lo).toNat:Nat):Int) - ((0:Nat):Int)=Builtin.Range.rangeSize lo hi 1:=by rw[rangeSize_one];split <;> omega
    show IsRangeIter _ _ (lo+((0:Nat):Int) * 1) ((((hi - lo).toNat:Nat):Int) - ((0:Nat):Int)) 1;rw[e1,e2];exact Heap.get?_push_size _ rfl
  · have e:b=(s.heap.push {cls:=.type "range",data:=.fields #[.int lo t,.int hi u,.int 1 v]}).objs.size:=by simpa using hb
    subst e;exact I1.Ij (Nat.le_refl _) (I1.hok.fresh (Nat.le_refl _))
def Z5 (ta:TA):TI:=fun σ H R=>ta σ H fun vs H1=>∃j:Int,vs=[.int j]∧-(2 ^ 62)≤j∧j<2 ^ 62∧R (T9 0 j.toNat) H1
def Z6 (ta:TA):TI:=fun σ H R=>ta σ H fun vs H1=>∃i j:Int,vs=[.int i,.int j]∧(-(2 ^ 62)≤i∧i<2 ^ 62∧-(2 ^ 62)≤j∧j<2 ^ 62)∧R (T9 i (j - i).toNat) H1
theorem rF {a:Expr} {ta:TA} {p pos:Pos} (hg:Gl X "range") (hm:X.mg "range" = none) (ha:PA X [a] ta) (hs:starEach [a] X.env=[(false,eval a X.env)]:=by rfl):PI X tg (.Call (.Name "range" p) [a] [] pos) (Z5 ta):=by
  intro p_ s σ H R I h;refine Call_ (rR I hg hm boot_range (PyProof.Rows.callWith_type1 (cU (ha pos p_ s σ H _ I h) fun us s1 zz=>?_) hs rfl));obtain⟨vs,H1,I1,r1,q1⟩:=zz;obtain⟨j,e,q1,q2,q⟩:=q1;subst e;cases r1 with
  | cons r rr=>
    cases rr;obtain⟨t,rfl⟩:=r;exact call_range_1 (Rf I1 (by omega) (by omega) q1 q2 (by simpa using q))
theorem Mq {a b:Expr} {ta:TA} {p pos:Pos} (hg:Gl X "range") (hm:X.mg "range" = none) (ha:PA X [a,b] ta) (hs:starEach [a,b] X.env=[(false,eval a X.env),(false,eval b X.env)]:=by rfl) (hs2:starEach [b] X.env=[(false,eval b X.env)]:=by rfl) :
    PI X tg (.Call (.Name "range" p) [a,b] [] pos) (Z6 ta):=by
  intro p_ s σ H R I h;refine Call_ (rR I hg hm boot_range (PyProof.Rows.callWith_type1 (cU (ha pos p_ s σ H _ I h) fun us s1 zz=>?_) (by rw[hs,hs2]) (by rw[hs2];rfl)));obtain⟨vs,H1,I1,r1,q1⟩:=zz;obtain⟨i,j,e,⟨q1,q2,q3,q4⟩,q⟩:=q1;subst e;cases r1 with
  | cons r rr=>
    cases rr with
    | cons r' rr=>
      cases rr;obtain⟨t,rfl⟩:=r;obtain⟨t',rfl⟩:=r';exact call_range_2 (Rf I1 q1 q2 q3 q4 q)
def qgS (wi:TI) (g:TG) (tb:TS):TS:=fun D σ H=>wi σ H fun J H1=>∃qp:Nat→Nat→St→Hp→Prop,(∃m,qp 0 m σ H1)∧∀i m σ H,qp i m σ H→
  (J.stop i H∧D.nx σ H)∨(J.go i H∧∃N:St→Hp→Prop,(∀σ' H',N σ' H'→∃m',m'<m∧qp (i+1) m' σ' H')∧∀x H',J.Z2 i H x H'→g x σ H' fun σ2 H2=>tb {D with nx:=N,ct:=N,bk:=D.nx} σ2 H2)
def Ei (fp:List Addr) (h:Heap):List (Addr×Obj):=fp.filterMap fun b=>(h.get? b).map fun o=>(b,o)
theorem nP {fp:List Addr} {h:Heap} {b:Addr} {o:Obj} (hb:b∈fp) (e:h.get? b=some o):(b,o)∈Ei fp h:=List.mem_filterMap.mpr ⟨b,hb,by rw[e];rfl⟩
theorem XD {fp:List Addr} {h:Heap} {p:Addr×Obj} (hp:p∈Ei fp h):p.1∈fp∧h.get? p.1=some p.2:=by
  obtain⟨b,hb,e⟩:=List.mem_filterMap.mp hp;cases q:h.get? b with
  | none=>rw[q] at e;cases e
  | some o=>
    rw[q] at e;have e':(b,o)=p:=Option.some.inj e;subst e';exact⟨hb,q⟩
theorem Inv.pinned {p_:List (Addr×Obj)} {σ:St} {H:Hp} {s:Shared} {fp:List Addr} (I:Inv X p_ σ H s) (hf:∀b∈fp,tQ X p_ H b) (ho:∀b∈fp,∃o,s.heap.get? b=some o∧∀v,o.data≠.cell v):Inv X (p_++Ei fp s.heap) σ H s:=
  I.Wh fun p hp=>(List.mem_append.mp hp).elim (fun z=>I.pin p (List.mem_append_right _ z)) fun z=>by
    obtain⟨hb,e⟩:=XD z;obtain⟨f0,f1,f2,_⟩:=hf p.1 hb;obtain⟨o,e',d⟩:=ho p.1 hb;rw[e] at e';cases e';exact⟨e,f0,f1,f2,d⟩
theorem Inv.xX {p_ pl:List (Addr×Obj)} {σ:St} {H:Hp} {s:Shared} (I:Inv X (p_++pl) σ H s):Inv X p_ σ H s:=I.Wh fun p hp=>I.pin p (List.mem_append_right _ (List.mem_append_left _ hp))
theorem qt {iter:Expr} {body:List Stmt} {wi:TI} {g:TG} {tb:TS} {pos:Pos} (hp:PassesOwn (model X.prog X.w) X.A X.env X.xe) (hc:X.calm=true) (hi:PI X tg iter wi) (hg:PG X tg g) (hb:K9 X body tb)
    (hs:∀x,foldedSetIterable iter X.env x=pure x:=by intro _;rfl):PS X (.For tg iter body [] pos) (qgS wi g tb):=by
  intro p_ s σ H D I h;refine wpAny_For (cU (hi p_ s σ H _ I h) fun v s1 h1=>cU h1 fun itv s2 h2=>?_) hs;obtain⟨it,fp,tn,J,H2,e,I2,T,st2,f2,qp,⟨m0,w0⟩,turn⟩:=h2;subst e;have stat:∀{H':Hp},(∀b∈fp,H' b=none)→∀b∈fp,tQ X p_ H' b:=fun hn b hb=>⟨hn b hb,(f2 b hb).2⟩;refine codeAny_forLoop_any (fun n s'=>∃i σ' H',Inv X p_ σ' H' s'∧tn i s'.heap∧(∀b∈fp,H' b=none)∧qp i n σ' H') ?_ m0 ⟨0,σ,H2,I2,st2,fun b hb=>(f2 b hb).1,w0⟩;rintro n s3 ⟨i,σ3,H3,I3,st3,fr3,w3⟩
  rcases turn i n σ3 H3 w3 with⟨stop,qn⟩ | ⟨go,N,hN,step⟩
  ·refine wpAny_passesOwn hp (cU (T.done X rfl rfl rfl hc i p_ s3 σ3 H3 X.xe I3 (stat fr3) st3 stop) fun r s4 zz=>?_);obtain⟨hr,I4⟩:=zz;subst hr;exact wpAny_execs_nil ⟨σ3,H3,I4,qn⟩
  · refine wpAny_passesOwn hp (cU (T.item X rfl rfl rfl hc i p_ s3 σ3 H3 X.xe I3 (stat fr3) st3 go) fun r s4 zz=>?_);obtain⟨u,hr,h4⟩:=zz;subst hr;refine wpAny_passesOwn hp (cU h4 fun _ s5 zz=>?_);obtain⟨x,H5,I5,r5,y5,Z7,fr5⟩:=zz;have I5':=I5.pinned (stat fr5) (T.obj _ _ Z7);refine wpAny_passesOwn hp (cU (hg _ s5 σ3 H5 x u _ I5' r5 (step x H5 y5)) fun _ s6 zz=>?_);obtain⟨σ6,H6,I6,q6⟩:=zz;refine wpAny_passesOwn hp (cU (hb _ s6 σ6 H6 _ I6 q6) fun f s7 q7=>?_);have again:∀{σ7:St} {H7:Hp},Inv X (p_++Ei fp s5.heap) σ7 H7 s7→N σ7 H7→∃m,m<n∧∃i σ' H',Inv X p_ σ' H' s7∧tn i s7.heap∧(∀b∈fp,H' b=none)∧qp i m σ' H':=fun {σ7 H7} I7 n7=>by
      obtain⟨m',hm,w7⟩:=hN σ7 H7 n7;refine⟨m',hm,i+1,σ7,H7,I7.xX,T.keep _ _ _ Z7 fun b hb o e=>(I7.pin (b,o) (List.mem_append_right _ (List.mem_append_right _ (nP hb e)))).1,fun b hb=>?_,w7⟩;obtain⟨o,e,d⟩:=T.obj _ _ Z7 b hb;exact(I7.pin (b,o) (List.mem_append_right _ (List.mem_append_right _ (nP hb e)))).2.1
    cases f with
    | next=>obtain⟨σ7,H7,I7,n7⟩:=q7;exact again I7 n7
    | cont=>obtain⟨σ7,H7,I7,n7⟩:=q7;exact again I7 n7
    | brk=>obtain⟨σ7,H7,I7,q7⟩:=q7;exact⟨σ7,H7,I7.xX,q7⟩
    | ret v=>obtain⟨x7,σ7,H7,I7,r7,q7⟩:=q7;exact⟨x7,σ7,H7,I7.xX,r7,q7⟩
end
theorem Z8 {K:W.Frag} {a:Addr} {xs:List V} {g:TG} {tb:TS} {D:Ends} {σ:St} {H:Hp} (Pv:Nat→St→Hp→Prop) (h0:Pv 0 σ H) (hl:∀i σ H,i≤xs.length→Pv i σ H→bC K H a xs)
    (hs:∀i x σ H,xs[i]? = some x→Pv i σ H→g x σ H fun σ2 H2=>tb {D with nx:=Pv (i+1),ct:=Pv (i+1),bk:=D.nx} σ2 H2) (hd:∀σ H,Pv xs.length σ H→D.nx σ H) :
    ∃qp:Nat→Nat→St→Hp→Prop,(∃m,qp 0 m σ H)∧∀i m σ H,qp i m σ H→
      ((ZJ K a).stop i H∧D.nx σ H)∨((ZJ K a).go i H∧∃N:St→Hp→Prop,(∀σ' H',N σ' H'→∃m',m'<m∧qp (i+1) m' σ' H')∧∀x H',(ZJ K a).Z2 i H x H'→g x σ H' fun σ2 H2=>tb {D with nx:=N,ct:=N,bk:=D.nx} σ2 H2):=by
  refine⟨fun i m σ H=>m=xs.length - i∧i≤xs.length∧Pv i σ H,⟨xs.length,by simp,Nat.zero_le _,h0⟩,?_⟩;rintro i m σ H ⟨rfl,hi,p⟩;have q:=hl i σ H hi p
  by_cases hlt:i<xs.length
  ·refine .inr ⟨⟨xs,xs[i],q,by simp[hlt]⟩,Pv (i+1),fun σ' H' p'=>⟨xs.length - (i+1),by omega,rfl,hlt,p'⟩,fun x H' y=>?_⟩;obtain⟨e,y⟩:=y;subst e;exact hs i x σ _ (y xs q) p
  · have e:i=xs.length:=by omega
    subst e;exact .inl ⟨⟨xs,q,Nat.le_refl _⟩,hd σ H p⟩
theorem XF {lo:Int} {n:Nat} {g:TG} {tb:TS} {D:Ends} {σ:St} {H:Hp} (Pv:Nat→St→Hp→Prop) (h0:Pv 0 σ H)
    (hs:∀i σ H,i<n→Pv i σ H→g (.int (lo+i)) σ H fun σ2 H2=>tb {D with nx:=Pv (i+1),ct:=Pv (i+1),bk:=D.nx} σ2 H2) (hd:∀σ H,Pv n σ H→D.nx σ H) :
    ∃qp:Nat→Nat→St→Hp→Prop,(∃m,qp 0 m σ H)∧∀i m σ H,qp i m σ H→
      ((T9 lo n).stop i H∧D.nx σ H)∨((T9 lo n).go i H∧∃N:St→Hp→Prop,(∀σ' H',N σ' H'→∃m',m'<m∧qp (i+1) m' σ' H')∧∀x H',(T9 lo n).Z2 i H x H'→g x σ H' fun σ2 H2=>tb {D with nx:=N,ct:=N,bk:=D.nx} σ2 H2):=by
  refine⟨fun i m σ H=>m=n - i∧i≤n∧Pv i σ H,⟨n,by simp,Nat.zero_le _,h0⟩,?_⟩;rintro i m σ H ⟨rfl,hi,p⟩
  by_cases hlt:i<n
  ·refine .inr ⟨hlt,Pv (i+1),fun σ' H' p'=>⟨n - (i+1),by omega,rfl,hlt,p'⟩,fun x H' y=>?_⟩;obtain⟨e,y⟩:=y;subst e y;exact hs i σ _ hlt p
  · have e:i=n:=by omega
    subst e;exact .inl ⟨Nat.le_refl _,hd σ H p⟩
theorem Z9 {c:TT} {tb:TS} {D:Ends} {σ:St} {H:Hp} (Pv:St→Hp→Prop) (μ:St→Hp→Nat) (h0:Pv σ H)
    (hs:∀σ H,Pv σ H→c σ H fun b H1=>if b=true then tb {D with nx:=fun σ' H'=>Pv σ' H'∧μ σ' H'<μ σ H,ct:=fun σ' H'=>Pv σ' H'∧μ σ' H'<μ σ H,bk:=D.nx} σ H1 else D.nx σ H1)
    (mono:∀σ H Q Q',(∀b H1,Q b H1→Q' b H1)→c σ H Q→c σ H Q'):Ih c tb D σ H:=by
  refine⟨fun m σ H=>m=μ σ H∧Pv σ H,⟨_,rfl,h0⟩,?_⟩;rintro m σ H ⟨rfl,p⟩;refine mono σ H _ _ (fun b H1 q=>?_) (hs σ H p);cases b with
  | true=>exact⟨_,fun σ' H' ⟨p',l⟩=>⟨_,l,rfl,p'⟩,q⟩
  | false=>exact q
abbrev R2:=V→V→Hp→VK→Prop
def iU (X:Cx) (f:Value→Value→Sem Value) (r:R2):Prop:=
  ∀(p_:List (Addr×Obj)) (s:Shared) (σ:St) (H:Hp) (x y:V) (v u:Value) (Q:VK),Inv X p_ σ H s→RelV x v→RelV y u→r x y H Q→
    wpAny (model X.prog X.w) X.A (f v u) (EP X p_ σ Q) X.xe s
def UnR (X:Cx) (f:Value→Sem Value) (r:V→Hp→VK→Prop):Prop:=
  ∀(p_:List (Addr×Obj)) (s:Shared) (σ:St) (H:Hp) (x:V) (v:Value) (Q:VK),Inv X p_ σ H s→RelV x v→r x H Q→
    wpAny (model X.prog X.w) X.A (f v) (EP X p_ σ Q) X.xe s
def cN (X:Cx) (f:Value) (r:List V→Hp→VK→Prop):Prop:=
  ∀(p_:List (Addr×Obj)) (s:Shared) (σ:St) (H:Hp) (xs:List V) (us:List Value) (Q:VK),Inv X p_ σ H s→Vals xs us→r xs H Q→
    wpAny (model X.prog X.w) X.A (call f us) (EP X p_ σ Q) X.xe s
def Ld (r:R2) (ta tb:TE):TE:=fun σ H Q=>ta σ H fun x H1=>tb σ H1 fun y H2=>r x y H2 Q
def tUn (r:V→Hp→VK→Prop) (ta:TE):TE:=fun σ H Q=>ta σ H fun x H1=>r x H1 Q
def rI (C:Int→Int→Prop) (g:Int→Int→V):R2:=fun x y H Q=>∃i j,x = .int i∧y = .int j∧C i j∧Q (g i j) H
def rI0 (g:Int→Int→V):R2:=fun x y H Q=>∃i j,x = .int i∧y = .int j∧Q (g i j) H
def rU (g:Int→V):V→Hp→VK→Prop:=fun x H Q=>∃i,x = .int i∧Q (g i) H
section
variable {X:Cx} {a b c:Expr} {ta tb tc:TE} {pos:Pos}
theorem qeX (ha:PE X a ta) (hb:PE X b tb) {p_:List (Addr×Obj)} {s:Shared} {σ:St} {H:Hp} {R:V→V→Hp→Prop} (I:Inv X p_ σ H s)
    (h:ta σ H fun x H1=>tb σ H1 fun y H2=>R x y H2) {Q:Value→Shared→Prop} {f:Value→Value→Sem Value}
    (hf:∀v u s2 x y H2,Inv X p_ σ H2 s2→RelV x v→RelV y u→R x y H2→wpAny (model X.prog X.w) X.A (f v u) Q X.xe s2) :
    wpAny (model X.prog X.w) X.A (eval a X.env) (fun v s₁=>wpAny (model X.prog X.w) X.A (eval b X.env) (fun u s₂=>wpAny (model X.prog X.w) X.A (f v u) Q X.xe s₂) X.xe s₁) X.xe s:=by
  refine cU (ha p_ s σ H _ I h) fun v s1 zz=>?_;obtain⟨x,H1,I1,r1,q1⟩:=zz;refine cU (hb p_ s1 σ H1 _ I1 q1) fun u s2 zz=>?_;obtain⟨y,H2,I2,r2,q2⟩:=zz;exact hf v u s2 x y H2 I2 r1 r2 q2
theorem bG {op:Operator} {r:R2} (ho:iU X (binaryOp op) r) (ha:PE X a ta) (hb:PE X b tb):PE X (.BinOp a op b pos) (Ld r ta tb):=by
  intro p_ s σ H Q I h;exact wpAny_BinOp (qeX ha hb I h fun v u s2 x y H2 I2 rx ry q=>ho p_ s2 σ H2 x y v u Q I2 rx ry q)
theorem Wj {op:UnaryOp} {r:V→Hp→VK→Prop} (ho:UnR X (unaryOp op) r) (ha:PE X a ta):PE X (.UnaryOp op a pos) (tUn r ta):=by
  intro p_ s σ H Q I h;refine UnaryOp_ (cU (ha p_ s σ H _ I h) fun v s1 zz=>?_);obtain⟨x,H1,I1,r1,q1⟩:=zz;exact ho p_ s1 σ H1 x v Q I1 r1 q1
theorem opI {f:Value→Value→Sem Value} {C:Int→Int→Prop} {g:Int→Int→Int}
    (rule:∀(i j:Int) (t u:Tok) (s:Shared) (Q:Value→Shared→Prop) (E:Value→Shared→Prop),C i j→Q (.int (g i j) s.toks) {s with toks:=s.toks+1}→wpAny (model X.prog X.w) X.A (f (.int i t) (.int j u)) Q E s) :
    iU X f (rI C fun i j=>.int (g i j)):=by
  intro p_ s σ H x y v u Q I rx ry h;obtain⟨i,j,rfl,rfl,hc,q⟩:=h;obtain⟨t,rfl⟩:=rx;obtain⟨t',rfl⟩:=ry;exact rule i j t t' s _ _ hc ⟨.int (g i j),H,I.tok _,⟨_,rfl⟩,q⟩
theorem qeY {f:Value→Value→Sem Value} {g:Int→Int→Int}
    (rule:∀(i j:Int) (t u:Tok) (s:Shared) (Q:Value→Shared→Prop) (E:Value→Shared→Prop),Q (.int (g i j) s.toks) {s with toks:=s.toks+1}→wpAny (model X.prog X.w) X.A (f (.int i t) (.int j u)) Q E s) :
    iU X f (rI0 fun i j=>.int (g i j)):=by
  intro p_ s σ H x y v u Q I rx ry h;obtain⟨i,j,rfl,rfl,q⟩:=h;obtain⟨t,rfl⟩:=rx;obtain⟨t',rfl⟩:=ry;exact rule i j t t' s _ _ ⟨.int (g i j),H,I.tok _,⟨_,rfl⟩,q⟩
theorem qeZ {f:Value→Value→Sem Value} {g:Int→Int→Bool}
    (rule:∀(i j:Int) (t u:Tok) (s:Shared) (Q:Value→Shared→Prop) (E:Value→Shared→Prop),Q (.bool (g i j)) s→wpAny (model X.prog X.w) X.A (f (.int i t) (.int j u)) Q E s) :
    iU X f (rI0 fun i j=>.bl (g i j)):=by
  intro p_ s σ H x y v u Q I rx ry h;obtain⟨i,j,rfl,rfl,q⟩:=h;obtain⟨t,rfl⟩:=rx;obtain⟨t',rfl⟩:=ry;exact rule i j t t' s _ _ ⟨.bl (g i j),H,I,rfl,q⟩
@[simp] def XH (i j:Int):Prop:=0<j∧j<1073741824
@[simp] def Rg (i j:Int):Prop:=0≤j∧j≤1000000∧i.natAbs<2 ^ 64
@[simp] def qcH (i j:Int):Prop:=(-(2 ^ 64)<i∧i<2 ^ 64)∨(-(2 ^ 64)<j∧j<2 ^ 64)
theorem qcH.ok {i j:Int} (h:qcH i j):IntMulOk i j:=by
  rcases h with⟨h1,h2⟩ | ⟨h1,h2⟩
  ·exact .of_left (intBits_le_64 h1 h2)
  ·exact .of_right (intBits_le_64 h1 h2)
theorem two_pow_nn (k:Nat):(0:Int)≤2 ^ k:=by
  rw[two_pow_cast];exact Int.natCast_nonneg _
theorem qe0:iU X (binaryOp .Add) (rI0 fun i j=>.int (i+j)):=qeY fun _ _ _ _ _ _ _ q=>add_int q
theorem qe1:iU X (binaryOp .Sub) (rI0 fun i j=>.int (i - j)):=qeY fun _ _ _ _ _ _ _ q=>sub_int q
theorem qe2:iU X (binaryOp .Mult) (rI qcH fun i j=>.int (i * j)):=opI fun _ _ _ _ _ _ _ hc q=>mul_int q hc.ok
theorem qcI:iU X (binaryOp .FloorDiv) (rI XH fun i j=>.int (i / j)):=opI fun i j _ _ _ _ _ hc q=>by
  have h1:(0:Int)<j:=hc.1;have h2:j<1073741824:=hc.2;exact floordiv_int (by omega) (by rw[Int.fdiv_eq_ediv_of_nonneg i (by omega)];exact q) (.inl (PyProof.noPylong_small (by omega)))
theorem qe3:iU X (binaryOp .Mod) (rI (fun _ j=>0<j) fun i j=>.int (i % j)):=opI fun i j _ _ _ _ _ hc q=>by
  have h1:(0:Int)<j:=hc;exact mod_int' (by omega) (by rw[Int.fmod_eq_emod_of_nonneg i (by omega)];exact q)
theorem qe4:iU X (binaryOp .Pow) (rI Rg fun i j=>.int (i ^ j.toNat)):=opI fun _ _ _ _ _ _ _ hc q=>pow_int_small hc.1 hc.2.1 hc.2.2 q
theorem qe5:iU X (binaryOp .LShift) (rI Rg fun i j=>.int (i * 2 ^ j.toNat)):=opI fun _ _ _ _ _ _ _ hc q=>lshift_int_small hc.1 hc.2.1 hc.2.2 q
theorem qe6:iU X (binaryOp .RShift) (rI (fun _ j=>0≤j) fun i j=>.int (i / 2 ^ j.toNat)):=opI fun i j _ _ _ _ _ hc q=>
  rshift_int hc (by rw[Int.fdiv_eq_ediv_of_nonneg i (two_pow_nn _)];exact q)
theorem qe7:iU X (binaryOp .BitAnd) (rI0 fun i j=>.int (Builtin.bitAnd i j)):=qeY fun _ _ _ _ _ _ _ q=>and_int q
theorem unI {f:Value→Sem Value} {g:Int→Int}
    (rule:∀(i:Int) (t:Tok) (s:Shared) (Q:Value→Shared→Prop) (E:Value→Shared→Prop),Q (.int (g i) s.toks) {s with toks:=s.toks+1}→wpAny (model X.prog X.w) X.A (f (.int i t)) Q E s) :
    UnR X f (rU fun i=>.int (g i)):=by
  intro p_ s σ H x v Q I rx h;obtain⟨i,rfl,q⟩:=h;obtain⟨t,rfl⟩:=rx;exact rule i t s _ _ ⟨.int (g i),H,I.tok _,⟨_,rfl⟩,q⟩
theorem qe8:UnR X (unaryOp .USub) (rU fun i=>.int (-i)):=unI fun _ _ _ _ _ q=>neg_int q
end
def GQ:V→V→Bool
  | .non,.non=>true | .non,.int _=>true | .int _,.non=>true | .non,.bl _=>true | .bl _,.non=>true | .non,.str _=>true | .str _,.non=>true
  | .int _,.int _=>true | .bl _,.bl _=>true | .str _,.str _=>true | .ZF _,.ZF _=>true
  | .int _,.str _=>true | .str _,.int _=>true | .bl _,.str _=>true | .str _,.bl _=>true
  | _,_=>false
def rEq:R2:=fun x y H Q=>GQ x y=true∧Q (.bl (decide (x=y))) H
def rNe:R2:=fun x y H Q=>GQ x y=true∧Q (.bl (!decide (x=y))) H
theorem Wm {i j:Int}:decide (V.int i=V.int j)=(i == j):=by
  rw[Bool.eq_iff_iff];simp
theorem Z_ {i j:Bool}:decide (V.bl i=V.bl j)=(i == j):=by
  rw[Bool.eq_iff_iff];simp
theorem Wo {i j:Str}:decide (V.str i=V.str j)=(i == j):=by
  rw[Bool.eq_iff_iff];simp
theorem Wq {i j:Array UInt8}:decide (V.ZF i=V.ZF j)=(i.toList == j.toList):=by
  rw[Bool.eq_iff_iff];cases i;cases j;simp
section
variable {X:Cx} {a b c:Expr} {ta tb tc:TE} {pos:Pos}
theorem cT {p_:List (Addr×Obj)} {σ:St} {H:Hp} {s:Shared} {Q:VK} {k k':Bool} (I:Inv X p_ σ H s) (q:Q (.bl k) H) (e:k=k'):EP X p_ σ Q (.bool k') s:=by
  subst e;exact⟨.bl k,H,I,rfl,q⟩
theorem qgT:iU X (compareOp .Eq) rEq:=by
  intro p_ s σ H x y v u Q I rx ry h;obtain⟨hs,q⟩:=h;cases x with
  | non=>
    cases rx;cases y with
    | non=>cases ry;exact PySem.EqNone.eq_none_none (cT I q (by simp))
    | bl j=>cases ry;exact PySem.EqNone.eq_none_bool (cT I q (by simp))
    | int j=>obtain⟨t',rfl⟩:=ry;exact PySem.EqNone.eq_none_int (cT I q (by simp))
    | str j=>obtain⟨t',rfl⟩:=ry;exact PySem.EqNone.eq_none_str (cT I q (by simp))
    | _=>exact absurd (show false=true from hs) Bool.false_ne_true
  | bl i=>
    cases rx;cases y with
    | non=>cases ry;exact PySem.EqNone.eq_bool_none (cT I q (by simp))
    | bl j=>cases ry;exact eq_bool (cT I q Z_)
    | str j=>obtain⟨t',rfl⟩:=ry;exact PySem.EqMixed.eq_bool_str (cT I q (by simp))
    | _=>exact absurd (show false=true from hs) Bool.false_ne_true
  | int i=>
    obtain⟨t,rfl⟩:=rx;cases y with
    | non=>cases ry;exact PySem.EqNone.eq_int_none (cT I q (by simp))
    | int j=>obtain⟨t',rfl⟩:=ry;exact eq_int (cT I q Wm)
    | str j=>obtain⟨t',rfl⟩:=ry;exact PySem.EqMixed.eq_int_str (cT I q (by simp))
    | _=>exact absurd (show false=true from hs) Bool.false_ne_true
  | str i=>
    obtain⟨t,rfl⟩:=rx;cases y with
    | non=>cases ry;exact PySem.EqNone.eq_str_none (cT I q (by simp))
    | bl j=>cases ry;exact PySem.EqMixed.eq_str_bool (cT I q (by simp))
    | int j=>obtain⟨t',rfl⟩:=ry;exact PySem.EqMixed.eq_str_int (cT I q (by simp))
    | str j=>obtain⟨t',rfl⟩:=ry;exact eq_str (cT I q Wo)
    | _=>exact absurd (show false=true from hs) Bool.false_ne_true
  | ZF i=>
    obtain⟨t,rfl⟩:=rx;cases y with
    | ZF j=>obtain⟨t',rfl⟩:=ry;exact W.eq_bytes (cT I q Wq)
    | _=>exact absurd (show false=true from hs) Bool.false_ne_true
  | _=>cases y <;> exact absurd (show false=true from hs) Bool.false_ne_true
theorem qgU:iU X (compareOp .NotEq) rNe:=by
  intro p_ s σ H x y v u Q I rx ry h;obtain⟨hs,q⟩:=h;cases x with
  | non=>
    cases rx;cases y with
    | non=>cases ry;exact PySem.EqNone.ne_none_none (cT I q (by simp))
    | bl j=>cases ry;exact PySem.EqNone.ne_none_bool (cT I q (by simp))
    | int j=>obtain⟨t',rfl⟩:=ry;exact PySem.EqNone.ne_none_int (cT I q (by simp))
    | str j=>obtain⟨t',rfl⟩:=ry;exact PySem.EqNone.ne_none_str (cT I q (by simp))
    | _=>exact absurd (show false=true from hs) Bool.false_ne_true
  | bl i=>
    cases rx;cases y with
    | non=>cases ry;exact PySem.EqNone.ne_bool_none (cT I q (by simp))
    | bl j=>cases ry;exact ne_bool (cT I q (congrArg not Z_))
    | str j=>obtain⟨t',rfl⟩:=ry;exact PySem.EqMixed.ne_bool_str (cT I q (by simp))
    | _=>exact absurd (show false=true from hs) Bool.false_ne_true
  | int i=>
    obtain⟨t,rfl⟩:=rx;cases y with
    | non=>cases ry;exact PySem.EqNone.ne_int_none (cT I q (by simp))
    | int j=>obtain⟨t',rfl⟩:=ry;exact ne_int (cT I q (congrArg not Wm))
    | str j=>obtain⟨t',rfl⟩:=ry;exact PySem.EqMixed.ne_int_str (cT I q (by simp))
    | _=>exact absurd (show false=true from hs) Bool.false_ne_true
  | str i=>
    obtain⟨t,rfl⟩:=rx;cases y with
    | non=>cases ry;exact PySem.EqNone.ne_str_none (cT I q (by simp))
    | bl j=>cases ry;exact PySem.EqMixed.ne_str_bool (cT I q (by simp))
    | int j=>obtain⟨t',rfl⟩:=ry;exact PySem.EqMixed.ne_str_int (cT I q (by simp))
    | str j=>obtain⟨t',rfl⟩:=ry;exact ne_str (cT I q (congrArg not Wo))
    | _=>exact absurd (show false=true from hs) Bool.false_ne_true
  | ZF i=>
    obtain⟨t,rfl⟩:=rx;cases y with
    | ZF j=>obtain⟨t',rfl⟩:=ry;exact W.ne_bytes (cT I q (congrArg not Wq))
    | _=>exact absurd (show false=true from hs) Bool.false_ne_true
  | _=>cases y <;> exact absurd (show false=true from hs) Bool.false_ne_true
theorem qgV:iU X (compareOp .Lt) (rI0 fun i j=>.bl (decide (i<j))):=qeZ fun _ _ _ _ _ _ _ q=>lt_int q
theorem qgW:iU X (compareOp .LtE) (rI0 fun i j=>.bl (decide (i≤j))):=qeZ fun _ _ _ _ _ _ _ q=>le_int q
theorem qgX:iU X (compareOp .Gt) (rI0 fun i j=>.bl (decide (j<i))):=qeZ fun _ _ _ _ _ _ _ q=>gt_int q
theorem XJ:iU X (compareOp .In) (fun x y H Q=>∃i j,x = .str i∧y = .str j∧Q (.bl (!(Builtin.Str.occurrences j i 0 j.length 1).isEmpty)) H):=by
  intro p_ s σ H x y v u Q I rx ry h;obtain⟨i,j,rfl,rfl,q⟩:=h;obtain⟨t,rfl⟩:=rx;obtain⟨t',rfl⟩:=ry;exact in_str (cT I q rfl)
theorem iU.or {f:Value→Value→Sem Value} {r r':R2} (h:iU X f r) (h':iU X f r'):iU X f (fun x y H Q=>r x y H Q∨r' x y H Q):=by
  intro p_ s σ H x y v u Q I rx ry q
  rcases q with q | q
  ·exact h p_ s σ H x y v u Q I rx ry q
  ·exact h' p_ s σ H x y v u Q I rx ry q
theorem cD (b:Expr) {op:CmpOp} (h:op≠.In:=by decide) (h2:op≠.NotIn:=by decide):behindInMarks op b=false:=by
  have e1:(op == CmpOp.In)=false:=by cases op <;> first | rfl | exact absurd rfl h
  have e2:(op == CmpOp.NotIn)=false:=by cases op <;> first | rfl | exact absurd rfl h2
  cases b <;> simp[behindInMarks,e1,e2]
theorem oN {op:CmpOp} {r:R2} (ho:iU X (compareOp op) r) (ha:PE X a ta) (hb:PE X b tb) (hm:behindInMarks op b=false):PE X (.Compare a [op] [b] pos) (Ld r ta tb):=by
  intro p_ s σ H Q I h;exact wpAny_Compare1 (qeX ha hb I h fun v u s2 x y H2 I2 rx ry q=>ho p_ s2 σ H2 x y v u Q I2 rx ry q) hm
def Wr (t:TE):TT:=fun σ H Q=>t σ H fun x H'=>∃k,x = .bl k∧Q k H'
theorem qcJ {op:CmpOp} {r:R2} (ho:iU X (compareOp op) r) (ha:PE X a ta) (hb:PE X b tb) (hm:behindInMarks op b=false):PT X (.Compare a [op] [b] pos) (Wr (Ld r ta tb)):=by
  intro p_ s σ H Q I h;refine wpAny_isTrue_Compare1 (cU (ha p_ s σ H _ I h) fun v s1 ⟨x,H1,I1,r1,q1⟩=>cU (hb p_ s1 σ H1 _ I1 q1) fun u s2 ⟨y,H2,I2,r2,q2⟩=>
    cU (ho p_ s2 σ H2 x y v u _ I2 r1 r2 q2) fun c s3 ⟨z,H3,I3,r3,k,e,q3⟩=>?_) hm
  subst e;cases r3;exact wpAny_truthy_bool ⟨H3,I3,q3⟩
def Oq (r r':R2) (ta tb tc:TE):TE:=fun σ H Q=>ta σ H fun x H1=>tb σ H1 fun y H2=>r x y H2 fun z H3=>∃k,z = .bl k∧
  (if k=true then tc σ H3 fun w' H4=>r' y w' H4 Q else Q (.bl false) H3)
theorem qaa {op op':CmpOp} {r r':R2} (ho:iU X (compareOp op) r) (ho':iU X (compareOp op') r') (ha:PE X a ta) (hb:PE X b tb) (hc:PE X c tc)
    (hm:lastMarks [op,op'] [b,c]=false:=by with_unfolding_all rfl):PE X (.Compare a [op,op'] [b,c] pos) (Oq r r' ta tb tc):=by
  intro p_ s σ H Q I h;refine Compare_chain (cU (ha p_ s σ H _ I h) fun v s1 ⟨x,H1,I1,r1,q1⟩=>chain_link (cU (hb p_ s1 σ H1 _ I1 q1) fun u s2 ⟨y,H2,I2,r2,q2⟩=>
    cU (ho p_ s2 σ H2 x y v u _ I2 r1 r2 q2) fun d s3 ⟨z,H3,I3,r3,k,e,q3⟩=>?_)) hm
  subst e;cases r3;refine wpAny_truthy_bool ?_;cases k with
  | false=>exact ite_ff ⟨.bl false,H3,I3,rfl,q3⟩
  | true=>exact ite_tt (chain_last (cU (hc p_ s3 σ H3 _ I3 q3) fun w' s4 ⟨z',H4,I4,r4,q4⟩=>ho' p_ s4 σ H4 y z' u w' Q I4 r2 r4 q4))
theorem qab {op op':CmpOp} {r r':R2} (ho:iU X (compareOp op) r) (ho':iU X (compareOp op') r') (ha:PE X a ta) (hb:PE X b tb) (hc:PE X c tc)
    (hm:lastMarks [op,op'] [b,c]=false:=by with_unfolding_all rfl):PT X (.Compare a [op,op'] [b,c] pos) (Wr (Oq r r' ta tb tc)):=by
  intro p_ s σ H Q I h;refine isTrue_chain (cU (ha p_ s σ H _ I h) fun v s1 ⟨x,H1,I1,r1,q1⟩=>test_link (cU (hb p_ s1 σ H1 _ I1 q1) fun u s2 ⟨y,H2,I2,r2,q2⟩=>
    cU (ho p_ s2 σ H2 x y v u _ I2 r1 r2 q2) fun d s3 ⟨z,H3,I3,r3,k,e,q3⟩=>?_)) hm
  subst e;cases r3;refine wpAny_truthy_bool ?_;cases k with
  | false=>
    obtain⟨k',e',q'⟩:=q3;cases e';exact ite_ff ⟨H3,I3,q'⟩
  | true=>
    refine ite_tt (test_last (cU (hc p_ s3 σ H3 _ I3 q3) fun w' s4 ⟨z',H4,I4,r4,q4⟩=>cU (ho' p_ s4 σ H4 y z' u w' _ I4 r2 r4 q4) fun d' s5 ⟨z2,H5,I5,r5,k2,e2,q5⟩=>?_));subst e2;cases r5;exact wpAny_truthy_bool ⟨H5,I5,q5⟩
theorem Bb:(sizeLine:Nat)<2 ^ 63:=by rw[sizeLine_eq];decide
theorem Uh:iU X (binaryOp .Add) (fun x y H Q=>∃i j,x = .str i∧y = .str j∧i.length+j.length≤sizeLine∧Q (.str (i++j)) H):=by
  intro p_ s σ H x y v u Q I rx ry h;obtain⟨i,j,rfl,rfl,hz,q⟩:=h;obtain⟨t,rfl⟩:=rx;obtain⟨t',rfl⟩:=ry;exact add_str (fun t' tk=>⟨.str (i++j),H,I.tok _,⟨_,rfl⟩,q⟩) hz
theorem vals1 {x:V} {us:List Value} (r:Vals [x] us):∃u,us=[u]∧RelV x u:=by
  cases r with
  | cons r1 r2=>cases r2;exact⟨_,rfl,r1⟩
theorem vals2 {x y:V} {us:List Value} (r:Vals [x,y] us):∃u w',us=[u,w']∧RelV x u∧RelV y w':=by
  cases r with
  | cons r1 r2=>
    cases r2 with
    | cons r3 r4=>cases r4;exact⟨_,_,rfl,r1,r3⟩
theorem qac:cN X (.builtin "abs") (fun xs H Q=>∃i,xs=[.int i]∧Q (.int (if i<0 then -i else i)) H):=by
  intro p_ s σ H xs us Q I r h;obtain⟨i,rfl,q⟩:=h;obtain⟨u,rfl,t,rfl⟩:=vals1 r;exact call_abs_int fun u tk=>⟨.int (if i<0 then -i else i),H,I.tok _,⟨_,rfl⟩,q⟩
theorem XM (hc:X.calm=true):cN X (.builtin "max") (fun xs H Q=>∃i j,xs=[.int i,.int j]∧Q (.int (if j > i then j else i)) H):=by
  intro p_ s σ H xs us Q I r h;obtain⟨i,j,rfl,q⟩:=h;obtain⟨u,w',rfl,⟨t,rfl⟩,⟨t',rfl⟩⟩:=vals2 r;refine max_two_ints (I.ok.hd hc) fun h' tk k=>⟨_,H,I.kept k,?_,q⟩
  by_cases hj:j > i
  ·rw[if_pos hj,if_pos hj];exact⟨_,rfl⟩
  ·rw[if_neg hj,if_neg hj];exact⟨_,rfl⟩
theorem XQ (hc:X.calm=true):cN X (.builtin "min") (fun xs H Q=>∃i j,xs=[.int i,.int j]∧Q (.int (if j<i then j else i)) H):=by
  intro p_ s σ H xs us Q I r h;obtain⟨i,j,rfl,q⟩:=h;obtain⟨u,w',rfl,⟨t,rfl⟩,⟨t',rfl⟩⟩:=vals2 r;refine min_two_ints (I.ok.hd hc) fun h' tk k=>⟨_,H,I.kept k,?_,q⟩
  by_cases hj:j<i
  ·rw[if_pos hj,if_pos hj];exact⟨_,rfl⟩
  ·rw[if_neg hj,if_neg hj];exact⟨_,rfl⟩
theorem XR:cN X (.type "int") (fun xs H Q=>(∃i,xs=[.int i]∧Q (.int i) H)∨∃k,xs=[.bl k]∧Q (.int (if k then 1 else 0)) H):=by
  intro p_ s σ H xs us Q I r h
  rcases h with⟨i,rfl,q⟩ | ⟨k,rfl,q⟩
  ·obtain⟨u,rfl,t,rfl⟩:=vals1 r;exact call_int_int ⟨.int i,H,I,⟨_,rfl⟩,q⟩
  ·obtain⟨u,rfl,r1⟩:=vals1 r;cases r1;exact call_int_bool ⟨.int (if k then 1 else 0),H,I.tok _,⟨_,rfl⟩,q⟩
theorem Rh:cN X (.builtin "divmod") (fun xs H Q=>∃i j,xs=[.int i,.int j]∧XH i j∧∀p,H p=none→Q (.ref p) (upd H p (.tup [.int (i / j),.int (i % j)]))):=by
  intro p_ s σ H xs us Q I r h;obtain⟨i,j,rfl,⟨h1,h2⟩,q⟩:=h;obtain⟨u,w',rfl,⟨t,rfl⟩,⟨t',rfl⟩⟩:=vals2 r;refine divmod_int (by omega) ?_ (.inl (PyProof.noPylong_small (by omega)));rw[Int.fdiv_eq_ediv_of_nonneg i (by omega),Int.fmod_eq_emod_of_nonneg i (by omega)];have hn:H s.heap.objs.size=none:=I.hok.fresh (Nat.le_refl _);refine⟨.ref s.heap.objs.size,_,?_,rfl,q _ hn⟩;refine I.laid (fun b o e=>Heap.get?_push_of_some _ e) (Nat.le_refl _) ⟨by simp only[List.length_cons,List.length_nil];rw[sizeLine_eq];decide,[.int (i / j) s.toks,.int (i % j) (s.toks+1)],.cons ⟨_,rfl⟩ (.cons ⟨_,rfl⟩ .nil),?_⟩;exact⟨_,Heap.get?_push_size s.heap rfl,rfl,0,rfl⟩
end
structure Ui (h:Heap) (x dx C:Addr) (mA:Str→Option Value):Prop where
  obj:h.get? x=some (W.instObj C dx)
  ns:h.Ns1 dx mA
  ne:dx≠x
theorem XS {h:Heap} {dx:Addr} {mA:Str→Option Value} (n:h.Ns1 dx mA):∃od,h.get? dx=some od∧∀name,W.lookIn name od=some (mA name):=by
  obtain⟨o,es,ep,ho,hd,hk,_,hm⟩:=n;refine⟨o,ho,fun name=>?_⟩;have e:=hm name;unfold nsFind findBy at e;rw[← Array.find?_toList] at e;unfold W.lookIn;rw[hd];dsimp only;split
  ·rename_i y q;rw[q] at e;exact congrArg some e
  · rename_i q;rw[q] at e;have a:es.toList.any (·.refKey)=false:=by
      rw[List.any_eq_false];intro y hy;obtain⟨z,t,hkey⟩:=hk y (Array.mem_toList_iff.mp hy);simp[DictEntry.refKey,hkey]
    have a':¬es.toList.any (·.refKey)=true:=by rw[a];exact Bool.false_ne_true
    rw[if_neg a'];exact congrArg some e
theorem Ui.look {h:Heap} {x dx C:Addr} {mA:Str→Option Value} (I:Ui h x dx C mA):∃od,W.InstAt h x (W.instObj C dx) C (some od)∧∀name,W.lookIn name od=some (mA name):=
  let ⟨od,ho,hl⟩:=XS I.ns
  ⟨od,⟨I.obj,rfl,rfl,ho⟩,hl⟩
section
variable {prog:Program} {w:World} {A:Around} {E:Value→Shared→Prop} {s:Shared} {K:W.Frag} {x dx C f:Addr} {mA:Str→Option Value} {name:Str} {v:Value}
theorem get_map {expr:Bool} {Q:Value→Shared→Prop} (X:K.In s.heap) (I:Ui s.heap x dx C mA) (hg:W.plainGet K C name=true) (hh:W.hasDictIn K C=true)
    (ha:W.findIn K (.ref C) name=some none) (hv:mA name=some v) (hv':W.handedIn v=true) (h:Q v {s with toks:=s.toks+1}) :
    wpAny (model prog w) A (getAttr (.ref x) name expr) Q E s:=by
  obtain⟨od,J,hl⟩:=I.look;exact W.get_value X J (W.plainGet_of hg).1 (W.findObj_own hh ha rfl (by rw[hl,hv])) hv' h
theorem qad {pl:Sem Bool} {Q:Value×List Value→Shared→Prop} (X:K.In s.heap) (I:Ui s.heap x dx C mA) (hg:W.plainGet K C name=true)
    (hf:W.findIn K (.ref C) name=some (some (.ref f))) (ht:W.isFn K (.ref f)=true) (hv:mA name=none) (h:Q (.ref f,[.ref x]) s) :
    wpAny (model prog w) A (getMethod (.ref x) name pl) Q E s:=by
  obtain⟨od,J,hl⟩:=I.look;exact W.method_fn X J (W.plainGet_of hg).1 (W.plainGet_of hg).2 hf (beq_iff_eq.mp ht) (by show(W.lookIn name od).map (·.isSome)=some false;rw[hl,hv];rfl) h
theorem qcK {ns:List Str} {Q:Unit→Shared→Prop} (X:K.In s.heap) (I:Ui s.heap x dx C mA)
    (hs:W.findIn K (.ref C) "__setattr__" = some (some (.builtin "object.__setattr__"))) (hp:W.plainOver K C=true) (ht:W.takerIn K C name=some none) (hh:W.hasDictIn K C=true)
    (hw:PySem.Within mA ns) (hsz:ns.length≤sizeLine)
    (h:∀h',Ui h' x dx C (fun y=>if y=name then some v else mA y)→Heap.SameBut dx s.heap h'→Q () {s with heap:=h',toks:=s.toks+2}) :
    wpAny (model prog w) A (setAttr (.ref x) name v) Q E s:=by
  obtain⟨od,J,hl⟩:=I.look;refine W.set_plain X J hs (W.osa_open (s:={s with toks:=s.toks+1}) (r:=none) X J hp ht fun b=>?_);obtain⟨cd,hc,hd'⟩:=W.any_some hh;have hx:s.heap.get? x=some ⟨.ref C,some dx,.plain,#[]⟩:=I.obj;refine wpAny_bind (wpAny_pure (wpAny_bind (wpAny_bind (wpAny_loadPart hx (wpAny_bind (W.Looks.here (s:={s with toks:=s.toks+1}) (W.looks_clsIn X hc) ?_))))));rw[hd'];refine wpAny_pure (a:=some dx) (wpAny_bind (wpAny_pure (wpAny_bind ?_)));refine wpAny_nsSet1 (s:={s with toks:=s.toks+1}) I.ns fun h' hn2 hs2=>?_;obtain⟨oD,esD,epD,hoD,hdD,hcD⟩:=hn2.count (PySem.Within.cons name v hw);refine wpAny_bind (wpAny_lookBehind hoD (by rw[hdD];exact pastItsLine_dict (Nat.le_trans hcD (by rw[List.length_cons];omega))) ?_);exact wpAny_pure (h _ ⟨(hs2.2 _ (Ne.symm I.ne)).trans I.obj,hn2,I.ne⟩ hs2)
theorem qae {R:Result→Shared→Prop} {vs:List Value} {kw:List (Str×Value)} (X:K.In s.heap) (hm:W.makesIn K C=true)
    (hi:W.findIn K (.ref C) "__init__" = some (some (.ref f))) (hf:W.typeIn K (.ref f)=some (.type "function"))
    (h:codeAny (model prog w) (A.under (.builtin "type.__call__" ⟨.ref C::vs,kw⟩)) (.call (.ref f) ⟨.ref (s.heap.objs.size+1)::vs,kw⟩) (W.InitBack (s.heap.objs.size+1) R)
      {s with heap:=(s.heap.push W.emptyDict).push (W.instObj C s.heap.objs.size)}) :
    codeAny (model prog w) A (.call (.ref C) ⟨vs,kw⟩) R s:=by
  obtain⟨hh,g,d,t,os⟩:=s;exact W.make_core (W.makes_of X hm) (W.looks_findIn X hi) (fun self=>W.bind_fn X self hf) (.inl rfl) h
end
def vp (f:Str) (v:V):List (Str×V)→List (Str×V)
  | []=>[(f,v)]
  | (g,x)::r=>if g=f then (g,v)::r else (g,x)::vp f v r
theorem Ga (f g:Str) (v:V):∀fs:List (Str×V),(vp f v fs).lookup g=if g=f then some v else fs.lookup g
  | []=>by
    show List.lookup g [(f,v)]=_
    by_cases h:g=f
    ·have hb:(g == f)=true:=beq_iff_eq.mpr h;simp only[List.lookup,hb,if_pos h]
    ·have hb:(g == f)=false:=beq_eq_false_iff_ne.mpr h;simp only[List.lookup,hb,if_neg h]
  | (k,x)::r=>by
    have ih:=Ga f g v r;rw[show vp f v ((k,x)::r)=(if k=f then (k,v)::r else (k,x)::vp f v r) from rfl]
    by_cases hk:k=f
    · rw[if_pos hk]
      by_cases h:g=k
      ·have hb:(g == k)=true:=beq_iff_eq.mpr h;simp only[List.lookup,hb,if_pos (h.trans hk)]
      ·have hb:(g == k)=false:=beq_eq_false_iff_ne.mpr h;simp only[List.lookup,hb,if_neg (fun e:g=f=>h (e.trans hk.symm))]
    · rw[if_neg hk]
      by_cases h:g=k
      ·have hb:(g == k)=true:=beq_iff_eq.mpr h;simp only[List.lookup,hb,if_neg (fun e:g=f=>hk (h.symm.trans e))]
      ·have hb:(g == k)=false:=beq_eq_false_iff_ne.mpr h;simp only[List.lookup,hb];exact ih
theorem Ej (f:Str) (v:V):∀fs:List (Str×V),f∈(vp f v fs).map (·.1)∧∀g,g∈fs.map (·.1)→g∈(vp f v fs).map (·.1)
  | []=>⟨by simp[vp],fun g h=>by simp at h⟩
  | (k,x)::r=>by
    obtain⟨i1,i2⟩:=Ej f v r;rw[show vp f v ((k,x)::r)=(if k=f then (k,v)::r else (k,x)::vp f v r) from rfl]
    by_cases hk:k=f
    ·rw[if_pos hk];subst hk;exact⟨by simp,fun g h=>by simpa using h⟩
    · rw[if_neg hk];refine⟨?_,fun g h=>?_⟩
      ·rw[List.map_cons];exact List.mem_cons_of_mem _ i1
      · rw[List.map_cons] at h ⊢
        rcases List.mem_cons.mp h with e | e
        ·exact List.mem_cons.mpr (.inl e)
        ·exact List.mem_cons_of_mem _ (i2 g e)
theorem Gb (f:Str) (v:V):∀fs:List (Str×V),(vp f v fs).length≤fs.length+1
  | []=>by simp[vp]
  | (k,x)::r=>by
    have ih:=Gb f v r;rw[show vp f v ((k,x)::r)=(if k=f then (k,v)::r else (k,x)::vp f v r) from rfl]
    by_cases hk:k=f
    ·rw[if_pos hk,List.length_cons,List.length_cons];omega
    ·rw[if_neg hk,List.length_cons,List.length_cons];omega
theorem xP.some_of {v:V} {o:Option Value} (r:xP (some v) o):∃u,o=some u∧RelV v u:=by
  cases o with
  | none=>exact(show False from r).elim
  | some u=>exact⟨u,rfl,r⟩
theorem xP.none_of {o:Option Value} (r:xP none o):o=none:=by
  cases o with
  | none=>rfl
  | some u=>exact(show False from r).elim
theorem X3 {v:V} {u:Value} (r:RelV v u):W.handedIn u=true:=by
  cases v with
  | non=>cases (show u=Value.none from r);rfl
  | bl b=>cases (show u=Value.bool b from r);rfl
  | int i=>obtain⟨t,e⟩:=(show ∃t,u=Value.int i t from r);cases e;rfl
  | str x=>obtain⟨t,e⟩:=(show ∃t,u=Value.str x t from r);cases e;rfl
  | ZF b=>obtain⟨t,e⟩:=(show ∃t,u=Value.bytes b t from r);cases e;rfl
  | flt b=>obtain⟨t,e⟩:=(show ∃t,u=Value.float b t from r);cases e;rfl
  | ref a=>cases (show u=Value.ref a from r);rfl
  | ty n=>cases (show u=Value.type n from r);rfl
section
variable {P:Program} {w:World} {H H':Hp} {h h':Heap} {a C dx:Addr} {fs fs':List (Str×V)}
theorem Ci (hok:xT P w H h) (e:H a=some (.ins C dx fs)):∃mA,Ui h a dx C mA∧(∀f,xP (fs.lookup f) (mA f))∧PySem.Within mA (fs.map (·.1))∧fs.length≤1000∧H dx=some (.own a):=by
  obtain⟨d,z,ne,ob,mA,n,r,q⟩:=(show dj P w H h a (.ins C dx fs) from hok a _ e);exact⟨mA,⟨ob,n,ne⟩,r,q,z,d⟩
end
structure Cls (K:W.Frag) (C:Addr):Prop where
  pg:W.plainGet K C Str.empty=true
  hd:W.hasDictIn K C=true
  po:W.plainOver K C=true
  sa:W.findIn K (.ref C) "__setattr__" = some (some (.builtin "object.__setattr__"))
theorem Cls.get {K:W.Frag} {C:Addr} (c:Cls K C) (f:Str):W.plainGet K C f=true:=c.pg
def qu (K:W.Frag) (C:Addr) (f:Str):Prop:=W.findIn K (.ref C) f=some none
theorem qu.taker {K:W.Frag} {C:Addr} {f:Str} (n:qu K C f):W.takerIn K C f=some none:=by
  unfold W.takerIn;rw[show W.findIn K (.ref C) f=some none from n];rfl
structure Meth (K:W.Frag) (C:Addr) (m:Str) (f:Addr):Prop where
  at_:W.findIn K (.ref C) m=some (some (.ref f))
  fn:W.isFn K (.ref f)=true
  kp:W.keepIn K (.ref f)=true
section
variable {X:Cx} {p_:List (Addr×Obj)} {σ:St} {H:Hp} {s:Shared} {a C dx:Addr} {fs:List (Str×V)} {f:Str} {v:V} {A:Around} {E:Value→Shared→Prop}
theorem Uj {b:Bool} {Q:Value→Shared→Prop} (I:Inv X p_ σ H s) (e:H a=some (.ins C dx fs)) (c:Cls X.K C) (n:qu X.K C f) (l:fs.lookup f=some v)
    (h:∀u s',Inv X p_ σ H s'→RelV v u→Q u s'):wpAny (model X.prog X.w) A (getAttr (.ref a) f b) Q E s:=by
  obtain⟨mA,O,r,_,_,_⟩:=Ci I.hok e;obtain⟨u,hu,ru⟩:=xP.some_of (v:=v) (o:=mA f) (by rw[← l];exact r f);exact get_map I.Ad O (c.get f) c.hd n hu (X3 ru) (h u _ (I.tok _) ru)
theorem Uk {m:Str} {g:Addr} {pl:Sem Bool} {Q:Value×List Value→Shared→Prop} (I:Inv X p_ σ H s) (e:H a=some (.ins C dx fs)) (c:Cls X.K C) (k:Meth X.K C m g) (l:fs.lookup m=none)
    (h:Q (.ref g,[.ref a]) s):wpAny (model X.prog X.w) A (getMethod (.ref a) m pl) Q E s:=by
  obtain⟨mA,O,r,_,_,_⟩:=Ci I.hok e;have hn:mA m=none:=xP.none_of (by rw[← l];exact r m);exact qad I.Ad O (c.get m) k.at_ k.fn hn h
theorem Ul {y:V} {u:Value} {Q:Unit→Shared→Prop} (I:Inv X p_ σ H s) (e:H a=some (.ins C dx fs)) (c:Cls X.K C) (n:qu X.K C f) (hl:fs.length<1000) (ry:RelV y u)
    (h:∀s',Inv X p_ σ (upd H a (.ins C dx (vp f y fs))) s'→Q () s'):wpAny (model X.prog X.w) A (setAttr (.ref a) f u) Q E s:=by
  obtain⟨mA,O,r,wi,_,ho⟩:=Ci I.hok e;have hz:(fs.map (·.1)).length≤sizeLine:=by rw[List.length_map,sizeLine_eq];omega
  refine qcK I.Ad O c.sa c.po n.taker c.hd wi hz fun h' O' sb=>h _ ?_;have hd:∃o,h'.get? dx=some o:=let ⟨o,_,_,e',_⟩:=O'.ns;⟨o,e'⟩;refine I.write (x:=a) (e:=dx) (by rw[e];exact True.intro) (.inr ho) (fun b q hb z=>(sb.2 b hb).trans z) hd ?_;refine⟨by rw[aM O.ne];exact ho,?_,O.ne,O'.obj,_,O'.ns,fun g=>?_,fun g hg=>?_⟩
  ·have:=Gb f y fs;omega
  · show xP ((vp f y fs).lookup g) (if g=f then some u else mA g)
    rw[Ga]
    by_cases q:g=f
    ·rw[if_pos q,if_pos q];exact ry
    ·rw[if_neg q,if_neg q];exact r g
  · by_cases q:g=f
    ·rw[q];exact(Ej f y fs).1
    · refine(Ej f y fs).2 g (wi g fun z=>hg ?_);show(if g=f then some u else mA g)=none
      rw[if_neg q];exact z
theorem Inv.made (I:Inv X p_ σ H s):Inv X p_ σ (upd (upd H s.heap.objs.size (.own (s.heap.objs.size+1))) (s.heap.objs.size+1) (.ins C s.heap.objs.size []))
    {s with heap:=(s.heap.push W.emptyDict).push (W.instObj C s.heap.objs.size)}:=by
  have e1:(s.heap.push W.emptyDict).get? s.heap.objs.size=some W.emptyDict:=Heap.get?_push_size s.heap rfl;have e2:((s.heap.push W.emptyDict).push (W.instObj C s.heap.objs.size)).get? (s.heap.objs.size+1)=some (W.instObj C s.heap.objs.size):=by
    have:=Heap.get?_push_size (s.heap.push W.emptyDict) (o:=W.instObj C s.heap.objs.size) rfl
    rwa [Heap.size_push] at this
  have e3:(s.heap.push W.emptyDict).Ns s.heap.objs.size (fun _=>none):=⟨W.emptyDict,#[],_,e1,rfl,(fun e he=>absurd he (by simp)),fun _=>rfl⟩;have I1:=I.laid (a:=s.heap.objs.size) (o:=.own (s.heap.objs.size+1)) (h':=s.heap.push W.emptyDict) (t':=s.toks) (fun b u q=>Heap.get?_push_of_some _ q) (Nat.le_refl _) ⟨_,e1⟩;refine I1.laid (a:=s.heap.objs.size+1) (o:=.ins C s.heap.objs.size []) (t':=s.toks) (fun b u q=>Heap.get?_push_of_some _ q) (Nat.le_of_eq (Heap.size_push _ _)) ?_;have ne:s.heap.objs.size≠s.heap.objs.size+1:=Nat.ne_of_lt (Nat.lt_succ_self _);refine⟨by rw[aM ne,ak],Nat.zero_le _,ne,e2,fun _=>none,(Heap.Ns1.of_empty e3).at fun o q=>Heap.get?_push_of_some _ q,fun _=>True.intro,fun y hy=>absurd rfl hy⟩
theorem qcL {prog:Program} {w:World} {env:Env} {e:Expr} {f:Str} {pos:Pos} {s:Shared} {Q:Value→Shared→Prop} (hb:attributeBase e f env (eval e env)=eval e env)
    (h:wpAny (model prog w) A (eval e env) (fun o s₁=>wpAny (model prog w) A (getAttr o f true) Q E s₁) E s):wpAny (model prog w) A (eval (.Attribute e f pos) env) Q E s:=
  Attribute_any_ h (by rw[arm_eval_Attribute,hb])
end
def qcM (K:W.Frag) (ta:TE) (f:Str):TE:=fun σ H Q=>ta σ H fun x H1=>∃a C dx fs v,x = .ref a∧H1 a=some (.ins C dx fs)∧Cls K C∧qu K C f∧fs.lookup f=some v∧Q v H1
def qe9 (K:W.Frag) (ta tv:TE) (f:Str):TS:=fun D σ H=>tv σ H fun y H1=>ta σ H1 fun x H2=>∃a C dx fs,x = .ref a∧H2 a=some (.ins C dx fs)∧Cls K C∧qu K C f∧fs.length<1000∧
  D.nx σ (upd H2 a (.ins C dx (vp f y fs)))
section
variable {X:Cx} {o e value:Expr} {f:Str} {pos pos' tpos:Pos} {ta tv:TE}
theorem qe_ (he:PE X e ta) (hb:attributeBase e f X.env (eval e X.env)=eval e X.env):PE X (.Attribute e f pos) (qcM X.K ta f):=by
  intro p_ s σ H Q I h;refine qcL hb (cU (he p_ s σ H _ I h) fun u s1 zz=>?_);obtain⟨x,H1,I1,rx,a,C,dx,fs,v,ex,ea,c,n,l,q⟩:=zz;subst ex;obtain rfl:u=Value.ref a:=rx;exact Uj I1 ea c n l fun u' s2 I2 ru=>⟨v,H1,I2,ru,q⟩
theorem qfa (ha:PE X o ta) (hv:PE X value tv) (hs:swapsWith value (some (.Attribute o f pos')) pos.line X.env=pure false):PS X (.Assign [.Attribute o f pos'] value pos) (qe9 X.K ta tv f):=by
  intro p_ s σ H D I h;refine plainObj_wpAny_Assign_Attribute (cU (hv p_ s σ H _ I h) fun u s1 ⟨y,H1,I1,ry,q⟩=>cU (ha p_ s1 σ H1 _ I1 q) fun ov s2 ⟨x,H2,I2,rx,a,C,dx,fs,ex,ea,c,n,l,q2⟩=>?_) hs;subst ex;obtain rfl:ov=Value.ref a:=rx;exact Ul I2 ea c n l ry fun s3 I3=>⟨σ,_,I3,q2⟩
end
section
variable {X:Cx} {p_:List (Addr×Obj)} {σ:St} {H:Hp} {s:Shared} {A:Around} {E:Value→Shared→Prop} {Q:Value→Shared→Prop} {c:Value} {b:Bool}
inductive qw (K:W.Frag) (H:Hp):V→Value→Prop where
  | non:qw K H .non (.type "NoneType")
  | bl (x:Bool):qw K H (.bl x) (.type "bool")
  | int (i:Int):qw K H (.int i) (.type "int")
  | str (x:Str):qw K H (.str x) (.type "str")
  | flt (x:UInt64):qw K H (.flt x) (.type "float")
  | lst {a:Addr} {xs:List V} (e:H a=some (.lst xs)):qw K H (.ref a) (.type "list")
  | Q9 {a:Addr} {o:Obj} {xs:List V} (e:H a=some (.Q9 o (.lst xs))):qw K H (.ref a) (.type "list")
  | tup {a:Addr} {xs:List V} (e:H a=some (.tup xs)):qw K H (.ref a) (.type "tuple")
  | dK {a:Addr} {kvs:List (Key×V)} (e:H a=some (.dK kvs)):qw K H (.ref a) (.type "dict")
  | dT {a:Addr} {kvs:List (List Key×V)} (e:H a=some (.dT kvs)):qw K H (.ref a) (.type "dict")
  | ins {a C dx:Addr} {fs:List (Str×V)} (e:H a=some (.ins C dx fs)) (cl:Cls K C) (ha:W.findIn K (.ref C) "__class__" = some (some (.builtin "object.__class__")))
      (hn:W.specialIn K (.builtin "object.__class__") "__get__" = some (some (.builtin "getset_descriptor.__get__"))) (htk:W.takesIn K (.builtin "object.__class__")=some true)
      (hm:W.mroIn K C (.type "object")=some true):qw K H (.ref a) (.ref C)
theorem X4 {x:V} {u t:Value} (I:Inv X p_ σ H s) (rx:RelV x u) (ty:qw X.K H x t) (e:W.kitOne X.K t c=some b) (h:∀tk,Q (.bool b) {s with toks:=tk}) :
    wpAny (model X.prog X.w) A (call (.builtin "isinstance") [u,c]) Q E s:=by
  cases ty with
  | non=>cases (show u=Value.none from rx);exact W.kia_one W.kitx_none I.Ad True.intro e (fun z=>nomatch z) h
  | bl y=>cases (show u=Value.bool y from rx);exact W.kia_one W.kitx_bool I.Ad True.intro e (fun z=>nomatch z) h
  | int i=>obtain⟨t,q⟩:=(show ∃t,u=Value.int i t from rx);cases q;exact W.kia_one W.kitx_int I.Ad True.intro e (fun z=>nomatch z) h
  | str y=>obtain⟨t,q⟩:=(show ∃t,u=Value.str y t from rx);cases q;exact W.kia_one W.kitx_str I.Ad True.intro e (fun z=>nomatch z) h
  | flt y=>obtain⟨t,q⟩:=(show ∃t,u=Value.float y t from rx);cases q;exact W.kia_one W.kitx_float I.Ad True.intro e (fun z=>nomatch z) h
  | @lst a xs ea=>
    cases (show u=Value.ref a from rx);obtain⟨_,_,n,_,h1⟩:=(show dj X.prog X.w H s.heap a (.lst xs) from I.hok a _ ea);exact W.kia_one W.kitx_list I.Ad ⟨_,h1,rfl⟩ e (fun z=>nomatch z) h
  | @Q9 a ob xs ea=>
    cases (show u=Value.ref a from rx);obtain⟨_,_,_,n,_,h1⟩:=(show dj X.prog X.w H s.heap a (.Q9 ob (.lst xs)) from I.hok a _ ea);exact W.kia_one W.kitx_list I.Ad ⟨_,h1,rfl⟩ e (fun z=>nomatch z) h
  | @tup a xs ea=>
    cases (show u=Value.ref a from rx);obtain⟨_,_,_,p⟩:=(show dj X.prog X.w H s.heap a (.tup xs) from I.hok a _ ea);obtain⟨o,h1,h2,_⟩:=p;exact W.kia_one W.kitx_tuple I.Ad ⟨o,h1,h2⟩ e (fun z=>nomatch z) h
  | @dK a kvs ea=>
    cases (show u=Value.ref a from rx);obtain⟨_,_,vs,_,p⟩:=(show dj X.prog X.w H s.heap a (.dK kvs) from I.hok a _ ea);obtain⟨o,es,ep,h1,h2,_⟩:=p;exact W.kia_one W.kitx_dict I.Ad ⟨o,h1,h2.1⟩ e (fun z=>nomatch z) h
  | @dT a kvs ea=>
    cases (show u=Value.ref a from rx);obtain⟨_,_,xs,_,o,es,ep,h1,h2,_⟩:=(show dj X.prog X.w H s.heap a (.dT kvs) from I.hok a _ ea);exact W.kia_one W.kitx_dict I.Ad ⟨o,h1,h2.1⟩ e (fun z=>nomatch z) h
  | @ins a C dx fs ea cl ha hn htk hm=>
    cases (show u=Value.ref a from rx);obtain⟨mA,O,_⟩:=Ci I.hok ea;obtain⟨od,J,_⟩:=O.look;exact W.kia_one (W.kitx_own (cl.get _) cl.hd ha hn htk hm) I.Ad J e (fun z=>nomatch z) h
end
structure iV (k:Nat) (A:Around):Prop where
  hd:A.handled=none
  dp:A.depth+3 * k+5<recursionLimit
  un:A.units+16 * k+200<cLine
  gd:A.guards=some []
theorem iV.mono {j k:Nat} {A:Around} (r:iV k A) (h:j≤k):iV j A:=⟨r.hd,by have:=r.dp;omega,by have:=r.un;omega,r.gd⟩
theorem iV.d {j k:Nat} {A:Around} (r:iV k A) (h:j≤k:=by decide):iV j A:=r.mono h
theorem iV.deeper {k:Nat} {A:Around} (r:iV (k+1) A) (env:Env):iV k (A.deeper env):=
  ⟨r.hd,by have:=r.dp;show A.depth+1+3 * k+5<_;omega,by have:=r.un;show A.units+3+16 * k+200<_;omega,r.gd⟩
theorem Um {A:Around} {C:Addr} {us:List Value} {kw:List (Str×Value)}:(A.under (.builtin "type.__call__" ⟨.ref C::us,kw⟩)).depth=A.depth+1:=by
  first | rfl | simp[Around.under,Code.weight,Code.isCreation,Code.isGuard,Code.isCaller,Code.frames,Code.isFrame,guardIds]
theorem Uo {A:Around} {C:Addr} {us:List Value} {kw:List (Str×Value)}:(A.under (.builtin "type.__call__" ⟨.ref C::us,kw⟩)).units=A.units+1:=by
  first | rfl | simp[Around.under,Code.cUnits,Code.frames,Code.isFrame]
theorem Ri {A:Around} {C:Addr} {us:List Value} {kw:List (Str×Value)}:(A.under (.builtin "type.__call__" ⟨.ref C::us,kw⟩)).guards=A.guards:=by
  first | rfl | simp[Around.under,Code.isGuard,guardIds]
theorem iV.make {k:Nat} {A:Around} (r:iV (k+1) A) (C:Addr) (us:List Value) (kw:List (Str×Value)):iV k (A.under (.builtin "type.__call__" ⟨.ref C::us,kw⟩)):=
  ⟨r.hd,by have:=r.dp;rw[Um];omega,by have:=r.un;rw[Uo];omega,by rw[Ri];exact r.gd⟩
theorem iV.depth {k:Nat} {A:Around} (r:iV k A):A.depth<recursionLimit:=by have:=r.dp;omega
theorem iV.units {k:Nat} {A:Around} (r:iV k A):A.units+64<cLine:=by have:=r.un;omega
def xQ:TA:=fun _ H Q=>Q [] H
def iW (ta:TE) (tr:TA):TA:=fun σ H Q=>ta σ H fun x H1=>tr σ H1 fun xs H2=>Q (x::xs) H2
section
variable {X:Cx} {e:Expr} {es:List Expr} {te:TE} {t:TA} {pos:Pos}
theorem aq:PA X [] xQ:=fun _ _ _ _ H Q I h=>Calls.spliced_nil ⟨[],H,I,.nil,h⟩
theorem aj (ha:PE X e te) (hr:PA X es t) (hs:starEach (e::es) X.env=(false,eval e X.env)::starEach es X.env:=by rfl):PA X (e::es) (iW te t):=by
  intro pos p_ s σ H Q I h;rw[hs];show wpAny _ _ (spliced ((false,eval e X.env)::backTo pos (starEach es X.env))) _ _ s;refine Calls.spliced_cons (cU (ha p_ s σ H _ I h) fun u s1 zz=>?_);obtain⟨x,H1,I1,r1,q1⟩:=zz;refine cU (hr pos p_ s1 σ H1 _ I1 q1) fun us s2 zz=>?_;obtain⟨xs,H2,I2,r2,q2⟩:=zz;exact⟨x::xs,H2,I2,.cons r1 r2,q2⟩
def X5 (t:TA):TE:=fun σ H Q=>t σ H fun xs H1=>xs.length≤sizeLine∧∀p,H1 p=none→Q (.ref p) (upd H1 p (.tup xs))
def X6 (t:TA):TE:=fun σ H Q=>t σ H fun xs H1=>xs.length≤sizeLine∧∀p,H1 p=none→Q (.ref p) (upd H1 p (.lst xs))
theorem fP {x1} (h:PA X es t):PE X (.Tuple es x1 pos) (X5 t):=by
  intro p_ s σ H Q I hq;refine wpAny_Tuple_spliced (cU (h pos p_ s σ H _ I hq) fun us s1 zz=>?_);obtain⟨xs,H1,I1,r,z,q⟩:=zz;refine⟨by rw[← r.length];exact z,?_⟩;have hf:H1 s1.heap.objs.size=none:=I1.hok.fresh (Nat.le_refl _);refine⟨.ref s1.heap.objs.size,upd H1 s1.heap.objs.size (.tup xs),I1.laid (t':=s1.toks) (fun b u e=>Heap.get?_push_of_some _ e) (Nat.le_refl _) ?_,rfl,q _ hf⟩;exact⟨z,us,r,⟨_,Heap.get?_push_size _ rfl,rfl,_,rfl⟩⟩
theorem bA (h:PA X es t):PE X (.List es pos) (X6 t):=by
  intro p_ s σ H Q I hq;refine wpAny_List_spliced (cU (h pos p_ s σ H _ I hq) fun us s1 zz=>?_);obtain⟨xs,H1,I1,r,z,q⟩:=zz;refine⟨by rw[← r.length];exact z,?_⟩;have hf:H1 s1.heap.objs.size=none:=I1.hok.fresh (Nat.le_refl _);refine⟨.ref s1.heap.objs.size,upd H1 s1.heap.objs.size (.lst xs),I1.laid (t':=s1.toks) (fun b u e=>Heap.get?_push_of_some _ e) (Nat.le_refl _) ?_,rfl,q _ hf⟩;exact⟨z,us,0,r,Heap.get?_push_size _ rfl⟩
end
abbrev Sp:=List V→Hp→VK→XK→Prop
abbrev X7:=List Env→Hp→Shared→XK→Value→Shared→Prop
structure Rj (P:Program) (w:World) (K:W.Frag) (mg:Str→Option Value) (base:Heap) (A:Around) (outer:List Env) (s:Shared) (H:Hp):Prop where
  frames:A.frames=some outer
  mod:Mod K mg base
  bs:∀b o,base.get? b=some o→s.heap.get? b=some o∧H b=none
  Xx:base.objs.size≤s.heap.objs.size
  xV:s.heap.FunFrames base outer
  ZS:∀b∈frs outer,H b=none
  hok:xT P w H s.heap
  bare:AllBare s.gens
def CE (outer:List Env) (P:Program) (w:World) (H:Hp) (s:Shared) (Q:VK) (u:Value) (s':Shared):Prop:=
  ∃v H',s'.os=s.os∧AllBare s'.gens∧Un (frs outer) [] H H' s.heap s'.heap∧xT P w H' s'.heap∧RelV v u∧Q v H'
def CR (CX:X7) (outer:List Env) (P:Program) (w:World) (H:Hp) (s:Shared) (Q:VK) (E:XK) (r:Result) (s':Shared):Prop:=
  match r with
  | .ok (.ret u)=>CE outer P w H s Q u s'
  | .ok _=>False
  | .error e=>CX outer H s E e s'
structure bV (P:Program) (w:World) (K:W.Frag) (mg:Str→Option Value) (base:Heap) (CX:X7) (k:Nat) (f:Addr) (fd:FuncData) (ps:List Str) (sp:Sp):Prop where
  len:∀vs H Q E,sp vs H Q E→vs.length=ps.length
  run:∀(A:Around) (outer:List Env) (s:Shared) (H:Hp) (args:Args) (us:List Value) (vs:List V) (Q:VK) (E:XK),iV k A→Rj P w K mg base A outer s H→BindsTo s fd args (ps.zip us)→Vals vs us→sp vs H Q E→
    codeAny (model P w) A (.call (.ref f) args) (CR CX outer P w H s Q E) s
theorem bV.imp {P:Program} {w:World} {K:W.Frag} {mg:Str→Option Value} {base:Heap} {CX:X7} {k:Nat} {f:Addr} {fd:FuncData} {ps:List Str} {sp tO:Sp} (F:bV P w K mg base CX k f fd ps sp)
    (h:∀vs H Q E,tO vs H Q E→sp vs H Q E):bV P w K mg base CX k f fd ps tO:=
  ⟨fun vs H Q E q=>F.len vs H Q E (h _ _ _ _ q),fun A outer s H args us vs Q E hr he hb hv hs=>F.run A outer s H args us vs Q E hr he hb hv (h _ _ _ _ hs)⟩
theorem Rj.make {P:Program} {w:World} {K:W.Frag} {mg:Str→Option Value} {base:Heap} {A:Around} {outer:List Env} {s:Shared} {H:Hp} (e:Rj P w K mg base A outer s H) (C:Addr) (us:List Value) (kw:List (Str×Value)) :
    Rj P w K mg base (A.under (.builtin "type.__call__" ⟨.ref C::us,kw⟩)) outer s H:=⟨by first | exact e.frames | (simpa [Around.under,Code.envs,Code.isFrame,pushEnvs] using e.frames),e.mod,e.bs,e.Xx,e.xV,e.ZS,e.hok,e.bare⟩
section
variable {X:Cx} {p_:List (Addr×Obj)} {σ:St} {H:Hp} {s s':Shared}
theorem Inv.env0 (I:Inv X p_ σ H s):Rj X.prog X.w X.K X.mg X.base X.A X.stack s H:=
  ⟨I.ok.frames,I.ok.mod,I.bs,Nat.le_trans I.ok.Xx I.sz,I.stack,I.Hg,I.hok,I.bare⟩
theorem Inv.after {Q:VK} {u:Value} (I:Inv X p_ σ H s) (h:CE X.stack X.prog X.w H s Q u s'):EP X p_ σ Q u s':=by
  obtain⟨v,H',os,bare,un,hok,r,q⟩:=h;obtain⟨hh,g,d,t,os'⟩:=s';obtain rfl:os'=s.os:=os;exact⟨v,H',I.call (h':=hh) (g':=g) (d':=d) (t':=t) (ch:=[]) un hok bare (fun b z=>absurd z (by simp)),r,q⟩
end
def qaf (sp:Sp) (Ef:List V) (E:XK) (t:TA):TE:=fun σ H Q=>t σ H fun vs H1=>sp (vs++Ef) H1 Q E
def qag (C:Addr) (m:Str) (sp:Sp) (Ef:List V) (E:XK) (ta:TE) (t:TA):TE:=fun σ H Q=>ta σ H fun x H1=>∃a dx fs,x = .ref a∧H1 a=some (.ins C dx fs)∧fs.lookup m=none∧
  t σ H1 fun vs H2=>sp (x::(vs++Ef)) H2 Q E
def qah (C:Addr) (sp:Sp) (Ef:List V) (E:XK) (t:TA):TE:=fun σ H Q=>t σ H fun vs H1=>∀x dx,H1 x=none→H1 dx=none→dx≠x→
  sp (.ref x::(vs++Ef)) (upd (upd H1 dx (.own x)) x (.ins C dx [])) (fun v H2=>v = .non∧Q (.ref x) H2) E
def Binds (K:W.Frag) (fd:FuncData) (ps:List Str) (ds:List Value):Prop:=
  ∀(s:Shared) (us:List Value),K.In s.heap→(us++ds).length=ps.length→BindsTo s fd ⟨us,[]⟩ (ps.zip (us++ds))
theorem Binds.all {K:W.Frag} {fd:FuncData} {ps:List Str} (h:∀us:List Value,us.length=ps.length→bindArgs fd ⟨us,[]⟩=pure (ps.zip us)):Binds K fd ps []:=fun s us _ hl=>by
  rw[List.append_nil] at hl ⊢;exact .of_eq (h us hl)
def Passes (CX:X7) (X:Cx) (E:XK):Prop:=∀(p_:List (Addr×Obj)) (σ:St) (H:Hp) (s:Shared) (e:Value) (s':Shared),Inv X p_ σ H s→CX X.stack H s E e s'→X.xe e s'
section
variable {X:Cx} {CX:X7} {k:Nat} {f C:Addr} {fd:FuncData} {ps:List Str} {sp:Sp} {Ef:List V} {ds:List Value} {E:XK} {x m:Str} {p pos apos:Pos} {e o:Expr} {es:List Expr} {ta:TE} {t:TA}
theorem qai {p_:List (Addr×Obj)} {σ:St} {H:Hp} {s:Shared} {Q:VK} {us:List Value} {vs:List V} (F:bV X.prog X.w X.K X.mg X.base CX k f fd ps sp) (hr:iV k X.A) (hb:Binds X.K fd ps ds) (hd:Vals Ef ds) (hx:Passes CX X E)
    (I:Inv X p_ σ H s) (r:Vals vs us) (h:sp (vs++Ef) H Q E):wpAny (model X.prog X.w) X.A (call (.ref f) us) (EP X p_ σ Q) X.xe s:=by
  have r2:Vals (vs++Ef) (us++ds):=r.append hd;have hl:(us++ds).length=ps.length:=by rw[← r2.length];exact F.len _ _ _ _ h
  refine wpAny_call (codeAny_mono (F.run X.A X.stack s H ⟨us,[]⟩ (us++ds) (vs++Ef) Q E hr I.env0 (hb s us I.Ad hl) r2 h) fun r s' hq=>?_);cases r with
  | error e=>exact hx p_ σ H s e s' I hq
  | ok fl=>
    cases fl with
    | ret u=>exact I.after hq
    | next=>exact False.elim hq
    | brk=>exact False.elim hq
    | cont=>exact False.elim hq
theorem aL (F:bV X.prog X.w X.K X.mg X.base CX k f fd ps sp) (hr:iV k X.A) (hg:Gl X x) (hm:X.mg x=some (.ref f)) (hk:W.keepIn X.K (.ref f)=true) (hb:Binds X.K fd ps ds) (hd:Vals Ef ds) (hx:Passes CX X E)
    (ha:PA X (e::es) t) (hdb:(x == ("__debug__" : Str))=false:=by decide) (he:starEach (e::es) X.env=(false,eval e X.env)::starEach es X.env:=by rfl) (hpl:(backTo pos (starEach es X.env)).any (·.1)=false:=by rfl) :
    PE X (.Call (.Name x p) (e::es) [] pos) (qaf sp Ef E t):=by
  intro p_ s σ H Q I h;refine wpAny_Call_Name_kw (vV I hg hm ?_ hdb);refine W.callWith_K (h₀:=X.base) I.ok.mod.kin hk (cU (ha pos p_ s σ H _ I h) fun us s1 zz=>?_) he hpl;obtain⟨vs,H1,I1,r,q⟩:=zz;refine⟨I1.Ad,?_⟩;exact qai F hr hb hd hx I1 r q
theorem jX {pl:Sem Bool} (he:PE X o ta) (c:Cls X.K C) (hm:Meth X.K C m f) (F:bV X.prog X.w X.K X.mg X.base CX k f fd ps sp) (hr:iV k X.A) (hb:Binds X.K fd ps ds) (hd:Vals Ef ds) (hx:Passes CX X E)
    (ht:eval (.Call (.Attribute o m apos) [] [] pos) X.env=(do
      let ov ← eval o X.env
      standAt apos.atName
      let (f,first) ← holding [ov] (getMethod ov m pl)
      callWith pos f first (backTo pos (starEach [] X.env)) (backToKw pos (keywordEach [] X.env))):=by rfl) :
    PE X (.Call (.Attribute o m apos) [] [] pos) (qag C m sp Ef E ta xQ):=by
  intro p_ s σ H Q I h;refine W.methodCall_KW (pl:=pl) (cU (he p_ s σ H _ I h) fun u s1 zz=>?_) ht;obtain⟨x,H1,I1,rx,a,dx,fs,ex,ea,l,q⟩:=zz;subst ex;obtain rfl:u=Value.ref a:=rx;refine Uk I1 ea c hm l ?_;exact W.callWith_K0 (first:=[.ref a]) I1.Ad hm.kp (qai (us:=[.ref a]) (vs:=[.ref a]) F hr hb hd hx I1 (.cons rfl .nil) q)
structure Mk (K:W.Frag) (C f:Addr):Prop where
  makes:W.makesIn K C=true
  init:W.findIn K (.ref C) "__init__" = some (some (.ref f))
  fn:W.isFn K (.ref f)=true
  kp:W.keepIn K (.ref C)=true
theorem qaj {p_:List (Addr×Obj)} {σ:St} {H:Hp} {s:Shared} {Q:VK} {us:List Value} {vs:List V} (M:Mk X.K C f) (F:bV X.prog X.w X.K X.mg X.base CX k f fd ps sp) (hr:iV (k+1) X.A) (hb:Binds X.K fd ps ds) (hd:Vals Ef ds)
    (hx:Passes CX X E) (I:Inv X p_ σ H s) (r:Vals vs us)
    (h:∀x dx,H x=none→H dx=none→dx≠x→sp (.ref x::(vs++Ef)) (upd (upd H dx (.own x)) x (.ins C dx [])) (fun v H2=>v = .non∧Q (.ref x) H2) E) :
    wpAny (model X.prog X.w) X.A (call (.ref C) us) (EP X p_ σ Q) X.xe s:=by
  have hq:=h (s.heap.objs.size+1) s.heap.objs.size (I.hok.fresh (Nat.le_succ _)) (I.hok.fresh (Nat.le_refl _)) (Nat.ne_of_lt (Nat.lt_succ_self _));have I2:=Inv.made (C:=C) I;have r2:Vals (V.ref (s.heap.objs.size+1)::(vs++Ef)) (Value.ref (s.heap.objs.size+1)::(us++ds)):=.cons rfl (r.append hd);have hl:(Value.ref (s.heap.objs.size+1)::us++ds).length=ps.length:=by
    have e:=r2.length;rw[F.len _ _ _ _ hq] at e;exact e.symm
  refine wpAny_call (qae (f:=f) I.Ad M.makes M.init (beq_iff_eq.mp M.fn) (codeAny_mono (F.run _ X.stack _ _ ⟨Value.ref (s.heap.objs.size+1)::us,[]⟩ (Value.ref (s.heap.objs.size+1)::(us++ds)) _ _ E (hr.make C us [])
    (I2.env0.make C us []) (hb _ (Value.ref (s.heap.objs.size+1)::us) I2.Ad hl) r2 hq) fun r s' hq'=>?_))
  cases r with
  | error e=>exact hx p_ σ _ _ e s' I2 hq'
  | ok fl=>
    cases fl with
    | ret u=>
      obtain⟨v,H',I3,rv,ev,q3⟩:=I2.after hq';subst ev;exact⟨rv,⟨V.ref (s.heap.objs.size+1),H',I3,rfl,q3⟩⟩
    | next=>exact False.elim hq'
    | brk=>exact False.elim hq'
    | cont=>exact False.elim hq'
theorem qcN (M:Mk X.K C f) (F:bV X.prog X.w X.K X.mg X.base CX k f fd ps sp) (hr:iV (k+1) X.A) (hg:Gl X x) (hm:X.mg x=some (.ref C)) (hb:Binds X.K fd ps ds) (hd:Vals Ef ds) (hx:Passes CX X E)
    (ha:PA X (e::es) t) (hdb:(x == ("__debug__" : Str))=false:=by decide) (he:starEach (e::es) X.env=(false,eval e X.env)::starEach es X.env:=by rfl) (hpl:(backTo pos (starEach es X.env)).any (·.1)=false:=by rfl) :
    PE X (.Call (.Name x p) (e::es) [] pos) (qah C sp Ef E t):=by
  intro p_ s σ H Q I h;refine wpAny_Call_Name_kw (vV I hg hm ?_ hdb);refine W.callWith_K (h₀:=X.base) I.ok.mod.kin M.kp (cU (ha pos p_ s σ H _ I h) fun us s1 zz=>?_) he hpl;obtain⟨vs,H1,I1,r,q⟩:=zz;refine⟨I1.Ad,?_⟩;exact qaj M F hr hb hd hx I1 r q
end
structure bh (N P:List Str) (sc:Scope):Prop where
  kind:sc.kind = .function
  co:sc.isCoroutine=false
  gen:sc.isGenerator=false
  nd:N.Nodup
  pre:N.take P.length=P
  par:∀x∈P,sc.names.lookup x=some .local∨sc.names.lookup x=some .cell
  qfb:∀y∈sc.names,y.2≠.free
theorem Mr {kindOf:Str→Option NameKind} {x:Str}:∀{binds:List (Str×Value)} {m:Str→Option Value},(∀v,(x,v)∉binds)→bindL kindOf binds m x=m x
  | [],_,_=>rfl
  | (n,v)::r,m,h=>by
    unfold bindL;rw[Mr fun w hw=>h w (List.mem_cons_of_mem _ hw)];split
    · have:x≠n:=by rintro rfl;exact h v List.mem_cons_self
      simp[this]
    ·rfl
theorem Ms {kindOf:Str→Option NameKind} {x:Str}:∀{binds:List (Str×Value)} {m:Str→Option Value},(∀v,(x,v)∉binds)→bindC kindOf binds m x=m x
  | [],_,_=>rfl
  | (n,v)::r,m,h=>by
    unfold bindC;rw[Ms fun w hw=>h w (List.mem_cons_of_mem _ hw)];split
    ·rfl
    · have:x≠n:=by rintro rfl;exact h v List.mem_cons_self
      simp[this]
theorem Mt {kindOf:Str→Option NameKind} {x:Str} {v:Value}:∀{P:List Str} {vs:List Value} {i:Nat} {m:Str→Option Value},P.Nodup→P[i]? = some x→vs[i]? = some v→kindOf x=some .local→
    bindL kindOf (P.zip vs) m x=some v
  | [],_,_,_,_,h,_,_=>by simp at h
  | _::_,[],_,_,_,_,h,_=>by simp at h
  | p::P,w::vs,0,m,nd,h1,h2,hk=>by
    simp at h1 h2;subst h1;subst h2;show bindL kindOf ((p,w)::P.zip vs) m p=_;unfold bindL;rw[Mr fun v hv=>(List.nodup_cons.mp nd).1 (List.of_mem_zip hv).1,if_pos hk];simp
  | p::P,w::vs,i+1,m,nd,h1,h2,hk=>by
    show bindL kindOf ((p,w)::P.zip vs) m x=_;unfold bindL;exact Mt (i:=i) (List.nodup_cons.mp nd).2 (by simpa using h1) (by simpa using h2) hk
theorem Mu {kindOf:Str→Option NameKind} {x:Str} {v:Value}:∀{P:List Str} {vs:List Value} {i:Nat} {m:Str→Option Value},P.Nodup→P[i]? = some x→vs[i]? = some v→kindOf x≠some .local→
    bindC kindOf (P.zip vs) m x=some v
  | [],_,_,_,_,h,_,_=>by simp at h
  | _::_,[],_,_,_,_,h,_=>by simp at h
  | p::P,w::vs,0,m,nd,h1,h2,hk=>by
    simp at h1 h2;subst h1;subst h2;show bindC kindOf ((p,w)::P.zip vs) m p=_;unfold bindC;rw[Ms fun v hv=>(List.nodup_cons.mp nd).1 (List.of_mem_zip hv).1,if_neg hk];simp
  | p::P,w::vs,i+1,m,nd,h1,h2,hk=>by
    show bindC kindOf ((p,w)::P.zip vs) m x=_;unfold bindC;exact Mu (i:=i) (List.nodup_cons.mp nd).2 (by simpa using h1) (by simpa using h2) hk
def start (N:List Str) (vs:List V):St:=vs.map some++List.replicate (N.length - vs.length) none
def aA (CX:X7) (P:Program) (w:World) (K:W.Frag) (mg:Str→Option Value) (base:Heap) (N:List Str) (qual:Str) (scope:Scope) (f:Addr) (cd:Value) (A:Around) (outer:List Env) (s:Shared) (H:Hp) (E:XK):Cx where
  prog:=P
  w:=w
  K:=K
  mg:=mg
  base:=base
  A:=A.deeper (envOfC qual scope s.heap.objs.size f cd)
  N:=N
  s₀:=s
  H₀:=H
  env:=envOfC qual scope s.heap.objs.size f cd
  outer:=outer
  stack:=envOfC qual scope s.heap.objs.size f cd::outer
  ex:=[]
  calm:=true
  fn:=fun _=>true
  pn:=[]
  xe:=fun e s'=>wpAny (model P w) (A.deeper (envOfC qual scope s.heap.objs.size f cd)) (leaving (envOfC qual scope s.heap.objs.size f cd) e) (fun _ s''=>CX outer H s E e s'') (fun e' s''=>CX outer H s E e' s'') s'
theorem Rk {sc:Scope} {n:Nat} {x:Str} (h:sc.names.lookup x=some .cell):∃c,(cellsFrom n sc.names []).lookup x=some c:=by
  have q:=W.cellsFrom_some sc.names n [] (.inl h);exact Option.isSome_iff_exists.mp q
theorem Mv {CX:X7} {P:Program} {w:World} {K:W.Frag} {mg:Str→Option Value} {base:Heap} {N ps:List Str} {qual:Str} {scope:Scope} {f:Addr} {cd:Value} {A:Around} {outer:List Env} {s s1:Shared} {H:Hp} {E:XK} {us:List Value} {vs:List V}
    (S:bh N ps scope) (hd:A.handled=none) (e0:Rj P w K mg base A outer s H) (hl:vs.length=ps.length) (r:Vals vs us)
    (x:InCallC s s.heap.objs.size (bindL (envOfC qual scope s.heap.objs.size f cd).kindOf (ps.zip us) fun _=>none) (cellsFrom (s.heap.objs.size+1) scope.names []) (bindC (envOfC qual scope s.heap.objs.size f cd).kindOf (ps.zip us) fun _=>none) s1) :
    Inv (aA CX P w K mg base N qual scope f cd A outer s H E) [] (start N vs) H s1:=by
  have hpl:ps.length≤N.length:=by have:=congrArg List.length S.pre;rw[List.length_take] at this;omega
  obtain⟨h1,tk,rfl,hk⟩:=x.done;have noA:∀b:Addr,b∉(aA CX P w K mg base N qual scope f cd A outer s H E).ex:=fun b z=>absurd (show b∈([]:List Addr) from z) (by simp);refine⟨⟨e0.mod,S.kind,rfl,rfl,Nat.le_refl _,fun y z c h1 h2=>?_,fun y hy=>?_,fun y c _ h=>?_,fun _=>hd,Around.frames_deeper e0.frames,.inr ⟨rfl,rfl⟩,fun b z=>absurd z (noA b),e0.bs,e0.Xx,fun b _ _=>noA b,fun b z=>absurd z (noA b),e0.xV,e0.ZS⟩,
    rfl,e0.bare,Un.kept hk,⟨_,x.toInCall.ns,fun i y v h1 h2 h3=>?_⟩,fun y c h=>⟨_,x.cell y c h⟩,e0.hok.fresh (Nat.le_refl _),fun y c h=>?_,fun p hp=>absurd (show p∈([]:List (Addr×Obj)) from hp) (by simp),e0.hok.kept hk,?_⟩
  ·exact name_of_addr x.apart (PySem.mem_of_lookup h1) (PySem.mem_of_lookup h2)
  · have hy:scope.names.lookup y=some .cell∨scope.names.lookup y=some .free:=hy
    rcases hy with hy | hy
    ·exact Rk hy
    ·exact absurd rfl (S.qfb _ (PySem.mem_of_lookup hy))
  ·exact Nat.le_of_lt (x.above y c (PySem.mem_of_lookup h))
  · have hi:i<vs.length:=by
      unfold start at h2
      by_cases hi:i<vs.length
      ·exact hi
      ·rw[List.getElem?_append_right (by simpa using hi)] at h2;rw[List.getElem?_replicate] at h2;split at h2 <;> cases h2
    have ha:vs[i]? = some v:=by
      unfold start at h2;rw[List.getElem?_append_left (by simpa using hi),List.getElem?_map] at h2;cases e:vs[i]? with
      | none=>rw[e] at h2;cases h2
      | some a=>rw[e] at h2;cases h2;rfl
    obtain⟨u,hu,rv⟩:=r.get ha;have hp:ps[i]? = some y:=by
      rw[← S.pre,List.getElem?_take_of_lt (by omega)];exact h1
    have ndP:ps.Nodup:=by rw[← S.pre];exact S.nd.sublist (List.take_sublist _ _)
    refine⟨u,rv,?_⟩
    rcases S.par y (List.mem_of_getElem? hp) with k | k
    ·exact .inl ⟨k,Mt ndP hp hu k⟩
    ·obtain⟨c,e⟩:=Rk (n:=s.heap.objs.size+1) k;refine .inr ⟨.inl k,c,e,?_⟩;have q:=x.cell y c e;rw[Mu ndP hp hu (by show scope.names.lookup y≠_;rw[k];decide)] at q;exact q
  ·exact e0.hok.fresh (Nat.le_of_lt (x.above y c (PySem.mem_of_lookup h)))
  ·unfold start;show _=N.length;rw[List.length_append,List.length_map,List.length_replicate];omega
theorem qd1 {CX:X7} {P:Program} {w:World} {K:W.Frag} {mg:Str→Option Value} {base:Heap} {k:Nat} {f:Addr} {name qual:Str} {params:Arguments} {body:List Stmt} {scope:Scope} {dV kV doc pm cdv ct oc:Value} {an od:Option Addr}
    {osl:Array (Option Value)} {N ps:List Str} {sp:Sp} (lk:K.lookup f=some ⟨oc,od,.func (W.fnOf name qual params body scope dV kV doc pm an cdv ct),osl⟩) (hcd:W.codeIn K cdv qual=true) (S:bh N ps scope)
    (len:∀vs H Q E,sp vs H Q E→vs.length=ps.length)
    (hbody:∀(A:Around) (outer:List Env) (s:Shared) (H:Hp) (vs:List V) (Q:VK) (E:XK),iV k (A.deeper (envOfC qual scope s.heap.objs.size f cdv))→sp vs H Q E→
      ∃t,K9 (aA CX P w K mg base N qual scope f cdv A outer s H E) body t∧t {nx:=fun _ H'=>Q .non H',rt:=Q} (start N vs) H) :
    bV P w K mg base CX (k+1) f (W.fnOf name qual params body scope dV kV doc pm an cdv ct) ps sp:=by
  refine⟨len,fun A outer s H args us vs Q E hr e0 hb r hsp=>?_⟩;have hl:=len _ _ _ _ hsp;have KX:K.In s.heap:=e0.mod.kin.keeps fun b o e=>(e0.bs b o e).1;have lim:s.heap.NoLimit:=e0.mod.nolimit.keeps fun b o e=>(e0.bs b o e).1;have hkind:∀y∈ps.zip us,scope.names.lookup y.1=some .local∨(scope.names.lookup y.1=some .cell∧((cellsFrom (s.heap.objs.size+1) scope.names []).lookup y.1).isSome=true):=fun⟨n,v⟩ hy=>by
    rcases S.par n (List.of_mem_zip hy).1 with q | q
    ·exact .inl q
    ·exact .inr ⟨q,W.cellsFrom_some _ _ _ (.inl q)⟩
  refine codeAny_call_function hr.depth (KX _ _ lk) rfl S.co S.gen rfl (W.codeRec_of KX hcd) (hb _ _ _ _ ?_);refine wpAny_newFunctionEnv_cells S.kind hkind fun env he s1 x=>?_;subst he;refine⟨lim.keeps x.toInCall.keep,codeAny_func ?_⟩;obtain⟨t,ht,hq⟩:=hbody A outer s H vs Q E (hr.deeper _) hsp;have I:Inv (aA CX P w K mg base N qual scope f cdv A outer s H E) [] (start N vs) H s1:=Mv S hr.hd e0 hl r x;refine wpAny_mono (ht [] s1 (start N vs) H _ I hq) (fun fl s' hs=>?_) fun e s' hs=>hs;have fin:∀{σ':St} {H':Hp} {v:V} {u:Value},Inv (aA CX P w K mg base N qual scope f cdv A outer s H E) [] σ' H' s'→RelV v u→Q v H'→CE outer P w H s Q u s':=
    fun {σ' H' v u} J rv q=>⟨v,H',J.os,J.bare,J.base,J.hok,rv,q⟩
  cases fl with
  | ret u=>
    obtain⟨v,σ',H',J,rv,q⟩:=hs;exact fin J rv q
  | next=>
    obtain⟨σ',H',J,q⟩:=hs;exact fin (v:=V.non) (u:=Value.none) J rfl q
  | brk=>
    obtain⟨_,_,_,q⟩:=hs;exact False.elim q
  | cont=>
    obtain⟨_,_,_,q⟩:=hs;exact False.elim q
section
variable {X:Cx} {x:Str} {p pos:Pos} {e:Expr} {es:List Expr} {t:TA} {id T:String} {r:List V→Hp→VK→Prop}
def tCB (r:List V→Hp→VK→Prop) (t:TA):TE:=fun σ H Q=>t σ H fun vs H1=>r vs H1 Q
theorem aV (hc:cN X (.builtin id) r) (hg:Gl X x) (hm:X.mg x=none) (hv:bootBuiltins x=some (.builtin id)) (ha:PA X (e::es) t) (hn:x≠ "__name__" :=by decide) (hdb:(x == ("__debug__" : Str))=false:=by decide)
    (he:starEach (e::es) X.env=(false,eval e X.env)::starEach es X.env:=by rfl) (hpl:(backTo pos (starEach es X.env)).any (·.1)=false:=by rfl):PE X (.Call (.Name x p) (e::es) [] pos) (tCB r t):=by
  intro p_ s σ H Q I h;refine wpAny_Call_Name_kw (rR I hg hm hv ?_ hn hdb);refine PyProof.Rows.callWith_builtin1 (cU (ha pos p_ s σ H _ I h) fun us s1 zz=>?_) he hpl;obtain⟨vs,H1,I1,r1,q1⟩:=zz;exact hc p_ s1 σ H1 vs us Q I1 r1 q1
theorem dz (hc:cN X (.type T) r) (hg:Gl X x) (hm:X.mg x=none) (hv:bootBuiltins x=some (.type T)) (ha:PA X (e::es) t) (hn:x≠ "__name__" :=by decide) (hdb:(x == ("__debug__" : Str))=false:=by decide)
    (he:starEach (e::es) X.env=(false,eval e X.env)::starEach es X.env:=by rfl) (hpl:(backTo pos (starEach es X.env)).any (·.1)=false:=by rfl):PE X (.Call (.Name x p) (e::es) [] pos) (tCB r t):=by
  intro p_ s σ H Q I h;refine wpAny_Call_Name_kw (rR I hg hm hv ?_ hn hdb);refine PyProof.Rows.callWith_type1 (cU (ha pos p_ s σ H _ I h) fun us s1 zz=>?_) he hpl;obtain⟨vs,H1,I1,r1,q1⟩:=zz;exact hc p_ s1 σ H1 vs us Q I1 r1 q1
end
end L2
namespace HT
open PySem PyProof.Rows
section
variable {prog:Program} {w:World} {A:Around} {E:Value→Shared→Prop} {s:Shared}
def Ik (n d:Nat):Option Int→Nat
  | none=>d
  | some v=>if v<0 then (v+(n:Int)).toNat else min v.toNat n
end
end HT
namespace L2
open PySem PySem.Spec PyProof.Rows
abbrev TO:=St→Hp→(Option Int→Hp→Prop)→Prop
def PO (X:Cx) (e:Option Expr) (t:TO):Prop:=
  ∀(p_:List (Addr×Obj)) (s:Shared) (σ:St) (H:Hp) (Q:Option Int→Hp→Prop),Inv X p_ σ H s→t σ H Q→
    wpAny (model X.prog X.w) X.A (evalPart e X.env) (fun u s'=>∃o H',Inv X p_ σ H' s'∧IsPart u o∧Q o H') X.xe s
def zL:TO:=fun _ H Q=>Q none H
def qak (t:TE):TO:=fun σ H Q=>t σ H fun x H1=>∃i,x = .int i∧Q (some i) H1
section
variable {X:Cx} {e:Expr} {te:TE} {lo hi:Option Expr} {tl th:TO} {pos p2:Pos}
theorem jA:PO X none zL:=by
  intro p_ s σ H Q I h;rw[evalPart_none];exact wpAny_pure ⟨none,H,I,.none,h⟩
theorem gF (h:PE X e te):PO X (some e) (qak te):=by
  intro p_ s σ H Q I hw;rw[evalPart_some];refine cU (h p_ s σ H _ I hw) fun u s1 zz=>?_;obtain⟨x,H1,I1,r1,q1⟩:=zz;obtain⟨i,rfl,q⟩:=q1;obtain⟨t,rfl⟩:=r1;exact⟨some i,H1,I1,.int i t,q⟩
def SlR (X:Cx) (r:V→Option Int→Option Int→Hp→VK→Prop):Prop:=
  ∀(p_:List (Addr×Obj)) (s:Shared) (σ:St) (H:Hp) (x:V) (v vl vu:Value) (lo hi:Option Int) (sl:Addr) (Q:VK),Inv X p_ σ H s→RelV x v→s.heap.IsSliceOf sl vl vu .none→IsPart vl lo→IsPart vu hi→r x lo hi H Q→
    ∃T id,typeLookup (.type T) "__getitem__" = pure (some (.builtin id))∧s.TypeIs v T∧wpAny (model X.prog X.w) X.A (getItem v (.ref sl)) (EP X p_ σ Q) X.xe s
def tSl (r:V→Option Int→Option Int→Hp→VK→Prop) (te:TE) (tl th:TO):TE:=fun σ H Q=>te σ H fun x H1=>tl σ H1 fun l H2=>th σ H2 fun u H3=>r x l u H3 Q
theorem fH {r:V→Option Int→Option Int→Hp→VK→Prop} (hr:SlR X r) (he:PE X e te) (hl:PO X lo tl) (hu:PO X hi th):PE X (.Subscript e (.Slice lo hi none p2) pos) (tSl r te tl th):=by
  intro p_ s σ H Q I h;refine Subscript_ (cU (he p_ s σ H _ I h) fun v s1 zz=>?_);obtain⟨x,H1,I1,r1,q1⟩:=zz;refine wpAny_Slice (cU (hl p_ s1 σ H1 _ I1 q1) fun vl s2 ⟨l,H2,I2,pl,q2⟩=>cU (hu p_ s2 σ H2 _ I2 q2) fun vu s3 ⟨u,H3,I3,pu,q3⟩=>?_);rw[evalPart_none];refine wpAny_pure ?_;have I4:Inv X p_ σ H3 {s3 with heap:=s3.heap.push {cls:=.type "slice",data:=.fields #[vl,vu,.none]}}:=I3.kept (t':=s3.toks) fun b ob q=>Heap.get?_push_of_some _ q;obtain⟨T,id,hT,ht,hg⟩:=hr p_ {s3 with heap:=s3.heap.push {cls:=.type "slice",data:=.fields #[vl,vu,.none]}} σ H3 x v vl vu l u s3.heap.objs.size Q I4 r1 (Heap.IsSliceOf.new ..) pl pu q3;show wpAny (model X.prog X.w) X.A (subscriptTail e (.Slice lo hi none p2) v (.ref s3.heap.objs.size)) (EP X p_ σ Q) X.xe {s3 with heap:=s3.heap.push {cls:=.type "slice",data:=.fields #[vl,vu,.none]}};exact tail_any (ops:=[.ref s3.heap.objs.size,v]) ht hT hg (by with_unfolding_all rfl)
def xY (xs:List V) (lo hi:Option Int):List V:=(xs.drop (HT.Ik xs.length 0 lo)).take (HT.Ik xs.length xs.length hi - HT.Ik xs.length 0 lo)
theorem Rm (xs:List V) (lo hi:Option Int):(xY xs lo hi).length≤xs.length:=by
  unfold xY;rw[List.length_take,List.length_drop];omega
end
def ixN (n:Nat) (i:Int):Option Nat:=if 0≤i then (if i<n then some i.toNat else none) else if -(n:Int)≤i then some (i+n).toNat else none
def Il {α:Type} (xs:List α) (i:Int):Option α:=(ixN xs.length i).bind fun j=>xs[j]?
theorem Ws {n:Nat} {i:Int} {j:Nat} (h:ixN n i=some j):seqIndex? i n=some j∧j<n∧-(n:Int)≤i∧i<n:=by
  unfold ixN at h
  by_cases h0:0≤i
  · rw[if_pos h0] at h
    by_cases h1:i<n
    ·rw[if_pos h1] at h;have e:i.toNat=j:=Option.some.inj h;exact⟨by rw[seqIndex_of h0 h1,e],by omega,by omega,h1⟩
    ·rw[if_neg h1] at h;cases h
  · rw[if_neg h0] at h
    by_cases h1 : -(n:Int)≤i
    ·rw[if_pos h1] at h;have e:(i+n).toNat=j:=Option.some.inj h;exact⟨by rw[seqIndex_neg (by omega) h1,e],by omega,h1,by omega⟩
    ·rw[if_neg h1] at h;cases h
theorem Ot {α:Type} {xs:List α} {i:Int} {v:α} (h:Il xs i=some v):∃j,seqIndex? i xs.length=some j∧xs[j]? = some v∧j<xs.length∧-(xs.length:Int)≤i∧i<xs.length:=by
  unfold Il at h;cases e:ixN xs.length i with
  | none=>rw[e] at h;cases h
  | some j=>
    rw[e] at h;obtain⟨h1,h2,h3,h4⟩:=Ws e;exact⟨j,h1,h,h2,h3,h4⟩
theorem bM {α:Type} {xs:List α} {j:Nat} {v:α} (h:xs[j]? = some v):Il xs (j:Int)=some v:=by
  have hj:j<xs.length:=(List.getElem?_eq_some_iff.mp h).1;have e:ixN xs.length (j:Int)=some j:=by
    unfold ixN;rw[if_pos (by omega),if_pos (by omega)];simp
  unfold Il;rw[e];exact h
def qcO (b:Expr):Prop:=∀o i,subscripted b false o i=operate [o,i] (getItem o i)
def IxR (X:Cx) (r:R2):Prop:=
  ∀(value slice:Expr) (p_:List (Addr×Obj)) (s:Shared) (σ:St) (H:Hp) (x y:V) (v u:Value) (Q:VK),Inv X p_ σ H s→RelV x v→RelV y u→r x y H Q→
    subscripted slice false v u=operate [v,u] (getItem v u)→wpAny (model X.prog X.w) X.A (subscriptTail value slice v u) (EP X p_ σ Q) X.xe s
def X8 (X:Cx) (id:String) (r:V→List V→Hp→VK→Prop):Prop:=
  ∀(p_:List (Addr×Obj)) (s:Shared) (σ:St) (H:Hp) (x:V) (xs:List V) (v:Value) (us:List Value) (Q:VK),Inv X p_ σ H s→RelV x v→Vals xs us→r x xs H Q→
    wpAny (model X.prog X.w) X.A (call (.builtin id) (v::us)) (EP X p_ σ Q) X.xe s
section
variable {X:Cx} {a b:Expr} {ta tb:TE} {pos:Pos}
theorem cV {r:R2} (hr:IxR X r) (ha:PE X a ta) (hb:PE X b tb) (hs:qcO b):PE X (.Subscript a b pos) (Ld r ta tb):=by
  intro p_ s σ H Q I h;exact Subscript_ (qeX ha hb I h fun v u s2 x y H2 I2 rx ry q=>hr a b p_ s2 σ H2 x y v u Q I2 rx ry q (hs _ _))
def qka (K:W.Frag):R2:=fun x y H Q=>∃p xs i v,x = .ref p∧y = .int i∧bC K H p xs∧Il xs i=some v∧Q v H
def qkb (K:W.Frag):R2:=fun x y H Q=>∃p xs i v,x = .ref p∧y = .int i∧gq K H p xs∧Il xs i=some v∧Q v H
def qgY:R2:=fun x y H Q=>∃z i c,x = .str z∧y = .int i∧z.length≤sizeLine∧Il z.cps.toList i=some c∧Q (.str ⟨#[c]⟩) H
theorem qcP:IxR X (qka X.K):=by
  intro value slice p_ s σ H x y v u Q I rx ry h hs;obtain⟨p,xs,i,z,rfl,rfl,hq,he,q⟩:=h;cases rx;obtain⟨t,rfl⟩:=ry;obtain⟨its,r,pl,hz⟩:=I.list hq;obtain⟨j,h1,h2,h3,h4,h5⟩:=Ot he;obtain⟨w,ew,rw'⟩:=r.get h2;have hl:=r.length;have hn:=Bb;have fin:EP X p_ σ Q w s:=⟨z,H,I,rw',q⟩
  by_cases h0:0≤i
  · have hj:i.toNat=j:=by
      rw[seqIndex_of h0 h5] at h1;exact Option.some.inj h1
    exact item_listR pl.isList h0 (by omega) (by rw[hj];simpa using ew) fin hs
  · have hj:(i+(its.toArray.size:Int)).toNat=j:=by
      rw[seqIndex_neg (by omega) h4] at h1;rw[List.size_toArray,← hl];exact Option.some.inj h1
    exact subscriptTail_builtinR (x:=w) pl.isList.typeIs slot_list_getitem.lookup
      (wpAny_getItem_list_neg (Q:=fun r s'=>r=w∧EP X p_ σ Q r s') pl.isList (by omega) (by rw[List.size_toArray] <;> omega) (by omega) (by rw[hj];simpa using ew) ⟨rfl,fin⟩) hs
theorem qfc:IxR X (qkb X.K):=by
  intro value slice p_ s σ H x y v u Q I rx ry h hs;obtain⟨p,xs,i,z,rfl,rfl,hq,he,q⟩:=h;cases rx;obtain⟨t,rfl⟩:=ry;obtain⟨its,r,pl,hz⟩:=I.tuple hq;obtain⟨j,h1,h2,h3,h4,h5⟩:=Ot he;obtain⟨w,ew,rw'⟩:=r.get h2;have hl:=r.length;have hn:=Bb;have fin:EP X p_ σ Q w s:=⟨z,H,I,rw',q⟩;exact subscriptTail_builtinR (x:=w) pl.typeIs slot_tuple_getitem.lookup
    (getItem_tuple (j:=j) (Q:=fun r s'=>r=w∧EP X p_ σ Q r s') pl (by omega) (by omega) (by rw[List.size_toArray,← hl];exact h1) (by simpa using ew) ⟨rfl,fin⟩) hs
theorem qfd:IxR X qgY:=by
  intro value slice p_ s σ H x y v u Q I rx ry h hs;obtain⟨z,i,c,rfl,rfl,hz,he,q⟩:=h;obtain⟨t,rfl⟩:=rx;obtain⟨t',rfl⟩:=ry;obtain⟨j,h1,h2,h3,h4,h5⟩:=Ot he;have hl:z.cps.toList.length=z.length:=by simp[Str.length]
  rw[hl] at h1 h4 h5;have hn:=Bb;exact tail_any (typeIs_str s z t) slot_str_getitem.lookup (getItem_str (c:=c) (by
    have e1:decide (i < -(2 ^ 63:Int))=false:=decide_eq_false (by omega);have e2:decide (i≥2 ^ 63)=false:=decide_eq_false (by omega);rw[e1,e2,Bool.or_false]) (by rw[h1];simpa using h2) ⟨.str ⟨#[c]⟩,H,I.tok _,⟨_,rfl⟩,q⟩) hs
theorem Uq (its:List Value) (n j:Nat) (u:Value):Obj.mapSeq (·.setIfInBounds j u) {cls:=.type "list",data:=.seq its.toArray n}={cls:=.type "list",data:=.seq (its.set j u).toArray n}:=by
  simp[Obj.mapSeq]
theorem Inv.lst {p_:List (Addr×Obj)} {σ:St} {H:Hp} {s:Shared} {p:Addr} {xs:List V} (I:Inv X p_ σ H s) (h:H p=some (.lst xs)) :
    ∃(its:List Value) (n:Nat),Vals xs its∧s.heap.get? p=some {cls:=.type "list",data:=.seq its.toArray n}∧xs.length≤sizeLine:=by
  obtain⟨z,its,n,r,e⟩:=I.hok p _ h;exact⟨its,n,r,e,z⟩
theorem Inv.qfe {p_:List (Addr×Obj)} {σ:St} {H:Hp} {s:Shared} {p:Addr} {xs ys:List V} {its its':List Value} {n n':Nat} {f:Obj→Obj} (I:Inv X p_ σ H s) (h:H p=some (.lst xs))
    (ho:s.heap.get? p=some {cls:=.type "list",data:=.seq its.toArray n}) (hf:f {cls:=.type "list",data:=.seq its.toArray n}={cls:=.type "list",data:=.seq its'.toArray n'}) (r:Vals ys its') (hz:ys.length≤sizeLine) (t:Nat) :
    Inv X p_ σ (upd H p (.lst ys)) {s with heap:=s.heap.update p f,toks:=t}:=by
  have e:(s.heap.update p f).get? p=some {cls:=.type "list",data:=.seq its'.toArray n'}:=by
    rw[Heap.get?_update_self f ho (by rw[hf] <;> rfl),hf]
  refine I.write (x:=p) (e:=p) (by rw[h];trivial) (.inl rfl) (fun b u hb q=>(Heap.get?_update_other _ _ (Ne.symm hb)).trans q) ⟨_,e⟩ ?_;exact⟨hz,its',n',r,e⟩
def qd2:V→V→V→Hp→(Hp→Prop)→Prop:=fun o i v H Q=>∃p xs k j,o = .ref p∧i = .int k∧H p=some (.lst xs)∧ixN xs.length k=some j∧Q (upd H p (.lst (xs.set j v)))
theorem set_list:Xz X qd2:=by
  intro p_ s σ H o i v ov iv u Q I ro ri rv h;obtain⟨p,xs,k,j,rfl,rfl,hp,hj,q⟩:=h;cases ro;obtain⟨t,rfl⟩:=ri;obtain⟨its,n,r,ho,hz⟩:=I.lst hp;obtain⟨h1,h2,h3,h4⟩:=Ws hj;have hl:=r.length;have hn:=Bb;have I':Inv X p_ σ (upd H p (.lst (xs.set j v))) {s with heap:=s.heap.update p (Obj.mapSeq (·.setIfInBounds j u))}:=
    I.qfe hp ho (Uq its n j u) (r.set rv j) (by rw[List.length_set];exact hz) s.toks
  by_cases h0:0≤k
  · have hk:k.toNat=j:=by
      rw[seqIndex_of h0 h4] at h1;exact Option.some.inj h1
    exact W.ki_setAt ho h0 (by omega) (by rw[List.size_toArray,← hl];exact h4) (by rw[hk];exact⟨_,I',q⟩)
  · have hk:(k+(its.toArray.size:Int)).toNat=j:=by
      rw[seqIndex_neg (by omega) h3] at h1;rw[List.size_toArray,← hl];exact Option.some.inj h1
    exact W.ki_setBack ho (by omega) (by rw[List.size_toArray,← hl];exact h3) (by omega) (by rw[hk];exact⟨_,I',q⟩)
theorem Ou (lo hi:Option Int) (n:Nat):(sliceBounds lo hi none n).1=((HT.Ik n 0 lo:Nat):Int)∧(sliceBounds lo hi none n).2.1=((HT.Ik n n hi:Nat):Int)∧(sliceBounds lo hi none n).2.2=1:=by
  refine⟨?_,?_,rfl⟩
  · cases lo with
    | none=>simp[sliceBounds,HT.Ik]
    | some i=>
      simp only[sliceBounds,HT.Ik,Option.getD_none,show(1:Int) > 0 by decide,if_true]
      by_cases h:i<0
      ·simp only[h,if_true] <;> omega
      ·simp only[h,if_false] <;> omega
  · cases hi with
    | none=>simp[sliceBounds,HT.Ik]
    | some i=>
      simp only[sliceBounds,HT.Ik,Option.getD_none,show(1:Int) > 0 by decide,if_true]
      by_cases h:i<0
      ·simp only[h,if_true] <;> omega
      ·simp only[h,if_false] <;> omega
theorem Le (its:List Value) (lo hi:Option Int):slicePick its.toArray lo hi none=((its.drop (HT.Ik its.length 0 lo)).take (HT.Ik its.length its.length hi - HT.Ik its.length 0 lo)).toArray:=by
  obtain⟨h1,h2,h3⟩:=Ou lo hi its.toArray.size;unfold slicePick;rw[h1,h2,h3];simp only[sliceRange_one,pick_run,List.size_toArray] <;> rfl
def qcQ (K:W.Frag):V→Option Int→Option Int→Hp→VK→Prop:=fun x lo hi H Q=>∃a xs,x = .ref a∧bC K H a xs∧∀p,H p=none→Q (.ref p) (upd H p (.lst (xY xs lo hi)))
theorem qcR:SlR X (qcQ X.K):=by
  intro p_ s σ H x v vl vu lo hi sl Q I rx hs pl pu h;obtain⟨a,xs,rfl,hx,q⟩:=h;cases rx;obtain⟨its,r,ht,hz⟩:=I.list hx;have hlen:=r.length;refine⟨"list",_,slot_list_getitem.lookup,ht.isList.typeIs,?_⟩;refine wpAny_getItem_list_slice ht.isList hs pl pu .none (by simp) ?_ (by rw[List.size_toArray] <;> omega);rw[Le,← hlen];refine⟨.ref s.heap.objs.size,_,I.laid (t':=s.toks) (o:=.lst (xY xs lo hi)) (fun b ob q=>Heap.get?_push_of_some _ q) (Nat.le_refl _) ?_,rfl,q _ (I.hok.fresh (Nat.le_refl _))⟩;exact⟨Nat.le_trans (Rm xs lo hi) hz,_,0,(r.drop (HT.Ik xs.length 0 lo)).take (HT.Ik xs.length xs.length hi - HT.Ik xs.length 0 lo),Heap.get?_push_size _ rfl⟩
def lO:V→Bool
  | .non=>true
  | .bl _=>true
  | .int _=>true
  | .str _=>true
  | _=>false
def X_:V→V→Bool
  | .non,.non=>true
  | .bl a,.bl b=>a == b
  | .bl a,.int b=>(if a then 1 else 0) == b
  | .int a,.bl b=>a == (if b then 1 else 0)
  | .int a,.int b=>a == b
  | .str a,.str b=>a == b
  | _,_=>false
theorem qff {A:Around} {s:Shared} {y x:V} {u v:Value} (ry:RelV y u) (rx:RelV x v) (fy:lO y=true) (fx:lO x=true):SeqAt.EqAt A s u v (X_ y x):=by
  cases y with
  | non=>
    cases ry;cases x with
    | non=>cases rx;exact SeqAt.EqAt.same _
    | bl b=>cases rx;exact SeqAt.EqAt.none_bool b
    | int b=>obtain⟨t,rfl⟩:=rx;exact SeqAt.EqAt.none_int b t
    | str b=>obtain⟨t,rfl⟩:=rx;exact SeqAt.EqAt.none_str b t
    | _=>exact absurd (show false=true from fx) Bool.false_ne_true
  | bl a=>
    cases ry;cases x with
    | non=>cases rx;exact SeqAt.EqAt.bool_none a
    | bl b=>cases rx;exact SeqAt.EqAt.bool_bool a b
    | int b=>obtain⟨t,rfl⟩:=rx;exact SeqAt.EqAt.bool_int a b t
    | str b=>obtain⟨t,rfl⟩:=rx;exact SeqAt.EqAt.bool_str a b t
    | _=>exact absurd (show false=true from fx) Bool.false_ne_true
  | int a=>
    obtain⟨t',rfl⟩:=ry;cases x with
    | non=>cases rx;exact SeqAt.EqAt.int_none a t'
    | bl b=>cases rx;exact SeqAt.EqAt.int_bool a t' b
    | int b=>obtain⟨t,rfl⟩:=rx;exact SeqAt.EqAt.int_int a t' b t
    | str b=>obtain⟨t,rfl⟩:=rx;exact SeqAt.EqAt.int_str a t' b t
    | _=>exact absurd (show false=true from fx) Bool.false_ne_true
  | str a=>
    obtain⟨t',rfl⟩:=ry;cases x with
    | non=>cases rx;exact SeqAt.EqAt.str_none a t'
    | bl b=>cases rx;exact SeqAt.EqAt.str_bool a t' b
    | int b=>obtain⟨t,rfl⟩:=rx;exact SeqAt.EqAt.str_int a t' b t
    | str b=>obtain⟨t,rfl⟩:=rx;exact SeqAt.EqAt.str_str a t' b t
    | _=>exact absurd (show false=true from fx) Bool.false_ne_true
  | _=>exact absurd (show false=true from fy) Bool.false_ne_true
def Ur (x:V) (u:Value):Bool:=match u with
  | .none=>X_ .non x
  | .bool b=>X_ (.bl b) x
  | .int i _=>X_ (.int i) x
  | .str z _=>X_ (.str z) x
  | _=>false
theorem qal {x y:V} {u:Value} (r:RelV y u) (f:lO y=true):Ur x u=X_ y x:=by
  cases y with
  | non=>cases r;rfl
  | bl b=>cases r;rfl
  | int i=>obtain⟨t,rfl⟩:=r;rfl
  | str z=>obtain⟨t,rfl⟩:=r;rfl
  | _=>exact absurd (show false=true from f) Bool.false_ne_true
theorem Cj {x:V}:∀{xs:List V} {us:List Value},Vals xs us→xs.all lO=true→us.any (Ur x)=xs.any fun y=>X_ y x
  | _,_,.nil,_=>rfl
  | y::xs,u::us,.cons r t,f=>by
    rw[List.all_cons,Bool.and_eq_true] at f;rw[List.any_cons,List.any_cons,qal r f.1,Cj t f.2]
theorem xZ {A:Around} {s:Shared} {x:V} {v:Value} (rx:RelV x v) (fx:lO x=true):∀{xs:List V} {us:List Value},Vals xs us→xs.all lO=true→∀u∈us,SeqAt.EqAt A s u v (Ur x u)
  | _,_,.nil,_=>fun u hu=>by cases hu
  | y::xs,u::us,.cons r t,f=>fun u' hu=>by
    rw[List.all_cons,Bool.and_eq_true] at f
    rcases List.mem_cons.mp hu with rfl | hu
    ·rw[qal r f.1];exact qff r rx f.1 fx
    ·exact xZ rx fx t f.2 u' hu
def inV (x:V) (xs:List V):Bool:=xs.any fun y=>X_ y x
def rIn (K:W.Frag) (neg:Bool):R2:=fun x y H Q=>∃p xs,y = .ref p∧(bC K H p xs∨gq K H p xs)∧lO x=true∧xs.all lO=true∧Q (.bl (if neg then !inV x xs else inV x xs)) H
theorem Yb:iU X (compareOp .In) (rIn X.K false):=by
  intro p_ s σ H x y v u Q I rx ry h;obtain⟨p,xs,rfl,hq,fx,fs,q⟩:=h;cases ry
  rcases hq with hq | hq
  ·obtain⟨its,r,pl,hz⟩:=I.list hq;refine SeqAt.in_listAt (Ur x) pl.isList (fun w hw=>xZ rx fx r fs w (by simpa using hw)) ⟨.bl _,H,I,rfl,?_⟩;rw[show its.toArray.any (Ur x)=its.any (Ur x) by simp,Cj r fs];exact q
  ·obtain⟨its,r,pl,hz⟩:=I.tuple hq;refine SeqAt.in_tupleAt (Ur x) pl (fun w hw=>xZ rx fx r fs w (by simpa using hw)) ⟨.bl _,H,I,rfl,?_⟩;rw[show its.toArray.any (Ur x)=its.any (Ur x) by simp,Cj r fs];exact q
theorem Ov:iU X (compareOp .NotIn) (rIn X.K true):=by
  intro p_ s σ H x y v u Q I rx ry h;obtain⟨p,xs,rfl,hq,fx,fs,q⟩:=h;cases ry
  rcases hq with hq | hq
  ·obtain⟨its,r,pl,hz⟩:=I.list hq;refine SeqAt.notIn_listAt (Ur x) pl.isList (fun w hw=>xZ rx fx r fs w (by simpa using hw)) ⟨.bl _,H,I,rfl,?_⟩;rw[show its.toArray.any (Ur x)=its.any (Ur x) by simp,Cj r fs];exact q
  ·obtain⟨its,r,pl,hz⟩:=I.tuple hq;refine SeqAt.notIn_tupleAt (Ur x) pl (fun w hw=>xZ rx fx r fs w (by simpa using hw)) ⟨.bl _,H,I,rfl,?_⟩;rw[show its.toArray.any (Ur x)=its.any (Ur x) by simp,Cj r fs];exact q
theorem Ow:iU X (compareOp .NotIn) (fun x y H Q=>∃i j,x = .str i∧y = .str j∧Q (.bl (!(!(Builtin.Str.occurrences j i 0 j.length 1).isEmpty))) H):=by
  intro p_ s σ H x y v u Q I rx ry h;obtain⟨i,j,rfl,rfl,q⟩:=h;obtain⟨t,rfl⟩:=rx;obtain⟨t',rfl⟩:=ry;exact notIn_str ⟨.bl _,H,I,rfl,q⟩
theorem Ox:cN X (.builtin "len") (fun xs H Q=>∃p ys,xs=[.ref p]∧(bC X.K H p ys∨gq X.K H p ys)∧Q (.int ys.length) H):=by
  intro p_ s σ H xs us Q I r h;obtain⟨p,ys,rfl,hq,q⟩:=h;obtain⟨u,rfl,rx⟩:=vals1 r;cases rx;have hn:=Bb
  rcases hq with hq | hq
  ·obtain⟨its,r',pl,hz⟩:=I.list hq;have hlen:=r'.length;exact Calls.call_len_list pl.isList (by simp only[List.size_toArray] <;> omega) ⟨.int ys.length,H,I.tok _,⟨s.toks+1,by rw[List.size_toArray,hlen]⟩,q⟩
  ·obtain⟨its,r',pl,hz⟩:=I.tuple hq;have hlen:=r'.length;exact len_tuple pl (by simp only[List.size_toArray] <;> omega) ⟨.int ys.length,H,I.tok _,⟨s.toks+1,by rw[List.size_toArray,hlen]⟩,q⟩
theorem Oz:cN X (.builtin "len") (fun xs H Q=>∃z,xs=[.str z]∧z.length≤sizeLine∧Q (.int z.length) H):=by
  intro p_ s σ H xs us Q I r h;obtain⟨z,rfl,hz,q⟩:=h;obtain⟨u,rfl,t,rfl⟩:=vals1 r;have hn:=Bb;exact len_str (by omega) ⟨.int z.length,H,I.tok _,⟨_,rfl⟩,q⟩
theorem OD:cN X (.type "list") (fun xs H Q=>∃p ys,xs=[.ref p]∧(bC X.K H p ys∨gq X.K H p ys)∧∀l,H l=none→Q (.ref l) (upd H l (.lst ys))):=by
  intro p_ s σ H xs us Q I r h;obtain⟨p,ys,rfl,hq,q⟩:=h;obtain⟨u,rfl,rx⟩:=vals1 r;cases rx;have fin:∀(its:List Value),Vals ys its→ys.length≤sizeLine→∀(h':Heap) (c':Nat),(∀b o',s.heap.get? b=some o'→h'.get? b=some o')→
      h'.get? s.heap.objs.size=some {cls:=.type "list",dict:=none,data:=.seq its.toArray c',slots:=#[]}→EP X p_ σ Q (.ref s.heap.objs.size) {s with heap:=h'}:=fun its r' hz h' c' kp e=>
    ⟨.ref s.heap.objs.size,_,I.laid (t':=s.toks) kp (Nat.le_refl _) (show dj X.prog X.w _ h' _ (.lst ys) from⟨hz,its,c',r',e⟩),rfl,q _ (I.hok.fresh (Nat.le_refl _))⟩
  rcases hq with hq | hq
  ·obtain⟨its,r',pl,hz⟩:=I.list hq;have hlen:=r'.length;obtain⟨o,ho,hc,n,hd⟩:=pl.isList;exact call_list_seq p (.inl rfl) ho hc hd (fun h' c' kp e=>fin its r' hz h' c' kp e) (by simp only[List.size_toArray] <;> omega)
  ·obtain⟨its,r',pl,hz⟩:=I.tuple hq;have hlen:=r'.length;obtain⟨o,ho,hc,n,hd⟩:=pl;exact call_list_seq p (.inr rfl) ho hc hd (fun h' c' kp e=>fin its r' hz h' c' kp e) (by simp only[List.size_toArray] <;> omega)
theorem Lg:cN X (.type "tuple") (fun xs H Q=>∃p ys,xs=[.ref p]∧((bC X.K H p ys∧∀l,H l=none→Q (.ref l) (upd H l (.tup ys)))∨(gq X.K H p ys∧Q (.ref p) H))):=by
  intro p_ s σ H xs us Q I r h;obtain⟨p,ys,rfl,h⟩:=h;obtain⟨u,rfl,rx⟩:=vals1 r;cases rx
  rcases h with⟨hq,q⟩ | ⟨hq,q⟩
  · obtain⟨its,r',pl,hz⟩:=I.list hq;have hlen:=r'.length;refine call_tuple_list pl.isList (fun h' kp=>?_) (by simp only[List.size_toArray] <;> omega);have I1:Inv X p_ σ H {s with heap:=h'}:=I.kept (t':=s.toks) kp;have I2:Inv X p_ σ (upd H h'.objs.size (.tup ys)) {s with heap:=h'.push {cls:=.type "tuple",data:=.seq its.toArray}}:=
      I1.laid (t':=s.toks) (fun b o e=>Heap.get?_push_of_some _ e) (Nat.le_refl _) (show dj X.prog X.w _ _ _ (.tup ys) from⟨hz,its,r',IsTup.new _ _⟩)
    exact⟨.ref h'.objs.size,_,I2,rfl,q _ (I1.hok.fresh (Nat.le_refl _))⟩
  ·obtain⟨its,r',pl,hz⟩:=I.tuple hq;exact call_tuple_same pl ⟨.ref p,H,I,rfl,q⟩
def tyV (K:W.Frag) (T:String) (x:V) (H:Hp):Prop:=match x with
  | .str _=>T = "str"
  | .int _=>T = "int"
  | .ref p=>(T = "list" ∧∃xs,bC K H p xs)∨(T = "tuple" ∧∃o,K.lookup p=some o∧o.cls = .type "tuple" ∧o.dict=none)∨
      (T = "dict" ∧((∃kvs,H p=some (.dK kvs))∨∃kvs,H p=some (.dT kvs)))∨(T = "set" ∧∃S n,H p=some (.set S n))
  | _=>False
theorem qfg {p_:List (Addr×Obj)} {σ:St} {H:Hp} {s:Shared} {T:String} {x:V} {v:Value} (I:Inv X p_ σ H s) (r:RelV x v) (ty:tyV X.K T x H) :
    s.TypeIs v T∧∀a,v = .ref a→∃ob,s.heap.get? a=some ob∧ob.dict=none:=by
  cases x with
  | str z=>
    obtain⟨t,rfl⟩:=r;cases (show T = "str" from ty);exact⟨typeIs_str s z t,fun _ e=>nomatch e⟩
  | int i=>
    obtain⟨t,rfl⟩:=r;cases (show T = "int" from ty);exact⟨typeIs_int s i t,fun _ e=>nomatch e⟩
  | ref p=>
    cases r
    rcases ty with⟨rfl,xs,hq⟩ | ⟨rfl,o,hk,hc,hd⟩ | ⟨rfl,hk⟩ | ⟨rfl,S,n,hk⟩
    ·obtain⟨its,_,pl,_⟩:=I.list hq;refine⟨pl.isList.typeIs,fun a e=>?_⟩;cases e;obtain⟨o,n,e,c,hd,_⟩:=pl;exact⟨o,e,hd⟩
    ·refine⟨⟨o,I.Ad p o hk,hc⟩,fun a e=>?_⟩;cases e;exact⟨o,I.Ad _ o hk,hd⟩
    · have z:∃o,s.heap.get? p=some o∧o.ExactDict:=by
        rcases hk with⟨kvs,hk⟩ | ⟨kvs,hk⟩
        ·obtain⟨_,_,_,_,o,_,_,e,ex,_⟩:=I.hok p _ hk;exact⟨o,e,ex⟩
        ·obtain⟨_,_,_,_,o,_,_,e,ex,_⟩:=I.hok p _ hk;exact⟨o,e,ex⟩
      obtain⟨o,e,ex⟩:=z;refine⟨⟨o,e,ex.1⟩,fun a e2=>?_⟩;cases e2;exact⟨o,e,ex.2.1⟩
    ·obtain⟨o,_,_,_,e,ex,_⟩:=I.hok p _ hk;refine⟨⟨o,e,ex.1⟩,fun a e2=>?_⟩;cases e2;exact⟨o,e,ex.2.1⟩
  | _=>exact False.elim ty
def tBM (K:W.Frag) (T:String) (r:V→List V→Hp→VK→Prop) (to:TE) (t:TA):TE:=fun σ H Q=>to σ H fun x H1=>tyV K T x H1∧t σ H1 fun xs H2=>r x xs H2 Q
variable {o e:Expr} {es:List Expr} {to:TE} {t:TA} {name:Str} {apos cpos:Pos} {T id:String} {r:V→List V→Hp→VK→Prop}
theorem qgZ (pa:PlainAttrs T) (slot:Slot T name id) (hty:typeOf (.builtin id)=pure (.type "method_descriptor")) (hm:X8 X id r) (ho:PE X o to) (ha:PA X (e::es) t)
    (hbase:attributeBase o name X.env (eval o X.env)=eval o X.env:=by rfl)
    (hfew:((backTo cpos (starEach (e::es) X.env)).all (fun x=>!x.1) && (backToKw cpos (keywordEach [] X.env)).all (fun x=>x.1.isSome)
      && decide ((e::es).length+([]:List Keyword).length+(if ([]:List Keyword).isEmpty then 0 else 1)<30))=true:=by rfl)
    (hline:(apos.endLine == cpos.line)=true:=by rfl) (hs:starEach (e::es) X.env=(false,eval e X.env)::starEach es X.env:=by rfl) (hplain:(backTo cpos (starEach es X.env)).any (·.1)=false:=by rfl) :
    PE X (.Call (.Attribute o name apos) (e::es) [] cpos) (tBM X.K T r to t):=by
  intro p_ s σ H Q I h;refine wpAny_Call_method_late hbase hfew hline rfl (cU (ho p_ s σ H _ I h) fun v s1 zz=>?_);obtain⟨x,H1,I1,r1,ty,q1⟩:=zz;obtain⟨h1,h2⟩:=qfg I1 r1 ty;refine⟨T,id,pa,slot,hty,h1,h2,?_⟩;have hA:=ha cpos p_ s1 σ H1 _ I1 q1;rw[hs] at hA ⊢;refine Calls.callWith_builtin (by show(false || (backTo cpos (starEach es X.env)).any (·.1))=false;rw[hplain] <;> rfl) (Calls.evalArgs_plain ?_)
  refine cU hA fun us s2 zz=>?_;obtain⟨vs,H2,I2,r2,q2⟩:=zz;exact hm p_ s2 σ H2 x vs v us Q I2 r1 r2 q2
end
def MtM (X:Cx) (id:String) (r:V→List V→Hp→VK→Prop):Prop:=
  ∀(p_:List (Addr×Obj)) (s:Shared) (σ:St) (H:Hp) (x:V) (xs:List V) (v:Value) (us:List Value) (Q:VK),Inv X p_ σ H s→RelV x v→Vals xs us→r x xs H Q→
    wpAny (model X.prog X.w) X.A (call (.builtin id) (v::us)) (EP X p_ σ Q) X.xe s
theorem Vals.one {x:V} {us:List Value} (h:Vals [x] us):∃u,us=[u]∧RelV x u:=vals1 h
theorem Vals.two {x y:V} {us:List Value} (h:Vals [x,y] us):∃u v,us=[u,v]∧RelV x u∧RelV y v:=vals2 h
theorem Vals.rep {xs:List V} {us:List Value} (h:Vals xs us):∀k:Nat,Vals (List.replicate k xs).flatten (List.replicate k us).flatten
  | 0=>.nil
  | k+1=>by
    rw[List.replicate_succ,List.replicate_succ,List.flatten_cons,List.flatten_cons];exact Vals.append h (Vals.rep h k)
theorem foldl_rep (its:List Value):∀(k:Nat) (acc:List Value),
    List.foldl (fun x1 x2=>x1++x2) acc.toArray (List.replicate k its.toArray)=(acc++(List.replicate k its).flatten).toArray
  | 0,acc=>by simp
  | k+1,acc=>by
    have e:acc.toArray++its.toArray=(acc++its).toArray:=by simp
    have e2:(acc++its)++(List.replicate k its).flatten=acc++(List.replicate (k+1) its).flatten:=by
      rw[List.replicate_succ,List.flatten_cons,List.append_assoc]
    rw[← e2,← foldl_rep its k (acc++its),← e,List.replicate_succ,List.foldl_cons]
section
variable {X:Cx} {p_:List (Addr×Obj)} {σ:St} {H:Hp} {s:Shared} {l b:Addr} {xs ys zs:List V}
theorem Inv.qg0 {its its':List Value} {n:Nat} {f:Array Value→Array Value} {t':Nat} (I:Inv X p_ σ H s) (hH:H l=some (.lst xs))
    (e:s.heap.get? l=some {cls:=.type "list",data:=.seq its.toArray n}) (hf:f its.toArray=its'.toArray) (hv:Vals ys its') (hz:ys.length≤sizeLine) :
    Inv X p_ σ (upd H l (.lst ys)) {s with heap:=s.heap.update l (Obj.mapSeq f),toks:=t'}:=by
  have q:=PySem.IsL.update e f;rw[hf] at q;refine I.write (x:=l) (e:=l) (by rw[hH];exact trivial) (.inl rfl) (fun b' u hb hu=>(Heap.get?_update_other s.heap (Obj.mapSeq f) (Ne.symm hb)).trans hu) ⟨_,q⟩ ?_;exact⟨hz,its',_,hv,q⟩
theorem Inv.qam {its:List Value} {t':Nat} (I:Inv X p_ σ H s) (hv:Vals ys its) (hz:ys.length≤sizeLine) :
    Inv X p_ σ (upd H s.heap.objs.size (.lst ys)) {s with heap:=s.heap.push {cls:=.type "list",data:=.seq its.toArray},toks:=t'}:=
  I.laid (fun _ _ q=>Heap.get?_push_of_some _ q) (Nat.le_refl _) ⟨hz,its,0,hv,Heap.get?_push_size _ rfl⟩
theorem Inv.fresh (I:Inv X p_ σ H s):H s.heap.objs.size=none:=I.hok.fresh (Nat.le_refl _)
theorem Inv.Yc (I:Inv X p_ σ H s) (hH:H l=some (.lst xs)):xs.length≤sizeLine∧∃(its:List Value) (n:Nat),Vals xs its∧xs.length=its.length∧s.heap.get? l=some {cls:=.type "list",data:=.seq its.toArray n}:=by
  obtain⟨z,its,n,r,e⟩:=I.hok l _ hH;exact⟨z,its,n,r,r.length,e⟩
theorem qan {n:Nat} (h:n≤sizeLine):Builtin.List.listTooLong n=false:=by
  unfold Builtin.List.listTooLong;exact decide_eq_false (by omega)
end
section
variable {X:Cx}
def OJ:V→List V→Hp→VK→Prop:=fun x vs H Q=>∃l xs y,x = .ref l∧vs=[y]∧H l=some (.lst xs)∧xs.length<sizeLine∧Q .non (upd H l (.lst (xs++[y])))
theorem Ek:MtM X "list.append" OJ:=by
  intro p_ s σ H x vs v us Q I rx rv h;obtain⟨l,xs,y,rfl,rfl,hH,hz,q⟩:=h;cases rx;obtain⟨u,rfl,ru⟩:=rv.one;obtain⟨z,its,n,r,hl,e⟩:=I.Yc hH;refine call_meets F.slot_list_append ⟨_,e,rfl⟩ F.entry_list_append (F.args_list_append_2 _ _) (PySem.list_append l its.toArray n u (by rw[List.size_toArray];omega)) ⟨e,?_⟩;refine⟨.non,_,I.qg0 (its':=its++[u]) hH e (by simp) (r.append (.cons ru .nil)) ?_,rfl,q⟩;rw[List.length_append,List.length_singleton];omega
def qg1:R2:=fun x y H Q=>∃l b xs zs,x = .ref l∧y = .ref b∧H l=some (.lst xs)∧H b=some (.lst zs)∧xs.length+zs.length≤sizeLine∧∀p,H p=none→Q (.ref p) (upd H p (.lst (xs++zs)))
theorem qfh:iU X (binaryOp .Add) qg1:=by
  intro p_ s σ H x y v u Q I rx ry h;obtain⟨l,b,xs,zs,rfl,rfl,hH,hB,hz,q⟩:=h;cases rx;cases ry;obtain⟨z,its,n,r,hl,e⟩:=I.Yc hH;obtain⟨z2,its2,n2,r2,hl2,e2⟩:=I.Yc hB;refine PySem.P.add_list e e2 ?_ (by rw[List.size_toArray,List.size_toArray];omega);have ea:its.toArray++its2.toArray=(its++its2).toArray:=by simp
  rw[ea];exact⟨.ref _,_,I.qam (t':=s.toks) (r.append r2) (by rw[List.length_append];omega),rfl,q _ I.fresh⟩
def qkc:R2:=fun x y H Q=>∃l k xs,x = .ref l∧y = .int k∧H l=some (.lst xs)∧-(2 ^ 63)≤k∧k<2 ^ 63∧xs.length * k.toNat≤sizeLine∧
  ∀p,H p=none→Q (.ref p) (upd H p (.lst (List.replicate k.toNat xs).flatten))
theorem len_rep {α:Type} (xs:List α) (k:Nat):(List.replicate k xs).flatten.length=k * xs.length:=by
  induction k with
  | zero=>simp
  | succ k ih=>rw[List.replicate_succ,List.flatten_cons,List.length_append,ih,Nat.succ_mul,Nat.add_comm]
theorem qfi:iU X (binaryOp .Mult) qkc:=by
  intro p_ s σ H x y v u Q I rx ry h;obtain⟨l,k,xs,rfl,rfl,hH,h1,h2,hz,q⟩:=h;cases rx;obtain⟨t,rfl⟩:=ry;obtain⟨z,its,n,r,hl,e⟩:=I.Yc hH;have hlen:its.toArray.size * k.toNat≤sizeLine:=by rw[List.size_toArray,← hl];exact hz
  have hcap:¬its.toArray.size * k.toNat > (2 ^ 63 - 1) / 8:=by
    have:(sizeLine:Nat)≤(2 ^ 63 - 1) / 8:=by decide
    omega
  have hfit:¬(!Builtin.List.listFitsIndex k)=true:=by
    rw[fitsIndex_both h1 h2];exact Bool.false_ne_true
  have qg2:¬Builtin.List.listTooLong (its.toArray.size * k.toNat)=true:=by
    rw[qan hlen];exact Bool.false_ne_true
  have hnew:List.foldl (fun x1 x2=>x1++x2) #[] (List.replicate (if its.toArray.isEmpty=true then 0 else k.toNat) its.toArray)=(List.replicate k.toNat its).flatten.toArray:=by
    have f0:∀m:Nat,List.foldl (fun x1 x2=>x1++x2) #[] (List.replicate m its.toArray)=(List.replicate m its).flatten.toArray:=fun m=>by
      have:=foldl_rep its m [];rw[List.nil_append] at this;exact this
    rw[f0];cases its with
    | nil=>simp
    | cons a r'=>rw[if_neg (by simp)]
  refine wpAny_binaryOp_repeat_ref (T:= "list") (U:= "int") (by decide) ⟨_,e,rfl⟩ (fun s'=>typeIs_int s' k t) noFill_list_mul F.fills_int_mul F.slot_int_rmul repeat_list F.slot_int_index.lookup
    (call_meets F.slot_int_rmul (typeIs_int s k t) F.entry_int_rmul (F.args_int_rmul_2 _ _) (int___rmul___int_list k t l its.toArray n)
      ⟨e,rfl,⟨_,e,rfl⟩,call_meets F.slot_list_mul ⟨_,e,rfl⟩ F.entry_list_mul (F.args_list_mul_2 _ _) (AutoListH.list___mul___list_int_3 l its.toArray n k t hfit hcap qg2) ⟨e,?_⟩⟩)
  rw[hnew];exact⟨.ref _,_,I.qam (t':=s.toks) (r.rep k.toNat) (by rw[len_rep,Nat.mul_comm];exact hz),rfl,q _ I.fresh⟩
end
end L2
namespace Att
open PySem PySem.W PySem.Calls PyProof.Rows
theorem GR {P:Params} {h:Heap}:∀(ns:List Int) (vs:List Value),WellAll P h vs (ns.map WData.int)→IntsAre vs ns:=by
  intro ns
  induction ns with
  | nil=>
    intro vs w;rw[List.map_nil] at w;cases w;exact .nil
  | cons n ns ih=>
    intro vs w;rw[List.map_cons] at w;cases w with
    | cons a b=>
      cases a;exact .cons _ _ (ih _ b)
theorem Yd {l:OpenLaw} {n:Nat} (hn:l.most=some n) {P:Params} {h:Heap} {args:List WData} {vals:List Value}
    (hpre:l.row.toRowW.claim.pre args=true) (hwl:WellAll P h vals args) :
    ∃a vs ns,vals=[Value.ref a]∧args=[WData.list (ns.map WData.int)]∧h.get? a=some {cls:=.type "list",data:=.seq vs.toArray}∧IntsAre vs ns∧ns.length≤n:=by
  have hsh:WShape.hasAll [] args [.list .int]=true:=(pre_splitW hpre).1;have hc:l.pre.holds [] {args:=args}=true:=(pre_splitW hpre).2;obtain⟨d,r,rfl,h1,h2⟩:=hasAllW_cons hsh;obtain rfl:=hasAllW_nil h2;obtain⟨xs,rfl,h3⟩:=hasW_list h1;obtain⟨ns,rfl⟩:=items_int h3;have hlen:ns.length≤n:=by
    unfold OpenLaw.pre at hc;have h4:(WTm.not (.lt (.lit (.int (n:Int))) (.len (.arg 0)))).holds [] {args:=[.list (ns.map .int)]}=true:=by
      have h4:=(holds_andW hc).1;rw[hn] at h4;exact h4
    have h5:=condW_of h4 (w_not (w_lt w_lit (w_len_list (w_arg rfl))));rw[List.length_map] at h5;refine Nat.le_of_not_lt fun q=>?_;have q':(n:Int)<((ns.length:Nat):Int):=by omega
    first
      | (rw[decide_eq_true q'] at h5;exact absurd h5 (by decide))
      | (simp at h5;omega)
  cases hwl with
  | cons w1 w2=>
    cases w2;cases w1 with
    | list ho hall=>exact⟨_,_,ns,rfl,rfl,ho,GR ns _ hall,hlen⟩
theorem Ye (l:OpenLaw) (args:List WData):l.row.toRowW.claim.post args (.bool true) args=true:=
  postW_of (r:=l.row.toRowW) (X:=(true == true))
    (show WShape.has [] (.bool true) .bool=true by first | rfl | decide | simp[WShape.has,WShape.arms,WShape.armsAll])
    (show(WTm.eq .res (.lit (.bool true))).value [] {args:=args,res:=some (.bool true),after:=args}=some (.bool (true == true)) from w_eq_bool (w_res rfl) w_lit) rfl
theorem Rn {l:OpenLaw} {n:Nat} {q:Program} {loose:List Str} {XP:(Str→Option Value)→Heap→Prop} {YP:World→Heap→Prop} {d:DefRec}
    (hn:l.most=some n) (hdf:d.params.defaults=[])
    (call:∀(w:World) (s₀ s₁:Shared) (mg mb:Str→Option Value) (fa:Addr) (o:Obj) (pm cd doc:Value) (a:Addr) (vs:List Value) (ns:List Int),
      Ground q loose [] XP w s₀ mg mb s₁.heap→YP w s₁.heap→
      s₁.heap.get? fa=some o→o.data = .func (docDef d.name d.params d.body d.scope pm cd doc)→s₁.heap.CodeRec cd d.name→mg d.name=some (.ref fa)→
      s₁.heap.get? a=some {cls:=.type "list",data:=.seq vs.toArray}→IntsAre vs ns→ns.length≤n→s₁.gens = #[]→
      codeAny (model l.prog w) callerA (.call (.ref fa) ⟨[.ref a],[]⟩) (fun r s'=>r = .ok (.ret (.bool true))∧OldK s₁.heap s'.heap∧s'.os=s₁.os∧AllBare s'.gens) s₁) :
    WalkO q loose XP YP l.row.toRowW d [] (fun f vs=>PySem.call f vs):=by
  intro w s₀ s₁ mg mb G Y fa o pm cd doc dV kV ho hd hcd hD hmg hg args vals as hpre hlay hrd hwl hlo;obtain rfl:dV = .none:=Dflts.none hD hdf;obtain rfl:kV = .none:=Dflts.noKw hD;obtain⟨a,vs,ns,rfl,rfl,hobj,hints,hlen⟩:=Yd hn hpre hwl;refine enter_call (codeAny_mono (call w s₀ s₁ mg mb fa o pm cd doc a vs ns G Y ho (fd_plain hd) hcd hmg hobj hints hlen hg) fun r s' hq=>?_);obtain⟨rfl,h2,h3,h4⟩:=hq;exact⟨.inl ⟨.bool true,.bool true,[],rfl,fun _=>rfl,.bool true,Ye l _,fun _=>⟨List.Pairwise.nil,fun _ hm=>(nomatch hm)⟩⟩,h2,h3,h4⟩
end Att
namespace L2
open PySem PySem.Spec PyProof.Rows
theorem Mw:∀{vs:List Value} {ns:List Int},IntsAre vs ns→Vals (ns.map V.int) vs
  | _,_,.nil=>.nil
  | _,_,.cons n t h=>.cons ⟨t,rfl⟩ (Mw h)
def Only (H:Hp):Prop:=∀b,H b=none∨∃o xs,H b=some (.Q9 o (.lst xs))
theorem qao {P:Program} {w:World} {K:W.Frag} {mg mb:Str→Option Value} {CX:X7} {k:Nat} {fa a:Addr} {fd:FuncData} {x:Str} {sp:Sp} {s₁:Shared} {vs:List Value} {ns:List Int}
    (KX:K.In s₁.heap) (hns:s₁.heap.Ns mainGlobals mg) (hb:s₁.heap.Ns builtinsNs mb) (hbb:∀x:Str,x≠ "__name__" →mb x=bootBuiltins x) (hlim:s₁.heap.NoLimit) (hg:s₁.gens = #[])
    (ha:s₁.heap.get? a=some {cls:=.type "list",data:=.seq vs.toArray}) (hi:IntsAre vs ns) (hl:ns.length≤sizeLine) (hr:iV k callerA)
    (F:∀base:Heap,K.In base→base.Ns mainGlobals mg→bV P w K mg base CX k fa fd [x] sp) (hbind:∀(s:Shared) (u:Value),BindsTo s fd ⟨[u],[]⟩ [(x,u)])
    (hsp:∀H:Hp,Only H→bC K H a (ns.map V.int)→sp [.ref a] H (fun v _=>v = .bl true) fun _ _ _=>False)
    (hCX:∀H e s',CX [] H s₁ (fun _ _ _=>False) e s'→False) :
    codeAny (model P w) callerA (.call (.ref fa) ⟨[.ref a],[]⟩) (fun r s'=>r = .ok (.ret (.bool true))∧OldK s₁.heap s'.heap∧s'.os=s₁.os∧AllBare s'.gens) s₁:=by
  have rv:=Mw hi;have lenV:=hi.length;have core:∀H:Hp,Only H→bC K H a (ns.map V.int)→xT P w H s₁.heap→(∀b,H b≠none→b=a)→(H a≠none→K.lookup a=none)→
      codeAny (model P w) callerA (.call (.ref fa) ⟨[.ref a],[]⟩) (fun r s'=>r = .ok (.ret (.bool true))∧OldK s₁.heap s'.heap∧s'.os=s₁.os∧AllBare s'.gens) s₁:=by
    intro H hO hS hok hA hK;have Wt:∀{b:Addr} {o:Obj},s₁.heap.get? b=some o→H b=none→(Ol s₁.heap H).get? b=some o:=fun e n=>ZR e n;have noA:∀{b:Addr} {o:Obj} {es:Array DictEntry} {ep:Nat},s₁.heap.get? b=some o→o.data = .dict es ep→H b=none:=fun {b o es ep} e d=>by
      cases q:H b with
      | none=>rfl
      | some u=>
        have e':b=a:=hA b (by rw[q];simp);subst e';rw[ha] at e;cases e;have d':Data.seq vs.toArray _=Data.dict es ep:=d;cases d'
    have nsK:∀{b:Addr} {m:Str→Option Value},s₁.heap.Ns b m→(Ol s₁.heap H).Ns b m:=fun {b m} ⟨o,es,ep,e,d,r⟩=>⟨o,es,ep,Wt e (noA e d),d,r⟩;have hKb:K.In (Ol s₁.heap H):=fun b o e=>Wt (KX b o e) (by
      cases q:H b with
      | none=>rfl
      | some u=>
        have e':b=a:=hA b (by rw[q];simp);subst e';rw[hK (by rw[q];simp)] at e;cases e)
    have hM:Mod K mg (Ol s₁.heap H):=⟨hKb,nsK hns,⟨mb,nsK hb,hbb⟩,let ⟨mc,h1,h2⟩:=hlim;⟨mc,nsK h1,h2⟩⟩;have e0:Rj P w K mg (Ol s₁.heap H) callerA [] s₁ H:=⟨rfl,hM,fun b o e=>qcD e,Nat.le_of_eq (Xw _ _),trivial,fun b hb=>absurd (show b∈([]:List Addr) from hb) (by simp),hok,.of_eq hg⟩;refine codeAny_mono ((F _ hKb (nsK hns)).run callerA [] s₁ H ⟨[.ref a],[]⟩ [.ref a] [.ref a] _ _ hr e0 (hbind s₁ (.ref a)) (.cons rfl .nil) (hsp H hO hS)) fun r s' h=>?_;cases r with
    | error e=>exact(hCX H e s' h).elim
    | ok fl=>
      cases fl with
      | next=>exact False.elim h
      | brk=>exact False.elim h
      | cont=>exact False.elim h
      | ret u=>
        obtain⟨v,H',os,bare,un,hok',r',q⟩:=h;have q':v = .bl true:=q;subst q';obtain rfl:u=Value.bool true:=r';refine⟨rfl,OldK.of_keep fun b o e=>?_,os,bare⟩;cases q:H b with
        | none=>exact un.keep b o e q (by intro z;exact absurd (show b∈([]:List Addr) from z) (by simp)) (by simp)
        | some u=>
          rcases hO b with z | ⟨ob,xs,z⟩
          ·rw[q] at z;cases z
          ·have z2:=un.Ac b ob _ z;obtain⟨e1,_⟩:=hok b _ z;obtain⟨e2,_⟩:=hok' b _ z2;rw[e] at e1;cases e1;exact e2
  cases hk:K.lookup a with
  | some o=>
    have e:=KX a o hk;rw[ha] at e;cases e;refine core (fun _=>none) (fun _=>.inl rfl) (.inr ⟨_,vs.toArray,_,hk,rfl,rfl,rfl,by rw[List.size_toArray,lenV];exact hl,by simpa using rv⟩) (fun b u z=>by have z':(none:Option HO)=some u:=z;cases z') (fun b z=>absurd rfl z) fun z=>absurd rfl z
  | none=>
    refine core (fun b=>if b=a then some (.Q9 {cls:=.type "list",data:=.seq vs.toArray} (.lst (ns.map V.int))) else none) (fun b=>?_) (.inl (.inr ⟨{cls:=.type "list",data:=.seq vs.toArray},if_pos rfl⟩)) (fun b u z=>?_) (fun b z=>?_) fun _=>hk
    · by_cases hb:b=a
      ·exact .inr ⟨_,_,if_pos hb⟩
      ·exact .inl (if_neg hb)
    · by_cases hb:b=a
      ·have z':=(if_pos hb).symm.trans z;cases z';subst hb;exact⟨ha,by rw[List.length_map];exact hl,vs,_,rv,ha⟩
      ·have z':=(if_neg hb).symm.trans z;cases z'
    · by_cases hb:b=a
      ·exact hb
      ·exact absurd (if_neg hb) z
theorem qcS {l:W.OpenLaw} {n k:Nat} {q:Program} {loose:List Str} {XP:(Str→Option Value)→Heap→Prop} {YP:World→Heap→Prop} {d:DefRec} {K:Params→W.Frag} {CX:World→X7} {sp:World→Sp} {x:Str}
    (hn:l.most=some n) (hn2:n≤sizeLine) (hdf:d.params.defaults=[]) (hr:iV k callerA)
    (hY:∀(w:World) (h:Heap),YP w h→(K w.params).In h)
    (F:∀(w:World) (mg:Str→Option Value) (fa:Addr) (h:Heap),(K w.params).In h→h.Ns mainGlobals mg→mg d.name=some (.ref fa)→
      ∃fd:FuncData,(∀(s:Shared) (u:Value),BindsTo s fd ⟨[u],[]⟩ [(x,u)])∧
        ∀base:Heap,(K w.params).In base→base.Ns mainGlobals mg→bV l.prog w (K w.params) mg base (CX w) k fa fd [x] (sp w))
    (hsp:∀(w:World) (H:Hp) (a:Addr) (ns:List Int),ns.length≤n→Only H→bC (K w.params) H a (ns.map V.int)→sp w [.ref a] H (fun v _=>v = .bl true) fun _ _ _=>False)
    (hCX:∀(w:World) (H:Hp) (s:Shared) (e:Value) (s':Shared),CX w [] H s (fun _ _ _=>False) e s'→False) :
    W.WalkO q loose XP YP l.row.toRowW d [] (fun f vs=>PySem.call f vs):=by
  refine Att.Rn hn hdf fun w s₀ s₁ mg mb fa o pm cd doc a vs ns G Y ho hd hcd hmg hobj hints hlen hg=>?_;have KX:=hY w _ Y;obtain⟨fd,hb,hF⟩:=F w mg fa _ KX G.T.g hmg;exact qao KX G.T.g G.T.b G.T.builtins G.T.nolimit hg hobj hints (Nat.le_trans hlen hn2) hr hF hb (fun H hO hS=>hsp w H a ns hlen hO hS) fun H e s'=>hCX w H s₁ e s'
def inClass (s:Stmt) (j:Nat):Stmt:=match s with
  | .ClassDef _ _ _ body _ _ _ _ _ _ _=>body.getD j (.Pass ⟨0,0,0,0⟩)
  | _=>.Pass ⟨0,0,0,0⟩
def zM (s:Stmt):Arguments:=match s with
  | .FunctionDef _ a _ _ _ _ _ _ _ _=>a
  | _=>{posonlyargs:=[],args:=[],vararg:=none,kwonlyargs:=[],kw_defaults:=[],kwarg:=none,defaults:=[]}
def j_ (s:Stmt):List Stmt:=match s with
  | .FunctionDef _ _ b _ _ _ _ _ _ _=>b
  | _=>[]
def aD (s:Stmt):Scope:=match s with
  | .FunctionDef _ _ _ _ _ _ sc _ _ _=>sc
  | _=>{kind:=.function,names:=[],isGenerator:=false,isCoroutine:=false}
abbrev mj:X7:=fun _ _ _ _ _ _=>False
abbrev E0:XK:=fun _ _ _=>False
theorem aY {X:Cx}:Passes mj X E0:=fun _ _ _ _ _ _ _ h=>h.elim
structure dG (K:W.Frag) (x qual:Str) (st:Stmt) (f:Addr) (fd:FuncData):Prop where
  ex:∃(oc:Value) (od:Option Addr) (kV doc pm:Value) (an:Option Addr) (cdv ct:Value) (osl:Array (Option Value)),
    fd=W.fnOf x qual (zM st) (j_ st) (aD st) .none kV doc pm an cdv ct∧K.lookup f=some ⟨oc,od,.func fd,osl⟩∧W.codeIn K cdv qual=true
  kp:W.keepIn K (.ref f)=true
section
variable {P:Program} {w:World} {K:W.Frag} {mg:Str→Option Value} {base:Heap}
theorem dG.ok {x qual:Str} {st:Stmt} {f:Addr} {fd:FuncData} {N ps:List Str} {k:Nat} {sp:Sp} (F:dG K x qual st f fd) (S:bh N ps (aD st)) (len:∀vs H Q E,sp vs H Q E→vs.length=ps.length)
    (hbody:∀(cdv:Value) (A:Around) (outer:List Env) (s:Shared) (H:Hp) (vs:List V) (Q:VK) (E:XK),iV k (A.deeper (envOfC qual (aD st) s.heap.objs.size f cdv))→sp vs H Q E→
      ∃t,K9 (aA mj P w K mg base N qual (aD st) f cdv A outer s H E).ZG (j_ st) t∧t {nx:=fun _ H'=>Q .non H',rt:=Q} (start N vs) H):bV P w K mg base mj (k+1) f fd ps sp:=by
  obtain⟨oc,od,kV,doc,pm,an,cdv,ct,osl,rfl,lk,hcd⟩:=F.ex;refine qd1 lk hcd S len fun A outer s H vs Q E hr hsp=>?_;obtain⟨t,h,q⟩:=hbody cdv A outer s H vs Q E hr hsp;exact⟨t,h.ZG,q⟩
theorem dG.binds {x qual:Str} {st:Stmt} {f:Addr} {fd:FuncData} {ps:List Str} (F:dG K x qual st f fd)
    (h:∀(kV doc pm:Value) (an:Option Addr) (cdv ct:Value) (us:List Value),us.length=ps.length→bindArgs (W.fnOf x qual (zM st) (j_ st) (aD st) .none kV doc pm an cdv ct) ⟨us,[]⟩=pure (ps.zip us)):Binds K fd ps []:=by
  obtain⟨oc,od,kV,doc,pm,an,cdv,ct,osl,rfl,lk,hcd⟩:=F.ex;exact .all (h kV doc pm an cdv ct)
theorem qap {x qual:Str} {st:Stmt} {f:Addr} {oc:Value} {od an:Option Addr} {osl:Array (Option Value)} {kV doc pm cdv ct:Value} (l:K.lookup f=some ⟨oc,od,.func (W.fnOf x qual (zM st) (j_ st) (aD st) .none kV doc pm an cdv ct),osl⟩)
    (c:W.codeIn K cdv qual=true) (k:W.keepIn K (.ref f)=true):dG K x qual st f (W.fnOf x qual (zM st) (j_ st) (aD st) .none kV doc pm an cdv ct):=⟨⟨oc,od,kV,doc,pm,an,cdv,ct,osl,rfl,l,c⟩,k⟩
end
theorem Mx {A:Around} {k:Nat} (hr:iV k A):A.units+1<cLine:=Nat.lt_of_le_of_lt (Nat.add_le_add_left (by decide:1≤64) _) hr.units
def Same (H H':Hp):Prop:=∀b o,H b=some o→H' b=some o
theorem Same.refl (H:Hp):Same H H:=fun _ _ h=>h
theorem Same.trans {H H1 H2:Hp} (a:Same H H1) (b:Same H1 H2):Same H H2:=fun c o h=>b c o (a c o h)
theorem Same.free {H H':Hp} (e:Same H H') {l:Addr} (h:H' l=Option.none):H l=Option.none:=by
  cases q:H l with
  | none=>rfl
  | some o=>
    rw[e l o q] at h;cases h
theorem Same.seq {K:W.Frag} {H H':Hp} {a:Addr} {xs:List V} (e:Same H H') (h:bC K H a xs):bC K H' a xs:=by
  rcases h with(h | ⟨o,h⟩) | h
  ·exact .inl (.inl (e _ _ h))
  ·exact .inl (.inr ⟨o,e _ _ h⟩)
  ·exact .inr h
def uL (env:Env) (cs:List (Str×Addr)) (p:Str×NameKind):List (Str×Addr):=if p.2 == .free then (p.1,(env.cells.lookup p.1).getD 0)::cs else cs
def O1 (env:Env) (names:List (Str×NameKind)):List (Str×Addr):=names.foldl (uL env) []
theorem Gd {α β:Type} (f:α→β→Sem (ForInStep β)) (g:β→α→β):∀(l:List α) (b:β),(∀x∈l,∀b,f x b=pure (.yield (g b x)))→forIn l b f=pure (l.foldl g b)
  | [],_,_=>rfl
  | x::l,b,h=>by
    rw[List.forIn_cons,h x List.mem_cons_self,pure_bind];exact Gd f g l (g b x) fun y hy=>h y (List.mem_cons_of_mem _ hy)
theorem qx {sc:Scope} {env:Env} (h:∀x,(x,NameKind.free)∈sc.names→∃c,env.cells.lookup x=some c):closureFor sc env=pure (O1 env sc.names):=by
  simp only[closureFor];rw[Gd _ (uL env) sc.names [] (fun p hp cs=>by
    obtain⟨n,k⟩:=p;cases k with
    | free=>
      obtain⟨c,hc⟩:=h n hp;simp only[uL,cellOf,hc,beq_self_eq_true,if_true,Option.getD_some,pure_bind]
    | _=>simp only[uL];rfl)]
  rfl
theorem Ck {env:Env}:∀(names:List (Str×NameKind)) (acc:List (Str×Addr)) (x:Str) (c:Addr),(∀x,(x,NameKind.free)∈names→∃c,env.cells.lookup x=some c)→(∀x c,(x,c)∈acc→env.cells.lookup x=some c)→
    (x,c)∈names.foldl (uL env) acc→env.cells.lookup x=some c
  | [],_,x,c,_,h,m=>h x c m
  | (n,k)::r,acc,x,c,hf,h,m=>by
    refine Ck r (uL env acc (n,k)) x c (fun y hy=>hf y (List.mem_cons_of_mem _ hy)) (fun y d hy=>?_) m;unfold uL at hy;split at hy
    · rename_i hk;have hk':k = .free:=by simpa using hk
      subst hk';obtain⟨e,he⟩:=hf n List.mem_cons_self
      rcases List.mem_cons.mp hy with z | z
      ·cases z;show env.cells.lookup n=some _;rw[he];rfl
      ·exact h y d z
    ·exact h y d hy
theorem El {env:Env} {x:Str}:∀(names:List (Str×NameKind)) (acc:List (Str×Addr)),((x,NameKind.free)∈names∨(acc.lookup x).isSome=true)→((names.foldl (uL env) acc).lookup x).isSome=true
  | [],_,h=>h.elim (fun z=>nomatch z) id
  | (n,k)::r,acc,h=>by
    refine El r (uL env acc (n,k)) ?_
    by_cases hm:(x,NameKind.free)∈r
    ·exact .inl hm
    · refine .inr ?_;unfold uL
      rcases h with h | h
      · rcases List.mem_cons.mp h with z | z
        ·cases z;simp[List.lookup_cons]
        ·exact absurd z hm
      · split
        ·simp only[List.lookup_cons];cases x == n <;> simp[h]
        ·exact h
def Im (env:Env) (sc:Scope) (C:Addr):List (Str×Addr):=cellsFrom (C+1) sc.names (O1 env sc.names)
theorem jY {x:Str}:∀(names:List (Str×NameKind)) (n:Nat) (acc:List (Str×Addr)),(x,NameKind.cell)∈names∨(acc.lookup x).isSome=true→((cellsFrom n names acc).lookup x).isSome=true
  | [],_,_,h=>h.elim (fun z=>nomatch z) id
  | (y,k)::r,n,acc,h=>by
    unfold cellsFrom;split
    · refine jY r (n+1) ((y,n)::acc) ?_
      by_cases hm:(x,NameKind.cell)∈r
      ·exact .inl hm
      · refine .inr ?_
        rcases h with h | h
        · rcases List.mem_cons.mp h with z | z
          ·cases z;simp[List.lookup_cons]
          ·exact absurd z hm
        ·simp only[List.lookup_cons];cases x == y <;> simp[h]
    · rename_i hk;refine jY r n acc ?_
      rcases h with h | h
      · rcases List.mem_cons.mp h with z | z
        ·cases z;exact absurd rfl hk
        ·exact .inl z
      ·exact .inr h
theorem Us:∀(names:List (Str×NameKind)) (h:Heap) (acc:List (Str×Addr)) (x:Str) (c:Addr),(x,c)∈cellsFrom h.objs.size names acc→(x,c)∈acc∨(h.objs.size≤c∧(pushCells h names).IsCell c none)
  | [],_,_,_,_,m=>.inl m
  | (n,k)::r,h,acc,x,c,m=>by
    unfold cellsFrom at m;unfold pushCells;split at m
    · rename_i hk;rw[if_pos hk];have m':(x,c)∈cellsFrom (h.push {cls:=.type "cell",data:=.cell none}).objs.size r ((n,h.objs.size)::acc):=by rw[Heap.size_push];exact m
      rcases Us r (h.push {cls:=.type "cell",data:=.cell none}) _ x c m' with z | ⟨z1,z2⟩
      · rcases List.mem_cons.mp z with e | e
        ·cases e;exact .inr ⟨Nat.le_refl _,⟨_,pushCells_keeps _ _ _ _ (Heap.get?_push_size _ rfl),rfl⟩⟩
        ·exact .inl e
      ·rw[Heap.size_push] at z1;exact .inr ⟨by omega,z2⟩
    ·rename_i hk;rw[if_neg hk];exact Us r h acc x c m
theorem Ut {n0:Nat} {x:Str}:∀(names:List (Str×NameKind)) (n:Nat) (acc:List (Str×Addr)) (c:Addr),((x,NameKind.cell)∈names∨∀d,acc.lookup x=some d→n0≤d)→n0≤n→(cellsFrom n names acc).lookup x=some c→n0≤c
  | [],_,_,c,h,_,e=>h.elim (fun z=>nomatch z) fun z=>z c e
  | (y,k)::r,n,acc,c,h,hn,e=>by
    unfold cellsFrom at e;split at e
    · refine Ut r (n+1) ((y,n)::acc) c ?_ (by omega) e
      by_cases hm:(x,NameKind.cell)∈r
      ·exact .inl hm
      · refine .inr fun d hd=>?_
        by_cases hxy:x=y
        · subst hxy;have hnd:n=d:=by simpa [List.lookup_cons] using hd
          rw[← hnd];exact hn
        · have hb:(x == y)=false:=by simpa using hxy
          simp only[List.lookup_cons,hb] at hd
          rcases h with h | h
          · rcases List.mem_cons.mp h with z | z
            ·cases z;exact absurd rfl hxy
            ·exact absurd z hm
          ·exact h d hd
    · rename_i hk;refine Ut r n acc c ?_ hn e
      rcases h with h | h
      · rcases List.mem_cons.mp h with z | z
        ·cases z;exact absurd rfl hk
        ·exact .inl z
      ·exact .inr h
theorem Uu:∀(names:List (Str×NameKind)) (n:Nat) (acc:List (Str×Addr)),(∀y d,(y,d)∈acc→d<n)→(∀y z d,(y,d)∈acc→(z,d)∈acc→y=z)→
    ∀y z d,(y,d)∈cellsFrom n names acc→(z,d)∈cellsFrom n names acc→y=z
  | [],_,_,_,h=>h
  | (x,k)::r,n,acc,hl,h=>by
    unfold cellsFrom;split
    · refine Uu r (n+1) ((x,n)::acc) (fun y d hm=>?_) fun y z d h1 h2=>?_
      · rcases List.mem_cons.mp hm with e | e
        ·cases e;exact Nat.lt_succ_self _
        ·exact Nat.lt_succ_of_lt (hl y d e)
      · rcases List.mem_cons.mp h1 with e1 | e1 <;> rcases List.mem_cons.mp h2 with e2 | e2
        ·cases e1;cases e2;rfl
        ·cases e1;exact absurd (hl z n e2) (Nat.lt_irrefl _)
        ·cases e2;exact absurd (hl y n e1) (Nat.lt_irrefl _)
        ·exact h y z d e1 e2
    ·exact Uu r n acc hl h
abbrev NoE:Value→Shared→Prop:=fun _ _=>False
theorem Ge {prog:Program} {w:World} {A:Around} {R:Result→Shared→Prop} {s:Shared} {elt target iter:Expr} {ifs:List Expr} {scope:Scope} {pos:Pos} {it acc:Value} {env:Env} (I:Nat→Shared→Prop)
    (turn:∀n s,I n s→wpAny (model prog w) A (pyNext it) (fun r s₁=>match r with
      | none=>R (.ok .next) s₁
      | some v=>wpAny (model prog w) A (letOwnedTupleGo target it v) (fun _ s₂=>wpAny (model prog w) A (assign target env v) (fun _ s₃=>
          wpAny (model prog w) A (forIn ifs true fun c r=>if r=true then do let ok ← isTrue c env (eval c env);pure (ForInStep.yield ok) else pure (ForInStep.yield r)) (fun ok s₄=>
            if ok=true then wpAny (model prog w) A (eval elt env) (fun x s₅=>
              wpAny (model prog w) A (call (.builtin "list.append") [acc,x]) (fun _ s₆=>∃m,m<n∧I m s₆) NoE s₅) NoE s₄
            else ∃m,m<n∧I m s₄) NoE s₃) NoE s₂) NoE s₁) NoE s)
    (n:Nat) (h:I n s):codeAny (model prog w) A (.compLoop (.ListComp elt [⟨target,iter,ifs,0⟩] scope pos) 0 it acc env) R s:=by
  refine codeAny_loop rfl I (fun n s hI=>?_) n h;show wpAny _ A ((compTurn (.ListComp elt [⟨target,iter,ifs,0⟩] scope pos) 0 it acc env).onRaise (fun x=>do noteFrame x env;theTreesLotGoes x)) _ _ s
  refine wpAny_noted ?_;rw[compTurn_list];refine wpAny_bind (wpAny_standAt (wpAny_bind (wpAny_mono (turn n s hI) (fun r s₁ h₁=>?_) fun _ _ h'=>h'.elim)));cases r with
  | none=>exact wpAny_pure h₁
  | some v=>
    refine wpAny_bind (wpAny_mono h₁ (fun _ s₂ h₂=>?_) fun _ _ h'=>h'.elim);refine wpAny_bind (wpAny_mono h₂ (fun _ s₃ h₃=>wpAny_bind (wpAny_mono h₃ (fun ok s₄ h₄=>?_) fun _ _ h'=>h'.elim)) fun _ _ h'=>h'.elim);cases ok with
    | false=>exact wpAny_pure ⟨rfl,h₄⟩
    | true=>
      exact wpAny_bind (wpAny_bind (wpAny_mono h₄ (fun x s₅ h₅=>wpAny_bind (wpAny_mono h₅ (fun _ s₆ h₆=>wpAny_pure (wpAny_pure ⟨rfl,h₆⟩)) fun _ _ h'=>h'.elim)) fun _ _ h'=>h'.elim))
def bN (X:Cx) (sc:Scope) (N:List Str) (C:Addr) (s:Shared) (H:Hp) (fp:List Addr) (pn:List (Addr×Obj)):Cx:=
  {X with env:=compEnvC sc (Im X.env sc C) C X.env,N:=N,s₀:=s,H₀:=H,outer:=X.stack,ex:=fp,fn:=fun x=>sc.names.any fun p=>p.1 == x && p.2 == .cell,pn:=pn,xe:=NoE}
theorem rW {sc:Scope} {env:Env} (x:Str):(relabel sc env).names.lookup x=(sc.names.lookup x).map fun k=>if (k == NameKind.free && env.scope.kind == .function && env.kindOf x == some .cell)=true then NameKind.cell else k:=by
  unfold relabel;show List.lookup x (sc.names.map _)=_
  induction sc.names with
  | nil=>rfl
  | cons p r ih=>
    obtain⟨n,k⟩:=p;rw[List.map_cons];have e1:(if (k == NameKind.free && env.scope.kind == .function && env.kindOf n == some .cell)=true then (n,NameKind.cell) else (n,k))=(n,if (k == NameKind.free && env.scope.kind == .function && env.kindOf n == some .cell)=true then NameKind.cell else k):=by split <;> rfl
    show List.lookup x ((if (k == NameKind.free && env.scope.kind == .function && env.kindOf n == some .cell)=true then (n,NameKind.cell) else (n,k))::_)=_
    rw[e1]
    by_cases hx:x=n
    ·subst hx;simp only[List.lookup_cons,beq_self_eq_true,Option.map_some]
    · have hb:(x == n)=false:=by simpa using hx
      simp only[List.lookup_cons,hb];exact ih
structure aR (ps sc:Scope) (pN own:List Str) (caps:List Nat) (N:List Str):Prop where
  kind:sc.kind = .function
  uniq:∀p∈sc.names,sc.names.lookup p.1=some p.2
  nd:N.Nodup
  names:N=own++caps.map fun j=>pN.getD j ""
  free:∀p∈sc.names,p.2 = .free→ps.names.lookup p.1=some .cell∨ps.names.lookup p.1=some .free
  qg3:∀j∈caps,j<pN.length∧sc.names.lookup (pN.getD j "")=some .free
def stC (own:List Str) (caps:List Nat) (σ:St):St:=own.map (fun _=>none)++caps.map fun j=>(σ[j]?).getD none
section
variable {X:Cx} {p_:List (Addr×Obj)} {σ:St} {H:Hp} {s:Shared} {ps sc:Scope} {own pN:List Str} {caps:List Nat} {N:List Str} {fp:List Addr}
theorem aR.cells (S:aR ps sc pN own caps N) (hps:X.env.scope=ps) (ok:X.Ok):∀x,(x,NameKind.free)∈sc.names→∃c,X.env.cells.lookup x=some c:=fun x hx=>by
  refine ok.has x ?_;show X.env.scope.names.lookup x=_∨X.env.scope.names.lookup x=_;rw[hps];exact S.free (x,.free) hx rfl
theorem Io (hfr:∀x,(x,NameKind.free)∈sc.names→∃c,X.env.cells.lookup x=some c) {C:Addr} {x:Str} {c:Addr} {h:Heap} (hC:C+1=h.objs.size) (m:(x,c)∈Im X.env sc C):X.env.cells.lookup x=some c∨(h.objs.size≤c∧(pushCells h sc.names).IsCell c none):=by
  unfold Im at m;rw[hC] at m
  rcases Us sc.names h _ x c m with z | z
  ·exact .inl (Ck sc.names [] x c hfr (fun _ _ z=>nomatch z) z)
  ·exact .inr z
theorem O2 (I:Inv X p_ σ H s) (hps:X.env.scope=ps) (S:aR ps sc pN own caps N) (hf:∀b∈fp,tQ X p_ H b) (ho:∀b∈fp,∃o,s.heap.get? b=some o∧∀v,o.data≠.cell v) :
    (bN X sc N s.heap.objs.size s H fp (X.pn++p_)).Ok where
  mod:=I.ok.mod
  kind:=S.kind
  glob:=I.ok.glob
  blt:=I.ok.blt
  above:=Nat.le_refl _
  inj:=fun x y c h1 h2=>by
    have cl:∀y d,(y,d)∈O1 X.env sc.names→X.env.cells.lookup y=some d:=fun y d m=>Ck sc.names [] y d (S.cells hps I.ok) (fun _ _ z=>nomatch z) m;refine Uu sc.names (s.heap.objs.size+1) (O1 X.env sc.names) (fun y d m=>?_) (fun y z d m1 m2=>I.ok.inj y z d (cl y d m1) (cl z d m2)) x y c (PySem.mem_of_lookup h1) (PySem.mem_of_lookup h2);obtain⟨v,q⟩:=I.cell y d (cl y d m);exact Nat.lt_succ_of_lt q.lt
  has:=fun x hx=>by
    have hx1:(relabel sc X.env).names.lookup x=some .cell∨(relabel sc X.env).names.lookup x=some .free:=hx;have hx':(x,NameKind.cell)∈sc.names∨(x,NameKind.free)∈sc.names:=by
      rw[rW] at hx1;cases e:sc.names.lookup x with
      | none=>rw[e] at hx1;simp at hx1
      | some k=>
        rw[e] at hx1;have hm:=PySem.mem_of_lookup e;cases k with
        | free=>exact .inr hm
        | cell=>exact .inl hm
        | _=>simp at hx1
    have q:((cellsFrom (s.heap.objs.size+1) sc.names (O1 X.env sc.names)).lookup x).isSome=true:=by
      rcases hx' with z | z
      ·exact jY sc.names _ _ (.inl z)
      ·exact jY sc.names _ _ (.inr (El sc.names [] (.inl z)))
    exact Option.isSome_iff_exists.mp q
  cab:=fun x c hx h=>by
    have hx':(x,NameKind.cell)∈sc.names:=by
      have hx:(sc.names.any fun p=>p.1 == x && p.2 == .cell)=true:=hx;obtain⟨⟨a,b⟩,hm,he⟩:=List.any_eq_true.mp hx;simp at he;obtain⟨rfl,rfl⟩:=he;exact hm
    exact Ut (n0:=s.heap.objs.size) sc.names (s.heap.objs.size+1) (O1 X.env sc.names) c (.inl hx') (Nat.le_succ _) h
  hd:=I.ok.hd
  frames:=I.ok.frames
  stk:=.inl rfl
  exf:=fun b hb=>by
    obtain⟨o,e,_⟩:=ho b hb;refine⟨Nat.ne_of_lt (Heap.lt_size e),fun x c h z=>?_⟩;subst z
    rcases Io (S.cells hps I.ok) (h:=s.heap.push {cls:=.type "dict",data:=.dict #[]}) (by rw[Heap.size_push]) (PySem.mem_of_lookup h) with q | ⟨q,_⟩
    ·exact(hf c hb).2.2.2.2.1 x c q rfl
    ·rw[Heap.size_push] at q;exact absurd (Nat.lt_of_lt_of_le (Nat.lt_of_lt_of_le (Heap.lt_size e) (Nat.le_succ _)) q) (Nat.lt_irrefl _)
  bs:=I.bs
  Xx:=Nat.le_trans I.ok.Xx I.sz
  Q_:=fun b o e hb=>by
    rcases(hf b hb).2.2.2.1 with z | z
    ·exact I.ok.Q_ b o e z
    ·exact absurd (Nat.lt_of_lt_of_le (Heap.lt_size e) (Nat.le_trans I.ok.Xx z)) (Nat.lt_irrefl _)
  Om:=fun b hb z=>by
    rcases List.mem_cons.mp (I.Ba b z) with q | q
    ·exact(hf b hb).2.1 q
    ·exact(hf b hb).2.2.1 q
  xV:=I.stack
  ZS:=I.Hg
def blockAt (sc:Scope) (s:Shared):Shared:={s with heap:=pushCells (s.heap.push {cls:=.type "dict",data:=.dict #[]}) sc.names}
theorem Ro (I:Inv X p_ σ H s) (hps:X.env.scope=ps) (hpN:X.N=pN) (S:aR ps sc pN own caps N) (hf:∀b∈fp,tQ X p_ H b) (ho:∀b∈fp,∃o,s.heap.get? b=some o∧∀v,o.data≠.cell v) :
    Inv (bN X sc N s.heap.objs.size s H fp (X.pn++p_)) [] (stC own caps σ) H (blockAt sc s):=by
  have hk:∀b o,s.heap.get? b=some o→(blockAt sc s).heap.get? b=some o:=fun b o e=>pushCells_keeps _ _ b o (Heap.get?_push_of_some _ e);have hns:(blockAt sc s).heap.Ns s.heap.objs.size fun _=>none:=(Heap.Ns.new s.heap (.type "dict")).keeps (pushCells_keeps _ _);have hcl:∀x c,(Im X.env sc s.heap.objs.size).lookup x=some c→X.env.cells.lookup x=some c∨(s.heap.objs.size+1≤c∧(blockAt sc s).heap.IsCell c none):=fun x c e=>by
    rcases Io (S.cells hps I.ok) (h:=s.heap.push {cls:=.type "dict",data:=.dict #[]}) (by rw[Heap.size_push]) (PySem.mem_of_lookup e) with q | ⟨q,r⟩
    ·exact .inl q
    ·rw[Heap.size_push] at q;exact .inr ⟨q,r⟩
  refine⟨O2 I hps S hf ho,rfl,I.bare,Un.kept hk,⟨_,hns,fun i x v e1 e2 e3=>?_⟩,fun x c e=>?_,I.hok.fresh (Nat.le_refl _),fun x c e=>?_,fun p hp=>?_,I.hok.kept hk,?_⟩
  · have e1':N[i]? = some x:=e1;rw[S.names] at e1';unfold stC at e2
    by_cases hi:i<own.length
    · rw[List.getElem?_append_left (by simpa using hi),List.getElem?_map] at e2;cases q:own[i]? with
      | none=>rw[q] at e2;cases e2
      | some y=>rw[q] at e2;cases e2
    · rw[List.getElem?_append_right (by omega),List.getElem?_map] at e1';rw[List.getElem?_append_right (by simp;omega),List.getElem?_map] at e2;simp only[List.length_map] at e2;cases q:caps[i - own.length]? with
      | none=>rw[q] at e2;cases e2
      | some j=>
        rw[q] at e1' e2;have qg4:pN.getD j "" = x:=Option.some.inj e1';have e2':(σ[j]?).getD none=some v:=Option.some.inj e2;have hj:σ[j]? = some (some v):=by
          cases z:σ[j]? with
          | none=>rw[z] at e2';cases e2'
          | some o=>rw[z] at e2';exact congrArg some e2'
        obtain⟨hlt,hfree⟩:=S.qg3 j (List.mem_of_getElem? q);rw[qg4] at hfree;have hNj:X.N[j]? = some x:=by
          rw[hpN,← qg4];simp[List.getD,List.getElem?_eq_getElem hlt]
        have qg5:=S.free (x,.free) (PySem.mem_of_lookup hfree) rfl;have vis:Vis X.env.scope x:=by rw[hps];exact .inr qg5
        obtain⟨m,hn,hl⟩:=I.loc;obtain⟨u,r,l⟩:=hl j x v hNj hj vis;refine⟨u,r,.inr ?_⟩;have hkind:(relabel sc X.env).names.lookup x=some .cell∨(relabel sc X.env).names.lookup x=some .free:=by
          rw[rW,hfree];show some (if _ then _ else _)=_∨some (if _ then _ else _)=_
          split
          ·exact .inl rfl
          ·exact .inr rfl
        refine⟨hkind,?_⟩;have hcell:X.env.kindOf x=some .cell∨X.env.kindOf x=some .free:=by
          show X.env.scope.names.lookup x=_∨X.env.scope.names.lookup x=_;rw[hps];exact qg5
        rcases l with⟨hloc,_⟩ | ⟨_,c,hc,hcv⟩
        ·rcases hcell with z | z <;> (rw[hloc] at z;cases z)
        · have q2:((Im X.env sc s.heap.objs.size).lookup x).isSome=true:=jY sc.names _ _ (.inr (El sc.names [] (.inl (PySem.mem_of_lookup hfree))));obtain⟨d,hd⟩:=Option.isSome_iff_exists.mp q2;refine⟨d,hd,?_⟩
          rcases hcl x d hd with z | ⟨z,_⟩
          ·rw[hc] at z;cases z;exact hcv.keeps hk
          ·
            exfalso;have hnc:(x,NameKind.cell)∉sc.names:=fun hm=>by
              have:=S.uniq _ hm;rw[hfree] at this;cases this
            have hmem:=PySem.mem_of_lookup hd;have qkd:∀(names:List (Str×NameKind)) (n:Nat) (acc:List (Str×Addr)),(x,NameKind.cell)∉names→(cellsFrom n names acc).lookup x=acc.lookup x:=by
              intro names
              induction names with
              | nil=>intro _ _ _;rfl
              | cons p r ih=>
                intro n acc hm;obtain⟨y,k⟩:=p;unfold cellsFrom;split
                · rename_i hkk;have hkk':k = .cell:=by simpa using hkk
                  subst hkk';rw[ih _ _ fun z=>hm (List.mem_cons_of_mem _ z)];have hxy:(x == y)=false:=by
                    cases hb:x == y with
                    | false=>rfl
                    | true=>exact absurd (by rw[beq_iff_eq.mp hb];exact List.mem_cons_self) hm
                  simp only[List.lookup_cons,hxy]
                ·exact ih _ _ fun z=>hm (List.mem_cons_of_mem _ z)
            have e5:(O1 X.env sc.names).lookup x=some d:=(qkd sc.names _ _ hnc).symm.trans hd;have e6:=Ck sc.names [] x d (S.cells hps I.ok) (fun _ _ z=>nomatch z) (PySem.mem_of_lookup e5);rw[hc] at e6;cases e6;exact absurd (Nat.lt_of_lt_of_le (Nat.lt_of_lt_of_le hcv.lt (Nat.le_succ _)) z) (Nat.lt_irrefl _)
  · rcases hcl x c e with z | ⟨_,z⟩
    ·obtain⟨v,q⟩:=I.cell x c z;exact⟨v,q.keeps hk⟩
    ·exact⟨_,z⟩
  · rcases hcl x c e with z | ⟨z,_⟩
    ·exact I.lN x c z
    ·exact I.hok.fresh (by omega)
  · rw[List.append_nil] at hp;obtain⟨e,n,ne,nf,d⟩:=I.pin p hp;refine⟨hk _ _ e,n,Nat.ne_of_lt (Heap.lt_size e),fun z=>?_,d⟩
    rcases List.mem_cons.mp (I.Ba p.1 z) with q | q
    ·exact ne q
    ·exact nf q
  ·show(stC own caps σ).length=N.length;rw[S.names];simp[stC]
theorem Mz (I:Inv X p_ σ H s) (hf:∀b∈fp,tQ X p_ H b) {C:Addr} {pn:List (Addr×Obj)} {H_:List (Addr×Obj)} {σ':St} {H':Hp} {s':Shared} (I':Inv (bN X sc N C s H fp pn) H_ σ' H' s'):Inv X p_ σ H' s':=
  I.call' (ch:=fp) I'.os I'.base I'.hok I'.bare fun b hb=>⟨(hf b hb).2.2.2.1,(hf b hb).2.1,(hf b hb).2.2.2.2.1,(hf b hb).2.2.2.2.2⟩
end
def PTs (X:Cx) (ifs:List Expr) (t:TT):Prop:=
  ∀(p_:List (Addr×Obj)) (s:Shared) (σ:St) (H:Hp) (Q:Bool→Hp→Prop),Inv X p_ σ H s→t σ H Q→
    wpAny (model X.prog X.w) X.A (forIn ifs true fun c r=>if r=true then do let ok ← isTrue c X.env (eval c X.env);pure (ForInStep.yield ok) else pure (ForInStep.yield r)) (TP X p_ σ Q) X.xe s
def qfj:TT:=fun _ H Q=>Q true H
theorem cO {X:Cx}:PTs X [] qfj:=fun _ _ _ H _ I h=>wpAny_tests_nil ⟨H,I,h⟩
theorem oO {X:Cx} {c:Expr} {t:TT} (h:PT X c t):PTs X [c] t:=fun p_ s σ H Q I hw=>wpAny_tests_one (h p_ s σ H Q I hw)
def oR (own:List Str) (caps:List Nat) (J:It) (g:TG) (tt:TT) (te:TE) (D:Addr) (σ:St) (H:Hp) (Q:Hp→Prop):Prop:=
  ∃qp:Nat→Nat→St→Hp→Prop,(∃m,qp 0 m (stC own caps σ) H)∧∀i m σ' H',qp i m σ' H'→
    (J.stop i H'∧Q H')∨(J.go i H'∧∃N:St→Hp→Prop,(∀σ2 H2,N σ2 H2→∃m',m'<m∧qp (i+1) m' σ2 H2)∧∀x H2,J.Z2 i H' x H2→g x σ' H2 fun σ2 H3=>tt σ2 H3 fun b H4=>
      if b=true then te σ2 H4 fun y H5=>∃ys,H5 D=some (.lst ys)∧ys.length<sizeLine∧N σ2 (upd H5 D (.lst (ys++[y]))) else N σ2 H4)
def MF (own:List Str) (caps:List Nat) (wi:TI) (g:TG) (tt:TT) (te:TE):TE:=fun σ H Q=>wi σ H fun J H1=>∀D,H1 D=none→oR own caps J g tt te D σ (upd H1 D (.lst [])) (Q (.ref D))
theorem Cm {M:Model} {A:Around} {E:Value→Shared→Prop} {s:Shared} {sc:Scope} {g:Addr} {cl:List (Str×Addr)} {qual:Str} {env:Env} {Q:Env→Shared→Prop}
    (h:Q (newEnv sc s.heap.objs.size g (cellsFrom (s.heap.objs.size+1) sc.names cl) qual none .none (some env) builtinsNs) (blockAt sc s)):wpAny M A (newFunctionEnv sc g cl [] qual none .none (some env)) Q E s:=by
  simp only[newFunctionEnv,Option.isSome_some,if_true];refine wpAny_bind (wpAny_alloc ?_);refine wpAny_bind (wpAny_layCells _ (fun name kind cells=>by cases hkc:kind == NameKind.cell <;> simp[hkc]) _ _ _ _ ?_);rw[show({s with heap:=s.heap.push {cls:=.type "dict",data:=.dict #[]}}:Shared).heap.objs.size=s.heap.objs.size+1 from Heap.size_push ..];rw[List.forIn_nil];exact wpAny_bind (wpAny_pure (wpAny_pure h))
def Cp (X:Cx) (p_:List (Addr×Obj)) (σ:St) (Q:Hp→Prop) (C:Addr) (r:Result) (s':Shared):Prop:=
  ∃H',r = .ok .next∧Inv X p_ σ H' s'∧(∃m,s'.heap.Ns C m)∧tQ X p_ H' C∧Q H'
section
variable {X:Cx} {ps sc:Scope} {own pN:List Str} {caps:List Nat} {N:List Str}
theorem Ip {p_:List (Addr×Obj)} {σ:St} {H:Hp} {s:Shared} {E:Value→Shared→Prop} {elt tg iter:Expr} {ifs:List Expr} {pos:Pos} {J:It} {fp:List Addr} {it D:Addr} {tn:Nat→Heap→Prop} {g:TG} {tt:TT} {te:TE} {Q:Hp→Prop}
    (I:Inv X p_ σ H s) (hps:X.env.scope=ps) (hpN:X.N=pN) (S:aR ps sc pN own caps N) (T:Turn X.prog X.w X.K tg J fp it tn) (st:tn 0 s.heap) (hf:∀b∈fp,tQ X p_ H b) (hc:X.calm=true)
    (hg:∀C s H fp pn,PG (bN X sc N C s H fp pn) tg g) (ht:∀C s H fp pn,PTs (bN X sc N C s H fp pn) ifs tt) (he:∀C s H fp pn,PE (bN X sc N C s H fp pn) elt te)
    (h:oR own caps J g tt te D σ H Q) :
    wpAny (model X.prog X.w) X.A (newFunctionEnv sc X.env.globals (O1 X.env sc.names) [] X.env.qual none .none (some X.env)) (fun cenv s4=>
      codeAny (model X.prog X.w) X.A (.compStart (.ListComp elt [⟨tg,iter,ifs,0⟩] sc pos) 0 (.ref it) (.ref D) {cenv with scope:=relabel sc X.env}) (Cp X p_ σ Q cenv.locals) s4) E s:=by
  obtain⟨qp,⟨m0,w0⟩,turn⟩:=h;refine Cm ?_;have ho:=T.obj 0 _ st;have I0:=Ro I hps hpN S hf ho;have ok':=O2 I hps S hf ho;have hk:∀b o,s.heap.get? b=some o→(blockAt sc s).heap.get? b=some o:=fun b o e=>pushCells_keeps _ _ b o (Heap.get?_push_of_some _ e);have st0:tn 0 (blockAt sc s).heap:=T.keep 0 _ _ st fun b _ o e=>hk b o e;have stat:∀{H':Hp},(∀b∈fp,H' b=none)→∀b∈fp,tQ (bN X sc N s.heap.objs.size s H fp (X.pn++p_)) [] H' b:=fun hn b hb=>
    ⟨hn b hb,(ok'.exf b hb).1,ok'.Om b hb,.inl hb,(ok'.exf b hb).2,fun p hp=>(hf b hb).2.2.2.2.2 p (by rw[List.append_nil] at hp;exact hp)⟩
  have loop:codeAny (model X.prog X.w) X.A (.compLoop (.ListComp elt [⟨tg,iter,ifs,0⟩] sc pos) 0 (.ref it) (.ref D) (bN X sc N s.heap.objs.size s H fp (X.pn++p_)).env) (Cp X p_ σ Q s.heap.objs.size) (blockAt sc s):=by
    refine Ge (fun n s'=>∃i σ' H',Inv (bN X sc N s.heap.objs.size s H fp (X.pn++p_)) [] σ' H' s'∧tn i s'.heap∧(∀b∈fp,H' b=none)∧qp i n σ' H') ?_ m0 ⟨0,_,H,I0,st0,fun b hb=>(hf b hb).1,w0⟩;rintro n s3 ⟨i,σ3,H3,I3,st3,fr3,w3⟩
    rcases turn i n σ3 H3 w3 with⟨stop,qn⟩ | ⟨go,N',hN,step⟩
    ·refine cU (T.done (bN X sc N s.heap.objs.size s H fp (X.pn++p_)) rfl rfl rfl hc i [] s3 σ3 H3 NoE I3 (stat fr3) st3 stop) fun r s4 zz=>?_;obtain⟨hr,I4⟩:=zz;subst hr;obtain⟨m,hn,_⟩:=I4.loc;exact⟨H3,rfl,Mz I hf I4,⟨m,hn⟩,I.Ij (Nat.le_refl _) I4.free,qn⟩
    · refine cU (T.item (bN X sc N s.heap.objs.size s H fp (X.pn++p_)) rfl rfl rfl hc i [] s3 σ3 H3 NoE I3 (stat fr3) st3 go) fun r s4 zz=>?_;obtain⟨u,hr,h4⟩:=zz;subst hr;refine cU h4 fun _ s5 zz=>?_;obtain⟨x,H5,I5,r5,y5,Z7,fr5⟩:=zz;have I5':=I5.pinned (stat fr5) (T.obj _ _ Z7);refine cU (hg _ _ _ _ _ _ s5 σ3 H5 x u _ I5' r5 (step x H5 y5)) fun _ s6 zz=>?_;obtain⟨σ6,H6,I6,q6⟩:=zz;refine cU (ht _ _ _ _ _ _ s6 σ6 H6 _ I6 q6) fun b s7 zz=>?_;obtain⟨H7,I7,q7⟩:=zz;have again:∀{σ8:St} {H8:Hp} {s8:Shared},Inv (bN X sc N s.heap.objs.size s H fp (X.pn++p_)) ([]++Ei fp s5.heap) σ8 H8 s8→N' σ8 H8→
          ∃m,m<n∧∃i σ' H',Inv (bN X sc N s.heap.objs.size s H fp (X.pn++p_)) [] σ' H' s8∧tn i s8.heap∧(∀b∈fp,H' b=none)∧qp i m σ' H':=fun {σ8 H8 s8} I8 n8=>by
        obtain⟨m',hm,w8⟩:=hN σ8 H8 n8;refine⟨m',hm,i+1,σ8,H8,I8.xX,T.keep _ _ _ Z7 fun b hb o e=>(I8.pin (b,o) (List.mem_append_right _ (List.mem_append_right _ (nP hb e)))).1,fun b hb=>?_,w8⟩;obtain⟨o,e,d⟩:=T.obj _ _ Z7 b hb;exact(I8.pin (b,o) (List.mem_append_right _ (List.mem_append_right _ (nP hb e)))).2.1
      cases b with
      | false=>
        rw[if_neg Bool.false_ne_true] at q7 ⊢;exact again I7 q7
      | true=>
        rw[if_pos rfl] at q7 ⊢;refine cU (he _ _ _ _ _ _ s7 σ6 H7 _ I7 q7) fun v s8 zz=>?_;obtain⟨y,H8,I8,r8,ys,hD,hz,n8⟩:=zz;refine cU (Ek (X:=bN X sc N s.heap.objs.size s H fp (X.pn++p_)) _ s8 σ6 H8 (.ref D) [y] (.ref D) [v] (fun _ H9=>N' σ6 H9) I8 rfl (.cons r8 .nil) ⟨D,ys,y,rfl,rfl,hD,hz,n8⟩) fun _ s9 zz=>?_;obtain⟨_,H9,I9,_,n9⟩:=zz;exact again I9 n9
  exact codeAny_compStart_list loop (T.self X.A 0 _ _ _ st0 loop)
variable {elt tg iter:Expr} {ifs:List Expr} {pos:Pos} {wi:TI} {g:TG} {tt:TT} {te:TE}
theorem aR.locs (S:aR ps sc pN own caps N):∀x∈sc.names,x.2 = .local→sc.names.lookup x.1=some .local:=fun x hx e=>by rw[← e];exact S.uniq x hx
theorem cF (hps:X.env.scope=ps) (hpN:X.N=pN) (S:aR ps sc pN own caps N) (hc:X.calm=true) (hi:PI X tg iter wi)
    (hg:∀C s H fp pn,PG (bN X sc N C s H fp pn) tg g) (ht:∀C s H fp pn,PTs (bN X sc N C s H fp pn) ifs tt) (he:∀C s H fp pn,PE (bN X sc N C s H fp pn) elt te)
    (hs:∀x,foldedSetIterable iter X.env x=pure x:=by intro _;rfl):PE X (.ListComp elt [⟨tg,iter,ifs,0⟩] sc pos) (MF own caps wi g tt te):=by
  intro p_ s σ H Q I h;rw[eval_ListComp];refine wpAny_comprehension_free (use:=none) rfl hs (qx (S.cells hps I.ok)) S.kind S.locs (cU (hi p_ s σ H _ I h) fun v s1 h1=>cU h1 fun itv s2 h2=>?_);obtain⟨it,fp,tn,J,H2,e,I2,T,st2,f2,q⟩:=h2;subst e;have fr:H2 s2.heap.objs.size=none:=I2.fresh;refine wpAny_newObj_type ?_;have I3:Inv X p_ σ (upd H2 s2.heap.objs.size (.lst [])) {s2 with heap:=s2.heap.push {cls:=.type "list",data:=.seq ([]:List Value).toArray},toks:=s2.toks}:=I2.qam (its:=[]) (ys:=[]) .nil (Nat.zero_le _);have f3:∀b∈fp,tQ X p_ (upd H2 s2.heap.objs.size (.lst [])) b:=fun b hb=>by
    obtain⟨o,e,_⟩:=T.obj 0 _ st2 b hb;exact⟨by rw[aM (Nat.ne_of_lt (Heap.lt_size e))];exact(f2 b hb).1,(f2 b hb).2⟩
  refine cU (Ip (iter:=iter) (pos:=pos) I3 hps hpN S T (T.keep 0 _ _ st2 fun b _ o e=>Heap.get?_push_of_some _ e) f3 hc hg ht he (q _ fr)) fun cenv s4 h4=>?_;refine codeAny_mono h4 fun r s5 ⟨H5,hr,I5,⟨m,hn⟩,f5,q5⟩=>?_;subst hr;refine⟨m,hn,fun h' hs'=>?_⟩;have I6:Inv X p_ σ H5 {s5 with heap:=h',toks:=s5.toks}:=I5.turned (it:=cenv.locals) (fun b o hb e=>(hs'.2 b hb).trans e) f5.1 f5.2.1 f5.2.2.2.1 f5.2.2.2.2.1 f5.2.2.2.2.2;exact⟨.ref s2.heap.objs.size,H5,I6,rfl,q5⟩
theorem vW {i:Nat} {y:Str} {py spos:Pos} (hN:X.N.Nodup) (hy:X.N[i]? = some y) (hl:X.env.scope.names.lookup y=some .local) (hps:X.env.scope=ps) (hpN:X.N=pN) (S:aR ps sc pN own caps N) (hc:X.calm=true) (hi:PI X tg iter wi)
    (hg:∀C s H fp pn,PG (bN X sc N C s H fp pn) tg g) (ht:∀C s H fp pn,PTs (bN X sc N C s H fp pn) ifs tt) (he:∀C s H fp pn,PE (bN X sc N C s H fp pn) elt te)
    (hsw:swapsWith (.ListComp elt [⟨tg,iter,ifs,0⟩] sc pos) (some (.Name y py)) spos.line X.env=pure true:=by rfl)
    (hs:∀x,foldedSetIterable iter X.env x=pure x:=by intro _;rfl):PS X (.Assign [.Name y py] (.ListComp elt [⟨tg,iter,ifs,0⟩] sc pos) spos) (Z1 (MF own caps wi g tt te) (Ml i)):=by
  intro p_ s σ H D0 I h;rw[exec_Assign_Name_used _ _ _ _ hsw];refine wpAny_bind (wpAny_standAt (wpAny_bind ?_));show wpAny _ X.A (do let _ ← comprehension (.ListComp elt [⟨tg,iter,ifs,0⟩] sc pos) sc X.env _ (newList []) false (eval iter X.env) (some (assign (.Name y py) X.env))) _ _ s
  refine wpAny_bind (wpAny_mono (wpAny_comprehension_free (use:=some (assign (.Name y py) X.env)) (Q:=fun _ s'=>SP X p_ D0 .next s') rfl hs (qx (S.cells hps I.ok)) S.kind S.locs
    (cU (hi p_ s σ H _ I h) fun v s1 h1=>cU h1 fun itv s2 h2=>?_)) (fun _ s' hq=>wpAny_pure (wpAny_pure hq)) fun _ _ e=>e)
  obtain⟨it,fp,tn,J,H2,e,I2,T,st2,f2,q⟩:=h2;subst e;have fr:H2 s2.heap.objs.size=none:=I2.fresh;refine wpAny_newObj_type ?_;have I3:Inv X p_ σ (upd H2 s2.heap.objs.size (.lst [])) {s2 with heap:=s2.heap.push {cls:=.type "list",data:=.seq ([]:List Value).toArray},toks:=s2.toks}:=I2.qam (its:=[]) (ys:=[]) .nil (Nat.zero_le _);have f3:∀b∈fp,tQ X p_ (upd H2 s2.heap.objs.size (.lst [])) b:=fun b hb=>by
    obtain⟨o,e,_⟩:=T.obj 0 _ st2 b hb;exact⟨by rw[aM (Nat.ne_of_lt (Heap.lt_size e))];exact(f2 b hb).1,(f2 b hb).2⟩
  refine cU (Ip (iter:=iter) (pos:=pos) I3 hps hpN S T (T.keep 0 _ _ st2 fun b _ o e=>Heap.get?_push_of_some _ e) f3 hc hg ht he (q _ fr)) fun cenv s4 h4=>?_;refine codeAny_mono h4 fun r s5 ⟨H5,hr,I5,⟨m,hn⟩,f5,q5⟩=>?_;subst hr;show wpAny _ X.A (assign (.Name y py) X.env (.ref s2.heap.objs.size)) _ _ _;refine wpAny_assign_Name (zK I5 hN hy (.inl hl) (v:=.ref s2.heap.objs.size) rfl (fun s6 I6 hsb=>?_) (.inr hl));obtain⟨a,sb,ha⟩:=hsb;have hne:cenv.locals≠a:=by
    rcases ha with z | z
    ·rw[z];exact f5.2.1
    ·exact fun e=>f5.2.2.2.2.1 y a z e.symm
  refine⟨m,hn.sameBut sb hne,fun h' hs'=>?_⟩;have I7:Inv X p_ (σ.set i (some (.ref s2.heap.objs.size))) H5 {s6 with heap:=h',toks:=s6.toks}:=I6.turned (it:=cenv.locals) (fun b o hb e=>(hs'.2 b hb).trans e) f5.1 f5.2.1 f5.2.2.2.1 f5.2.2.2.2.1 f5.2.2.2.2.2;exact⟨_,H5,I7,q5⟩
end
section
variable {X:Cx} {p_:List (Addr×Obj)} {σ:St} {H:Hp} {s:Shared} {h':Heap}
theorem Inv.tU {t':Nat} {ch:List Addr} (I:Inv X p_ σ H s) (k:∀b o,b∉ch→s.heap.get? b=some o→h'.get? b=some o) (hf:∀b∈ch,tQ X p_ H b):Inv X p_ σ H {s with heap:=h',toks:=t'}:=by
  refine I.step (g':=s.gens) (d':=s.drawn) (ch:=ch) (fun b hb=>⟨(hf b hb).2.2.2.1,(hf b hb).2.1,(hf b hb).2.2.2.2.1,(hf b hb).2.2.2.2.2⟩) (fun b o _ _ hc e _=>k b o hc e) (fun b o _ _ hc e _=>⟨o.slots,k b o hc e⟩) (fun _ _ _ _ n=>n)
    (fun b o hc e=>⟨o,k b o hc e⟩) (fun _ _ e=>e) (fun _ _ _ e=>e) (fun b ps e=>⟨#[],by rw[e];simp⟩) (fun m hm=>?_) (fun b u e=>?_) I.bare
  ·obtain⟨o,es,ep,ho,r⟩:=hm;exact⟨o,es,ep,k _ o (fun z=>(hf _ z).2.1 rfl) ho,r⟩
  · refine(I.hok b u e).stay (fun c v hc q=>k c v (fun z=>?_) q) (fun _ q=>q) fun _ _ q=>q;have hn:=(hf c z).1
    rcases hc with y | y
    ·rw[y,e] at hn;cases hn
    ·rw[y] at hn;cases hn
end
def Its (x:Str):It:=⟨fun i _=>i<x.cps.size,fun i H v H'=>H'=H∧∃c,x.cps[i]? = some c∧v = .str ⟨#[c]⟩,fun i _=>x.cps.size≤i⟩
theorem qaq {P:Program} {w:World} {K:W.Frag} {tg:Expr} (x:Str) (t:Tok) (it:Addr):Turn P w K tg (Its x) [it] it (fun i h=>h.IsStrIter it (strIterType x) x t i) where
  mem:=by simp
  obj:=fun i h st b hb=>by
    have e:b=it:=by simpa using hb
    subst e;obtain⟨o,e,c,d⟩:=st;exact⟨o,e,fun v z=>by rw[d] at z;cases z⟩
  keep:=fun i h h' st k=>by
    obtain⟨o,e,c,d⟩:=st;exact⟨o,k it (by simp) o e,c,d⟩
  item:=by
    intro X hP hw hK hc i p_ s σ H E I hf st hg;subst hP hw hK;obtain⟨f0,f1,f2,f3,f4,f5⟩:=hf it (by simp);have hx:x.cps[i]? = some (x.cps[i]'hg):=Array.getElem?_eq_getElem hg;have fin:∀h',h'.IsStrIter it (strIterType x) x t (i+1)→Heap.SameBut it s.heap h'→∃u,(some (Value.str ⟨#[x.cps[i]'hg]⟩ s.toks))=some u∧
        wpAny (model X.prog X.w) X.A (letOwnedTupleGo tg (.ref it) u) (fun _ s2=>∃y H',Inv X p_ σ H' s2∧RelV y u∧(Its x).Z2 i H y H'∧s2.heap.IsStrIter it (strIterType x) x t (i+1)∧∀b∈[it],H' b=none) E {s with heap:=h',toks:=s.toks+1}:=fun h' st' sb=>by
      have I1:Inv X p_ σ H {s with heap:=h',toks:=s.toks+1}:=I.turned (fun b o hb e=>(sb.2 b hb).trans e) f0 f1 f3 f4 f5;refine⟨_,rfl,?_⟩;have res:∃y H',Inv X p_ σ H' {s with heap:=h',toks:=s.toks+1}∧RelV y (Value.str ⟨#[x.cps[i]'hg]⟩ s.toks)∧(Its x).Z2 i H y H'∧h'.IsStrIter it (strIterType x) x t (i+1)∧∀b∈[it],H' b=none:=
        ⟨.str ⟨#[x.cps[i]'hg]⟩,H,I1,⟨_,rfl⟩,⟨rfl,_,hx,rfl⟩,st',fun b hb=>(hf b hb).1⟩
      unfold letOwnedTupleGo;cases tg <;> exact wpAny_pure res
    by_cases ha:x.cps.all (· < 128)=true
    · have ey:strIterType x = "str_ascii_iterator" :=by unfold strIterType;rw[if_pos ha]
      rw[ey] at st;exact wpAny_pyNext_ascii_item st hx fun h' st' sb=>fin h' (by rw[ey];exact st') sb
    · have ey:strIterType x = "str_iterator" :=by unfold strIterType;rw[if_neg ha]
      rw[ey] at st;exact wpAny_pyNext_wide_item st hx fun h' st' sb=>fin h' (by rw[ey];exact st') sb
  done:=by
    intro X hP hw hK hc i p_ s σ H E I hf st hg;subst hP hw hK;obtain⟨f0,f1,f2,f3,f4,f5⟩:=hf it (by simp);have hx:x.cps[i]? = none:=Array.getElem?_eq_none hg
    by_cases ha:x.cps.all (· < 128)=true
    · have ey:strIterType x = "str_ascii_iterator" :=by unfold strIterType;rw[if_pos ha]
      rw[ey] at st;exact wpAny_pyNext_ascii_end (I.ok.hd hc) st hx fun h' eb=>⟨rfl,I.turned (t':=s.toks) (fun b o hb e=>eb b o hb e) f0 f1 f3 f4 f5⟩
    · have ey:strIterType x = "str_iterator" :=by unfold strIterType;rw[if_neg ha]
      rw[ey] at st;exact wpAny_pyNext_wide_end (I.ok.hd hc) st hx fun h' eb=>⟨rfl,I.turned (t':=s.toks) (fun b o hb e=>eb b o hb e) f0 f1 f3 f4 f5⟩
  self:=fun A i s Q E st h=>by
    by_cases ha:x.cps.all (· < 128)=true
    · have ey:strIterType x = "str_ascii_iterator" :=by unfold strIterType;rw[if_pos ha]
      rw[ey] at st;exact wpAny_pyIter_striter_ascii st h
    · have ey:strIterType x = "str_iterator" :=by unfold strIterType;rw[if_neg ha]
      rw[ey] at st;exact wpAny_pyIter_striter_wide st h
section
variable {X:Cx} {tg:Expr}
def qfk (tl:TE):TI:=fun σ H R=>tl σ H fun x H1=>∃z,x = .str z∧R (Its z) H1
theorem qfl {l:Expr} {tl:TE} (hl:PE X l tl):PI X tg l (qfk tl):=by
  intro p_ s σ H R I h;refine cU (hl p_ s σ H _ I h) fun v s1 zz=>?_;obtain⟨x,H1,I1,r1,q1⟩:=zz;obtain⟨z,e,q⟩:=q1;subst e;obtain⟨t,rfl⟩:=r1;refine wpAny_pyIter_strU ?_;refine⟨s1.heap.objs.size,[s1.heap.objs.size],_,_,H1,rfl,I1.kept (t':=s1.toks) fun b o e=>Heap.get?_push_of_some _ e,qaq z t _,⟨_,Heap.get?_push_size _ rfl,rfl,rfl⟩,fun b hb=>?_,q⟩;have e:b=s1.heap.objs.size:=by simpa using hb
  subst e;exact I1.Ij (Nat.le_refl _) (I1.hok.fresh (Nat.le_refl _))
end
def ZK (K:W.Frag) (a b:Addr):It:=
  ⟨fun i H=>∃xs ys x y,bC K H a xs∧bC K H b ys∧xs[i]? = some x∧ys[i]? = some y,
   fun i H v H'=>∃t x y,v = .ref t∧H t=none∧H'=upd H t (.tup [x,y])∧(∀xs,bC K H a xs→xs[i]? = some x)∧∀ys,bC K H b ys→ys[i]? = some y,
   fun i H=>∃xs ys,bC K H a xs∧bC K H b ys∧(xs.length≤i∨ys.length≤i)⟩
structure Wu (z TI TO i1 i2 a b:Addr) (i:Nat) (h:Heap):Prop where
  hz:IsZip h z TI TO .none
  hI:IsPair h TI (.ref i1) (.ref i2)
  hO:∃p q,IsPair h TO p q
  h1:h.IsListIter i1 a i
  h2:h.IsListIter i2 b i
theorem bK {h:Heap} {a b:Addr} {o u:Obj} {T U:String} (ha:h.get? a=some o) (hb:h.get? b=some u) (ca:o.cls = .type T) (cb:u.cls = .type U) (hne:T≠U):a≠b:=fun e=>by
  subst e;rw[ha] at hb;cases hb;rw[ca] at cb;injection cb with e2;exact hne e2
theorem qar {P:Program} {w:World} {K:W.Frag} {es:List Expr} {k:Nat} {pos:Pos} {z TI TO i1 i2 a b:Addr} (n12:i1≠i2) (nT:TI≠TO) :
    Turn P w K (.Tuple es k pos) (ZK K a b) [z,TI,TO,i1,i2] z (Wu z TI TO i1 i2 a b) where
  mem:=by simp
  obj:=fun i h st c hc=>by
    simp only[List.mem_cons,List.not_mem_nil,or_false] at hc
    rcases hc with rfl | rfl | rfl | rfl | rfl
    ·exact⟨_,st.hz,fun v e=>nomatch e⟩
    ·exact⟨_,st.hI,fun v e=>nomatch e⟩
    ·obtain⟨p,q,e⟩:=st.hO;exact⟨_,e,fun v e=>nomatch e⟩
    ·obtain⟨o,e,_,d⟩:=st.h1;exact⟨o,e,fun v y=>by rw[d] at y;cases y⟩
    ·obtain⟨o,e,_,d⟩:=st.h2;exact⟨o,e,fun v y=>by rw[d] at y;cases y⟩
  keep:=fun i h h' st kk=>by
    obtain⟨p,q,e⟩:=st.hO;exact⟨kk z (by simp) _ st.hz,kk TI (by simp) _ st.hI,⟨p,q,kk TO (by simp) _ e⟩,st.h1.at fun o e=>kk i1 (by simp) o e,st.h2.at fun o e=>kk i2 (by simp) o e⟩
  item:=by
    intro X hP hw hK hc i p_ s σ H E I hf st hg;subst hP hw hK;obtain⟨xs,ys,x,y,qa,qb,hx,hy⟩:=hg;obtain⟨its,rv,pl,hz1⟩:=I.list qa;obtain⟨its',rv',Rp,hz2⟩:=I.list qb;obtain⟨u,hu,ru⟩:=rv.get hx;obtain⟨u',hu',ru'⟩:=rv'.get hy;obtain⟨p,q,hTO⟩:=st.hO;obtain⟨oa,ea,ca,_⟩:=id pl.isList;obtain⟨ob,eb,cb,_⟩:=id Rp.isList;obtain⟨o1,e1,c1,_⟩:=id st.h1;obtain⟨o2,e2,c2,_⟩:=id st.h2;have D:ZipApart z TI TO i1 i2 a b:=
      ⟨bK st.hI st.hz rfl rfl (by decide),bK hTO st.hz rfl rfl (by decide),bK e1 st.hz c1 rfl (by decide),bK e2 st.hz c2 rfl (by decide),nT,bK st.hI e1 rfl c1 (by decide),bK st.hI e2 rfl c2 (by decide),
        bK hTO e1 rfl c1 (by decide),bK hTO e2 rfl c2 (by decide),n12,bK ea st.hz ca rfl (by decide),bK ea hTO ca rfl (by decide),bK ea e1 ca c1 (by decide),bK ea e2 ca c2 (by decide),
        bK eb st.hz cb rfl (by decide),bK eb hTO cb rfl (by decide),bK eb e1 cb c1 (by decide),bK eb e2 cb c2 (by decide)⟩
    refine wpAny_pyNext_zip_item D st.hz st.hI hTO st.h1 st.h2 pl.isList Rp.isList (x:=u) (y:=u') (by simpa using hu) (by simpa using hu') fun h' a1 a2 a3 a4 a5 a6 kk=>?_;refine⟨_,rfl,wpAny_letOwnedTupleGo_zip a1 fun h2 b1 sb=>?_⟩;have lt:∀{c o},s.heap.get? c=some o→s.heap.objs.size≠c:=fun e=>Nat.ne_of_gt (Heap.lt_size e);have hn:H s.heap.objs.size=none:=I.hok.fresh (Nat.le_refl _);have kk2:∀c o,c∉[z,TI,TO,i1,i2]→s.heap.get? c=some o→h2.get? c=some o:=fun c o hc e=>by
      simp only[List.mem_cons,List.not_mem_nil,or_false,not_or] at hc;exact(sb.2 c hc.1).trans (kk c o hc.1 hc.2.2.1 hc.2.2.2.1 hc.2.2.2.2 e)
    have I1:Inv X p_ σ H {s with heap:=h2,toks:=s.toks}:=I.tU kk2 hf;have Cq:IsPair h2 s.heap.objs.size u u':=sb.extBut _ _ (lt st.hz) a5;have I2:Inv X p_ σ (upd H s.heap.objs.size (.tup [x,y])) {s with heap:=h2,toks:=s.toks}:=by
      have hfr:H s.heap.objs.size=none:=hn;refine⟨I1.ok,I1.os,I1.bare,⟨I1.base.keep,I1.base.slot,fun c o e n hx=>?_,I1.base.there,fun c zs e=>?_,fun c o v e=>?_,fun c qs e=>?_⟩,I1.loc,I1.cell,?_,fun v c e=>?_,fun v hv=>?_,?_,I1.len⟩
      · rw[aM (fun e'=>?_)]
        ·exact I1.base.free c o e n hx
        ·exact absurd (Nat.lt_of_lt_of_le (Heap.lt_size e) I.sz) (by rw[e'];exact Nat.lt_irrefl _)
      ·have e':=I1.base.tups c zs e;rw[aM (aQ e' hfr)];exact e'
      ·have e':=I1.base.Ac c o v e;rw[aM (aQ e' hfr)];exact e'
      ·obtain⟨m,e'⟩:=I1.base.A_ c qs e;exact⟨m,by rw[aM (aQ e' hfr)];exact e'⟩
      ·rw[aM (Nat.ne_of_lt I.lt)];exact I1.free
      ·obtain⟨w',qc⟩:=I.cell v c e;rw[aM (Nat.ne_of_lt qc.lt)];exact I1.lN v c e
      ·obtain⟨f1,f2,f3⟩:=I1.pin v hv;refine⟨f1,?_,f3⟩;rw[aM (Nat.ne_of_lt (Heap.lt_size (I.pin v hv).1))];exact f2
      · intro c v e
        by_cases hcs:c=s.heap.objs.size
        ·subst hcs;rw[ak] at e;cases e;exact⟨by show 2≤sizeLine;rw[sizeLine_eq];decide,[u,u'],.cons ru (.cons ru' .nil),⟨_,Cq,rfl,0,rfl⟩⟩
        · rw[aM hcs] at e;refine(I1.hok c v e).stay (fun _ _ _ qq=>qq) (fun d qd=>?_) fun d zs qd=>?_
          ·rw[aM (aQ qd hfr)];exact qd
          ·rw[aM (aQ qd hfr)];exact qd
    refine⟨.ref s.heap.objs.size,_,I2,rfl,⟨s.heap.objs.size,x,y,rfl,hn,rfl,fun xs' q'=>by rw[I.rT q' qa];exact hx,fun ys' q'=>by rw[I.rT q' qb];exact hy⟩,?_,fun c hcm=>?_⟩
    ·exact⟨b1,sb.extBut _ _ D.TIz (kk _ _ D.TIz D.TITO D.TIi1 D.TIi2 st.hI),⟨_,_,sb.extBut _ _ D.TOz a2⟩,a3.extBut sb.extBut D.i1z,a4.extBut sb.extBut D.i2z⟩
    · have hne:c≠s.heap.objs.size:=by
        simp only[List.mem_cons,List.not_mem_nil,or_false] at hcm
        rcases hcm with rfl | rfl | rfl | rfl | rfl
        ·exact(lt st.hz).symm
        ·exact(lt st.hI).symm
        ·exact(lt hTO).symm
        ·exact(lt e1).symm
        ·exact(lt e2).symm
      rw[aM hne];exact(hf c hcm).1
  done:=by
    intro X hP hw hK hc i p_ s σ H E I hf st hg;subst hP hw hK;obtain⟨xs,ys,qa,qb,hl⟩:=hg;obtain⟨its,rv,pl,hz1⟩:=I.list qa;obtain⟨its',rv',Rp,hz2⟩:=I.list qb;obtain⟨p,q,hTO⟩:=st.hO;obtain⟨oa,ea,ca,_⟩:=id pl.isList;obtain⟨ob,eb,cb,_⟩:=id Rp.isList;obtain⟨o1,e1,c1,_⟩:=id st.h1;obtain⟨o2,e2,c2,_⟩:=id st.h2;have D:ZipApart z TI TO i1 i2 a b:=
      ⟨bK st.hI st.hz rfl rfl (by decide),bK hTO st.hz rfl rfl (by decide),bK e1 st.hz c1 rfl (by decide),bK e2 st.hz c2 rfl (by decide),nT,bK st.hI e1 rfl c1 (by decide),bK st.hI e2 rfl c2 (by decide),
        bK hTO e1 rfl c1 (by decide),bK hTO e2 rfl c2 (by decide),n12,bK ea st.hz ca rfl (by decide),bK ea hTO ca rfl (by decide),bK ea e1 ca c1 (by decide),bK ea e2 ca c2 (by decide),
        bK eb st.hz cb rfl (by decide),bK eb hTO cb rfl (by decide),bK eb e1 cb c1 (by decide),bK eb e2 cb c2 (by decide)⟩
    have l1:=rv.length;have l2:=rv'.length;refine wpAny_pyNext_zip_end (I.ok.hd hc) D st.hz st.hI hTO st.h1 st.h2 pl.isList Rp.isList ?_ fun h' kk=>⟨rfl,I.tU (t':=s.toks) (fun c o hcm e=>?_) hf⟩
    · rcases hl with hl | hl
      ·exact .inl (by simp;omega)
      ·exact .inr (by simp;omega)
    ·simp only[List.mem_cons,List.not_mem_nil,or_false,not_or] at hcm;exact kk c o hcm.1 hcm.2.2.1 hcm.2.2.2.1 hcm.2.2.2.2 e
  self:=fun _ _ _ _ _ st h=>wpAny_pyIter_zip st.hz h
section
variable {X:Cx}
def qcT (K:W.Frag) (t:TA):TI:=fun σ H R=>t σ H fun vs H1=>∃a b xs ys,vs=[.ref a,.ref b]∧bC K H1 a xs∧bC K H1 b ys∧R (ZK K a b) H1
theorem boot_zip:bootBuiltins "zip" = some (.type "zip"):=by decide+kernel
theorem qfm {es:List Expr} {k:Nat} {pos':Pos} {a b:Expr} {ta:TA} {p pos:Pos} (hg:Gl X "zip") (hm:X.mg "zip" = none) (ha:PA X [a,b] ta)
    (hs:starEach [a,b] X.env=[(false,eval a X.env),(false,eval b X.env)]:=by rfl) (hs2:starEach [b] X.env=[(false,eval b X.env)]:=by rfl) :
    PI X (.Tuple es k pos') (.Call (.Name "zip" p) [a,b] [] pos) (qcT X.K ta):=by
  intro p_ s σ H R I h;refine Call_ (rR I hg hm boot_zip (PyProof.Rows.callWith_type1 (cU (ha pos p_ s σ H _ I h) fun us s1 zz=>?_) (by rw[hs,hs2]) (by rw[hs2];rfl)));obtain⟨vs,H1,I1,r1,q1⟩:=zz;obtain⟨l1,l2,xs,ys,e,qa,qb,q⟩:=q1;subst e;obtain⟨u,v,rfl,r,r'⟩:=r1.two;obtain rfl:u=Value.ref l1:=r;obtain rfl:v=Value.ref l2:=r';obtain⟨its,rv,pl,hz1⟩:=I1.list qa;obtain⟨its',rv',Rp,hz2⟩:=I1.list qb;refine call_zip_2 pl.isList Rp.isList fun h' b1 b2 b3 b4 b5 b6 kk=>?_;refine wpAny_pyIter_zip (s:={s1 with heap:=h'}) b1 ?_;have I2:Inv X p_ σ H1 {s1 with heap:=h'}:=I1.kept (t':=s1.toks) kk;refine⟨s1.heap.objs.size+4,[s1.heap.objs.size+4,s1.heap.objs.size+2,s1.heap.objs.size+3,s1.heap.objs.size,s1.heap.objs.size+1],_,_,H1,rfl,I2,qar (Nat.ne_of_lt (Nat.lt_succ_self _)) (Nat.ne_of_lt (Nat.lt_succ_self (s1.heap.objs.size+2))),⟨b1,b2,⟨_,_,b3⟩,b4,b5⟩,fun c hc=>?_,q⟩;have hle:s1.heap.objs.size≤c:=by
    simp only[List.mem_cons,List.not_mem_nil,or_false] at hc
    rcases hc with rfl | rfl | rfl | rfl | rfl <;> first | exact Nat.le_add_right _ _ | exact Nat.le_refl _
  exact I1.Ij hle (I1.hok.fresh hle)
end
section
variable {X:Cx} {p_:List (Addr×Obj)} {σ:St} {H:Hp} {s:Shared}
theorem qw.kit {x:V} {u t:Value} (I:Inv X p_ σ H s) (rx:RelV x u) (ty:qw X.K H x t):∃Φ,W.KitX X.K u t Φ∧Φ s.heap∧u≠.builtin "__main__.__loader__#opaque" :=by
  cases ty with
  | non=>cases (show u=Value.none from rx);exact⟨_,W.kitx_none,True.intro,fun z=>nomatch z⟩
  | bl y=>cases (show u=Value.bool y from rx);exact⟨_,W.kitx_bool,True.intro,fun z=>nomatch z⟩
  | int i=>obtain⟨t,q⟩:=(show ∃t,u=Value.int i t from rx);cases q;exact⟨_,W.kitx_int,True.intro,fun z=>nomatch z⟩
  | str y=>obtain⟨t,q⟩:=(show ∃t,u=Value.str y t from rx);cases q;exact⟨_,W.kitx_str,True.intro,fun z=>nomatch z⟩
  | flt y=>obtain⟨t,q⟩:=(show ∃t,u=Value.float y t from rx);cases q;exact⟨_,W.kitx_float,True.intro,fun z=>nomatch z⟩
  | @lst a xs ea=>
    cases (show u=Value.ref a from rx);obtain⟨_,_,n,_,h1⟩:=(show dj X.prog X.w H s.heap a (.lst xs) from I.hok a _ ea);exact⟨_,W.kitx_list,⟨_,h1,rfl⟩,fun z=>nomatch z⟩
  | @Q9 a ob xs ea=>
    cases (show u=Value.ref a from rx);obtain⟨_,_,_,n,_,h1⟩:=(show dj X.prog X.w H s.heap a (.Q9 ob (.lst xs)) from I.hok a _ ea);exact⟨_,W.kitx_list,⟨_,h1,rfl⟩,fun z=>nomatch z⟩
  | @tup a xs ea=>
    cases (show u=Value.ref a from rx);obtain⟨_,_,_,p⟩:=(show dj X.prog X.w H s.heap a (.tup xs) from I.hok a _ ea);obtain⟨o,h1,h2,_⟩:=p;exact⟨_,W.kitx_tuple,⟨o,h1,h2⟩,fun z=>nomatch z⟩
  | @dK a kvs ea=>
    cases (show u=Value.ref a from rx);obtain⟨_,_,vs,_,p⟩:=(show dj X.prog X.w H s.heap a (.dK kvs) from I.hok a _ ea);obtain⟨o,es,ep,h1,h2,_⟩:=p;exact⟨_,W.kitx_dict,⟨o,h1,h2.1⟩,fun z=>nomatch z⟩
  | @dT a kvs ea=>
    cases (show u=Value.ref a from rx);obtain⟨_,_,xs,_,o,es,ep,h1,h2,_⟩:=(show dj X.prog X.w H s.heap a (.dT kvs) from I.hok a _ ea);exact⟨_,W.kitx_dict,⟨o,h1,h2.1⟩,fun z=>nomatch z⟩
  | @ins a C dx fs ea cl ha hn htk hm=>
    cases (show u=Value.ref a from rx);obtain⟨mA,O,_⟩:=Ci I.hok ea;obtain⟨od,J,_⟩:=O.look;exact⟨_,W.kitx_own (cl.get _) cl.hd ha hn htk hm,J,fun z=>nomatch z⟩
theorem Yg:cN X (.builtin "isinstance") (fun xs H Q=>∃x n t b,xs=[x,.ty n]∧qw X.K H x t∧W.kitOne X.K t (.type n)=some b∧Q (.bl b) H):=by
  intro p_ s σ H xs us Q I r h;obtain⟨x,n,t,b,rfl,ty,e,q⟩:=h;obtain⟨u,v,rfl,rx,rc⟩:=r.two;obtain rfl:v=Value.type n:=rc;exact X4 I rx ty e fun tk=>⟨.bl b,H,I.tok tk,rfl,q⟩
theorem Yh:cN X (.builtin "isinstance") (fun xs H Q=>∃x p m n t b,xs=[x,.ref p]∧H p=some (.tup [.ty m,.ty n])∧qw X.K H x t∧W.kitAny X.K t [.type m,.type n]=some b∧Q (.bl b) H):=by
  intro p_ s σ H xs us Q I r h;obtain⟨x,p,m,n,t,b,rfl,hp,ty,e,q⟩:=h;obtain⟨u,v,rfl,rx,rc⟩:=r.two;obtain rfl:v=Value.ref p:=rc;obtain⟨Φ,Z,hΦ,hne⟩:=ty.kit I rx;obtain⟨_,its,rv,o,e1,e2,k,e3⟩:=(show dj X.prog X.w H s.heap p (.tup [.ty m,.ty n]) from I.hok p _ hp);obtain⟨u1,u2,rfl,r1,r2⟩:=rv.two;obtain rfl:u1=Value.type m:=r1;obtain rfl:u2=Value.type n:=r2;obtain⟨c,dd,dt,sl⟩:=o;replace e2:c = .type "tuple" :=e2;replace e3:dt = .seq [Value.type m,Value.type n].toArray k:=e3;subst e2 e3;exact W.kia_tup Z I.Ad hΦ e1 e hne fun tk=>⟨.bl b,H,I.tok tk,rfl,q⟩
theorem boot_isinstance:bootBuiltins "isinstance" = some (.builtin "isinstance"):=by decide+kernel
theorem boot_str:bootBuiltins "str" = some (.type "str"):=by decide+kernel
theorem boot_list:bootBuiltins "list" = some (.type "list"):=by decide+kernel
theorem boot_tuple:bootBuiltins "tuple" = some (.type "tuple"):=by decide+kernel
theorem jB:bootBuiltins "int" = some (.type "int"):=by decide+kernel
theorem Uv:bootBuiltins "bool" = some (.type "bool"):=by decide+kernel
theorem Uw:bootBuiltins "dict" = some (.type "dict"):=by decide+kernel
theorem MJ:bootBuiltins "set" = some (.type "set"):=by decide+kernel
end
mutual
def Is (K:W.Frag) (H:Hp):PyData→V→Prop
  | .none,v=>v = .non
  | .bool b,v=>v = .bl b
  | .int i,v=>v = .int i
  | .str x,v=>v = .str x
  | .list ds,v=>∃a xs,v = .ref a∧bC K H a xs∧yc K H ds xs
  | .tuple ds,v=>∃a xs,v = .ref a∧gq K H a xs∧yc K H ds xs
  | .dict _,_=>False
def yc (K:W.Frag) (H:Hp):List PyData→List V→Prop
  | [],vs=>vs=[]
  | d::ds,vs=>∃v r,vs=v::r∧Is K H d v∧yc K H ds r
end
section
variable {X:Cx} {p_:List (Addr×Obj)} {σ:St} {H:Hp} {s:Shared}
mutual
theorem Is.reads (I:Inv X p_ σ H s):∀(d:PyData) (v:V) (u:Value),Is X.K H d v→RelV v u→∃as,Reads s.heap u d as
  | .none,v,u,h,r=>by
    simp only[Is] at h;subst h;cases r;exact⟨_,.none⟩
  | .bool b,v,u,h,r=>by
    simp only[Is] at h;subst h;cases r;exact⟨_,.bool b⟩
  | .int i,v,u,h,r=>by
    simp only[Is] at h;subst h;obtain⟨t,rfl⟩:=r;exact⟨_,.int i t⟩
  | .str x,v,u,h,r=>by
    simp only[Is] at h;subst h;obtain⟨t,rfl⟩:=r;exact⟨_,.str x t⟩
  | .list ds,v,u,h,r=>by
    simp only[Is] at h;obtain⟨a,xs,rfl,hq,hs⟩:=h;cases r;obtain⟨its,rv,pl,hz⟩:=I.list hq;obtain⟨o,e,c,n,dt⟩:=pl.isList;obtain⟨as,ra⟩:=yc.reads I ds xs its hs rv;exact⟨_,.list e c dt (by simpa using ra)⟩
  | .tuple ds,v,u,h,r=>by
    simp only[Is] at h;obtain⟨a,xs,rfl,hq,hs⟩:=h;cases r;obtain⟨its,rv,pl,hz⟩:=I.tuple hq;obtain⟨o,e,c,n,dt⟩:=pl;obtain⟨as,ra⟩:=yc.reads I ds xs its hs rv;exact⟨_,.tuple e c dt (by simpa using ra)⟩
  | .dict _,v,u,h,r=>by
    simp only[Is] at h
theorem yc.reads (I:Inv X p_ σ H s):∀(ds:List PyData) (vs:List V) (us:List Value),yc X.K H ds vs→Vals vs us→∃as,ReadsAll s.heap us ds as
  | [],vs,us,h,r=>by
    simp only[yc] at h;subst h;cases r;exact⟨_,.nil⟩
  | d::ds,vs,us,h,r=>by
    simp only[yc] at h;obtain⟨v,vr,rfl,h1,h2⟩:=h;cases r with
    | cons r1 r2=>
      obtain⟨as,ra⟩:=Is.reads I d v _ h1 r1;obtain⟨bs,rb⟩:=yc.reads I ds vr _ h2 r2;exact⟨_,.cons ra rb⟩
end
theorem qfn:iU X (compareOp .NotEq) (fun x y H Q=>∃d e,Is X.K H d x∧Is X.K H e y∧d.canLay0=true∧e.canLay0=true∧X.A.units+min d.depth e.depth<cLine∧Q (.bl (!PyData.eqv d e)) H):=by
  intro p_ s σ H x y v u Q I rx ry h;obtain⟨d,e,hx,hy,h1,h2,hu,q⟩:=h;obtain⟨as,ra⟩:=hx.reads I d x v rx;obtain⟨bs,rb⟩:=hy.reads I e y u ry;exact SeqAt.compareNe_reads ra rb h1 h2 hu ⟨.bl _,H,I,rfl,q⟩
end
section
variable {X:Cx}
def O4:V→List V→Hp→VK→Prop:=fun x vs H Q=>∃l xs i y,x = .ref l∧vs=[.int i,y]∧H l=some (.lst xs)∧0≤i∧i≤xs.length∧xs.length<sizeLine∧Q .non (upd H l (.lst (xs.take i.toNat++y::xs.drop i.toNat)))
theorem Vals.ins {y:V} {u:Value} (ru:RelV y u):∀{xs:List V} {us:List Value} (i:Nat),Vals xs us→Vals (xs.take i++y::xs.drop i) (us.take i++u::us.drop i):=fun i r=>(r.take i).append (.cons ru (r.drop i))
theorem Yi:MtM X "list.insert" O4:=by
  intro p_ s σ H x vs v us Q I rx rv h;obtain⟨l,xs,i,y,rfl,rfl,hH,h0,hi,hz,q⟩:=h;cases rx;obtain⟨u1,u,rfl,⟨t,rfl⟩,ru⟩:=rv.two;obtain⟨z,its,n,r,hl,e⟩:=I.Yc hH;have hn:=Bb;have hfit:¬(!Builtin.List.listFitsIndex i)=true:=by
    unfold Builtin.List.listFitsIndex;simp;omega
  refine call_meets F.slot_list_insert ⟨_,e,rfl⟩ F.entry_list_insert (F.args_list_insert_3 _ _ _) (PySem.AutoListH.list_insert_list_int_val_1 l its.toArray n i t u hfit (by rw[List.size_toArray];omega)) ⟨e,?_⟩;refine⟨.non,_,I.qg0 (its':=its.take i.toNat++u::its.drop i.toNat) hH e ?_ (r.ins ru i.toNat) ?_,rfl,q⟩
  · have hm:min i.toNat its.length=i.toNat:=by omega
    simp only[List.size_toArray];rw[if_neg (by omega),hm];apply Array.toList_inj.mp;simp;exact List.take_of_length_le (by simp)
  ·simp;omega
end
section
variable {X:Cx}
def yd:List V→List Bool→Prop
  | [],bs=>bs=[]
  | x::xs,bs=>∃b r,bs=b::r∧x = .bl b∧yd xs r
theorem yd.get:∀{xs:List V} {bs:List Bool} {its:List Value},yd xs bs→Vals xs its→xs.length=bs.length∧∀(i:Nat) (v:Value),its[i]? = some v→v = .bool (bs.getD i false)
  | [],bs,its,h,r=>by
    cases h;cases r;exact⟨rfl,fun i v e=>by simp at e⟩
  | x::xs,bs,its,h,r=>by
    obtain⟨b,br,rfl,rfl,h⟩:=h;cases r with
    | cons r1 r2=>
      obtain⟨h1,h2⟩:=yd.get h r2;refine⟨by simp[h1],fun i v e=>?_⟩;cases i with
      | zero=>
        simp at e;subst e;exact r1
      | succ i=>
        simp at e;simpa using h2 i v e
theorem range_all (bs:List Bool):(List.range bs.length).all (fun i=>bs.getD i false)=bs.all id:=by
  rw[Bool.eq_iff_iff,List.all_eq_true,List.all_eq_true];constructor
  ·intro h b hb;obtain⟨i,hi,rfl⟩:=List.mem_iff_getElem.mp hb;have:=h i (List.mem_range.mpr hi);simpa [List.getD,hi] using this
  ·intro h i hi;have hi':=List.mem_range.mp hi;have:=h bs[i] (List.getElem_mem hi');simpa [List.getD,hi'] using this
theorem Yj (hc:X.calm=true):cN X (.builtin "all") (fun xs H Q=>∃a ys bs,xs=[.ref a]∧H a=some (.lst ys)∧yd ys bs∧Q (.bl (bs.all id)) H):=by
  intro p_ s σ H xs us Q I r h;obtain⟨a,ys,bs,rfl,ha,hb,q⟩:=h;obtain⟨u,rfl,ru⟩:=r.one;obtain rfl:u=Value.ref a:=ru;obtain⟨z,its,n,rv,hl,e⟩:=I.Yc ha;obtain⟨h1,h2⟩:=hb.get rv;have hL:s.heap.IsList a its.toArray:=⟨_,e,rfl,n,rfl⟩;refine call_all_walk ?_;refine wpAny_pyIter_list hL ?_;have hne:a≠s.heap.objs.size:=Nat.ne_of_lt (Heap.lt_size e);have hL2:(s.heap.push {cls:=.type "list_iterator",data:=.fields #[.ref a,.int 0 0]}).IsList a its.toArray:=⟨_,Heap.get?_push_of_some _ e,rfl,n,rfl⟩;refine⟨s.heap.objs.size,_,_,_,_,_,fun i=>bs.getD i false,rfl,Walks.list (by exact I.ok.hd hc) s.heap.objs.size a hne its.toArray,⟨⟨_,Heap.get?_push_size _ rfl,rfl,rfl⟩,hL2⟩,fun i v s' Q' E' hP hQ=>?_,fun h' tk kk=>?_⟩
  ·obtain rfl:=h2 i v (by simpa using hP);exact wpAny_truthy_bool hQ
  · have e2:(List.range its.toArray.size).all (fun i=>bs.getD i false)=bs.all id:=by
      rw[List.size_toArray,← hl,h1];exact range_all bs
    rw[e2];refine⟨.bl _,H,?_,rfl,q⟩;exact I.kept (h':=h') (t':=tk) fun b o eb=>kk b o (by simp;exact Nat.ne_of_lt (Heap.lt_size eb)) (Heap.get?_push_of_some _ eb)
end
def O5 (l:List Key) (k:Key):Bool:=l.any fun x=>decide (x=k)
theorem qas {l:List Key} {k:Key}:O5 l k=true↔k∈l:=by
  unfold O5;rw[List.any_eq_true];constructor
  ·rintro⟨x,hx,e⟩;have e':=of_decide_eq_true e;subst e';exact hx
  ·intro h;exact⟨k,h,decide_eq_true rfl⟩
theorem qat (l:List Key) (x k:Key):O5 (l++[x]) k=(O5 l k || decide (k=x)):=by
  unfold O5;rw[List.any_append];simp only[List.any_cons,List.any_nil,Bool.or_false];congr 1;exact decide_eq_decide.mpr ⟨fun e=>e.symm,fun e=>e.symm⟩
def Em (acc:List Key) (k:Key):List Key:=if O5 acc k=true then acc else acc++[k]
def K_ (val:Nat→Key) (i:Nat):List Key:=((List.range i).map val).foldl Em []
theorem Cr (val:Nat→Key) (i:Nat):K_ val (i+1)=Em (K_ val i) (val i):=by
  unfold K_;rw[List.range_succ,List.map_append,List.foldl_append];rfl
theorem qau (val:Nat→Key):∀i,(K_ val i).length≤i
  | 0=>Nat.le_refl _
  | i+1=>by
    rw[Cr];have ih:=qau val i;unfold Em;split
    ·omega
    ·rw[List.length_append,List.length_singleton];omega
theorem Ux (val:Nat→Key):∀n,(∀i j,i<n→j<n→val i=val j→i=j)→(K_ val n).length=n∧∀k,k∈K_ val n→∃i,i<n∧val i=k
  | 0,_=>⟨rfl,fun k h=>by simp[K_] at h⟩
  | n+1,h=>by
    obtain⟨h1,h2⟩:=Ux val n fun i j hi hj=>h i j (by omega) (by omega);have hnot:¬O5 (K_ val n) (val n)=true:=fun hm=>by
      obtain⟨i,hi,e⟩:=h2 _ (qas.mp hm);have:=h i n (by omega) (by omega) e;omega
    rw[Cr];unfold Em;rw[if_neg hnot];refine⟨by simp[h1],fun k hk=>?_⟩
    rcases List.mem_append.mp hk with z | z
    ·obtain⟨i,hi,e⟩:=h2 k z;exact⟨i,by omega,e⟩
    ·exact⟨n,by omega,(List.mem_singleton.mp z).symm⟩
theorem qcU {k:Key} {v:Value} (h:xg k v=true):v.scannable=true:=by
  rcases dI h with⟨i,t,rfl,rfl⟩ | ⟨x,t,rfl,rfl⟩ <;> rfl
theorem Rq {P:Program} {w:World} {h:Heap} {a:Addr} {S S':Key→Bool} {n n':Nat} (x:h.SetOf (bR P w) a S n) (e:∀k,S k=S' k) (en:n=n'):h.SetOf (bR P w) a S' n':=by
  have:S=S':=funext e;subst this;subst en;exact x
abbrev tV (P:Program) (w:World) (h:Heap) (a:Addr) (l:List Key):Prop:=h.SetOf (bR P w) a (O5 l) l.length
theorem tV.at {P:Program} {w:World} {h h':Heap} {a:Addr} {l:List Key} (x:tV P w h a l) (k:∀o,h.get? a=some o→h'.get? a=some o):tV P w h' a l:=by
  obtain⟨o,es,ep,t,e,r⟩:=x;exact⟨o,es,ep,t,k o e,r⟩
theorem MK {P:Program} {w:World} {h:Heap} {a:Addr} {led:Bool} (e:h.get? a=some {cls:=.type "set",dict:=none,data:=.set #[] 0 (.fresh 0 0 led)}):tV P w h a []:=
  ⟨_,#[],0,.fresh 0 0 led,e,⟨rfl,rfl,rfl⟩,rfl,(fun x hx=>by simp at hx),(fun k=>by simp[O5]),(by unfold scanBound;decide),(by cases led <;> rfl),rfl⟩
section
variable {P:Program} {w:World} {A:Around} {R:Result→Shared→Prop} {I:Addr} {fp wr:List Addr} {n:Nat} {PP:Nat→Value→Prop} {St:Nat→Heap→Prop}
theorem Rr (qp:Walks P w A.in1 I fp wr n PP St) (S:Addr) (hSf:S∉fp) (val:Nat→Key) (hval:∀i v,PP i v→xg (val i) v=true) (hb:n+1<scanBound) :
    ∀(k i:Nat) (s:Shared),n - i=k→i≤n→St i s.heap→tV P w s.heap S (K_ val i)→
      (∀h' tk,(∀b o,b≠S→b∉wr→s.heap.get? b=some o→h'.get? b=some o)→tV P w h' S (K_ val n)→R (.ok (.ret .none)) {s with heap:=h',toks:=tk})→
      codeAny (model P w) A (.builtin "set.update.loop" ⟨[.ref S,.ref I],[]⟩) R s:=by
  have hSw:S∉wr:=fun h=>hSf (qp.sub _ h);intro k
  induction k with
  | zero=>
    intro i s hk hi hst hS hR;obtain rfl:i=n:=by omega
    refine codeAny_builtin PyProof.Rows.F.entry_set_update_loop ?_;rw[Around.under_plainId PyProof.Rows.F.plain_set_update_loop _];show wpAny _ A.in1 (pyNext (.ref I) >>= _) _ _ s;refine wpAny_bind (qp.done s _ _ hst fun h' tk hm=>?_);exact wpAny_pure (hR h' tk (fun b o _ hb e=>hm b o hb e) (hS.at fun o e=>hm S o hSw e))
  | succ k ih=>
    intro i s hk hi hst hS hR;have hlt:i<n:=by omega
    refine codeAny_builtin PyProof.Rows.F.entry_set_update_loop ?_;rw[Around.under_plainId PyProof.Rows.F.plain_set_update_loop _];show wpAny _ A.in1 (pyNext (.ref I) >>= _) _ _ s;refine wpAny_bind (qp.item i s _ _ hlt hst fun v h' tk hP hst' hm=>?_);have hkey:(bR P w).is (val i) v=true:=hval i v hP;have hS':tV P w h' S (K_ val i):=hS.at fun o e=>hm S o hSw e;show wpAny _ A.in1 (holding [v] (setAdd S v) >>= _) _ _ _;refine wpAny_bind (wpAny_holding ?_);unfold setAdd;refine wpAny_holding (wpAny_bind ((bR P w).pyHash (k:=val i) hkey ?_));have hroom:(K_ val i).length+1<scanBound:=by have:=qau val i;omega
    refine wpAny_setAddHashed_of (knd:=bR P w) (s:={s with heap:=h',toks:=tk+1}) hkey (qcU (hval i v hP)) hS' hroom fun h2 hsb hS2=>?_;have hSi:tV P w h2 S (K_ val (i+1)):=by
      refine Rq hS2 (fun k'=>?_) ?_
      · rw[Cr];unfold Em;split
        · rename_i hm1
          by_cases e:k'=val i
          ·rw[e,hm1];rfl
          ·rw[decide_eq_false e,Bool.or_false]
        ·exact(qat _ _ _).symm
      · rw[Cr];unfold Em;split
        ·rfl
        ·rw[List.length_append,List.length_singleton]
    refine wpAny_pure ⟨plainId_quiet PyProof.Rows.F.plain_set_update_loop _,ih (i+1) _ (by omega) hlt (qp.frame _ h' _ hst' fun b hb o e=>?_) hSi fun h3 tk3 hm3 hS3=>?_⟩
    ·exact(hsb.2 b (fun z:b=S=>hSf (by rw[← z];exact hb))).trans e
    ·refine hR h3 tk3 (fun b o hbS hbw e=>hm3 b o hbS hbw ?_) hS3;exact(hsb.2 b hbS).trans (hm b o hbw e)
end
theorem Lh:isSubtype (.type "list") (.type "set")=pure false:=by rw[isSubtype_type];kernel_rfl
theorem En:isSubtype (.type "list") (.type "frozenset")=pure false:=by rw[isSubtype_type];kernel_rfl
set_option maxHeartbeats 4000000 in
theorem Rt {P:Program} {w:World} {A:Around} {E:Value→Shared→Prop} {s:Shared} {l:Addr} {its:Array Value} {val:Nat→Key} {Q:Value→Shared→Prop}
    (hh:A.handled=none) (hl:s.heap.IsList l its) (hval:∀i v,its[i]? = some v→xg (val i) v=true) (hb:its.size+1<scanBound)
    (h:∀(g:Heap) (tk:Nat),tV P w g s.heap.objs.size (K_ val its.size)→(∀b o,s.heap.get? b=some o→g.get? b=some o)→Q (.ref s.heap.objs.size) {s with heap:=g,toks:=tk}) :
    wpAny (model P w) A (call (.type "set") [.ref l]) Q E s:=by
  obtain⟨c,tl,hmro⟩:=PySem.F.called_set.mro;have q1:=PySem.F.called_set.made;have q2:=PySem.F.called_set.sub;refine wpAny_call (codeAny_of_tree ?_);show wpAny _ _ (callAny (.type "set") _) _ _ s;refine wpAny_pure ⟨Code.quiet_builtin _ (by decide+kernel),codeAny_builtin PySem.F.entry_type_call ?_⟩;rw[Around.under_plain (weight_type_call_type "set" [.ref l] []) rfl];have q3:=PySem.F.called_set.notType;have q4:=PySem.F.called_set.canCreate;have q5:=PySem.F.typeCall_set_1 (.ref l)
  repeat (any_goals (first | assumption | wp_step))
  refine codeAny_mono (code_set_new_1 (.ref l) (E:=E) (Q₁:=fun ob s1=>∃led:Bool,ob = .ref s.heap.objs.size∧s1={s with heap:=s.heap.push {cls:=.type "set",dict:=none,data:=.set #[] 0 (.fresh 0 0 led)}}) fun led=>⟨led,rfl,rfl⟩) fun r s1 hr=>?_;cases r with
  | error e=>exact hr
  | ok fl=>
    cases fl with
    | ret ob=>
      obtain⟨led,rfl,rfl⟩:=hr;have new:(s.heap.push {cls:=.type "set",dict:=none,data:=.set #[] 0 (.fresh 0 0 led)}).get? s.heap.objs.size=some {cls:=.type "set",dict:=none,data:=.set #[] 0 (.fresh 0 0 led)}:=Heap.get?_push_size _ rfl;have ty:Shared.TypeIs {s with heap:=s.heap.push {cls:=.type "set",dict:=none,data:=.set #[] 0 (.fresh 0 0 led)}} (.ref s.heap.objs.size) "set" :=⟨_,new,rfl⟩;have q6:=PySem.F.called_set.init.lookup;have q7:=PySem.F.called_set.init.bind (.ref s.heap.objs.size)
      repeat (any_goals (first | assumption | wp_step))
      refine codeAny_mono (codeAny_call_builtin (R:=wants (fun r s2=>r = .none∧∃g tk,s2={s with heap:=g,toks:=tk}∧tV P w g s.heap.objs.size (K_ val its.size)∧(∀b o,s.heap.get? b=some o→g.get? b=some o)) E)
        PySem.F.called_set.init.plain PySem.F.entry_set_init (check_set_init_1 ty ?_)) fun r2 s2 hr2=>?_
      · obtain⟨ol,ho,hcl,nl,hdl⟩:=hl;obtain⟨oc,od,odt,osl⟩:=ol;simp only at hcl hdl;subst hcl;subst hdl;have ho2:(s.heap.push {cls:=.type "set",dict:=none,data:=.set #[] 0 (.fresh 0 0 led)}).get? l=some {cls:=.type "list",dict:=od,data:=.seq its nl,slots:=osl}:=Heap.get?_push_of_some _ ho;have q8:=Lh;have q9:=En;have q10:(Value.type "list" == Value.type "dict")=false:=by decide
        have hl1:(s.heap.push {cls:=.type "set",dict:=none,data:=.set #[] 0 (.fresh 0 0 led)}).IsList l its:=⟨_,ho2,rfl,nl,rfl⟩;unfold Builtin.«set.__init__» noKeywords Builtin.Frozenset.updateFrom;generalize hPI:pyIter=PI
        wp_walk
        subst hPI;refine wpAny_pyIter_list hl1 ?_;refine wpAny_bind (wpAny_runValue ?_);have lt1:l<s.heap.objs.size:=Heap.lt_size ho;have hh3:A.in1.in1.in1.handled=none:=by simp[hh]
        have ne1:l≠(s.heap.push {cls:=.type "set",dict:=none,data:=.set #[] 0 (.fresh 0 0 led)}).objs.size:=by
          rw[Heap.size_push];exact Nat.ne_of_lt (Nat.lt_succ_of_lt lt1)
        have nf:s.heap.objs.size∉[(s.heap.push {cls:=.type "set",dict:=none,data:=.set #[] 0 (.fresh 0 0 led)}).objs.size,l]:=by
          rw[Heap.size_push];simp only[List.mem_cons,List.mem_singleton,List.not_mem_nil,or_false,not_or];exact⟨Nat.ne_of_lt (Nat.lt_succ_self _),Nat.ne_of_gt lt1⟩
        refine Rr (Walks.list hh3 _ l ne1 its) s.heap.objs.size nf val hval hb (its.size - 0) 0 _ (by omega) (Nat.zero_le _) ⟨⟨_,Heap.get?_push_size _ rfl,rfl,rfl⟩,hl1.push _⟩ ?hS0 ?hR
        case hS0=>
          have hget:((s.heap.push {cls:=.type "set",dict:=none,data:=.set #[] 0 (.fresh 0 0 led)}).push {cls:=.type "list_iterator",data:=.fields #[.ref l,.int 0 0]}).get? s.heap.objs.size
              = some {cls:=.type "set",dict:=none,data:=.set #[] 0 (.fresh 0 0 led)}:=Heap.get?_push_of_some _ new
          exact MK hget
        case hR=>
          intro g tk hm hS;show wpAny _ _ _ _ _ _;refine wpAny_pure ?_;show wpAny _ _ (ret Value.none) _ _ _;refine wpAny_pure ⟨rfl,g,tk,rfl,hS,fun b o e=>?_⟩;have lb:b<s.heap.objs.size:=Heap.lt_size e;refine hm b o (Nat.ne_of_lt lb) ?_ (Heap.get?_push_of_some _ (Heap.get?_push_of_some _ e));simp only[List.mem_cons,List.not_mem_nil,or_false];rw[Heap.size_push];exact Nat.ne_of_lt (Nat.lt_succ_of_lt lb)
      · cases r2 with
        | error e=>exact hr2
        | ok fl2=>
          cases fl2 with
          | ret r=>
            obtain⟨rfl,g,tk,rfl,hS,hk⟩:=hr2
            repeat (any_goals (first | assumption | wp_step))
            exact h _ _ hS hk
          | _=>exact hr2.elim
    | _=>exact hr.elim
theorem Ir:isSubtype (.type "tuple") (.type "set")=pure false:=by rw[isSubtype_type];kernel_rfl
theorem Cu:isSubtype (.type "tuple") (.type "frozenset")=pure false:=by rw[isSubtype_type];kernel_rfl
set_option maxHeartbeats 4000000 in
theorem O6 {P:Program} {w:World} {A:Around} {E:Value→Shared→Prop} {s:Shared} {l:Addr} {its:Array Value} {val:Nat→Key} {Q:Value→Shared→Prop}
    (hh:A.handled=none) (hl:s.heap.IsTuple l its) (hval:∀i v,its[i]? = some v→xg (val i) v=true) (hb:its.size+1<scanBound)
    (h:∀(g:Heap) (tk:Nat),tV P w g s.heap.objs.size (K_ val its.size)→(∀b o,s.heap.get? b=some o→g.get? b=some o)→Q (.ref s.heap.objs.size) {s with heap:=g,toks:=tk}) :
    wpAny (model P w) A (call (.type "set") [.ref l]) Q E s:=by
  obtain⟨c,tl,hmro⟩:=PySem.F.called_set.mro;have q1:=PySem.F.called_set.made;have q2:=PySem.F.called_set.sub;refine wpAny_call (codeAny_of_tree ?_);show wpAny _ _ (callAny (.type "set") _) _ _ s;refine wpAny_pure ⟨Code.quiet_builtin _ (by decide+kernel),codeAny_builtin PySem.F.entry_type_call ?_⟩;rw[Around.under_plain (weight_type_call_type "set" [.ref l] []) rfl];have q3:=PySem.F.called_set.notType;have q4:=PySem.F.called_set.canCreate;have q5:=PySem.F.typeCall_set_1 (.ref l)
  repeat (any_goals (first | assumption | wp_step))
  refine codeAny_mono (code_set_new_1 (.ref l) (E:=E) (Q₁:=fun ob s1=>∃led:Bool,ob = .ref s.heap.objs.size∧s1={s with heap:=s.heap.push {cls:=.type "set",dict:=none,data:=.set #[] 0 (.fresh 0 0 led)}}) fun led=>⟨led,rfl,rfl⟩) fun r s1 hr=>?_;cases r with
  | error e=>exact hr
  | ok fl=>
    cases fl with
    | ret ob=>
      obtain⟨led,rfl,rfl⟩:=hr;have new:(s.heap.push {cls:=.type "set",dict:=none,data:=.set #[] 0 (.fresh 0 0 led)}).get? s.heap.objs.size=some {cls:=.type "set",dict:=none,data:=.set #[] 0 (.fresh 0 0 led)}:=Heap.get?_push_size _ rfl;have ty:Shared.TypeIs {s with heap:=s.heap.push {cls:=.type "set",dict:=none,data:=.set #[] 0 (.fresh 0 0 led)}} (.ref s.heap.objs.size) "set" :=⟨_,new,rfl⟩;have q6:=PySem.F.called_set.init.lookup;have q7:=PySem.F.called_set.init.bind (.ref s.heap.objs.size)
      repeat (any_goals (first | assumption | wp_step))
      refine codeAny_mono (codeAny_call_builtin (R:=wants (fun r s2=>r = .none∧∃g tk,s2={s with heap:=g,toks:=tk}∧tV P w g s.heap.objs.size (K_ val its.size)∧(∀b o,s.heap.get? b=some o→g.get? b=some o)) E)
        PySem.F.called_set.init.plain PySem.F.entry_set_init (check_set_init_1 ty ?_)) fun r2 s2 hr2=>?_
      · obtain⟨ol,ho,hcl,nl,hdl⟩:=hl;obtain⟨oc,od,odt,osl⟩:=ol;simp only at hcl hdl;subst hcl;subst hdl;have ho2:(s.heap.push {cls:=.type "set",dict:=none,data:=.set #[] 0 (.fresh 0 0 led)}).get? l=some {cls:=.type "tuple",dict:=od,data:=.seq its nl,slots:=osl}:=Heap.get?_push_of_some _ ho;have q8:=Ir;have q9:=Cu;have q10:(Value.type "tuple" == Value.type "dict")=false:=by decide
        have hl1:(s.heap.push {cls:=.type "set",dict:=none,data:=.set #[] 0 (.fresh 0 0 led)}).IsTuple l its:=⟨_,ho2,rfl,nl,rfl⟩;unfold Builtin.«set.__init__» noKeywords Builtin.Frozenset.updateFrom;generalize hPI:pyIter=PI
        wp_walk
        subst hPI;refine wpAny_pyIter_tuple hl1 ?_;refine wpAny_bind (wpAny_runValue ?_);have lt1:l<s.heap.objs.size:=Heap.lt_size ho;have hh3:A.in1.in1.in1.handled=none:=by simp[hh]
        have ne1:l≠(s.heap.push {cls:=.type "set",dict:=none,data:=.set #[] 0 (.fresh 0 0 led)}).objs.size:=by
          rw[Heap.size_push];exact Nat.ne_of_lt (Nat.lt_succ_of_lt lt1)
        have nf:s.heap.objs.size∉[(s.heap.push {cls:=.type "set",dict:=none,data:=.set #[] 0 (.fresh 0 0 led)}).objs.size,l]:=by
          rw[Heap.size_push];simp only[List.mem_cons,List.mem_singleton,List.not_mem_nil,or_false,not_or];exact⟨Nat.ne_of_lt (Nat.lt_succ_self _),Nat.ne_of_gt lt1⟩
        refine Rr (Walks.tuple hh3 _ l ne1 its) s.heap.objs.size nf val hval hb (its.size - 0) 0 _ (by omega) (Nat.zero_le _) ⟨⟨_,Heap.get?_push_size _ rfl,rfl,rfl⟩,⟨_,Heap.get?_push_of_some _ ho2,rfl,nl,rfl⟩⟩ ?hS0 ?hR
        case hS0=>
          have hget:((s.heap.push {cls:=.type "set",dict:=none,data:=.set #[] 0 (.fresh 0 0 led)}).push {cls:=.type "tuple_iterator",data:=.fields #[.ref l,.int 0 0]}).get? s.heap.objs.size
              = some {cls:=.type "set",dict:=none,data:=.set #[] 0 (.fresh 0 0 led)}:=Heap.get?_push_of_some _ new
          exact MK hget
        case hR=>
          intro g tk hm hS;show wpAny _ _ _ _ _ _;refine wpAny_pure ?_;show wpAny _ _ (ret Value.none) _ _ _;refine wpAny_pure ⟨rfl,g,tk,rfl,hS,fun b o e=>?_⟩;have lb:b<s.heap.objs.size:=Heap.lt_size e;refine hm b o (Nat.ne_of_lt lb) ?_ (Heap.get?_push_of_some _ (Heap.get?_push_of_some _ e));simp only[List.mem_cons,List.not_mem_nil,or_false];rw[Heap.size_push];exact Nat.ne_of_lt (Nat.lt_succ_of_lt lb)
      · cases r2 with
        | error e=>exact hr2
        | ok fl2=>
          cases fl2 with
          | ret r=>
            obtain⟨rfl,g,tk,rfl,hS,hk⟩:=hr2
            repeat (any_goals (first | assumption | wp_step))
            exact h _ _ hS hk
          | _=>exact hr2.elim
    | _=>exact hr.elim
def qcV (P:Program) (w:World) (a:Addr) (l:List Key):HO:=.ext fun h=>tV P w h a l
section
variable {X:Cx}
def keysOf:List V→List Key
  | []=>[]
  | .int i::r=>.inl i::keysOf r
  | .str x::r=>.inr x::keysOf r
  | _::r=>keysOf r
def isKey:V→Bool
  | .int _=>true
  | .str _=>true
  | _=>false
theorem O7:∀{xs:List V} {its:List Value},xs.all isKey=true→Vals xs its→(keysOf xs).length=its.length∧∀(i:Nat) (v:Value),its[i]? = some v→xg ((keysOf xs).getD i (.inl 0)) v=true
  | [],_,_,.nil=>⟨rfl,fun i v e=>by simp at e⟩
  | x::xs,u::us,h,.cons r1 r2=>by
    rw[List.all_cons,Bool.and_eq_true] at h;obtain⟨h1,h2⟩:=O7 h.2 r2;cases x with
    | int i=>
      obtain⟨t,rfl⟩:=r1;refine⟨by simp[keysOf,h1],fun j v e=>?_⟩;cases j with
      | zero=>simp at e;subst e;exact Mf i t
      | succ j=>simp at e;simpa [keysOf] using h2 j v e
    | str z=>
      obtain⟨t,rfl⟩:=r1;refine⟨by simp[keysOf,h1],fun j v e=>?_⟩;cases j with
      | zero=>simp at e;subst e;exact Mg z t
      | succ j=>simp at e;simpa [keysOf] using h2 j v e
    | _=>exact absurd (show false=true from h.1) Bool.false_ne_true
theorem MN (hc:X.calm=true):cN X (.type "set") (fun xs H Q=>∃a ys,xs=[.ref a]∧(bC X.K H a ys∨gq X.K H a ys)∧ys.all isKey=true∧ys.length+1<scanBound∧
    ∀p,H p=none→Q (.ref p) (upd H p (qcV X.prog X.w p (K_ (fun i=>(keysOf ys).getD i (.inl 0)) ys.length)))):=by
  intro p_ s σ H xs us Q I r h;obtain⟨a,ys,rfl,hq,hk,hb,q⟩:=h;obtain⟨u,rfl,ru⟩:=r.one;obtain rfl:u=Value.ref a:=ru;have fin:∀(g:Heap) (tk:Nat),tV X.prog X.w g s.heap.objs.size (K_ (fun i=>(keysOf ys).getD i (.inl 0)) ys.length)→(∀b o,s.heap.get? b=some o→g.get? b=some o)→EP X p_ σ Q (.ref s.heap.objs.size) {s with heap:=g,toks:=tk}:=fun g tk hS kk=>by
    have hn:H s.heap.objs.size=none:=I.hok.fresh (Nat.le_refl _);refine⟨.ref s.heap.objs.size,_,I.laid (o:=qcV X.prog X.w s.heap.objs.size (K_ (fun i=>(keysOf ys).getD i (.inl 0)) ys.length)) (fun b o e=>kk b o e) (Nat.le_refl _) ⟨hS,?_,fun h1 h2 p k=>p.at k⟩,rfl,q _ hn⟩;obtain⟨o,_,_,_,e,_⟩:=hS;exact⟨o,e⟩
  rcases hq with hq | hq
  · obtain⟨its,rv,pl,hz⟩:=I.list hq;obtain⟨h1,h2⟩:=O7 hk rv;have hl:=rv.length;refine Rt (val:=fun i=>(keysOf ys).getD i (.inl 0)) (I.ok.hd hc) pl.isList (fun i v e=>h2 i v (by simpa using e)) (by rw[List.size_toArray];omega) fun g tk hS kk=>fin g tk ?_ kk;have ez:its.toArray.size=ys.length:=by rw[List.size_toArray,hl]
    rw[ez] at hS;exact hS
  · obtain⟨its,rv,pl,hz⟩:=I.tuple hq;obtain⟨h1,h2⟩:=O7 hk rv;have hl:=rv.length;refine O6 (val:=fun i=>(keysOf ys).getD i (.inl 0)) (I.ok.hd hc) (show s.heap.IsTuple a its.toArray from pl) (fun i v e=>h2 i v (by simpa using e)) (by rw[List.size_toArray];omega) fun g tk hS kk=>fin g tk ?_ kk;have ez:its.toArray.size=ys.length:=by rw[List.size_toArray,hl]
    rw[ez] at hS;exact hS
theorem MP:cN X (.builtin "len") (fun xs H Q=>∃a l,xs=[.ref a]∧H a=some (qcV X.prog X.w a l)∧Q (.int l.length) H):=by
  intro p_ s σ H xs us Q I r h;obtain⟨a,l,rfl,ha,q⟩:=h;obtain⟨u,rfl,ru⟩:=r.one;obtain rfl:u=Value.ref a:=ru;obtain⟨⟨o,es,ep,t,e,ex,hd,_,_,hsz,hf,hn⟩,_⟩:=(show dj X.prog X.w H s.heap a (qcV X.prog X.w a l) from I.hok a _ ha);refine call_len_set e ex hd hf (by unfold scanBound at hsz;omega) ⟨.int l.length,H,I.tok _,⟨_,by rw[hn]⟩,q⟩
end
section
variable {X:Cx}
def qg6:R2:=fun x y H Q=>∃i j,x = .str i∧y = .str j∧i.length+j.length≤sizeLine∧Q (.str (i++j)) H
def qke:R2:=fun x y H Q=>∃i j,x = .str i∧y = .str j∧Q (.bl (!(Builtin.Str.occurrences j i 0 j.length 1).isEmpty)) H
def qcW:R2:=fun x y H Q=>∃i j,x = .str i∧y = .str j∧Q (.bl (!(!(Builtin.Str.occurrences j i 0 j.length 1).isEmpty))) H
def qcX (K:W.Frag):R2:=fun x y H Q=>rIn K false x y H Q∨qke x y H Q
def O8 (K:W.Frag):R2:=fun x y H Q=>rIn K true x y H Q∨qcW x y H Q
theorem qfo:iU X (compareOp .In) (qcX X.K):=Yb.or XJ
theorem Yk:iU X (compareOp .NotIn) (O8 X.K):=Ov.or Ow
def qfp (K:W.Frag):R2:=fun x y H Q=>∃p xs i v,x = .ref p∧y = .int i∧(bC K H p xs∨gq K H p xs)∧Il xs i=some v∧Q v H
theorem ixQ:IxR X (qfp X.K):=by
  intro value slice p_ s σ H x y v u Q I rx ry h hs;obtain⟨p,xs,i,z,e1,e2,hq | hq,e3,q⟩:=h
  ·exact qcP value slice p_ s σ H x y v u Q I rx ry ⟨p,xs,i,z,e1,e2,hq,e3,q⟩ hs
  ·exact qfc value slice p_ s σ H x y v u Q I rx ry ⟨p,xs,i,z,e1,e2,hq,e3,q⟩ hs
def qd3 (K:W.Frag):List V→Hp→VK→Prop:=fun xs H Q=>∃p ys,xs=[.ref p]∧(bC K H p ys∨gq K H p ys)∧Q (.int ys.length) H
def qd4:List V→Hp→VK→Prop:=fun xs H Q=>∃z,xs=[.str z]∧z.length≤sizeLine∧Q (.int z.length) H
variable {K:W.Frag}
theorem qkf (hK:X.K=K):IxR X (qfp K):=by subst hK;exact ixQ
theorem inK (hK:X.K=K):iU X (compareOp .In) (qcX K):=by subst hK;exact qfo
theorem qfq (hK:X.K=K):iU X (compareOp .NotIn) (O8 K):=by subst hK;exact Yk
theorem qg7 (hK:X.K=K):cN X (.builtin "len") (qd3 K):=by subst hK;exact Ox
theorem qg8:cN X (.builtin "len") qd4:=Oz
def Wv (K:W.Frag):List V→Hp→VK→Prop:=fun xs H Q=>∃p ys,xs=[.ref p]∧(bC K H p ys∨gq K H p ys)∧∀l,H l=none→Q (.ref l) (upd H l (.lst ys))
theorem qcY (hK:X.K=K):cN X (.type "list") (Wv K):=by subst hK;exact OD
def qd5 (K:W.Frag):List V→Hp→VK→Prop:=fun xs H Q=>∃x n t b,xs=[x,.ty n]∧qw K H x t∧W.kitOne K t (.type n)=some b∧Q (.bl b) H
theorem qg9 (hK:X.K=K):cN X (.builtin "isinstance") (qd5 K):=by subst hK;exact Yg
def qd6 (K:W.Frag):List V→Hp→VK→Prop:=fun xs H Q=>∃x p m n t b,xs=[x,.ref p]∧H p=some (.tup [.ty m,.ty n])∧qw K H x t∧W.kitAny K t [.type m,.type n]=some b∧Q (.bl b) H
theorem qg_ (hK:X.K=K):cN X (.builtin "isinstance") (qd6 K):=by subst hK;exact Yh
theorem c7 (hK:X.K=K) {es:List Expr} {k:Nat} {pos:Pos} {t:Mj} {n:Nat} (hc:X.calm=true) (h:fB X es t)
    (hn:(assignEach es X.env).length=n:=by rfl) (hst:(assignEach es X.env).findIdx? (·.1)=none:=by rfl):PG X (.Tuple es k pos) (qcF K n t):=by subst hK;exact qeT hc h hn hst
theorem cQ (hK:X.K=K) {tg l:Expr} {tl:TE} (hl:PE X l tl):PI X tg l (Wi K tl):=by subst hK;exact qcG hl
theorem O9 (hK:X.K=K) {e:Expr} {ta:TE} {f:Str} {pos:Pos} (he:PE X e ta) (hb:attributeBase e f X.env (eval e X.env)=eval e X.env):PE X (.Attribute e f pos) (qcM K ta f):=by subst hK;exact qe_ he hb
theorem mD (hK:X.K=K) {o e:Expr} {es:List Expr} {to:TE} {t:TA} {name:Str} {apos cpos:Pos} {T id:String} {r:V→List V→Hp→VK→Prop} (pa:PlainAttrs T) (slot:Slot T name id) (hty:typeOf (.builtin id)=pure (.type "method_descriptor")) (hm:X8 X id r) (ho:PE X o to) (ha:PA X (e::es) t)
    (hbase:attributeBase o name X.env (eval o X.env)=eval o X.env:=by rfl)
    (hfew:((backTo cpos (starEach (e::es) X.env)).all (fun x=>!x.1) && (backToKw cpos (keywordEach [] X.env)).all (fun x=>x.1.isSome)
      && decide ((e::es).length+([]:List Keyword).length+(if ([]:List Keyword).isEmpty then 0 else 1)<30))=true:=by rfl)
    (hline:(apos.endLine == cpos.line)=true:=by rfl) (hs:starEach (e::es) X.env=(false,eval e X.env)::starEach es X.env:=by rfl) (hplain:(backTo cpos (starEach es X.env)).any (·.1)=false:=by rfl) :
    PE X (.Call (.Attribute o name apos) (e::es) [] cpos) (tBM K T r to t):=by subst hK;exact qgZ pa slot hty hm ho ha hbase hfew hline hs hplain
theorem nQ:bootBuiltins "all" = some (.builtin "all"):=by decide+kernel
theorem boot_max:bootBuiltins "max" = some (.builtin "max"):=by decide+kernel
theorem boot_min:bootBuiltins "min" = some (.builtin "min"):=by decide+kernel
theorem boot_abs:bootBuiltins "abs" = some (.builtin "abs"):=by decide+kernel
theorem boot_divmod:bootBuiltins "divmod" = some (.builtin "divmod"):=by decide+kernel
end
structure Nm (mg:Str→Option Value):Prop where
  len:mg "len" = none
  max:mg "max" = none
  min:mg "min" = none
  abs:mg "abs" = none
  divmod:mg "divmod" = none
  range:mg "range" = none
  zip:mg "zip" = none
  list:mg "list" = none
  tuple:mg "tuple" = none
  int:mg "int" = none
  str:mg "str" = none
  set:mg "set" = none
  all:mg "all" = none
  isinstance:mg "isinstance" = none
section
variable {K:W.Frag} {own:List Str} {caps:List Nat} {g:TG} {tt:TT} {te:TE} {D:Addr} {σ:St} {H:Hp} {Q:Hp→Prop}
abbrev M4 (g:TG) (tt:TT) (te:TE) (D:Addr) (N:St→Hp→Prop) (x:V) (σ:St) (H:Hp):Prop:=
  g x σ H fun σ2 H3=>tt σ2 H3 fun b H4=>if b=true then te σ2 H4 fun y H5=>∃ys,H5 D=some (.lst ys)∧ys.length<sizeLine∧N σ2 (upd H5 D (.lst (ys++[y]))) else N σ2 H4
theorem M5 {l:Addr} {xs:List V} (Pv:Nat→St→Hp→Prop) (h0:Pv 0 (stC own caps σ) H) (hl:∀i σ H,i≤xs.length→Pv i σ H→bC K H l xs)
    (hs:∀i x σ H,xs[i]? = some x→Pv i σ H→M4 g tt te D (Pv (i+1)) x σ H) (hd:∀σ H,Pv xs.length σ H→Q H):oR own caps (ZJ K l) g tt te D σ H Q:=by
  refine⟨fun i m σ H=>m=xs.length - i∧i≤xs.length∧Pv i σ H,⟨xs.length,by simp,Nat.zero_le _,h0⟩,?_⟩;rintro i m σ H ⟨rfl,hi,p⟩;have q:=hl i σ H hi p
  by_cases hlt:i<xs.length
  ·refine .inr ⟨⟨xs,xs[i],q,by simp[hlt]⟩,Pv (i+1),fun σ' H' p'=>⟨xs.length - (i+1),by omega,rfl,hlt,p'⟩,fun x H' y=>?_⟩;obtain⟨e,y⟩:=y;subst e;exact hs i x σ _ (y xs q) p
  · have e:i=xs.length:=by omega
    subst e;exact .inl ⟨⟨xs,q,Nat.le_refl _⟩,hd σ H p⟩
theorem qav {l:Addr} {xs:List V} (Pv:Nat→St→Hp→Prop) (h0:Pv 0 (stC own caps σ) H) (hl:∀i σ H,i≤xs.length→Pv i σ H→gq K H l xs)
    (hs:∀i x σ H,xs[i]? = some x→Pv i σ H→M4 g tt te D (Pv (i+1)) x σ H) (hd:∀σ H,Pv xs.length σ H→Q H):oR own caps (Itt K l) g tt te D σ H Q:=by
  refine⟨fun i m σ H=>m=xs.length - i∧i≤xs.length∧Pv i σ H,⟨xs.length,by simp,Nat.zero_le _,h0⟩,?_⟩;rintro i m σ H ⟨rfl,hi,p⟩;have q:=hl i σ H hi p
  by_cases hlt:i<xs.length
  ·refine .inr ⟨⟨xs,xs[i],q,by simp[hlt]⟩,Pv (i+1),fun σ' H' p'=>⟨xs.length - (i+1),by omega,rfl,hlt,p'⟩,fun x H' y=>?_⟩;obtain⟨e,y⟩:=y;subst e;exact hs i x σ _ (y xs q) p
  · have e:i=xs.length:=by omega
    subst e;exact .inl ⟨⟨xs,q,Nat.le_refl _⟩,hd σ H p⟩
theorem Uy {lo:Int} {n:Nat} (Pv:Nat→St→Hp→Prop) (h0:Pv 0 (stC own caps σ) H)
    (hs:∀i σ H,i<n→Pv i σ H→M4 g tt te D (Pv (i+1)) (.int (lo+i)) σ H) (hd:∀σ H,Pv n σ H→Q H):oR own caps (T9 lo n) g tt te D σ H Q:=by
  refine⟨fun i m σ H=>m=n - i∧i≤n∧Pv i σ H,⟨n,by simp,Nat.zero_le _,h0⟩,?_⟩;rintro i m σ H ⟨rfl,hi,p⟩
  by_cases hlt:i<n
  ·refine .inr ⟨hlt,Pv (i+1),fun σ' H' p'=>⟨n - (i+1),by omega,rfl,hlt,p'⟩,fun x H' y=>?_⟩;obtain⟨e,y⟩:=y;subst e y;exact hs i σ _ hlt p
  · have e:i=n:=by omega
    subst e;exact .inl ⟨Nat.le_refl _,hd σ H p⟩
theorem qaw {z:Str} (Pv:Nat→St→Hp→Prop) (h0:Pv 0 (stC own caps σ) H)
    (hs:∀i c σ H,z.cps[i]? = some c→Pv i σ H→M4 g tt te D (Pv (i+1)) (.str ⟨#[c]⟩) σ H) (hd:∀σ H,Pv z.cps.size σ H→Q H):oR own caps (Its z) g tt te D σ H Q:=by
  refine⟨fun i m σ H=>m=z.cps.size - i∧i≤z.cps.size∧Pv i σ H,⟨z.cps.size,by simp,Nat.zero_le _,h0⟩,?_⟩;rintro i m σ H ⟨rfl,hi,p⟩
  by_cases hlt:i<z.cps.size
  ·refine .inr ⟨hlt,Pv (i+1),fun σ' H' p'=>⟨z.cps.size - (i+1),by omega,rfl,hlt,p'⟩,fun x H' y=>?_⟩;obtain⟨e,c,hc,rfl⟩:=y;subst e;exact hs i c σ _ hc p
  · have e:i=z.cps.size:=by omega
    subst e;exact .inl ⟨Nat.le_refl _,hd σ H p⟩
theorem qax {l1 l2:Addr} {xs ys:List V} (Pv:Nat→St→Hp→Prop) (h0:Pv 0 (stC own caps σ) H) (he:xs.length=ys.length) (hl:∀i σ H,i≤xs.length→Pv i σ H→bC K H l1 xs∧bC K H l2 ys)
    (hs:∀i x y t σ H,xs[i]? = some x→ys[i]? = some y→H t=none→Pv i σ H→M4 g tt te D (Pv (i+1)) (.ref t) σ (upd H t (.tup [x,y]))) (hd:∀σ H,Pv xs.length σ H→Q H):oR own caps (ZK K l1 l2) g tt te D σ H Q:=by
  refine⟨fun i m σ H=>m=xs.length - i∧i≤xs.length∧Pv i σ H,⟨xs.length,by simp,Nat.zero_le _,h0⟩,?_⟩;rintro i m σ H ⟨rfl,hi,p⟩;obtain⟨q1,q2⟩:=hl i σ H hi p
  by_cases hlt:i<xs.length
  · have hlt2:i<ys.length:=by omega
    refine .inr ⟨⟨xs,ys,xs[i],ys[i],q1,q2,by simp[hlt],by simp[hlt2]⟩,Pv (i+1),fun σ' H' p'=>⟨xs.length - (i+1),by omega,rfl,hlt,p'⟩,fun x H' y=>?_⟩;obtain⟨t,u,v,rfl,ht,rfl,e1,e2⟩:=y;exact hs i u v t σ H (e1 xs q1) (e2 ys q2) ht p
  · have e:i=xs.length:=by omega
    subst e;exact .inl ⟨⟨xs,ys,q1,q2,.inl (Nat.le_refl _)⟩,hd σ H p⟩
end
def Ru (b:Bool) (K:W.Frag) (H:Hp) (p:Addr) (xs:List V):Prop:=match b with | true=>bC K H p xs | false=>gq K H p xs
def Itq (b:Bool) (K:W.Frag) (p:Addr):It:=match b with | true=>ZJ K p | false=>Itt K p
def qfr (K:W.Frag) (tl:TE):TI:=fun σ H R=>tl σ H fun x H1=>∃b p,x = .ref p∧(∃xs,Ru b K H1 p xs)∧R (Itq b K p) H1
theorem vX {X:Cx} {K:W.Frag} (hK:X.K=K) {tg l:Expr} {tl:TE} (hl:PE X l tl):PI X tg l (qfr K tl):=by
  intro p_ s σ H R I h;refine cU (hl p_ s σ H _ I h) fun v s1 zz=>?_;obtain⟨x,H1,I1,r1,q1⟩:=zz;obtain⟨b,p,e,hq,q⟩:=q1;subst e;subst hK;cases b with
  | true=>
    cases r1;obtain⟨xs,hq⟩:=hq;obtain⟨its,rv,pl,hz⟩:=I1.list hq;refine wpAny_pyIter_list pl.isList ?_;refine⟨s1.heap.objs.size,[s1.heap.objs.size],_,_,H1,rfl,I1.kept (t':=s1.toks) fun b o e=>Heap.get?_push_of_some _ e,Mp p _,⟨_,Heap.get?_push_size _ rfl,rfl,rfl⟩,fun b hb=>?_,q⟩;have e:b=s1.heap.objs.size:=by simpa using hb
    subst e;exact I1.Ij (Nat.le_refl _) (I1.hok.fresh (Nat.le_refl _))
  | false=>
    cases r1;obtain⟨xs,hq⟩:=hq;obtain⟨its,rv,pl,hz⟩:=I1.tuple hq;refine wpAny_pyIter_tuple (show s1.heap.IsTuple p its.toArray from pl) ?_;refine⟨s1.heap.objs.size,[s1.heap.objs.size],_,_,H1,rfl,I1.kept (t':=s1.toks) fun b o e=>Heap.get?_push_of_some _ e,Ue p _,⟨_,Heap.get?_push_size _ rfl,rfl,rfl⟩,fun b hb=>?_,q⟩;have e:b=s1.heap.objs.size:=by simpa using hb
    subst e;exact I1.Ij (Nat.le_refl _) (I1.hok.fresh (Nat.le_refl _))
section
variable {K:W.Frag} {own:List Str} {caps:List Nat} {g:TG} {tt:TT} {te:TE} {D:Addr} {σ:St} {H:Hp} {Q:Hp→Prop}
theorem qay {b:Bool} {l:Addr} {xs:List V} (Pv:Nat→St→Hp→Prop) (h0:Pv 0 (stC own caps σ) H) (hl:∀i σ H,i≤xs.length→Pv i σ H→Ru b K H l xs)
    (hs:∀i x σ H,xs[i]? = some x→Pv i σ H→M4 g tt te D (Pv (i+1)) x σ H) (hd:∀σ H,Pv xs.length σ H→Q H):oR own caps (Itq b K l) g tt te D σ H Q:=by
  cases b with
  | true=>exact M5 Pv h0 hl hs hd
  | false=>exact qav Pv h0 hl hs hd
end
theorem au {H:Hp} {p:Addr} {o:HO} (h:H p=none):Same H (upd H p o):=fun b u e=>by rw[aM (aQ e h)];exact e
theorem aZ {H H':Hp} {p:Addr} {o:HO} (s:Same H H') (h:H p=none):Same H (upd H' p o):=fun b u e=>by rw[aM (aQ e h)];exact s b u e
def Sq (H:Hp) (p:Addr) (xs:List V):Prop:=H p=some (.lst xs)∨H p=some (.tup xs)
theorem Sq.q {K:W.Frag} {H:Hp} {p:Addr} {xs:List V} (h:Sq H p xs):bC K H p xs∨gq K H p xs:=h.elim (fun e=>.inl (bC.of e)) fun e=>.inr (gq.of e)
theorem Sq.b {H:Hp} {p:Addr} {xs:List V} (h:Sq H p xs):∃b,∀K H',Same H H'→Ru b K H' p xs:=h.elim (fun e=>⟨true,fun _ _ s=>bC.of (s _ _ e)⟩) fun e=>⟨false,fun _ _ s=>gq.of (s _ _ e)⟩
theorem Sq.same {H H':Hp} {p:Addr} {xs:List V} (h:Sq H p xs) (s:Same H H'):Sq H' p xs:=h.elim (fun e=>.inl (s _ _ e)) fun e=>.inr (s _ _ e)
theorem Sq.ty {K:W.Frag} {H:Hp} {p:Addr} {xs:List V} (h:Sq H p xs):qw K H (.ref p) (.type "list")∨qw K H (.ref p) (.type "tuple"):=h.elim (fun e=>.inl (.lst e)) fun e=>.inr (.tup e)
theorem vq {α:Type} (f:α→Bool):∀l:List α,yd (l.map fun c=>.bl (f c)) (l.map f)
  | []=>rfl
  | c::l=>⟨f c,l.map f,rfl,rfl,vq f l⟩
theorem Uz {α:Type} (f:α→Bool) (l:List α):(l.map f).all id=l.all f:=by
  rw[List.all_map];rfl
theorem take_one {α:Type} {l:List α} {i:Nat} {x:α} (h:l[i]? = some x):l.take (i+1)=l.take i++[x]:=by
  rw[List.take_succ,h];rfl
def Ww:List V→Hp→VK→Prop:=fun xs H Q=>∃p ys,xs=[.ref p]∧Sq H p ys∧∀l H',H' l=some (.tup ys)→Same H H'→Q (.ref l) H'
theorem qaz {X:Cx}:cN X (.type "tuple") Ww:=by
  intro p_ s σ H xs us Q I r h;obtain⟨p,ys,rfl,hq,q⟩:=h;refine Lg p_ s σ H _ us Q I r ⟨p,ys,rfl,?_⟩
  rcases hq with e | e
  ·exact .inl ⟨bC.of e,fun l hl=>q l _ ak (au hl)⟩
  ·exact .inr ⟨gq.of e,q p H e (Same.refl H)⟩
def qfs (J:It) (g:TG) (tb:TS):TS:=fun D σ H=>∃qp:Nat→Nat→St→Hp→Prop,(∃m,qp 0 m σ H)∧∀i m σ H,qp i m σ H→
      (J.stop i H∧D.nx σ H)∨(J.go i H∧∃N:St→Hp→Prop,(∀σ' H',N σ' H'→∃m',m'<m∧qp (i+1) m' σ' H')∧∀x H',J.Z2 i H x H'→g x σ H' fun σ2 H2=>tb {D with nx:=N,ct:=N,bk:=D.nx} σ2 H2)
theorem bY {H:Hp} {b p:Addr} {o u:HO} (h:H b=some o) (n:H p=none):upd H p u b=some o:=by rw[aM (aQ h n)];exact h
theorem qcZ {H:Hp} {b p:Addr} {o o' u:HO} (h:H b=some o) (n:H p=some o') (d:o≠o'):upd H p u b=some o:=by
  rw[aM (fun e=>d (by subst e;rw[h] at n;exact Option.some.inj n))];exact h
theorem cg {H H':Hp} {b:Addr} (s:Same H H') (h:H' b=none):H b=none:=by
  cases e:H b with
  | none=>rfl
  | some o=>rw[s b o e] at h;cases h
def But (p:Addr) (H H':Hp):Prop:=∀b o,b≠p→H b=some o→H' b=some o
theorem But.refl (p:Addr) (H:Hp):But p H H:=fun _ _ _ e=>e
theorem But.trans {p:Addr} {H H1 H2:Hp} (x:But p H H1) (y:But p H1 H2):But p H H2:=fun b o hb e=>y b o hb (x b o hb e)
theorem But.new {p q:Addr} {H H':Hp} {u:HO} (x:But p H H') (h:H q=none):But p H (upd H' q u):=fun b o hb e=>by
  rw[aM (aQ e h)];exact x b o hb e
theorem But.of {p:Addr} {H H':Hp} (x:Same H H'):But p H H':=fun b o _ e=>x b o e
theorem But.same {p:Addr} {H H1 H2:Hp} (x:But p H H1) (y:Same H1 H2):But p H H2:=fun b o hb e=>y b o (x b o hb e)
theorem But.none {p b:Addr} {H H':Hp} {u:HO} (x:But p H H') (hp:H' p=some u) (h:H' b = .none):H b = .none:=by
  cases e:H b with
  | none=>rfl
  | some o=>
    have hb:b≠p:=fun z=>by subst z;rw[hp] at h;cases h
    rw[x b o hb e] at h;cases h
theorem Wx {α:Type} {xs:List α} {i:Int} (h0:0≤i) (h1:i<xs.length):∃v,xs[i.toNat]? = some v∧Il xs i=some v:=by
  obtain⟨j,rfl⟩:∃j:Nat,i=j:=⟨i.toNat,by omega⟩;have hj:j<xs.length:=by omega
  exact⟨xs[j],by simp[hj],bM (by simp[hj])⟩
theorem qft {d e n:Int} (h0:0≤d) (h1:d<n) (h2:0≤e) (h3:e<n - 1):0≤(d+1+e) % n∧(d+1+e) % n<n∧(d+1+e) % n≠d:=by
  refine⟨Int.emod_nonneg _ (by omega),Int.emod_lt_of_pos _ (by omega),?_⟩
  by_cases h:d+1+e<n
  ·rw[Int.emod_eq_of_lt (by omega) h];omega
  · have z:d+1+e=(d+1+e - n)+n * 1:=by omega
    rw[z,Int.add_mul_emod_self_left,Int.emod_eq_of_lt (by omega) (by omega)];omega
theorem vY {xs:List Str} {i:Nat} {x:V} (h:(xs.map V.str)[i]? = some x):∃z,xs[i]? = some z∧x = .str z:=by
  rw[List.getElem?_map] at h;cases e:xs[i]? with
  | none=>rw[e] at h;cases h
  | some z=>rw[e] at h;exact⟨z,rfl,(Option.some.inj h).symm⟩
theorem Iu {α:Type} {xs:List α} (h:xs.Nodup) {i j:Nat} {x:α} (hi:xs[i]? = some x) (hj:xs[j]? = some x):i=j:=by
  obtain⟨h1,e1⟩:=List.getElem?_eq_some_iff.mp hi;obtain⟨h2,e2⟩:=List.getElem?_eq_some_iff.mp hj;exact(List.getElem_inj h).mp (e1.trans e2.symm)
def isL (c:Nat):Bool:=!(Builtin.Str.occurrences ("abcdefghijklmnopqrstuvwxyz" : Str) ⟨#[c]⟩ 0 ("abcdefghijklmnopqrstuvwxyz" : Str).length 1).isEmpty
def nameB (x:Str):Bool:=decide (1≤x.length) && decide (x.length≤4) && x.cps.toList.all isL
theorem qaA:∀n<26,isL (97+n)=true:=by decide+kernel
theorem UG:∀n:Nat,n<26→Il (Str.ofString "abcdefghijklmnopqrstuvwxyz").cps.toList (n:Int)=some (97+n):=by decide+kernel
theorem Gf:(Str.ofString "abcdefghijklmnopqrstuvwxyz").length≤sizeLine:=by decide+kernel
theorem yg {i:Int} (h0:0≤i) (h1:i<26):∃n:Nat,i=n∧n<26∧Il (Str.ofString "abcdefghijklmnopqrstuvwxyz").cps.toList i=some (97+n):=
  ⟨i.toNat,by omega,by omega,by
    obtain⟨n,rfl⟩:∃n:Nat,i=n:=⟨i.toNat,by omega⟩;exact UG n (by omega)⟩
structure uM (c:Nat) (k:Nat) (x:Str):Prop where
  len:x.length=k
  fst:x.cps[0]? = some c
  all:x.cps.toList.all isL=true
theorem uM.one {n:Nat} (h:n<26):uM (97+n) 1 ⟨#[97+n]⟩:=⟨rfl,rfl,by simp[qaA n h]⟩
theorem uM.snoc {c k n:Nat} {x:Str} (h:uM c k x) (hk:0<k) (hn:n<26):uM c (k+1) (x++(⟨#[97+n]⟩:Str)):=by
  obtain⟨h1,h2,h3⟩:=h;refine⟨?_,?_,?_⟩
  ·show(x.cps++#[97+n]).size=_;have:x.cps.size=k:=h1;simp[this]
  ·show(x.cps++#[97+n])[0]? = _;have:x.cps.size=k:=h1;rw[Array.getElem?_append_left (by omega)];exact h2
  ·show(x.cps++#[97+n]).toList.all isL=true;simp at h3;simp[qaA n hn];exact h3
theorem uM.name {c k:Nat} {x:Str} (h:uM c k x) (h1:1≤k) (h4:k≤4):nameB x=true:=by
  unfold nameB;rw[h.len,h.all];simp;omega
section
variable {κ:Type} [DecidableEq κ]
def qW (kvs:List (κ×V)) (k:κ):Option V:=(kvs.find? fun kv=>decide (kv.1=k)).map (·.2)
def putK (kvs:List (κ×V)) (k:κ) (v:V):List (κ×V):=
  if (kvs.any fun kv=>decide (kv.1=k))=true then kvs.map (fun kv=>if kv.1=k then (kv.1,v) else kv) else kvs++[(k,v)]
theorem Cv {p:κ×V} {r:List (κ×V)} {k:κ} (e:p.1=k):qW (p::r) k=some p.2:=by simp[qW,List.find?_cons,e]
theorem Cw {p:κ×V} {r:List (κ×V)} {k:κ} (e:¬p.1=k):qW (p::r) k=qW r k:=by simp[qW,List.find?_cons,e]
theorem Iv (k:κ):∀kvs:List (κ×V),(kvs.any fun kv=>decide (kv.1=k))=(qW kvs k).isSome
  | []=>rfl
  | p::r=>by
    rw[List.any_cons]
    by_cases e:p.1=k
    ·simp only[Cv e,decide_eq_true e,Bool.true_or,Option.isSome_some]
    ·rw[Cw e,decide_eq_false e,Bool.false_or];exact Iv k r
theorem yh (kvs:List (κ×V)) (k:κ) (v:V):(putK kvs k v).length≤kvs.length+1:=by
  unfold putK;split
  ·rw[List.length_map];omega
  ·rw[List.length_append,List.length_cons,List.length_nil];omega
theorem qaB {kvs:List (κ×V)} {k:κ} (v:V) (h:qW kvs k=none):putK kvs k v=kvs++[(k,v)]:=by
  unfold putK;rw[Iv,h];exact if_neg (by decide)
theorem xP.Eo {o:Option V} {u:Option Value} (r:xP o u):o.isSome=u.isSome:=by
  cases o with
  | none=>cases u with
    | none=>rfl
    | some _=>exact(show False from r).elim
  | some _=>cases u with
    | none=>exact(show False from r).elim
    | some _=>rfl
theorem xP.getD {o:Option V} {u:Option Value} {d:V} {d':Value} (r:xP o u) (rd:RelV d d'):RelV (o.getD d) (u.getD d'):=by
  cases o with
  | none=>cases u with
    | none=>exact rd
    | some _=>exact(show False from r).elim
  | some _=>cases u with
    | none=>exact(show False from r).elim
    | some _=>exact r
theorem KV.val {kvs:List (κ×V)} {vs:List (κ×Value)} (r:KV kvs vs) (k:κ):xP (qW kvs k) (valueAt vs k):=by
  unfold KV at r
  induction r with
  | nil=>exact True.intro
  | @cons p q ps qs h t ih=>
    obtain⟨h1,h2⟩:=h
    by_cases e:p.1=k
    · have e':q.1=k:=h1.symm.trans e;have b:valueAt (q::qs) k=some q.2:=by simp[valueAt,List.find?_cons,e']
      rw[Cv e,b];exact h2
    · have e':¬q.1=k:=fun z=>e (h1.trans z);have b:valueAt (q::qs) k=valueAt qs k:=by simp[valueAt,List.find?_cons,e']
      rw[Cw e,b];exact ih
theorem KV.any {kvs:List (κ×V)} {vs:List (κ×Value)} (r:KV kvs vs) (k:κ):(kvs.any fun kv=>decide (kv.1=k))=vs.any fun kv=>decide (kv.1=k):=by
  unfold KV at r
  induction r with
  | nil=>rfl
  | cons h t ih=>rw[List.any_cons,List.any_cons,ih,h.1]
theorem KV.repl {kvs:List (κ×V)} {vs:List (κ×Value)} (r:KV kvs vs) (k:κ) {y:V} {u:Value} (ry:RelV y u) :
    KV (kvs.map fun kv=>if kv.1=k then (kv.1,y) else kv) (vs.map fun kv=>if kv.1=k then (kv.1,u) else kv):=by
  unfold KV at r ⊢
  induction r with
  | nil=>exact .nil
  | @cons p q ps qs h t ih=>
    rw[List.map_cons,List.map_cons];refine .cons ?_ ih;obtain⟨h1,h2⟩:=h
    by_cases e:p.1=k
    ·rw[if_pos e,if_pos (h1.symm.trans e)];exact⟨h1,ry⟩
    ·rw[if_neg e,if_neg (fun z=>e (h1.trans z))];exact⟨h1,h2⟩
theorem KV.put {kvs:List (κ×V)} {vs:List (κ×Value)} (r:KV kvs vs) (k:κ) {y:V} {u:Value} (ry:RelV y u):KV (putK kvs k y) (stored vs k u):=by
  unfold putK stored;rw[r.any k]
  by_cases e:(vs.any fun kv=>decide (kv.1=k))=true
  ·rw[if_pos e,if_pos e];exact r.repl k ry
  ·rw[if_neg e,if_neg e];exact Paired.snoc r ⟨rfl,ry⟩
theorem KV.length {kvs:List (κ×V)} {vs:List (κ×Value)} (r:KV kvs vs):kvs.length=vs.length:=Paired.length r
end
theorem M6 {P:Program} {w:World} {k:Key} {u:Value} (r:RelV (kV k) u):(bR P w).is k u=true:=by
  cases k with
  | inl i=>obtain⟨t,e⟩:=(show ∃t,u=Value.int i t from r);subst e;exact FZ P w i t
  | inr x=>obtain⟨t,e⟩:=(show ∃t,u=Value.str x t from r);subst e;exact Q8 P w x t
theorem M7 {P:Program} {w:World}:∀{ks:List Key} {us:List Value},Vals (ks.map kV) us→ItemsAre (bR P w) ks us
  | [],_,r=>by rw[List.map_nil] at r;cases r;exact .nil
  | k::ks,_,r=>by
    rw[List.map_cons] at r;cases r with
    | cons h t=>exact .cons (M6 h) (M7 t)
abbrev KT (H:Hp):List (List Key×V)→List (List Key×Addr×Value)→Prop:=Paired fun p q=>p.1=q.1∧H q.2.1=some (.tup (p.1.map kV))∧RelV p.2 q.2.2
theorem KT.val {H:Hp} {kvs:List (List Key×V)} {xs:List (List Key×Addr×Value)} (r:KT H kvs xs) (k:List Key):xP (qW kvs k) ((atKey xs k).map (·.2)):=by
  induction r with
  | nil=>exact True.intro
  | @cons p q ps qs h t ih=>
    obtain⟨h1,_,h2⟩:=h
    by_cases e:p.1=k
    · have e':q.1=k:=h1.symm.trans e;have b:atKey (q::qs) k=some q.2:=by simp[atKey,List.find?_cons,e']
      rw[Cv e,b];exact h2
    · have e':¬q.1=k:=fun z=>e (h1.trans z);have b:atKey (q::qs) k=atKey qs k:=by simp[atKey,List.find?_cons,e']
      rw[Cw e,b];exact ih
theorem KT.repl {H:Hp} {kvs:List (List Key×V)} {xs:List (List Key×Addr×Value)} (r:KT H kvs xs) (k:List Key) {y:V} {u:Value} (ry:RelV y u) :
    KT H (kvs.map fun kv=>if kv.1=k then (kv.1,y) else kv) (xs.map (putAt k u)):=by
  induction r with
  | nil=>exact .nil
  | @cons p q ps qs h t ih=>
    rw[List.map_cons,List.map_cons];refine .cons ?_ ih;obtain⟨h1,h2,h3⟩:=h;unfold putAt
    by_cases e:p.1=k
    ·rw[if_pos e,if_pos (h1.symm.trans e)];exact⟨h1,h2,ry⟩
    ·rw[if_neg e,if_neg (fun z=>e (h1.trans z))];exact⟨h1,h2,h3⟩
theorem KT.put {H:Hp} {kvs:List (List Key×V)} {xs:List (List Key×Addr×Value)} (r:KT H kvs xs) (k:List Key) {b:Addr} {y:V} {u:Value} (hb:H b=some (.tup (k.map kV))) (ry:RelV y u) :
    KT H (putK kvs k y) (storedH xs k b u):=by
  have e:(kvs.any fun kv=>decide (kv.1=k))=(atKey xs k).isSome:=by
    rw[Iv,(r.val k).Eo,Option.isSome_map]
  unfold putK storedH;rw[e]
  by_cases q:(atKey xs k).isSome=true
  ·rw[if_pos q,if_pos q];exact r.repl k ry
  ·rw[if_neg q,if_neg q];exact Paired.snoc r ⟨rfl,hb,ry⟩
theorem KT.keeps {H H':Hp} {kvs:List (List Key×V)} {xs:List (List Key×Addr×Value)} (r:KT H kvs xs) (ht:∀b ys,H b=some (.tup ys)→H' b=some (.tup ys)):KT H' kvs xs:=
  Paired.qeJ r fun _ _ z=>⟨z.1,ht _ _ z.2.1,z.2.2⟩
section
variable {P:Program} {w:World} {H:Hp} {h:Heap} {a:Addr}
theorem qd7 {u:HO} (ok:xT P w H h) (e:Rd H a u):dj P w H h a u:=e.ok ok
theorem M8 {kvs:List (Key×V)} (ok:xT P w H h) (e:Rd H a (.dK kvs)):kvs.length≤sizeLine∧(a == sysModules)=false∧∃vs,KV kvs vs∧h.DictOf (bR P w) a vs:=
  show dj P w H h a (.dK kvs) from qd7 ok e
theorem Rv {kvs:List (Key×V)} (ok:xT P w H h) (e:H a=some (.dK kvs)):kvs.length≤sizeLine∧(a == sysModules)=false∧∃vs,KV kvs vs∧h.DictOf (bR P w) a vs:=M8 ok (.inl e)
theorem Iw {ks:List Key} (ok:xT P w H h) (e:H a=some (.tup (ks.map kV))):(tupleKind (bR P w)).is h ks a:=by
  obtain⟨_,its,r,o,h1,h2,n,h3⟩:=(show dj P w H h a (.tup (ks.map kV)) from ok a _ e);exact⟨o,its.toArray,n,h1,h2,h3,by simpa using M7 r⟩
theorem M9 {kvs:List (List Key×V)} (ok:xT P w H h) (e:Rd H a (.dT kvs)):kvs.length≤sizeLine∧(a == sysModules)=false∧
    ∃xs,KT H kvs xs∧h.DictOfH (tupleKind (bR P w)) a xs:=by
  obtain⟨z,y,xs,r,o,es,ep,h1,h2,h3,h4,h5⟩:=(show dj P w H h a (.dT kvs) from qd7 ok e);refine⟨z,y,xs,r,o,es,ep,h1,h2,h3,h4,fun x hx=>?_,h5⟩;have all:∀{l:List (List Key×V)} {m:List (List Key×Addr×Value)},KT H l m→∀x∈m,(tupleKind (bR P w)).is h x.1 x.2.1:=by
    intro l m q
    induction q with
    | nil=>intro x hx;exact nomatch hx
    | @cons p q ps qs hq t ih=>
      intro x hx
      rcases List.mem_cons.mp hx with e | hx
      ·subst e;exact Iw ok (by rw[← hq.1];exact hq.2.1)
      ·exact ih x hx
  exact all r x hx
theorem qd8 {kvs:List (List Key×V)} (ok:xT P w H h) (e:H a=some (.dT kvs)):kvs.length≤sizeLine∧(a == sysModules)=false∧
    ∃xs,KT H kvs xs∧h.DictOfH (tupleKind (bR P w)) a xs:=M9 ok (.inl e)
end
def rY (H:Hp) (a:Addr) (y:V) (r:Option V):Prop:=
  (∃kvs k,Rd H a (.dK kvs)∧y=kV k∧r=qW kvs k)∨∃kvs k b,Rd H a (.dT kvs)∧y = .ref b∧H b=some (.tup (k.map kV))∧r=qW kvs k
def O_ (H:Hp) (a:Addr) (y v:V) (H':Hp):Prop:=
  (∃kvs k,H a=some (.dK kvs)∧y=kV k∧kvs.length<sizeLine∧H'=upd H a (.dK (putK kvs k v)))∨
  ∃kvs k b,H a=some (.dT kvs)∧y = .ref b∧H b=some (.tup (k.map kV))∧kvs.length<sizeLine∧H'=upd H a (.dT (putK kvs k v))
theorem rY.k {H:Hp} {a:Addr} {kvs:List (Key×V)} {k:Key} (e:H a=some (.dK kvs)):rY H a (kV k) (qW kvs k):=.inl ⟨kvs,k,.inl e,rfl,rfl⟩
theorem O_.k {H:Hp} {a:Addr} {kvs:List (Key×V)} {k:Key} {v:V} (e:H a=some (.dK kvs)) (hl:kvs.length<sizeLine):O_ H a (kV k) v (upd H a (.dK (putK kvs k v))):=.inl ⟨kvs,k,e,rfl,hl,rfl⟩
section
variable {X:Cx} {p_:List (Addr×Obj)} {σ:St} {H:Hp} {s:Shared} {a:Addr} {y v:V} {u r:Value} {o:Option V} {A:Around} {E:Value→Shared→Prop}
theorem Inv.big (I:Inv X p_ σ H s):sysModules<s.heap.objs.size:=by
  have h:mainGlobals<s.heap.objs.size:=(I.mod.glob.keeps I.bk).lt;exact Nat.lt_trans (by decide) h
theorem Yl {Q:Value→Shared→Prop} (hu:A.units+1<cLine) (I:Inv X p_ σ H s) (g:rY H a y (some v)) (ry:RelV y u) (h:∀w' s',Inv X p_ σ H s'→RelV v w'→Q w' s') :
    wpAny (model X.prog X.w) A (getItem (.ref a) u) Q E s:=by
  rcases g with⟨kvs,k,e,ey,l⟩ | ⟨kvs,k,b,e,ey,eb,l⟩
  ·subst ey;obtain⟨z,hd,vs,rel,dd⟩:=M8 I.hok e;obtain⟨w',hw,rw'⟩:=xP.some_of (v:=v) (o:=valueAt vs k) (by rw[l];exact rel.val k);exact wpAny_getItem_of (M6 ry) dd.mapOf hw (h w' _ (I.tok _) rw')
  · subst ey;cases (show u=Value.ref b from ry);obtain⟨z,hd,xs,rel,dd⟩:=M9 I.hok e;obtain⟨w',hw,rw'⟩:=xP.some_of (v:=v) (o:=(atKey xs k).map (·.2)) (by rw[l];exact rel.val k);obtain⟨p,hp,hp2⟩:=Option.map_eq_some_iff.mp hw;refine wpAny_getItem_heap (tupleKind_room_in1 hu) (Iw I.hok eb) dd hp ?_;rw[hp2];exact h w' _ (I.tok _) rw'
theorem qc0 {Q:Value→Shared→Prop} (hu:A.units+1<cLine) (I:Inv X p_ σ H s) (g:rY H a y o) (ry:RelV y u) (h:∀s',Inv X p_ σ H s'→Q (.bool (!o.isSome)) s') :
    wpAny (model X.prog X.w) A (compareOp .NotIn u (.ref a)) Q E s:=by
  rcases g with⟨kvs,k,e,ey,l⟩ | ⟨kvs,k,b,e,ey,eb,l⟩
  ·subst ey;obtain⟨z,hd,vs,rel,dd⟩:=M8 I.hok e;refine wpAny_notIn_of (M6 ry) hd dd.mapOf ?_;rw[← (rel.val k).Eo,← l];exact h _ (I.tok _)
  ·subst ey;cases (show u=Value.ref b from ry);obtain⟨z,hd,xs,rel,dd⟩:=M9 I.hok e;refine wpAny_notIn_heap (tupleKind_room_in1 hu) (Iw I.hok eb) hd dd ?_;have q:=(rel.val k).Eo;rw[Option.isSome_map] at q;rw[← q,← l];exact h _ (I.tok _)
theorem Pa {h':Heap} {t':Nat} {ob:HO} (I:Inv X p_ σ H s) (mu:Mut (H a)) (hs:Heap.SameBut a s.heap h') (he:∃q,h'.get? a=some q) (new:dj X.prog X.w (upd H a ob) h' a ob) :
    Inv X p_ σ (upd H a ob) {s with heap:=h',toks:=t'}:=
  I.write (x:=a) (e:=a) mu (.inl rfl) (fun b q hb z=>(hs.2 b hb).trans z) he new
theorem qaC {P:Program} {w:World} {H':Hp} {h':Heap} {kvs:List (Key×V)} {vs:List (Key×Value)} (z:kvs.length≤sizeLine) (hd:(a == sysModules)=false) (rel:KV kvs vs) (dd:h'.DictOf (bR P w) a vs) :
    dj P w H' h' a (.dK kvs):=⟨z,hd,vs,rel,dd⟩
theorem Ym {H':Hp} {Q:Unit→Shared→Prop} (hu:A.units+1<cLine) (I:Inv X p_ σ H s) (g:O_ H a y v H') (ry:RelV y u) (rv:RelV v r) (h:∀s',Inv X p_ σ H' s'→Q () s') :
    wpAny (model X.prog X.w) A (setItem (.ref a) u r) Q E s:=by
  rcases g with⟨kvs,k,e,ey,l,eH⟩ | ⟨kvs,k,b,e,ey,eb,l,eH⟩
  · subst ey eH;obtain⟨z,hd,vs,rel,dd⟩:=Rv I.hok e;have hz:vs.length≤sizeLine:=by rw[← rel.length];exact z
    have hl:(putK kvs k v).length≤sizeLine:=by have:=yh kvs k v;omega
    refine wpAny_setItem_pairs (hsz:=hz) (M6 ry) dd fun h' dd' hs=>h _ ?_;have he:∃q,h'.get? a=some q:=let ⟨q,_,_,hq,_⟩:=dd';⟨q,hq⟩;exact Pa I (by rw[e];exact True.intro) hs he (qaC hl hd (rel.put k rv) dd')
  · subst ey eH;cases (show u=Value.ref b from ry);obtain⟨z,hd,xs,rel,dd⟩:=qd8 I.hok e;have hz:xs.length≤sizeLine:=by rw[← Paired.length rel];exact z
    have hl:(putK kvs k v).length≤sizeLine:=by have:=yh kvs k v;omega
    refine wpAny_setItem_heap (hsz:=hz) (tupleKind_room_in1 hu) (Iw I.hok eb) dd fun h' dd' hs=>h _ ?_;obtain⟨q,es,ep,hq,h2,h3,h4,_,h5⟩:=dd';refine Pa I (by rw[e];exact True.intro) hs ⟨q,hq⟩ ⟨hl,hd,_,(rel.put k eb rv).keeps fun c ys ec=>?_,q,es,ep,hq,h2,h3,h4,h5⟩;rw[aM (HY ec e (fun z=>nomatch z))];exact ec
end
def qha (i:Expr):Prop:=∀ov iv,subscripted i false ov iv=operate [ov,iv] (getItem ov iv)
theorem qc1 {prog:Program} {w:World} {A:Around} {E:Value→Shared→Prop} {s:Shared} {env:Env} {value slice:Expr} {pos:Pos} {T id:String} {Q:Value→Shared→Prop}
    (hl:typeLookup (.type T) "__getitem__" = pure (some (.builtin id))) (hs:qha slice)
    (h:wpAny (model prog w) A (eval value env) (fun o s₁=>wpAny (model prog w) A (eval slice env) (fun i s₂=>s₂.TypeIs o T∧wpAny (model prog w) A (getItem o i) Q E s₂) E s₁) E s) :
    wpAny (model prog w) A (eval (.Subscript value slice pos) env) Q E s:=by
  refine Subscript_ (wpAny_mono h (fun o s₁ h₁=>wpAny_mono h₁ (fun i s₂ h₂=>?_) fun _ _ x=>x) fun _ _ x=>x);obtain⟨hT,h₂⟩:=h₂;unfold subscriptTail;refine wpAny_bind ?_;rw[getitemInPython_of_ne hT.not_modules];refine wpAny_bind (wpAny_specialOf hT hl ?_);have fin:wpAny (model prog w) A (subscripted slice false o i) (fun r s₃=>wpAny (model prog w) A (letTemporaryGo value o r >>= fun _=>pure r) Q E s₃) E s₂:=by
    rw[hs o i];exact wpAny_operating (wpAny_mono h₂ (fun r s₃ h₃=>wpAny_bind (wpAny_letTemporaryGo (wpAny_pure h₃))) fun _ _ x=>x)
  first
    | exact wpAny_pure (wpAny_bind fin)
    | exact wpAny_bind (wpAny_pure (wpAny_bind fin))
    | exact wpAny_bind fin
theorem Rw {X:Cx} {p_:List (Addr×Obj)} {σ:St} {H:Hp} {s:Shared} {a:Addr} {y:V} {o:Option V} (I:Inv X p_ σ H s) (g:rY H a y o):s.TypeIs (.ref a) "dict" :=by
  rcases g with⟨kvs,k,e,_,_⟩ | ⟨kvs,k,b,e,_,_,_⟩
  ·obtain⟨_,_,vs,_,dd⟩:=M8 I.hok e;exact dd.typeIs
  ·obtain⟨_,_,xs,_,dd⟩:=M9 I.hok e;exact dd.typeIs
def qaD (td ty:TE):TE:=fun σ H Q=>td σ H fun x H1=>ty σ H1 fun y H2=>∃a v,x = .ref a∧rY H2 a y (some v)∧Q v H2
def Pb (ty td:TE):TE:=fun σ H Q=>ty σ H fun y H1=>td σ H1 fun x H2=>∃a o,x = .ref a∧rY H2 a y o∧Q (.bl (!o.isSome)) H2
def qaE (td ty tv:TE):TS:=fun D σ H=>tv σ H fun v H1=>td σ H1 fun x H2=>ty σ H2 fun y H3=>∃a H4,x = .ref a∧O_ H3 a y v H4∧D.nx σ H4
section
variable {X:Cx} {o i e value:Expr} {pos pos' tpos:Pos} {td ty tv:TE}
theorem Wy (hu:X.A.units+1<cLine) (ho:PE X o td) (hi:PE X i ty) (hs:qha i):PE X (.Subscript o i pos) (qaD td ty):=by
  intro p_ s σ H Q I h;refine qc1 PySem.F.slot_dict_getitem.lookup hs (cU (ho p_ s σ H _ I h) fun u s1 ⟨x,H1,I1,rx,q1⟩=>cU (hi p_ s1 σ H1 _ I1 q1) fun iv s2 ⟨y,H2,I2,ry,a,v,ex,g,q2⟩=>?_);subst ex;obtain rfl:u=Value.ref a:=rx;exact⟨Rw I2 g,Yl hu I2 g ry fun w' s3 I3 rw'=>⟨v,H2,I3,rw',q2⟩⟩
theorem Yn (hu:X.A.units+1<cLine) (hi:PE X i ty) (ho:PE X o td):PC X .NotIn i o (Pb ty td):=by
  intro p_ s σ H Q I h;refine cU (hi p_ s σ H _ I h) fun iv s1 ⟨y,H1,I1,ry,q1⟩=>cU (ho p_ s1 σ H1 _ I1 q1) fun u s2 ⟨x,H2,I2,rx,a,ov,ex,g,q2⟩=>?_;subst ex;obtain rfl:u=Value.ref a:=rx;exact qc0 hu I2 g ry fun s3 I3=>⟨.bl (!ov.isSome),H2,I3,rfl,q2⟩
theorem qc2 (hu:X.A.units+1<cLine) (ho:PE X o td) (hi:PE X i ty) (hv:PE X value tv) (hs:swapsWith value (some (.Subscript o i pos')) pos.line X.env=pure false) :
    PS X (.Assign [.Subscript o i pos'] value pos) (qaE td ty tv):=by
  intro p_ s σ H D I h;refine wpAny_Assign_Subscript (cU (hv p_ s σ H _ I h) fun r s1 ⟨v,H1,I1,rv,q1⟩=>cU (ho p_ s1 σ H1 _ I1 q1) fun u s2 ⟨x,H2,I2,rx,q2⟩=>cU (hi p_ s2 σ H2 _ I2 q2) fun iv s3 ⟨y,H3,I3,ry,a,H4,ex,g,q3⟩=>?_) hs;subst ex;obtain rfl:u=Value.ref a:=rx;exact Ym hu I3 g ry rv fun s4 I4=>⟨σ,H4,I4,q3⟩
end
theorem Rx {P:Program} {w:World} {H:Hp} (h:Heap) (hb:sysModules<h.objs.size):dj P w H (h.push {cls:=.type "dict",data:=.dict #[]}) h.objs.size (.dK []):=
  ⟨Nat.zero_le _,beq_eq_false_iff_ne.mpr (Ne.symm (Nat.ne_of_lt hb)),[],.nil,Heap.DictOf.new h⟩
def UJ:TE:=fun _ H Q=>∀p,H p=none→Q (.ref p) (upd H p (.dK []))
section
variable {X:Cx} {pos:Pos}
theorem Ry:PE X (.Dict [] [] pos) UJ:=fun p_ s σ H Q I h=>
  wpAny_Dict_empty ⟨.ref s.heap.objs.size,_,I.laid (a:=s.heap.objs.size) (o:=.dK []) (t':=s.toks) (fun _ _ q=>Heap.get?_push_of_some _ q) (Nat.le_refl _) (Rx s.heap I.big),rfl,h _ (I.hok.fresh (Nat.le_refl _))⟩
end
def Bc:List (TE×TE)→St→Hp→(List (V×V)→Hp→Prop)→Prop
  | [],_,H,Q=>Q [] H
  | (tk,tv)::r,σ,H,Q=>tk σ H fun x H1=>tv σ H1 fun y H2=>Bc r σ H2 fun ps H3=>Q ((x,y)::ps) H3
abbrev VV:List (V×V)→List (Value×Value)→Prop:=Paired fun p q=>RelV p.1 q.1∧RelV p.2 q.2
def PPs (X:Cx) (pos:Pos) (keys:List (Option Expr)) (values:List Expr) (ZL:List (TE×TE)):Prop:=
  ∀(p_:List (Addr×Obj)) (s:Shared) (σ:St) (H:Hp) (Q:List (V×V)→Hp→Prop),Inv X p_ σ H s→Bc ZL σ H Q→
    wpAny (model X.prog X.w) X.A (evalPairs (pairTrees keys values X.env pos)) (fun vs s'=>∃ps H',Inv X p_ σ H' s'∧VV ps vs∧Q ps H') X.xe s
theorem qc3 {X:Cx} {pos:Pos}:PPs X pos [] [] []:=fun p_ s σ H Q I h=>pairTrees_nil_walk ⟨[],H,I,.nil,h⟩
theorem qaF {X:Cx} {pos:Pos} {k v:Expr} {ks:List (Option Expr)} {vs:List Expr} {tk tv:TE} {ZL:List (TE×TE)} (hk:PE X k tk) (hv:PE X v tv) (hr:PPs X pos ks vs ZL) :
    PPs X pos (some k::ks) (v::vs) ((tk,tv)::ZL):=fun p_ s σ H Q I h=>
  pairTrees_cons_walk (cU (hk p_ s σ H _ I h) fun u s1 ⟨x,H1,I1,rx,q1⟩=>cU (hv p_ s1 σ H1 _ I1 q1) fun w2 s2 ⟨y,H2,I2,ry,q2⟩=>
    cU (hr p_ s2 σ H2 _ I2 q2) fun ws s3 ⟨ps,H3,I3,rel,q3⟩=>⟨(x,y)::ps,H3,I3,.cons ⟨rx,ry⟩ rel,q3⟩)
def Bd (kvs more:List (Key×V)):List (Key×V):=more.foldl (fun acc kv=>putK acc kv.1 kv.2) kvs
theorem KV.merge:∀{more:List (Key×V)} {rs:List (Key×Value)} {kvs:List (Key×V)} {vs:List (Key×Value)},KV more rs→KV kvs vs→KV (Bd kvs more) (merged vs rs):=by
  intro more rs kvs vs r;unfold KV at r
  induction r generalizing kvs vs with
  | nil=>intro q;exact q
  | @cons p q ps qs h t ih=>
    intro r0;have e:KV (putK kvs p.1 p.2) (stored vs q.1 q.2):=by
      have:=r0.put p.1 h.2;rw[← h.1];exact this
    exact ih e
theorem Ah:∀(more kvs:List (Key×V)),(Bd kvs more).length≤kvs.length+more.length
  | [],kvs=>by show kvs.length≤kvs.length+0;omega
  | p::r,kvs=>by
    have h1:=Ah r (putK kvs p.1 p.2);have h2:=yh kvs p.1 p.2;show(Bd (putK kvs p.1 p.2) r).length≤_;rw[List.length_cons];omega
theorem Iz {P:Program} {w:World}:∀{kvs:List (Key×V)} {ws:List (Value×Value)},VV (kvs.map fun kv=>(kV kv.1,kv.2)) ws→∃rs,Carries (bR P w) ws rs∧KV kvs rs
  | [],_,r=>by rw[List.map_nil] at r;cases r;exact⟨[],True.intro,.nil⟩
  | p::kvs,_,r=>by
    rw[List.map_cons] at r;cases r with
    | @cons a b as bs h t=>
      obtain⟨rs,c,q⟩:=Iz (P:=P) (w:=w) t;obtain⟨b1,b2⟩:=b;exact⟨(p.1,b2)::rs,⟨M6 h.1,rfl,c⟩,.cons ⟨rfl,h.2⟩ q⟩
def qd9 (ZL:List (TE×TE)):TE:=fun σ H Q=>∀p,H p=none→Bc ZL σ (upd H p (.dK [])) fun ps H2=>H2 p=some (.dK [])∧∃kvs:List (Key×V),ps=kvs.map (fun kv=>(kV kv.1,kv.2))∧kvs.length≤15∧Q (.ref p) (upd H2 p (.dK (Bd [] kvs)))
theorem qc4 {X:Cx} {pos:Pos} {keys:List (Option Expr)} {values:List Expr} {ZL:List (TE×TE)} (h:PPs X pos keys values ZL) (hall:keys.all (·.isSome)=true) (hl:keys.length=values.length) (h0:keys≠[])
    (h15:keys.length≤15):PE X (.Dict keys values pos) (qd9 ZL):=by
  intro p_ s σ H Q I q;have hn:=I.hok.fresh (Nat.le_refl s.heap.objs.size);have I1:=I.laid (a:=s.heap.objs.size) (o:=.dK []) (h':=s.heap.push {cls:=.type "dict",data:=.dict #[]}) (t':=s.toks) (fun _ _ q=>Heap.get?_push_of_some _ q) (Nat.le_refl _) (Rx s.heap I.big);refine wpAny_Dict_walk (knd:=bR X.prog X.w) hall hl h0 h15 (cU (h p_ _ σ _ _ I1 (q _ hn)) fun ws s2 zz=>?_);obtain⟨ps,H2,I2,rel,e,kvs,ep,lk,q2⟩:=zz;subst ep;obtain⟨rs,c,rk⟩:=Iz (P:=X.prog) (w:=X.w) rel;obtain⟨z,hd,vs0,r0,dd⟩:=Rv I2.hok e;cases r0;refine⟨rs,c,dd,fun h' dd' hs=>⟨.ref s.heap.objs.size,_,?_,rfl,q2⟩⟩;have hz:(Bd [] kvs).length≤sizeLine:=by
    have h1:=Ah kvs [];rw[List.length_nil] at h1;rw[sizeLine_eq];omega
  have he:∃q,h'.get? s.heap.objs.size=some q:=let ⟨q,_,_,hq,_⟩:=dd';⟨q,hq⟩;exact Pa I2 (by rw[e];exact True.intro) hs he (qaC hz hd (rk.merge .nil) dd')
structure M2 (X:Cx) (o:Expr) (m:Str) (apos:Pos) (e f:Expr) (cpos:Pos):Prop where
  base:attributeBase o m X.env (eval o X.env)=eval o X.env
  few:((backTo cpos (starEach [e,f] X.env)).all (fun x=>!x.1) && (backToKw cpos (keywordEach [] X.env)).all (fun x=>x.1.isSome)
    && decide (([e,f]:List Expr).length+([]:List Keyword).length+(if ([]:List Keyword).isEmpty then 0 else 1)<30))=true
  line:(apos.endLine == cpos.line)=true
  trees:backTo cpos (starEach [e,f] X.env)=[(false,eval e X.env),(false,eval f X.env)]
def IsD (H:Hp) (a:Addr):Prop:=(∃kvs,Rd H a (.dK kvs))∨∃kvs,Rd H a (.dT kvs)
theorem qfu {X:Cx} {p_:List (Addr×Obj)} {σ:St} {H:Hp} {s:Shared} {a:Addr} (I:Inv X p_ σ H s) (d:IsD H a) :
    s.TypeIs (.ref a) "dict" ∧(∀b,Value.ref a = .ref b→∃ob,s.heap.get? b=some ob∧ob.dict=none)∧(a == sysModules)=false:=by
  rcases d with⟨kvs,e⟩ | ⟨kvs,e⟩
  ·obtain⟨_,hd,vs,_,dd⟩:=M8 I.hok e;refine⟨dd.typeIs,fun b q=>?_,hd⟩;cases q;obtain⟨ob,_,_,h1,h2,_⟩:=dd;exact⟨ob,h1,h2.2.1⟩
  ·obtain⟨_,hd,xs,_,dd⟩:=M9 I.hok e;refine⟨dd.typeIs,fun b q=>?_,hd⟩;cases q;obtain⟨ob,_,_,h1,h2,_⟩:=dd;exact⟨ob,h1,h2.2.1⟩
section
variable {X:Cx} {p_:List (Addr×Obj)} {σ:St} {H:Hp} {s:Shared} {a:Addr} {y d:V} {u r:Value} {o:Option V} {A:Around} {E:Value→Shared→Prop}
theorem qfv {Q:Value→Shared→Prop} (hu:A.units+1<cLine) (I:Inv X p_ σ H s) (g:rY H a y o) (ry:RelV y u) (rd:RelV d r) (h:∀w' s',Inv X p_ σ H s'→RelV (o.getD d) w'→Q w' s') :
    wpAny (model X.prog X.w) A (call (.builtin "dict.get") [.ref a,u,r]) Q E s:=by
  rcases g with⟨kvs,k,e,ey,l⟩ | ⟨kvs,k,b,e,ey,eb,l⟩
  ·subst ey;obtain⟨z,hd,vs,rel,dd⟩:=M8 I.hok e;refine call_meetsIn PySem.F.slot_dict_get dd.typeIs PySem.F.entry_dict_get (PySem.F.args_dict_get_3 _ _ _) (meets_dict_get_default (bR X.prog X.w) a (M6 ry) hd r) ⟨_,dd.mapOf,h _ _ (I.tok _) ?_⟩;rw[l];exact(rel.val k).getD rd
  ·subst ey;cases (show u=Value.ref b from ry);obtain⟨z,hd,xs,rel,dd⟩:=M9 I.hok e;refine call_meetsIn PySem.F.slot_dict_get dd.typeIs PySem.F.entry_dict_get (PySem.F.args_dict_get_3 _ _ _) (meetsH_dict_get_default (tupleKind (bR X.prog X.w)) a b hd r) ⟨tupleKind_room_in1 hu,k,xs,Iw I.hok eb,dd,h _ _ (I.tok _) ?_⟩;rw[l];exact(rel.val k).getD rd
end
def UL (td ty tx:TE):TE:=fun σ H Q=>td σ H fun x H1=>∃a,x = .ref a∧IsD H1 a∧ty σ H1 fun y H2=>tx σ H2 fun z H3=>∃o,rY H3 a y o∧Q (o.getD z) H3
section
variable {X:Cx} {o e f:Expr} {apos cpos:Pos} {td ty tx:TE}
theorem Rz (hu:X.A.units+1<cLine) (ho:PE X o td) (he:PE X e ty) (hf:PE X f tx) (m:M2 X o "get" apos e f cpos):PE X (.Call (.Attribute o "get" apos) [e,f] [] cpos) (UL td ty tx):=by
  intro p_ s σ H Q I h;refine wpAny_Call_method m.base m.few m.line PySem.F.plainAttrs_dict PySem.F.slot_dict_get PySem.F.type_dict_get (cU (ho p_ s σ H _ I h) fun u s1 zz=>?_);obtain⟨x,H1,I1,rx,a,ex,d,q1⟩:=zz;subst ex;obtain rfl:u=Value.ref a:=rx;obtain⟨t1,t2,_⟩:=qfu I1 d;refine⟨t1,t2,?_⟩;rw[m.trees];refine Calls.callWith_builtin rfl (Calls.evalArgs_plain (Calls.spliced_cons (cU (he p_ s1 σ H1 _ I1 q1) fun iv s2 ⟨y,H2,I2,ry,q2⟩=>
    Calls.spliced_cons (cU (hf p_ s2 σ H2 _ I2 q2) fun fv s3 ⟨z,H3,I3,rz,ov,g,q3⟩=>Calls.spliced_nil ?_))))
  exact qfv hu I3 g ry rz fun w' s4 I4 rw'=>⟨_,H3,I4,rw',q3⟩
end
structure Nm2 (mg:Str→Option Value):Prop where
  enumerate:mg "enumerate" = none
  any:mg "any" = none
  dict:mg "dict" = none
  sorted:mg "sorted" = none
  repr:mg "repr" = none
  bool:mg "bool" = none
theorem Inv.Wz {X:Cx} {p_:List (Addr×Obj)} {σ:St} {H:Hp} {s:Shared} {h2:Heap} {t':Nat} {x y:V} {u u':Value} (I:Inv X p_ σ H s) (I1:Inv X p_ σ H {s with heap:=h2,toks:=t'}) (ru:RelV x u) (ru':RelV y u')
    (Cq:h2.get? s.heap.objs.size=some {cls:=.type "tuple",data:=.seq #[u,u']}):Inv X p_ σ (upd H s.heap.objs.size (.tup [x,y])) {s with heap:=h2,toks:=t'}:=by
  have hfr:H s.heap.objs.size=none:=I.hok.fresh (Nat.le_refl _);refine⟨I1.ok,I1.os,I1.bare,⟨I1.base.keep,I1.base.slot,fun c o e n hx=>?_,I1.base.there,fun c zs e=>?_,fun c o v e=>?_,fun c qs e=>?_⟩,I1.loc,I1.cell,?_,fun v c e=>?_,fun v hv=>?_,?_,I1.len⟩
  · rw[aM (fun e'=>?_)]
    ·exact I1.base.free c o e n hx
    ·exact absurd (Nat.lt_of_lt_of_le (Heap.lt_size e) I.sz) (by rw[e'];exact Nat.lt_irrefl _)
  ·have e':=I1.base.tups c zs e;rw[aM (aQ e' hfr)];exact e'
  ·have e':=I1.base.Ac c o v e;rw[aM (aQ e' hfr)];exact e'
  ·obtain⟨m,e'⟩:=I1.base.A_ c qs e;exact⟨m,by rw[aM (aQ e' hfr)];exact e'⟩
  ·rw[aM (Nat.ne_of_lt I.lt)];exact I1.free
  ·obtain⟨w',qc⟩:=I.cell v c e;rw[aM (Nat.ne_of_lt qc.lt)];exact I1.lN v c e
  ·obtain⟨f1,f2,f3⟩:=I1.pin v hv;refine⟨f1,?_,f3⟩;rw[aM (Nat.ne_of_lt (Heap.lt_size (I.pin v hv).1))];exact f2
  · intro c v e
    by_cases hcs:c=s.heap.objs.size
    ·subst hcs;rw[ak] at e;cases e;exact⟨by show 2≤sizeLine;rw[sizeLine_eq];decide,[u,u'],.cons ru (.cons ru' .nil),⟨_,Cq,rfl,0,rfl⟩⟩
    · rw[aM hcs] at e;refine(I1.hok c v e).stay (fun _ _ _ qq=>qq) (fun d qd=>?_) fun d zs qd=>?_
      ·rw[aM (aQ qd hfr)];exact qd
      ·rw[aM (aQ qd hfr)];exact qd
def Ite (K:W.Frag) (a:Addr):It:=
  ⟨fun i H=>∃xs x,bC K H a xs∧xs[i]? = some x,
   fun i H v H'=>∃t x,v = .ref t∧H t=none∧H'=upd H t (.tup [.int i,x])∧∀xs,bC K H a xs→xs[i]? = some x,
   fun i H=>∃xs,bC K H a xs∧xs.length≤i⟩
structure qfw (e it a:Addr) (i:Nat) (h:Heap):Prop where
  he:∃old,IsEnum h e it i old
  hi:h.IsListIter it a i
theorem Yo {P:Program} {w:World} {K:W.Frag} {es:List Expr} {k:Nat} {pos:Pos} {e it a:Addr} (nei:e≠it) :
    Turn P w K (.Tuple es k pos) (Ite K a) [e,it] e (qfw e it a) where
  mem:=by simp
  obj:=fun i h st c hc=>by
    simp only[List.mem_cons,List.not_mem_nil,or_false] at hc
    rcases hc with rfl | rfl
    ·obtain⟨old,q⟩:=st.he;exact⟨_,q,fun v e=>nomatch e⟩
    ·obtain⟨o,e,_,d⟩:=st.hi;exact⟨o,e,fun v y=>by rw[d] at y;cases y⟩
  keep:=fun i h h' st kk=>by
    obtain⟨old,q⟩:=st.he;exact⟨⟨old,kk e (by simp) _ q⟩,st.hi.at fun o z=>kk it (by simp) o z⟩
  item:=by
    intro X hP hw hK hc i p_ s σ H E I hf st hg;subst hP hw hK;obtain⟨xs,x,qa,hx⟩:=hg;obtain⟨its,rv,pl,hz1⟩:=I.list qa;obtain⟨u,hu,ru⟩:=rv.get hx;obtain⟨old,hE⟩:=st.he;obtain⟨o1,e1,c1,_⟩:=id st.hi;refine wpAny_pyNext_enum_item hE st.hi pl.isList (x:=u) (by simpa using hu) nei fun h' a1 a2 a3 a4 kk=>?_;refine⟨_,rfl,wpAny_letOwnedTupleGo_enum a1 fun h2 b1 sb=>?_⟩;have lt:∀{c o},s.heap.get? c=some o→s.heap.objs.size≠c:=fun e=>Nat.ne_of_gt (Heap.lt_size e);have hn:H s.heap.objs.size=none:=I.hok.fresh (Nat.le_refl _);have kk2:∀c o,c∉[e,it]→s.heap.get? c=some o→h2.get? c=some o:=fun c o hc z=>by
      simp only[List.mem_cons,List.not_mem_nil,or_false,not_or] at hc;exact(sb.2 c hc.1).trans (kk c o hc.1 hc.2 z)
    have I1:Inv X p_ σ H {s with heap:=h2,toks:=s.toks+1}:=I.tU kk2 hf;have Cq:=sb.extBut _ _ (lt hE) a3;have I2:Inv X p_ σ (upd H s.heap.objs.size (.tup [.int i,x])) {s with heap:=h2,toks:=s.toks+1}:=I.Wz I1 ⟨_,rfl⟩ ru Cq;refine⟨.ref s.heap.objs.size,_,I2,rfl,⟨s.heap.objs.size,x,rfl,hn,rfl,fun xs' q'=>by rw[I.rT q' qa];exact hx⟩,?_,fun c hcm=>?_⟩
    ·exact⟨⟨_,b1⟩,a2.extBut sb.extBut nei.symm⟩
    · have hne:c≠s.heap.objs.size:=by
        simp only[List.mem_cons,List.not_mem_nil,or_false] at hcm
        rcases hcm with rfl | rfl
        ·exact(lt hE).symm
        ·exact(lt e1).symm
      rw[aM hne];exact(hf c hcm).1
  done:=by
    intro X hP hw hK hc i p_ s σ H E I hf st hg;subst hP hw hK;obtain⟨xs,qa,hl⟩:=hg;obtain⟨its,rv,pl,hz1⟩:=I.list qa;obtain⟨old,hE⟩:=st.he;have l1:=rv.length;refine wpAny_pyNext_enum_end (I.ok.hd hc) hE st.hi pl.isList (by simp;omega) fun h' kk=>⟨rfl,I.tU (t':=s.toks) (fun c o hcm z=>?_) hf⟩;simp only[List.mem_cons,List.not_mem_nil,or_false,not_or] at hcm;exact kk c o hcm.2 z
  self:=fun _ _ _ _ _ st h=>by
    obtain⟨old,q⟩:=st.he;exact wpAny_pyIter_enum q h
section
variable {X:Cx} {K:W.Frag}
def qaG (K:W.Frag) (t:TA):TI:=fun σ H R=>t σ H fun vs H1=>∃a xs,vs=[.ref a]∧bC K H1 a xs∧R (Ite K a) H1
theorem Ep:bootBuiltins "enumerate" = some (.type "enumerate"):=by decide+kernel
theorem Hh (hK:X.K=K) {es:List Expr} {k:Nat} {pos':Pos} {a:Expr} {ta:TA} {p pos:Pos} (hg:Gl X "enumerate") (hm:X.mg "enumerate" = none) (ha:PA X [a] ta)
    (hs:starEach [a] X.env=[(false,eval a X.env)]:=by rfl) :
    PI X (.Tuple es k pos') (.Call (.Name "enumerate" p) [a] [] pos) (qaG K ta):=by
  subst hK;intro p_ s σ H R I h;refine Call_ (rR I hg hm Ep (PyProof.Rows.callWith_type1 (cU (ha pos p_ s σ H _ I h) fun us s1 zz=>?_) (by rw[hs];rfl) (by rfl)));obtain⟨vs,H1,I1,r1,q1⟩:=zz;obtain⟨l1,xs,e,qa,q⟩:=q1;subst e;obtain⟨u,rfl,r⟩:=vals1 r1;obtain rfl:u=Value.ref l1:=r;obtain⟨its,rv,pl,hz1⟩:=I1.list qa;refine call_enumerate_list pl.isList fun h' b1 b2 b3 kk=>?_;refine wpAny_pyIter_enum (s:={s1 with heap:=h'}) b1 ?_;have I2:Inv X p_ σ H1 {s1 with heap:=h'}:=I1.kept (t':=s1.toks) kk;refine⟨s1.heap.objs.size+1,[s1.heap.objs.size+1,s1.heap.objs.size],_,_,H1,rfl,I2,Yo (Nat.succ_ne_self _),⟨⟨_,b1⟩,b2⟩,fun c hc=>?_,q⟩;have hle:s1.heap.objs.size≤c:=by
    simp only[List.mem_cons,List.not_mem_nil,or_false] at hc
    rcases hc with rfl | rfl <;> first | exact Nat.le_add_right _ _ | exact Nat.le_refl _
  exact I1.Ij hle (I1.hok.fresh hle)
end
section
variable {X:Cx} {K:W.Frag} {tg:Expr}
theorem WD (hK:X.K=K) {es:List Expr} {k:Nat} {pos':Pos} {a b:Expr} {ta:TA} {p pos:Pos} (hg:Gl X "zip") (hm:X.mg "zip" = none) (ha:PA X [a,b] ta)
    (hs:starEach [a,b] X.env=[(false,eval a X.env),(false,eval b X.env)]:=by rfl) (hs2:starEach [b] X.env=[(false,eval b X.env)]:=by rfl) :
    PI X (.Tuple es k pos') (.Call (.Name "zip" p) [a,b] [] pos) (qcT K ta):=by subst hK;exact qfm hg hm ha hs hs2
theorem WK (hK:X.K=K) {o value:Expr} {ta tv:TE} {f:Str} {pos pos':Pos} (ha:PE X o ta) (hv:PE X value tv) (hs:swapsWith value (some (.Attribute o f pos')) pos.line X.env=pure false):PS X (.Assign [.Attribute o f pos'] value pos) (qe9 K ta tv f):=by subst hK;exact qfa ha hv hs
end
@[simp ↓] theorem qkg (i:Nat) σ H Q:qeK i σ H Q=(∃v,σ[i]? = some (some v)∧Q v H):=rfl
@[simp ↓] theorem qlS (v:V) z0 H Q:tC v z0 H Q=(Q v H):=rfl
@[simp ↓] theorem qlT (t:TE) σ H Q:tB t σ H Q=(t σ H fun x H1=>∃c,x = .bl c∧Q c H1):=rfl
@[simp ↓] theorem qkh (t:TT) σ H Q:qgP t σ H Q=(t σ H fun c H1=>Q (!c) H1):=rfl
@[simp ↓] theorem qi3 (ta:TE) σ H Q:ZW ta σ H Q=(ta σ H fun x H1=>∃c,x = .bl c∧Q (.bl (!c)) H1):=rfl
@[simp ↓] theorem qi4 D σ H:qdZ  D σ H=(D.nx σ H):=rfl
@[simp ↓] theorem qki (t u:TS) D σ H:qeQ t u D σ H=(t {D with nx:=u D} σ H):=rfl
@[simp ↓] theorem qi5 (te:TE) D σ H:qd0 te D σ H=(te σ H fun _ H1=>D.nx σ H1):=rfl
@[simp ↓] theorem qkj (te:TE) D σ H:qeR te D σ H=(te σ H D.rt):=rfl
@[simp ↓] theorem qhb z0 z1 z2:Ud  z0 z1 z2=(False):=rfl
@[simp ↓] theorem qi6 (i:Nat) v σ H Q:Ml i v σ H Q=(Q (σ.set i (some v)) H):=rfl
@[simp ↓] theorem qkk vs σ H Q:qeS  vs σ H Q=(vs=[]∧Q σ H):=rfl
@[simp ↓] theorem qi7 (t:TG) (u:Mj) vs σ H Q:ZX t u vs σ H Q=(∃v r,vs=v::r∧t v σ H fun σ' H'=>u r σ' H' Q):=rfl
@[simp ↓] theorem qkl (K:W.Frag) (n:Nat) (t:Mj) v σ H Q:qcF K n t v σ H Q=(∃a xs,v = .ref a∧gq K H a xs∧xs.length=n∧t xs σ H Q):=rfl
@[simp ↓] theorem qkm (to ti:TE) (t:Xy) v σ H Q:qgR to ti t v σ H Q=(to σ H fun o H1=>ti σ H1 fun i H2=>t o i v H2 fun H3=>Q σ H3):=rfl
@[simp ↓] theorem qkn (te:TE) (g:TG) D σ H:Z1 te g D σ H=(te σ H fun x H1=>g x σ H1 D.nx):=rfl
@[simp ↓] theorem qko (i:Nat) (te:TE) (ti:TIp) D σ H:qeU i te ti D σ H=(∃x,σ[i]? = some (some x)∧te σ H fun y H1=>ti x y H1 fun z H2=>D.nx (σ.set i (some z)) H2):=rfl
@[simp ↓] theorem qlu (f:Int→Int→Int) x y H Q:ipI f x y H Q=(∃i j,x = .int i∧y = .int j∧Q (.int (f i j)) H):=rfl
@[simp ↓] theorem qi8 (K:W.Frag) (tl:TE) σ H R:Wi K tl σ H R=(tl σ H fun x H1=>∃a,x = .ref a∧(∃xs,bC K H1 a xs)∧R (ZJ K a) H1):=rfl
@[simp ↓] theorem qi9 (ta:TA) σ H R:Z5 ta σ H R=(ta σ H fun vs H1=>∃j:Int,vs=[.int j]∧-(2 ^ 62)≤j∧j<2 ^ 62∧R (T9 0 j.toNat) H1):=rfl
@[simp ↓] theorem qi_ (ta:TA) σ H R:Z6 ta σ H R=(ta σ H fun vs H1=>∃i j:Int,vs=[.int i,.int j]∧(-(2 ^ 62)≤i∧i<2 ^ 62∧-(2 ^ 62)≤j∧j<2 ^ 62)∧R (T9 i (j - i).toNat) H1):=rfl
@[simp ↓] theorem qlv (r:R2) (ta tb:TE) σ H Q:Ld r ta tb σ H Q=(ta σ H fun x H1=>tb σ H1 fun y H2=>r x y H2 Q):=rfl
@[simp ↓] theorem qlw (r:V→Hp→VK→Prop) (ta:TE) σ H Q:tUn r ta σ H Q=(ta σ H fun x H1=>r x H1 Q):=rfl
@[simp ↓] theorem qja (t:TE) σ H Q:Wr t σ H Q=(t σ H fun x H'=>∃k,x = .bl k∧Q k H'):=rfl
@[simp ↓] theorem qkp (K:W.Frag) (ta:TE) (f:Str) σ H Q:qcM K ta f σ H Q=(ta σ H fun x H1=>∃a C dx fs v,x = .ref a∧H1 a=some (.ins C dx fs)∧Cls K C∧qu K C f∧fs.lookup f=some v∧Q v H1):=rfl
@[simp ↓] theorem qkq (K:W.Frag) (ta tv:TE) (f:Str) D σ H:qe9 K ta tv f D σ H=(tv σ H fun y H1=>ta σ H1 fun x H2=>∃a C dx fs,x = .ref a∧H2 a=some (.ins C dx fs)∧Cls K C∧qu K C f∧fs.length<1000∧D.nx σ (upd H2 a (.ins C dx (vp f y fs)))):=rfl
@[simp ↓] theorem qkr z0 H Q:xQ  z0 H Q=(Q [] H):=rfl
@[simp ↓] theorem qjb (ta:TE) (tr:TA) σ H Q:iW ta tr σ H Q=(ta σ H fun x H1=>tr σ H1 fun xs H2=>Q (x::xs) H2):=rfl
@[simp ↓] theorem qks (t:TA) σ H Q:X5 t σ H Q=(t σ H fun xs H1=>xs.length≤sizeLine∧∀p,H1 p=none→Q (.ref p) (upd H1 p (.tup xs))):=rfl
@[simp ↓] theorem qkt (t:TA) σ H Q:X6 t σ H Q=(t σ H fun xs H1=>xs.length≤sizeLine∧∀p,H1 p=none→Q (.ref p) (upd H1 p (.lst xs))):=rfl
@[simp ↓] theorem qlx (r:List V→Hp→VK→Prop) (t:TA) σ H Q:tCB r t σ H Q=(t σ H fun vs H1=>r vs H1 Q):=rfl
@[simp ↓] theorem qgB z0 H Q:zL  z0 H Q=(Q none H):=rfl
@[simp ↓] theorem qjc (t:TE) σ H Q:qak t σ H Q=(t σ H fun x H1=>∃i,x = .int i∧Q (some i) H1):=rfl
@[simp ↓] theorem qly (r:V→Option Int→Option Int→Hp→VK→Prop) (te:TE) (tl th:TO) σ H Q:tSl r te tl th σ H Q=(te σ H fun x H1=>tl σ H1 fun l H2=>th σ H2 fun u H3=>r x l u H3 Q):=rfl
@[simp ↓] theorem qlz (K:W.Frag) (T:String) (r:V→List V→Hp→VK→Prop) (to:TE) (t:TA) σ H Q:tBM K T r to t σ H Q=(to σ H fun x H1=>tyV K T x H1∧t σ H1 fun xs H2=>r x xs H2 Q):=rfl
@[simp ↓] theorem qku z0 H Q:qfj  z0 H Q=(Q true H):=rfl
@[simp ↓] theorem qkv (tl:TE) σ H R:qfk tl σ H R=(tl σ H fun x H1=>∃z,x = .str z∧R (Its z) H1):=rfl
@[simp ↓] theorem qkw (K:W.Frag) (t:TA) σ H R:qcT K t σ H R=(t σ H fun vs H1=>∃a b xs ys,vs=[.ref a,.ref b]∧bC K H1 a xs∧bC K H1 b ys∧R (ZK K a b) H1):=rfl
@[simp ↓] theorem qkx (K:W.Frag) (tl:TE) σ H R:qfr K tl σ H R=(tl σ H fun x H1=>∃b p,x = .ref p∧(∃xs,Ru b K H1 p xs)∧R (Itq b K p) H1):=rfl
structure qky (Q:VK) where
  n:Nat
structure qfx (g:TG) (tb:TS) (D:Ends) where
  n:Nat
structure qhc (c:TT) (tb:TS) (D:Ends) where
  n:Nat
structure qaH (g:TG) (tt:TT) (te:TE) (Q:Hp→Prop) where
  n:Nat
structure UW (A B:Prop) where
  n:Nat
def Yp (sp:Sp) (vs:List V) (H:Hp) (Q:VK) (d:qky Q) (E:XK):Prop:=sp vs H Q E
def tFr (J:It) (g:TG) (tb:TS) (D:Ends) (d:qfx g tb D) (σ:St) (H:Hp):Prop:=qfs J g tb D σ H
def tWh (c:TT) (tb:TS) (D:Ends) (d:qhc c tb D) (σ:St) (H:Hp):Prop:=Ih c tb D σ H
def tCm (own:List Str) (caps:List Nat) (J:It) (g:TG) (tt:TT) (te:TE) (Q:Hp→Prop) (d:qaH g tt te Q) (D:Addr) (σ:St) (H:Hp):Prop:=oR own caps J g tt te D σ H Q
def iu (b:Bool) (A B:Prop) (d:UW A B):Prop:=if b=true then A else B
@[simp] theorem qlA (A B:Prop) (d:UW A B):iu true A B d=A:=rfl
@[simp] theorem qlB (A B:Prop) (d:UW A B):iu false A B d=B:=rfl
theorem iu.of {b:Bool} {A B:Prop} {d:UW A B} (h1:b=true→A) (h2:b=false→B):iu b A B d:=by
  cases b with
  | true=>exact h1 rfl
  | false=>exact h2 rfl
theorem iu.pos {b:Bool} {A B:Prop} {d:UW A B} (h:b=true) (h1:A):iu b A B d:=by subst h;exact h1
theorem iu.neg {b:Bool} {A B:Prop} {d:UW A B} (h:b=false) (h1:B):iu b A B d:=by subst h;exact h1
@[simp ↓] theorem qjd (sp:Sp) (Ef:List V) (E:XK) (t:TA) (σ:St) (H:Hp) (Q:VK):qaf sp Ef E t σ H Q=t σ H fun vs H1=>Yp sp (vs++Ef) H1 Q ⟨0⟩ E:=rfl
@[simp ↓] theorem qje (C:Addr) (m:Str) (sp:Sp) (Ef:List V) (E:XK) (ta:TE) (t:TA) (σ:St) (H:Hp) (Q:VK):qag C m sp Ef E ta t σ H Q=ta σ H fun x H1=>∃a dx fs,x = .ref a∧H1 a=some (.ins C dx fs)∧fs.lookup m=none∧t σ H1 fun vs H2=>Yp sp (x::(vs++Ef)) H2 Q ⟨0⟩ E:=rfl
@[simp ↓] theorem qjf (C:Addr) (sp:Sp) (Ef:List V) (E:XK) (t:TA) (σ:St) (H:Hp) (Q:VK):qah C sp Ef E t σ H Q=t σ H fun vs H1=>∀x dx,H1 x=none→H1 dx=none→dx≠x→
  Yp sp (.ref x::(vs++Ef)) (upd (upd H1 dx (.own x)) x (.ins C dx [])) (fun v H2=>v = .non∧Q (.ref x) H2) ⟨0⟩ E:=rfl
@[simp ↓] theorem qkz (wi:TI) (g:TG) (tb:TS) (D:Ends) (σ:St) (H:Hp):qgS wi g tb D σ H=wi σ H fun J H1=>tFr J g tb D ⟨0⟩ σ H1:=rfl
@[simp ↓] theorem qhd (c:TT) (tb:TS) (D:Ends) (σ:St) (H:Hp):Ih c tb D σ H=tWh c tb D ⟨0⟩ σ H:=rfl
@[simp ↓] theorem qjg (own:List Str) (caps:List Nat) (wi:TI) (g:TG) (tt:TT) (te:TE) (σ:St) (H:Hp) (Q:VK):MF own caps wi g tt te σ H Q=wi σ H fun J H1=>∀D,H1 D=none→tCm own caps J g tt te (Q (.ref D)) ⟨0⟩ D σ (upd H1 D (.lst [])):=rfl
@[simp ↓] theorem qkA (c:TT) (t u:TS) (D:Ends) (σ:St) (H:Hp):qgQ c t u D σ H=c σ H fun b H1=>iu b (t D σ H1) (u D σ H1) ⟨0⟩:=rfl
@[simp ↓] theorem qlC (c:TT) (t u:TE) (σ:St) (H:Hp) (Q:VK):tIf c t u σ H Q=c σ H fun b H1=>iu b (t σ H1 Q) (u σ H1 Q) ⟨0⟩:=rfl
@[simp ↓] theorem qkB (t u:TT) (σ:St) (H:Hp) (Q:Bool→Hp→Prop):qgO t u σ H Q=t σ H fun c H1=>iu c (u σ H1 Q) (Q false H1) ⟨0⟩:=rfl
@[simp ↓] theorem qlD (t u:TT) (σ:St) (H:Hp) (Q:Bool→Hp→Prop):tOr t u σ H Q=t σ H fun c H1=>iu c (Q true H1) (u σ H1 Q) ⟨0⟩:=rfl
@[simp ↓] theorem qjh (ta tb:TE) (σ:St) (H:Hp) (Q:VK):ZV ta tb σ H Q=ta σ H fun x H1=>∃c,x = .bl c∧iu c (tb σ H1 Q) (Q (.bl false) H1) ⟨0⟩:=rfl
@[simp ↓] theorem qhe (r r':R2) (ta tb tc:TE) (σ:St) (H:Hp) (Q:VK):Oq r r' ta tb tc σ H Q=ta σ H fun x H1=>tb σ H1 fun y H2=>r x y H2 fun z H3=>∃k,z = .bl k∧iu k (tc σ H3 fun z H4=>r' y z H4 Q) (Q (.bl false) H3) ⟨0⟩:=rfl
def Cy (g:TG) (tt:TT) (te:TE) (D:Addr) (N:St→Hp→Prop) (x:V) (σ:St) (H:Hp):Prop:=
  g x σ H fun σ2 H3=>tt σ2 H3 fun b H4=>iu b (te σ2 H4 fun y H5=>∃ys,H5 D=some (.lst ys)∧ys.length<sizeLine∧N σ2 (upd H5 D (.lst (ys++[y])))) (N σ2 H4) ⟨0⟩
@[simp ↓] theorem qji (g:TG) (tt:TT) (te:TE) (D:Addr) (N:St→Hp→Prop) (x:V) (σ:St) (H:Hp):Cy g tt te D N x σ H =
  (g x σ H fun σ2 H3=>tt σ2 H3 fun b H4=>iu b (te σ2 H4 fun y H5=>∃ys,H5 D=some (.lst ys)∧ys.length<sizeLine∧N σ2 (upd H5 D (.lst (ys++[y])))) (N σ2 H4) ⟨0⟩):=rfl
@[simp ↓] theorem qkC {α:Type} (a b:α) (R:α→α→Prop):(∃v w,[a,b]=[v,w]∧R v w)=R a b:=by
  refine propext ⟨?_,fun h=>⟨a,b,rfl,h⟩⟩;rintro⟨_,_,e,h⟩;cases e;exact h
@[simp] theorem qjj {α β:Type} (a:α) (b:β) (R:α→β→Prop):(∃v w,(a=v∧b=w)∧R v w)=R a b:=by
  refine propext ⟨?_,fun h=>⟨a,b,⟨rfl,rfl⟩,h⟩⟩;rintro⟨_,_,⟨rfl,rfl⟩,h⟩;exact h
@[simp] theorem sz0:(0≤sizeLine)=True:=eq_true (by decide)
@[simp] theorem sz1:(1≤sizeLine)=True:=eq_true (by decide)
@[simp] theorem sz2:(2≤sizeLine)=True:=eq_true (by decide)
@[simp] theorem sz3:(3≤sizeLine)=True:=eq_true (by decide)
@[simp] theorem sz4:(4≤sizeLine)=True:=eq_true (by decide)
@[simp] theorem sz5:(5≤sizeLine)=True:=eq_true (by decide)
@[simp] theorem sz6:(6≤sizeLine)=True:=eq_true (by decide)
@[simp] theorem sz7:(7≤sizeLine)=True:=eq_true (by decide)
@[simp] theorem sz8:(8≤sizeLine)=True:=eq_true (by decide)
@[simp] theorem sz9:(9≤sizeLine)=True:=eq_true (by decide)
@[simp] theorem qlU:(10≤sizeLine)=True:=eq_true (by decide)
@[simp] theorem qlV:(11≤sizeLine)=True:=eq_true (by decide)
@[simp] theorem qlW:(12≤sizeLine)=True:=eq_true (by decide)
@[simp] theorem qlX:(13≤sizeLine)=True:=eq_true (by decide)
@[simp] theorem qlY:(14≤sizeLine)=True:=eq_true (by decide)
@[simp] theorem qlZ:(15≤sizeLine)=True:=eq_true (by decide)
@[simp] theorem ql0:(16≤sizeLine)=True:=eq_true (by decide)
@[simp] theorem ql1:(17≤sizeLine)=True:=eq_true (by decide)
@[simp] theorem ql2:(18≤sizeLine)=True:=eq_true (by decide)
@[simp] theorem ql3:(19≤sizeLine)=True:=eq_true (by decide)
@[simp] theorem qaI:(20≤sizeLine)=True:=eq_true (by decide)
@[simp] theorem qjk (i j:Int):GQ (.int i) (.int j)=true:=rfl
@[simp] theorem qjl (i j:Str):GQ (.str i) (.str j)=true:=rfl
@[simp] theorem qjm (i j:Bool):GQ (.bl i) (.bl j)=true:=rfl
@[simp] theorem qjn (i:Int) (j:Str):GQ (.int i) (.str j)=true:=rfl
@[simp] theorem qjo (i:Int) (j:Str):GQ (.str j) (.int i)=true:=rfl
@[simp] theorem qhf (K:W.Frag) (p:Addr) (H:Hp):tyV K "list" (.ref p) H=(∃xs,bC K H p xs):=by simp[tyV]
@[simp] theorem qjp (K:W.Frag) (p:Str) (H:Hp):tyV K "str" (.str p) H=True:=by simp[tyV]
section
variable {K:W.Frag} {l:Addr} {xs:List V} {g:TG} {tb:TS} {D:Ends} {d:qfx g tb D} {σ:St} {H:Hp}
theorem frL (xs:List V) (Pv:Nat→St→Hp→Prop) (h0:Pv 0 σ H) (hl:∀i σ H,i≤xs.length→Pv i σ H→bC K H l xs)
    (hs:∀i x σ H,xs[i]? = some x→Pv i σ H→g x σ H fun σ2 H2=>tb {D with nx:=Pv (i+1),ct:=Pv (i+1),bk:=D.nx} σ2 H2) (hd:∀σ H,Pv xs.length σ H→D.nx σ H):tFr (ZJ K l) g tb D d σ H:=Z8 Pv h0 hl hs hd
theorem frR {lo:Int} {n:Nat} (Pv:Nat→St→Hp→Prop) (h0:Pv 0 σ H)
    (hs:∀i σ H,i<n→Pv i σ H→g (.int (lo+i)) σ H fun σ2 H2=>tb {D with nx:=Pv (i+1),ct:=Pv (i+1),bk:=D.nx} σ2 H2) (hd:∀σ H,Pv n σ H→D.nx σ H):tFr (T9 lo n) g tb D d σ H:=XF Pv h0 hs hd
end
section
variable {K:W.Frag} {own:List Str} {caps:List Nat} {g:TG} {tt:TT} {te:TE} {D l l1 l2:Addr} {σ:St} {H:Hp} {Q:Hp→Prop} {d:qaH g tt te Q}
theorem U0 (xs:List V) (Pv:Nat→St→Hp→Prop) (h0:Pv 0 (stC own caps σ) H) (hl:∀i σ H,i≤xs.length→Pv i σ H→bC K H l xs)
    (hs:∀i x σ H,xs[i]? = some x→Pv i σ H→Cy g tt te D (Pv (i+1)) x σ H) (hd:∀σ H,Pv xs.length σ H→Q H):tCm own caps (ZJ K l) g tt te Q d D σ H:=M5 Pv h0 hl hs hd
theorem cmQ {b:Bool} (xs:List V) (Pv:Nat→St→Hp→Prop) (h0:Pv 0 (stC own caps σ) H) (hl:∀i σ H,i≤xs.length→Pv i σ H→Ru b K H l xs)
    (hs:∀i x σ H,xs[i]? = some x→Pv i σ H→Cy g tt te D (Pv (i+1)) x σ H) (hd:∀σ H,Pv xs.length σ H→Q H):tCm own caps (Itq b K l) g tt te Q d D σ H:=qay Pv h0 hl hs hd
theorem cmR {lo:Int} {n:Nat} (Pv:Nat→St→Hp→Prop) (h0:Pv 0 (stC own caps σ) H)
    (hs:∀i σ H,i<n→Pv i σ H→Cy g tt te D (Pv (i+1)) (.int (lo+i)) σ H) (hd:∀σ H,Pv n σ H→Q H):tCm own caps (T9 lo n) g tt te Q d D σ H:=Uy Pv h0 hs hd
theorem cmS {z:Str} (Pv:Nat→St→Hp→Prop) (h0:Pv 0 (stC own caps σ) H)
    (hs:∀i c σ H,z.cps[i]? = some c→Pv i σ H→Cy g tt te D (Pv (i+1)) (.str ⟨#[c]⟩) σ H) (hd:∀σ H,Pv z.cps.size σ H→Q H):tCm own caps (Its z) g tt te Q d D σ H:=qaw Pv h0 hs hd
theorem cmZ (xs ys:List V) (Pv:Nat→St→Hp→Prop) (h0:Pv 0 (stC own caps σ) H) (he:xs.length=ys.length) (hl:∀i σ H,i≤xs.length→Pv i σ H→bC K H l1 xs∧bC K H l2 ys)
    (hs:∀i x y t σ H,xs[i]? = some x→ys[i]? = some y→H t=none→Pv i σ H→Cy g tt te D (Pv (i+1)) (.ref t) σ (upd H t (.tup [x,y]))) (hd:∀σ H,Pv xs.length σ H→Q H):tCm own caps (ZK K l1 l2) g tt te Q d D σ H:=qax Pv h0 he hl hs hd
end
theorem qaJ {c:Bool} {t u:TS} {D:Ends} {σ:St} {H:Hp} {d:UW (t D σ H) (u D σ H)} (R:St→Hp→Prop) (hc:∀σ H,R σ H→D.nx σ H)
    (h:∀N:St→Hp→Prop,(∀σ H,R σ H→N σ H)→iu c (t {D with nx:=N} σ H) (u {D with nx:=N} σ H) ⟨0⟩):iu c (t D σ H) (u D σ H) d:=h D.nx hc
theorem Cz {α β:Type} {f:α→β} {ys zs:List β} (h:ys.Perm zs):∀l:List α,zs=l.map f→∃l':List α,l'.Perm l∧ys=l'.map f:=by
  induction h with
  | nil=>
    intro l e;cases l with
    | nil=>exact⟨[],.nil,rfl⟩
    | cons a l=>cases e
  | cons x _ ih=>
    intro l e;cases l with
    | nil=>cases e
    | cons a l=>
      simp only[List.map_cons,List.cons.injEq] at e;obtain⟨l',p,e'⟩:=ih l e.2;exact⟨a::l',p.cons a,by rw[e',e.1,List.map_cons]⟩
  | swap x y _=>
    intro l e
    match l,e with
    | a::b::l,e=>
      simp only[List.map_cons,List.cons.injEq] at e;exact⟨b::a::l,.swap ..,by rw[e.1,e.2.1,e.2.2];rfl⟩
  | trans _ _ ih1 ih2=>
    intro l e;obtain⟨l',p,e'⟩:=ih2 l e;obtain⟨l2,p2,e2⟩:=ih1 l' e';exact⟨l2,p2.trans p,e2⟩
end L2
namespace L2
open PySem
theorem Pg (K:W.Frag):W.kitOne K (.type "list") (.type "int")=some false:=by simp[W.kitOne];rfl
theorem Li (K:W.Frag):W.kitOne K (.type "list") (.type "bool")=some false:=by simp[W.kitOne];rfl
theorem Lj (K:W.Frag):W.kitOne K (.type "tuple") (.type "int")=some false:=by simp[W.kitOne];rfl
theorem IK (K:W.Frag):W.kitOne K (.type "tuple") (.type "bool")=some false:=by simp[W.kitOne];rfl
theorem RB (K:W.Frag):W.kitOne K (.type "str") (.type "str")=some true:=by simp[W.kitOne]
theorem RD (K:W.Frag):W.kitOne K (.type "str") (.type "int")=some false:=by simp[W.kitOne];rfl
theorem Ph (K:W.Frag):W.kitOne K (.type "str") (.type "bool")=some false:=by simp[W.kitOne];rfl
theorem RG (K:W.Frag):W.kitOne K (.type "int") (.type "int")=some true:=by simp[W.kitOne]
theorem Pj (K:W.Frag):W.kitOne K (.type "int") (.type "bool")=some false:=by simp[W.kitOne];rfl
theorem Pn (K:W.Frag):W.kitOne K (.type "bool") (.type "int")=some true:=by simp[W.kitOne];rfl
theorem Lk (K:W.Frag):W.kitOne K (.type "bool") (.type "bool")=some true:=by simp[W.kitOne]
theorem Pq (K:W.Frag):W.kitOne K (.type "dict") (.type "int")=some false:=by simp[W.kitOne];rfl
theorem Ln (K:W.Frag):W.kitOne K (.type "dict") (.type "bool")=some false:=by simp[W.kitOne];rfl
theorem Er (K:W.Frag):W.kitOne K (.type "NoneType") (.type "int")=some false:=by simp[W.kitOne];rfl
theorem CG (K:W.Frag):W.kitOne K (.type "NoneType") (.type "bool")=some false:=by simp[W.kitOne];rfl
end L2
namespace L2
open PySem PySem.Spec PyProof.Rows
section
variable {X:Cx} {K:W.Frag}
def qhg (K:W.Frag):R2:=fun x y H Q=>∃d e,Is K H d x∧Is K H e y∧d.canLay0=true∧e.canLay0=true∧d.depth≤64∧Q (.bl (!PyData.eqv d e)) H
theorem qfy (hK:X.K=K) (hu:X.A.units+64<cLine):iU X (compareOp .NotEq) (qhg K):=by
  subst hK;intro p_ s σ H x y v u Q I rx ry h;obtain⟨d,e,h1,h2,h3,h4,h5,q⟩:=h;exact qfn p_ s σ H x y v u Q I rx ry ⟨d,e,h1,h2,h3,h4,by omega,q⟩
end
@[simp ↓] theorem qjq (td ty:TE) (σ:St) (H:Hp) (Q:VK):qaD td ty σ H Q=(td σ H fun x H1=>ty σ H1 fun y H2=>∃a v,x = .ref a∧rY H2 a y (some v)∧Q v H2):=rfl
@[simp ↓] theorem qgC (ty td:TE) (σ:St) (H:Hp) (Q:VK):Pb ty td σ H Q=(ty σ H fun y H1=>td σ H1 fun x H2=>∃a o,x = .ref a∧rY H2 a y o∧Q (.bl (!o.isSome)) H2):=rfl
@[simp ↓] theorem qjr (td ty tv:TE) (D:Ends) (σ:St) (H:Hp):qaE td ty tv D σ H=(tv σ H fun v H1=>td σ H1 fun x H2=>ty σ H2 fun y H3=>∃a H4,x = .ref a∧O_ H3 a y v H4∧D.nx σ H4):=rfl
@[simp ↓] theorem qhh (σ:St) (H:Hp) (Q:VK):UJ σ H Q=(∀p,H p=none→Q (.ref p) (upd H p (.dK []))):=rfl
@[simp ↓] theorem qjs (ZL:List (TE×TE)) (σ:St) (H:Hp) (Q:VK):qd9 ZL σ H Q=(∀p,H p=none→Bc ZL σ (upd H p (.dK [])) fun ps H2=>H2 p=some (.dK [])∧∃kvs:List (Key×V),ps=kvs.map (fun kv=>(kV kv.1,kv.2))∧kvs.length≤15∧Q (.ref p) (upd H2 p (.dK (Bd [] kvs)))):=rfl
@[simp ↓] theorem qhi (σ:St) (H:Hp) (Q:List (V×V)→Hp→Prop):Bc [] σ H Q=Q [] H:=rfl
@[simp ↓] theorem qhj (tk tv:TE) (r:List (TE×TE)) (σ:St) (H:Hp) (Q:List (V×V)→Hp→Prop):Bc ((tk,tv)::r) σ H Q=(tk σ H fun x H1=>tv σ H1 fun y H2=>Bc r σ H2 fun ps H3=>Q ((x,y)::ps) H3):=rfl
@[simp ↓] theorem qhk (td ty tx:TE) (σ:St) (H:Hp) (Q:VK):UL td ty tx σ H Q=(td σ H fun x H1=>∃a,x = .ref a∧IsD H1 a∧ty σ H1 fun y H2=>tx σ H2 fun z H3=>∃o,rY H3 a y o∧Q (o.getD z) H3):=rfl
@[simp ↓] theorem qjt (K:W.Frag) (t:TA) (σ:St) (H:Hp) (R:It→Hp→Prop):qaG K t σ H R=(t σ H fun vs H1=>∃a xs,vs=[.ref a]∧bC K H1 a xs∧R (Ite K a) H1):=rfl
theorem qhl {H:Hp} {a:Addr} {kvs:List (Key×V)} (i:Int) (e:H a=some (.dK kvs)):rY H a (.int i) (qW kvs (Sum.inl i)):=rY.k (k:=Sum.inl i) e
theorem qhm {H:Hp} {a:Addr} {kvs:List (Key×V)} (x:Str) (e:H a=some (.dK kvs)):rY H a (.str x) (qW kvs (Sum.inr x)):=rY.k (k:=Sum.inr x) e
theorem qkD {H:Hp} {a:Addr} {kvs:List (Key×V)} {v:V} (x:Str) (e:H a=some (.dK kvs)) (hl:kvs.length<sizeLine):O_ H a (.str x) v (upd H a (.dK (putK kvs (Sum.inr x) v))):=O_.k (k:=Sum.inr x) e hl
theorem isD {H:Hp} {a:Addr} {kvs:List (Key×V)} (e:H a=some (.dK kvs)):IsD H a:=.inl ⟨kvs,.inl e⟩
section
variable {K:W.Frag} {l:Addr} {g:TG} {tb:TS} {D:Ends} {d:qfx g tb D} {σ:St} {H:Hp}
theorem frE (xs:List V) (Pv:Nat→St→Hp→Prop) (h0:Pv 0 σ H) (hl:∀i σ H,i≤xs.length→Pv i σ H→bC K H l xs)
    (hs:∀i x t σ H,xs[i]? = some x→H t=none→Pv i σ H→g (.ref t) σ (upd H t (.tup [.int i,x])) fun σ2 H2=>tb {D with nx:=Pv (i+1),ct:=Pv (i+1),bk:=D.nx} σ2 H2) (hd:∀σ H,Pv xs.length σ H→D.nx σ H):tFr (Ite K l) g tb D d σ H:=by
  refine⟨fun i m σ H=>m=xs.length - i∧i≤xs.length∧Pv i σ H,⟨xs.length,by simp,Nat.zero_le _,h0⟩,?_⟩;rintro i m σ H ⟨rfl,hi,p⟩;have q:=hl i σ H hi p
  by_cases hlt:i<xs.length
  ·refine .inr ⟨⟨xs,xs[i],q,by simp[hlt]⟩,Pv (i+1),fun σ' H' p'=>⟨xs.length - (i+1),by omega,rfl,hlt,p'⟩,fun x H' y=>?_⟩;obtain⟨t,u,rfl,ht,rfl,e⟩:=y;exact hs i u t σ H (e xs q) ht p
  · have e:i=xs.length:=by omega
    subst e;exact .inl ⟨⟨xs,q,Nat.le_refl _⟩,hd σ H p⟩
end
section
variable {K:W.Frag} {own:List Str} {caps:List Nat} {g:TG} {tt:TT} {te:TE} {D l:Addr} {σ:St} {H:Hp} {Q:Hp→Prop} {d:qaH g tt te Q}
theorem cmE (xs:List V) (Pv:Nat→St→Hp→Prop) (h0:Pv 0 (stC own caps σ) H) (hl:∀i σ H,i≤xs.length→Pv i σ H→bC K H l xs)
    (hs:∀i x t σ H,xs[i]? = some x→H t=none→Pv i σ H→Cy g tt te D (Pv (i+1)) (.ref t) σ (upd H t (.tup [.int i,x]))) (hd:∀σ H,Pv xs.length σ H→Q H):tCm own caps (Ite K l) g tt te Q d D σ H:=by
  refine⟨fun i m σ H=>m=xs.length - i∧i≤xs.length∧Pv i σ H,⟨xs.length,by simp,Nat.zero_le _,h0⟩,?_⟩;rintro i m σ H ⟨rfl,hi,p⟩;have q:=hl i σ H hi p
  by_cases hlt:i<xs.length
  ·refine .inr ⟨⟨xs,xs[i],q,by simp[hlt]⟩,Pv (i+1),fun σ' H' p'=>⟨xs.length - (i+1),by omega,rfl,hlt,p'⟩,fun x H' y=>?_⟩;obtain⟨t,u,rfl,ht,rfl,e⟩:=y;exact hs i u t σ H (e xs q) ht p
  · have e:i=xs.length:=by omega
    subst e;exact .inl ⟨⟨xs,q,Nat.le_refl _⟩,hd σ H p⟩
end
section
variable {c:TT} {tb:TS} {D:Ends} {d:qhc c tb D} {σ:St} {H:Hp}
theorem whB (Pv:St→Hp→Prop) (μ:St→Hp→Nat) (h0:Pv σ H)
    (hs:∀σ H,Pv σ H→c σ H fun b H1=>iu b (tb {D with nx:=fun σ' H'=>Pv σ' H'∧μ σ' H'<μ σ H,ct:=fun σ' H'=>Pv σ' H'∧μ σ' H'<μ σ H,bk:=D.nx} σ H1) (D.nx σ H1) ⟨0⟩)
    (mono:∀σ H Q Q',(∀b H1,Q b H1→Q' b H1)→c σ H Q→c σ H Q'):tWh c tb D d σ H:=Z9 Pv μ h0 hs mono
end
end L2
namespace L2
open PySem
inductive RT {α:Type} (R:α→α→Prop):α→α→Prop where
  | refl (a:α):RT R a a
  | tail {a b c:α}:RT R a b→R b c→RT R a c
abbrev iB:=Nat×Str×Str
def IV (S:List iB) (a b:Str):Prop:=∃n,(n,a,b)∈S
def Pr (fx:Nat→Option Int) (e:Str×Str) (k:Nat):List iB:=
  (if (fx k).getD 0=0 then [(k,e.1,e.2)] else [])++(if (fx k).getD 1=1 then [(k,e.2,e.1)] else [])
def gG (fx:Nat→Option Int):List (Str×Str)→Nat→List iB
  | [],_=>[]
  | e::r,k=>Pr fx e k++gG fx r (k+1)
theorem yj (fx:Nat→Option Int):∀(l m:List (Str×Str)) (k:Nat),gG fx (l++m) k=gG fx l k++gG fx m (k+l.length)
  | [],m,k=>by simp[gG]
  | e::l,m,k=>by
    simp only[List.cons_append,gG,yj fx l m (k+1),List.append_assoc,List.length_cons];rw[show k+1+l.length=k+(l.length+1) by omega]
theorem Pu (fx:Nat→Option Int) {ps:List (Str×Str)} {i:Nat} {e:Str×Str} (h:ps[i]? = some e):gG fx (ps.take (i+1)) 0=gG fx (ps.take i) 0++Pr fx e i:=by
  have hi:i<ps.length:=(List.getElem?_eq_some_iff.mp h).1;rw[take_one h,yj,List.length_take,Nat.min_eq_left (Nat.le_of_lt hi),Nat.zero_add];simp[gG]
end L2
namespace L2
open PySem PySem.Spec PyProof.Rows
def cR {β:Type} (R:Hp→V→β→Prop) (H:Hp) (vs:List V) (bs:List β):Prop:=vs.length=bs.length∧∀(i:Nat) v b,vs[i]? = some v→bs[i]? = some b→R H v b
section
variable {β:Type} {R:Hp→V→β→Prop} {H H':Hp} {vs:List V} {bs:List β}
theorem cR.nil:cR R H [] []:=⟨rfl,fun i v b h=>by simp at h⟩
theorem cR.keep (h:cR R H vs bs) (k:∀v b,R H v b→R H' v b):cR R H' vs bs:=⟨h.1,fun i v b h1 h2=>k v b (h.2 i v b h1 h2)⟩
theorem cR.at (h:cR R H vs bs) {i:Nat} {v:V} (hv:vs[i]? = some v):∃b,bs[i]? = some b∧R H v b:=by
  have hi:i<bs.length:=by rw[← h.1];exact(List.getElem?_eq_some_iff.mp hv).1
  exact⟨bs[i],by simp[hi],h.2 i v _ hv (by simp[hi])⟩
theorem cR.snoc {v:V} {b:β} (h:cR R H vs bs) (hv:R H v b):cR R H (vs++[v]) (bs++[b]):=by
  refine⟨by simp[h.1],fun i u d h1 h2=>?_⟩
  by_cases hi:i<vs.length
  ·rw[List.getElem?_append_left hi] at h1;rw[List.getElem?_append_left (by rw[← h.1];exact hi)] at h2;exact h.2 i u d h1 h2
  · rw[List.getElem?_append_right (by omega)] at h1;rw[List.getElem?_append_right (by rw[← h.1];omega),← h.1] at h2;cases hk:i - vs.length with
    | zero=>
      rw[hk] at h1 h2;cases h1;cases h2;exact hv
    | succ j=>
      rw[hk] at h1;simp at h1
end
def RJ (H:Hp) (v:V) (s:iB):Prop:=∃t,v = .ref t∧H t=some (.tup [.int s.1,.str s.2.1,.str s.2.2])
abbrev cP:=cR RJ
def cI (H H':Hp):Prop:=∀b xs,H b=some (.tup xs)→H' b=some (.tup xs)
theorem cI.of {H H':Hp} (s:Same H H'):cI H H':=fun b xs e=>s b _ e
theorem cI.set {H:Hp} {p:Addr} {o u:HO} (h:H p=some o) (hn:∀xs,o≠.tup xs):cI H (upd H p u):=fun b xs e=>by
  rw[aM (fun z=>by subst z;rw[h] at e;exact hn xs (Option.some.inj e))];exact e
theorem RJ.keep {H H':Hp} (k:cI H H'):∀v s,RJ H v s→RJ H' v s:=fun v s ⟨t,e,h⟩=>⟨t,e,k _ _ h⟩
theorem cP.keep {H H':Hp} {vs:List V} {S:List iB} (h:cP H vs S) (k:cI H H'):cP H' vs S:=cR.keep h (RJ.keep k)
def qhn (H:Hp) (d:Addr) (fx:Nat→Option Int):Prop:=∃kvs,H d=some (.dK kvs)∧∀k:Nat,qW kvs (Sum.inl (k:Int))=(fx k).map V.int
theorem RK (o:Option Int) (x:Int):(o.map V.int).getD (.int x) = .int (o.getD x):=by cases o <;> rfl
end L2
namespace L2
open PySem
inductive Ai (S:List iB) (a:Str):List Nat→List Str→Str→Prop where
  | nil:Ai S a [] [a] a
  | snoc {w:List Nat} {vs:List Str} {b c:Str} {n:Nat}:Ai S a w vs b→(n,b,c)∈S→Ai S a (w++[n]) (vs++[c]) c
theorem Ai.reach {S:List iB} {a:Str} {w:List Nat} {vs:List Str} {b:Str} (h:Ai S a w vs b):RT (IV S) a b:=by
  induction h with
  | nil=>exact .refl _
  | snoc _ q ih=>exact .tail ih ⟨_,q⟩
inductive Walk (S:List iB) (a:Str):Nat→Str→Prop where
  | nil:Walk S a 0 a
  | snoc {k:Nat} {b c:Str} {n:Nat}:Walk S a k b→(n,b,c)∈S→Walk S a (k+1) c
theorem Walk.of {S:List iB} {a b:Str} (h:RT (IV S) a b):∃k,Walk S a k b:=by
  induction h with
  | refl=>exact⟨0,.nil⟩
  | tail _ q ih=>
    obtain⟨k,hk⟩:=ih;obtain⟨n,hn⟩:=q;exact⟨k+1,.snoc hk hn⟩
abbrev BR:=List (Str×List Nat)
structure RL (S:List iB) (a:Str) (at_:Nat) (R:BR):Prop where
  st:R[0]? = some (a,[])
  nd:(R.map (·.1)).Nodup
  pth:∀y w,(y,w)∈R→∃vs,Ai S a w vs y∧vs.Nodup∧∀v∈vs,v∈R.map (·.1)
  cl:∀(i:Nat) y w,i<at_→R[i]? = some (y,w)→∀n c,(n,y,c)∈S→∃w',(c,w')∈R∧w'.length≤w.length+1
  mono:∀(i j:Nat) y w z u,i≤j→R[i]? = some (y,w)→R[j]? = some (z,u)→w.length≤u.length
  bd:∀(y:Str) (w:List Nat) z u,R[at_]? = some (y,w)→(z,u)∈R→u.length≤w.length+1
structure qy (S T:List iB) (a:Str) (at_:Nat) (h:Str) (wh:List Nat) (R:BR):Prop where
  bf:RL S a at_ R
  hr:R[at_]? = some (h,wh)
  md:∀n c,(n,h,c)∈T→∃w',(c,w')∈R∧w'.length≤wh.length+1
theorem RL.begin (S:List iB) (a:Str):RL S a 0 [(a,[])]:=by
  refine⟨rfl,by simp,?_,by intro i y w h;omega,?_,?_⟩
  ·intro y w h;simp at h;obtain⟨rfl,rfl⟩:=h;exact⟨[y],.nil,by simp,by simp⟩
  · intro i j y w z u hij h1 h2;have hi:i=0:=by have:=(List.getElem?_eq_some_iff.mp h1).1;simp at this;omega
    have hj:j=0:=by have:=(List.getElem?_eq_some_iff.mp h2).1;simp at this;omega
    subst hi hj;rw[h1] at h2;cases h2;exact Nat.le_refl _
  ·intro y w z u h1 h2;simp at h1 h2;rw[h2.2,← h1.2];simp
theorem qy.enter {S:List iB} {a:Str} {at_:Nat} {h:Str} {wh:List Nat} {R:BR} (b:RL S a at_ R) (hr:R[at_]? = some (h,wh)):qy S [] a at_ h wh R:=⟨b,hr,by simp⟩
theorem qy.skip {S T:List iB} {a:Str} {at_:Nat} {h:Str} {wh:List Nat} {R:BR} (b:qy S T a at_ h wh R) {s:iB} (hs:s.2.1=h→s.2.2∈R.map (·.1)):qy S (T++[s]) a at_ h wh R:=by
  refine⟨b.bf,b.hr,fun n c hm=>?_⟩
  rcases List.mem_append.mp hm with q | q
  ·exact b.md n c q
  ·simp at q;subst q;obtain⟨⟨c',w'⟩,hw,e⟩:=List.mem_map.mp (hs rfl);simp only at e;subst e;exact⟨w',hw,b.bf.bd _ _ _ _ b.hr hw⟩
theorem qy.add {S T:List iB} {a:Str} {at_:Nat} {h:Str} {wh:List Nat} {R:BR} (b:qy S T a at_ h wh R) {n:Nat} {c:Str} (hS:(n,h,c)∈S) (hc:¬c∈R.map (·.1)):qy S (T++[(n,h,c)]) a at_ h wh (R++[(c,wh++[n])]):=by
  obtain⟨⟨st,nd,pth,cl,mono,bd⟩,hr,md⟩:=b;have hat:at_<R.length:=(List.getElem?_eq_some_iff.mp hr).1;have ml:∀{i:Nat} {x},i<R.length→(R++[(c,wh++[n])])[i]? = some x→R[i]? = some x:=fun hi e=>by rwa [List.getElem?_append_left hi] at e
  have last:∀{i:Nat} {x},¬i<R.length→(R++[(c,wh++[n])])[i]? = some x→x=(c,wh++[n]):=fun hi e=>by
    rw[List.getElem?_append_right (by omega)] at e;cases hk:_ - R.length with
    | zero=>rw[hk] at e;simp at e;exact e.symm
    | succ k=>rw[hk] at e;simp at e
  refine⟨⟨?_,?_,?_,?_,?_,?_⟩,?_,?_⟩
  ·rw[List.getElem?_append_left (by omega)];exact st
  ·rw[List.map_append,List.nodup_append];refine⟨nd,by simp,?_⟩;intro x hx y hy e;simp at hy;subst hy;exact hc (e▸hx)
  · intro y w hy
    rcases List.mem_append.mp hy with q | q
    ·obtain⟨vs,h1,h2,h3⟩:=pth y w q;exact⟨vs,h1,h2,fun v hv=>by rw[List.map_append];exact List.mem_append_left _ (h3 v hv)⟩
    · simp at q;obtain⟨rfl,rfl⟩:=q;obtain⟨vs,h1,h2,h3⟩:=pth h wh (List.mem_of_getElem? hr);refine⟨vs++[y],.snoc h1 hS,?_,?_⟩
      ·rw[List.nodup_append];refine⟨h2,by simp,?_⟩;intro x hx z hz e;simp at hz;subst hz;exact hc (e▸h3 x hx)
      · intro v hv;rw[List.map_append]
        rcases List.mem_append.mp hv with q | q
        ·exact List.mem_append_left _ (h3 v q)
        ·simp at q;subst q;simp
  ·intro i y w hi e m c' hm;obtain⟨w',q1,q2⟩:=cl i y w hi (ml (by omega) e) m c' hm;exact⟨w',List.mem_append_left _ q1,q2⟩
  · intro i j y w z u hij h1 h2
    by_cases hj:j<R.length
    ·exact mono i j y w z u hij (ml (by omega) h1) (ml hj h2)
    · have e2:=last hj h2;cases e2
      by_cases hi:i<R.length
      ·have:=bd h wh y w hr (List.mem_of_getElem? (ml hi h1));simp;exact this
      ·have e1:=last hi h1;cases e1;exact Nat.le_refl _
  · intro y w z u h1 h2;have h1':=ml hat h1;rw[hr] at h1';cases h1'
    rcases List.mem_append.mp h2 with q | q
    ·exact bd _ _ z u hr q
    ·simp at q;rw[q.2];simp
  ·rw[List.getElem?_append_left hat];exact hr
  · intro m c' hm
    rcases List.mem_append.mp hm with q | q
    ·obtain⟨w',q1,q2⟩:=md m c' q;exact⟨w',List.mem_append_left _ q1,q2⟩
    ·simp at q;obtain⟨rfl,rfl⟩:=q;exact⟨wh++[m],by simp,by simp⟩
theorem qy.leave {S:List iB} {a:Str} {at_:Nat} {h:Str} {wh:List Nat} {R:BR} (b:qy S S a at_ h wh R):RL S a (at_+1) R:=by
  obtain⟨⟨st,nd,pth,cl,mono,bd⟩,hr,md⟩:=b;refine⟨st,nd,pth,?_,mono,?_⟩
  · intro i y w hi e n c hm
    by_cases hia:i=at_
    ·subst hia;rw[hr] at e;cases e;exact md n c hm
    ·exact cl i y w (by omega) e n c hm
  ·intro y w z u h1 h2;have q1:=bd h wh z u hr h2;have q2:=mono at_ (at_+1) h wh y w (by omega) hr h1;omega
theorem RL.all {S:List iB} {a:Str} {R:BR} (b:RL S a R.length R) {k:Nat} {y:Str} (h:Walk S a k y):∃w,(y,w)∈R∧w.length≤k:=by
  induction h with
  | nil=>exact⟨[],List.mem_of_getElem? b.st,Nat.le_refl _⟩
  | @snoc k b' c n _ q ih=>
    obtain⟨w,h1,h2⟩:=ih;obtain⟨i,hi⟩:=List.mem_iff_getElem?.mp h1;obtain⟨w',h3,h4⟩:=b.cl i b' w (List.getElem?_eq_some_iff.mp hi).1 hi n c q;exact⟨w',h3,by omega⟩
theorem RL.iff {S:List iB} {a:Str} {R:BR} (b:RL S a R.length R) (y:Str):y∈R.map (·.1)↔RT (IV S) a y:=by
  constructor
  ·intro h;obtain⟨⟨z,w⟩,h1,e⟩:=List.mem_map.mp h;simp only at e;subst e;obtain⟨vs,p,_⟩:=b.pth z w h1;exact p.reach
  ·intro h;obtain⟨k,hk⟩:=Walk.of h;obtain⟨w,h1,_⟩:=b.all hk;exact List.mem_map.mpr ⟨(y,w),h1,rfl⟩
theorem RL.sub {S:List iB} {a:Str} {i:Nat} {R:BR} (b:RL S a i R) {xs:List Str} (ha:a∈xs) (hS:∀s∈S,s.2.2∈xs):∀y∈R.map (·.1),y∈xs:=by
  intro y h;obtain⟨⟨z,w⟩,h1,e⟩:=List.mem_map.mp h;simp only at e;subst e;obtain⟨vs,p,_⟩:=b.pth z w h1;cases p with
  | nil=>exact ha
  | snoc _ q=>exact hS _ q
theorem nR {α:Type} [DecidableEq α]:∀{l xs:List α},l.Nodup→(∀y∈l,y∈xs)→l.length≤xs.length
  | [],_,_,_=>Nat.zero_le _
  | y::l,xs,hn,hs=>by
    obtain⟨h1,h2⟩:=List.nodup_cons.mp hn;have hy:y∈xs:=hs y List.mem_cons_self;have:=nR (l:=l) (xs:=xs.erase y) h2 fun z hz=>(List.mem_erase_of_ne (fun(e:z=y)=>h1 (e▸hz))).mpr (hs z (List.mem_cons_of_mem _ hz));rw[List.length_erase_of_mem hy] at this;have h0:0<xs.length:=List.length_pos_of_mem hy;simp only[List.length_cons];omega
theorem Ai.len {S:List iB} {a:Str} {w:List Nat} {vs:List Str} {b:Str} (h:Ai S a w vs b):vs.length=w.length+1:=by
  induction h with
  | nil=>rfl
  | snoc _ _ ih=>simp[ih]
theorem RL.qho {S:List iB} {a:Str} {i:Nat} {R:BR} (b:RL S a i R) {y:Str} {w:List Nat} (h:(y,w)∈R):w.length<R.length:=by
  obtain⟨vs,p,nd,sub⟩:=b.pth y w h;have h1:=nR nd sub;have h2:=p.len;simp at h1;omega
def qkE (H:Hp) (kv:Key×V) (yw:Str×List Nat):Prop:=kv.1=Sum.inr yw.1∧∃p,kv.2 = .ref p∧H p=some (.lst (yw.2.map fun n:Nat=>V.int n))
structure fX (H:Hp) (kvs:List (Key×V)) (R:BR):Prop where
  len:kvs.length=R.length
  ok:∀(i:Nat) kv yw,kvs[i]? = some kv→R[i]? = some yw→qkE H kv yw
theorem fX.keep {H H':Hp} {kvs:List (Key×V)} {R:BR} (h:fX H kvs R) (k:∀(p:Addr) (w:List Nat),H p=some (.lst (w.map fun n:Nat=>V.int n))→H' p=some (.lst (w.map fun n:Nat=>V.int n))):fX H' kvs R:=
  ⟨h.len,fun i kv yw h1 h2=>by
    obtain⟨e,p,e2,q⟩:=h.ok i kv yw h1 h2;exact⟨e,p,e2,k _ _ q⟩⟩
theorem fX.none {H:Hp} {kvs:List (Key×V)} {R:BR} (h:fX H kvs R) {y:Str} (hy:¬y∈R.map (·.1)):qW kvs (Sum.inr y)=Option.none:=by
  unfold qW;rw[List.find?_eq_none.mpr]
  ·rfl
  · intro kv hk;obtain⟨i,hi⟩:=List.mem_iff_getElem?.mp hk;have hl:i<R.length:=by rw[← h.len];exact(List.getElem?_eq_some_iff.mp hi).1
    obtain⟨e,_⟩:=h.ok i kv R[i] hi (by simp[hl]);simp only[decide_eq_true_eq];intro z;rw[e] at z;cases z;exact hy (List.mem_map.mpr ⟨R[i],List.getElem_mem hl,rfl⟩)
theorem fX.some {H:Hp} {kvs:List (Key×V)} {R:BR} (h:fX H kvs R) (nd:(R.map (·.1)).Nodup) {y:Str} {w:List Nat} (hy:(y,w)∈R):∃p,qW kvs (Sum.inr y)=Option.some (.ref p)∧H p=Option.some (.lst (w.map fun n:Nat=>V.int n)):=by
  obtain⟨i,hi⟩:=List.mem_iff_getElem?.mp hy;have hl:i<kvs.length:=by rw[h.len];exact(List.getElem?_eq_some_iff.mp hi).1
  have hk:kvs[i]? = Option.some kvs[i]:=by simp[hl]
  unfold qW;have hf:∃kv,kvs.find? (fun kv=>decide (kv.1=Sum.inr y))=Option.some kv:=by
    cases e:kvs.find? (fun kv=>decide (kv.1=Sum.inr y)) with
    | some kv=>exact⟨kv,rfl⟩
    | none=>
      have:=List.find?_eq_none.mp e kvs[i] (List.getElem_mem hl);obtain⟨e1,_⟩:=h.ok i _ _ hk hi;simp[e1] at this
  obtain⟨kv,hkv⟩:=hf;rw[hkv];have hm:=List.mem_of_find?_eq_some hkv;have hp:=List.find?_some hkv;simp only[decide_eq_true_eq] at hp;obtain⟨j,hj⟩:=List.mem_iff_getElem?.mp hm;have hlj:j<R.length:=by rw[← h.len];exact(List.getElem?_eq_some_iff.mp hj).1
  obtain⟨e1,p,e2,e3⟩:=h.ok j kv R[j] hj (by simp[hlj]);rw[hp] at e1;have ey:R[j].1=y:=(Sum.inr.inj e1).symm;have ej:j=i:=Iu nd (x:=y) (by rw[List.getElem?_map,show R[j]? = Option.some R[j] by simp[hlj]];simp[ey]) (by rw[List.getElem?_map,hi];rfl);subst ej;have:R[j]=(y,w):=by
    have:=hi;simp[hlj] at this;exact this
  rw[this] at e3;exact⟨p,by simp[e2],e3⟩
theorem fX.has {H:Hp} {kvs:List (Key×V)} {R:BR} (h:fX H kvs R) (nd:(R.map (·.1)).Nodup) (y:Str):(qW kvs (Sum.inr y)).isSome=decide (y∈R.map (·.1)):=by
  by_cases hy:y∈R.map (·.1)
  ·obtain⟨⟨z,w⟩,h1,e⟩:=List.mem_map.mp hy;simp only at e;subst e;obtain⟨p,e,_⟩:=h.some nd h1;rw[e,decide_eq_true hy];rfl
  ·rw[h.none hy,decide_eq_false hy];rfl
theorem fX.qkF {H:Hp} {kvs:List (Key×V)} {R:BR} (h:fX H kvs R) (nd:(R.map (·.1)).Nodup) (y:Str):(qW kvs (Sum.inr y)).isNone = !decide (y∈R.map (·.1)):=by
  rw[← h.has nd y];cases qW kvs (Sum.inr y) <;> rfl
theorem fX.snoc {H:Hp} {kvs:List (Key×V)} {R:BR} {y:Str} {w:List Nat} {p:Addr} (h:fX H kvs R) (hp:H p=Option.some (.lst (w.map fun n:Nat=>V.int n))):fX H (kvs++[(Sum.inr y,.ref p)]) (R++[(y,w)]):=by
  refine⟨by simp[h.len],fun i kv yw h1 h2=>?_⟩
  by_cases hi:i<kvs.length
  ·rw[List.getElem?_append_left hi] at h1;rw[List.getElem?_append_left (by rw[← h.len];exact hi)] at h2;exact h.ok i kv yw h1 h2
  · rw[List.getElem?_append_right (by omega)] at h1;rw[List.getElem?_append_right (by rw[← h.len];omega),← h.len] at h2;cases hk:i - kvs.length with
    | zero=>
      rw[hk] at h1 h2;cases h1;cases h2;exact⟨rfl,p,rfl,hp⟩
    | succ j=>
      rw[hk] at h1;simp at h1
def qhp (i:Nat) (σ:St):Nat:=match σ[i]? with | some (some (V.int n))=>(10 - n).toNat | _=>0
theorem lQ (x:Str) (xs:List Str):inV (.str x) (xs.map V.str)=decide (x∈xs):=by
  unfold inV;rw[List.any_map,Bool.eq_iff_iff,List.any_eq_true,decide_eq_true_eq];constructor
  ·rintro⟨y,hy,e⟩;simp[X_] at e;exact e▸hy
  ·intro h;exact⟨x,h,by simp[X_]⟩
theorem zN (xs:List Str):(xs.map V.str).all lO=true:=by
  rw[List.all_map,List.all_eq_true];intro x _;rfl
end L2
namespace L2
open PySem PySem.Spec PyProof.Rows
@[simp] theorem qju (i:Int):GQ (.int i) .non=true:=rfl
@[simp] theorem qjv (i:Int):GQ .non (.int i)=true:=rfl
@[simp] theorem qjw (i:Str):GQ (.str i) .non=true:=rfl
end L2
namespace L2
open PySem
def yp {α β:Type} (f:α→Nat→List β):List α→Nat→List β
  | [],_=>[]
  | e::r,k=>f e k++yp f r (k+1)
theorem Gg {α β:Type} (f:α→Nat→List β):∀(l m:List α) (k:Nat),yp f (l++m) k=yp f l k++yp f m (k+l.length)
  | [],m,k=>by simp[yp]
  | e::l,m,k=>by
    simp only[List.cons_append,yp,Gg f l m (k+1),List.append_assoc,List.length_cons];rw[show k+1+l.length=k+(l.length+1) by omega]
theorem Yq {α β:Type} (f:α→Nat→List β) {ps:List α} {i:Nat} {e:α} (h:ps[i]? = some e):yp f (ps.take (i+1)) 0=yp f (ps.take i) 0++f e i:=by
  have hi:i<ps.length:=(List.getElem?_eq_some_iff.mp h).1;rw[take_one h,Gg,List.length_take,Nat.min_eq_left (Nat.le_of_lt hi),Nat.zero_add];simp[yp]
theorem RM {α β:Type} {f:α→Nat→List β} (hf:∀e k,(f e k).length≤1):∀(ps:List α) (k:Nat),(yp f ps k).length≤ps.length
  | [],_=>by simp[yp]
  | e::r,k=>by
    have h1:=RM hf r (k+1);have h2:=hf e k;simp only[yp,List.length_append,List.length_cons];omega
theorem U3 {xs c:List Str} (hx:xs.Nodup) (hc:c.Nodup) (h:∀x∈c,x∈xs):(xs.filter fun y=>decide (y∈c)).length=c.length:=by
  refine Nat.le_antisymm (nR (hx.filter _) fun y hy=>?_) (nR hc fun y hy=>?_)
  ·exact of_decide_eq_true (List.mem_filter.mp hy).2
  ·exact List.mem_filter.mpr ⟨h y hy,decide_eq_true hy⟩
end L2
set_option maxHeartbeats 4000000
namespace L2
open PySem PySem.Spec PyProof.Rows
section
variable {prog:Program} {w:World} {A:Around} {E:Value→Shared→Prop} {s:Shared}
theorem qaK {a:Addr} {Q:Option Obj→Shared→Prop} (h:Q (s.heap.get? a) s):wpAny (model prog w) A (loadIfAlive a) Q E s:=fun Γ p _=>by
  show Sem.wp _ _ (Sem.loadIfAlive a Sem.pure) _ _ _ _;rw[Sem.wp_loadIfAlive];exact h
def pF (b:Bool) (it l:Addr) (items:Array Value) (i:Nat) (h:Heap):Prop:=match b with
  | true=>h.IsListIter it l i∧h.IsList l items
  | false=>h.IsTupleIter it l i∧h.IsTuple l items
theorem qfz {b:Bool} {it l:Addr} {items:Array Value} {i:Nat} {h:Heap} (st:pF b it l items i h):l≠it:=by
  cases b with
  | true=>
    obtain⟨⟨o,e,c,_⟩,⟨u,e',c',_⟩⟩:=st;exact bK e' e c' c (by decide)
  | false=>
    obtain⟨⟨o,e,c,_⟩,⟨u,e',c',_⟩⟩:=st;exact bK e' e c' c (by decide)
theorem qaL {b:Bool} {it l:Addr} {items:Array Value} {i:Nat} {h:Heap} (st:pF b it l items i h):∃o T,h.get? it=some o∧o.cls = .type T∧T≠ "enumerate" :=by
  cases b with
  | true=>obtain⟨⟨o,e,c,_⟩,_⟩:=st;exact⟨o,_,e,c,by decide⟩
  | false=>obtain⟨⟨o,e,c,_⟩,_⟩:=st;exact⟨o,_,e,c,by decide⟩
theorem qd_ {b:Bool} {it l:Addr} {items:Array Value} {i:Nat} {h:Heap} (st:pF b it l items i h):∃o T,h.get? l=some o∧o.cls = .type T∧T≠ "enumerate" :=by
  cases b with
  | true=>obtain⟨_,⟨o,e,c,_⟩⟩:=st;exact⟨o,_,e,c,by decide⟩
  | false=>obtain⟨_,⟨o,e,c,_⟩⟩:=st;exact⟨o,_,e,c,by decide⟩
theorem CJ {b:Bool} {it l:Addr} {items:Array Value} {i:Nat} {h h':Heap} (st:pF b it l items i h) (k1:∀o,h.get? it=some o→h'.get? it=some o) (k2:∀o,h.get? l=some o→h'.get? l=some o):pF b it l items i h':=by
  cases b with
  | true=>obtain⟨⟨o,e,c⟩,⟨u,e',c'⟩⟩:=st;exact⟨⟨o,k1 _ e,c⟩,⟨u,k2 _ e',c'⟩⟩
  | false=>obtain⟨⟨o,e,c⟩,⟨u,e',c'⟩⟩:=st;exact⟨⟨o,k1 _ e,c⟩,⟨u,k2 _ e',c'⟩⟩
theorem qaM {b:Bool} {it l:Addr} {items:Array Value} {i:Nat} {x:Value} {Q:Value→Shared→Prop} (st:pF b it l items i s.heap) (hx:items[i]? = some x)
    (hQ:∀h',pF b it l items (i+1) h'→Heap.SameBut it s.heap h'→Q x {s with heap:=h'}):wpAny (model prog w) A (Builtin.SmallTypes.nextOf (.ref it)) Q E s:=by
  have ne:=qfz st;cases b with
  | true=>
    obtain⟨h1,h2⟩:=st;refine wpAny_nextOf_list_item h1 h2 hx fun h' a1 a2=>hQ h' ⟨a1,?_⟩ a2;obtain⟨u,e',c'⟩:=h2;exact⟨u,(a2.2 _ ne).trans e',c'⟩
  | false=>
    obtain⟨h1,h2⟩:=st;obtain⟨o,ho,hc,hd⟩:=id h1;obtain⟨ol,hol,hcl,nl,hdl⟩:=id h2;unfold Builtin.SmallTypes.nextOf;refine wpAny_bind (wpAny_callSpecial?_slot (name:=Str.ofString "__next__") h1.typeIs F.slot_tuple_iterator_next (wpAny_call_entry F.slot_tuple_iterator_next h1.typeIs F.entry_tuple_iterator_next ?_ (F.args_tuple_iterator_next_1 _)));show wpAny (model prog w) _ (field (.ref it) 0 >>= _) _ _ s;refine wpAny_bind (wpAny_field ho hd (x:=.ref l) rfl ?_);show wpAny (model prog w) _ (if (Value.ref l == Value.none)=true then _ else _) _ _ s
    rw[if_neg (fun z=>by cases z)];show wpAny (model prog w) _ (field (.ref it) 1 >>= _) _ _ s;refine wpAny_bind (wpAny_field ho hd (x:=.int i 0) rfl ?_);show wpAny (model prog w) _ (seqItems? (.ref l) >>= _) _ _ s;refine wpAny_bind (wpAny_seqItems hol hdl ?_);simp only[Int.toNat_natCast,hx];refine wpAny_bind (wpAny_setField ho hd (by simp) (wpAny_pure ⟨x,rfl,wpAny_pure (hQ _ ⟨?_,?_⟩ (Heap.SameBut.update ..))⟩))
    ·exact⟨_,Heap.get?_update_self _ ho (Obj.isFreed_of_fields (Obj.data_mapFields hd _)),(Obj.cls_mapFields ..).trans hc,by rw[Obj.data_mapFields hd];simp[rawInt]⟩
    ·exact⟨ol,((Heap.SameBut.update ..).2 _ ne).trans hol,hcl,nl,hdl⟩
theorem qaN {b:Bool} {it l:Addr} {items:Array Value} {i:Nat} {Q:Value→Shared→Prop} (hh:A.handled=none) (st:pF b it l items i s.heap) (hx:items[i]? = none)
    (hE:∀h' e,Heap.ExtBut it s.heap h'→(∃o,h'.get? e=some o∧o.cls = .type "StopIteration")→E (.ref e) {s with heap:=h'}):wpAny (model prog w) A (Builtin.SmallTypes.nextOf (.ref it)) Q E s:=by
  cases b with
  | true=>exact wpAny_nextOf_list_end hh st.1 st.2 hx hE
  | false=>
    obtain⟨h1,h2⟩:=st;obtain⟨o,ho,hc,hd⟩:=id h1;obtain⟨ol,hol,hcl,nl,hdl⟩:=id h2;unfold Builtin.SmallTypes.nextOf;refine wpAny_bind (wpAny_callSpecial?_slot (name:=Str.ofString "__next__") h1.typeIs F.slot_tuple_iterator_next (wpAny_call_entry F.slot_tuple_iterator_next h1.typeIs F.entry_tuple_iterator_next ?_ (F.args_tuple_iterator_next_1 _)));show wpAny (model prog w) _ (field (.ref it) 0 >>= _) _ _ s;refine wpAny_bind (wpAny_field ho hd (x:=.ref l) rfl ?_);show wpAny (model prog w) _ (if (Value.ref l == Value.none)=true then _ else _) _ _ s
    rw[if_neg (fun z=>by cases z)];show wpAny (model prog w) _ (field (.ref it) 1 >>= _) _ _ s;refine wpAny_bind (wpAny_field ho hd (x:=.int i 0) rfl ?_);show wpAny (model prog w) _ (seqItems? (.ref l) >>= _) _ _ s;refine wpAny_bind (wpAny_seqItems hol hdl ?_);simp only[Int.toNat_natCast,hx];refine wpAny_bind (wpAny_rule (wpAny_bind (wpAny_setField ho hd (by simp) ?_)));show wpAny (model prog w) _ (newExc (.type "StopIteration") [] >>= _) _ _ _;refine wpAny_bind ?_;simp only[newExc,newTuple];refine wpAny_bind (wpAny_newObj_type ?_ (by size_fits));refine wpAny_bind (m:=firstArgMember _ _) (wpAny_of_eq (a:=Value.none) (by first | rfl | (simp only[firstArgMember];rfl)) ?_)
    refine wpAny_newObj_type ?_ (by size_fits);simp only[raiseNew];refine wpAny_bind (wpAny_handled ?_)
    first | rw[show A.in1.handled=none from hh] | rw[hh]
    refine wpAny_bind (wpAny_pure (wpAny_throw ?_));exact hE _ _ (((Heap.SameBut.update ..).extBut.push _).push _) ⟨_,Heap.get?_push_size _ rfl,rfl⟩
def kh (h:Heap) (e it:Addr) (i:Int):Prop:=∃f0 f1 old,h.get? e=some {cls:=.type "enumerate",dict:=none,data:=.fields #[f0,f1,.ref it,rawInt i,.none,old],slots:=#[]}∧(f0 = .none∨∃a:Int,f0=rawInt a)
theorem qc5 {e it r:Addr} {i:Int} {x f0 f1 old:Value} {Q:PySem.Fin→Shared→Prop} (he:s.heap.get? e=some {cls:=.type "enumerate",dict:=none,data:=.fields #[f0,f1,.ref it,rawInt i,.none,old],slots:=#[]}) (hf:f0 = .none∨∃a:Int,f0=rawInt a)
    (hQ:∀h',kh h' e it i→Heap.SameBut e s.heap h'→Q (.done (.ret (.ref r))) {s with heap:=h'}) :
    wpAny (model prog w) A (Builtin.SmallTypes.ownedTupleIsFree (.ref e) >>= fun b=>if b=true then (rule "enumerate.__next__.owned-tuple-again" >>= fun _=>field (.ref e) 5 >>= fun o=>setField (.ref e) 5 x >>= fun _=>Builtin.SmallTypes.ownedTupleHandOut (.ref e) (.ref r) >>= fun _=>letGo [o] [.ref r] >>= fun _=>ret (.ref r)) else ret (.ref r)) Q E s:=by
  have out:wpAny (model prog w) A (rule "enumerate.__next__.owned-tuple-again" >>= fun _=>field (.ref e) 5 >>= fun o=>setField (.ref e) 5 x >>= fun _=>Builtin.SmallTypes.ownedTupleHandOut (.ref e) (.ref r) >>= fun _=>letGo [o] [.ref r] >>= fun _=>ret (.ref r)) Q E s:=by
    refine wpAny_bind (wpAny_rule ?_);refine wpAny_bind (wpAny_field he rfl (x:=old) rfl ?_);refine wpAny_bind (wpAny_setField_rec he (by simp) fun h5 he5 hs5=>?_);refine wpAny_bind ?_;unfold Builtin.SmallTypes.ownedTupleHandOut;refine wpAny_bind (wpAny_setField_rec he5 (by simp) fun h6 he6 hs6=>?_);refine wpAny_setField_rec he6 (by simp) fun h7 he7 hs7=>?_;refine wpAny_bind (wpAny_letGo (wpAny_pure (hQ h7 ⟨rawInt r,.bool false,x,he7,.inr ⟨_,rfl⟩⟩ ?_)));exact⟨hs7.1.trans (hs6.1.trans hs5.1),fun c hc=>(hs7.2 c hc).trans ((hs6.2 c hc).trans (hs5.2 c hc))⟩
  refine wpAny_bind ?_;unfold Builtin.SmallTypes.ownedTupleIsFree;refine wpAny_bind (wpAny_field he rfl (x:=f0) rfl ?_)
  rcases hf with rfl | ⟨a,rfl⟩
  ·exact wpAny_pure out
  · show wpAny (model prog w) A (loadIfAlive a.toNat >>= _) _ _ s;refine wpAny_bind (qaK ?_);cases hl:s.heap.get? a.toNat with
    | none=>exact wpAny_pure out
    | some ob=>
      show wpAny (model prog w) A (field (.ref e) 1 >>= _) _ _ s;refine wpAny_bind (wpAny_field he rfl (x:=f1) rfl ?_)
      by_cases hb:(f1 != .bool true)=true
      ·rw[if_pos hb];refine wpAny_bind (wpAny_setField_rec he (by simp) fun h5 he5 hs5=>?_);exact wpAny_pure (wpAny_pure (hQ h5 ⟨rawInt a,.bool true,old,he5,.inr ⟨_,rfl⟩⟩ hs5))
      ·rw[if_neg hb];exact wpAny_pure (wpAny_pure (hQ s.heap ⟨rawInt a,f1,old,he,.inr ⟨_,rfl⟩⟩ ⟨rfl,fun _ _=>rfl⟩))
theorem IW {b:Bool} {e it l:Addr} {i:Nat} {items:Array Value} {x:Value} {Q:Option Value→Shared→Prop}
    (he:kh s.heap e it i) (st:pF b it l items i s.heap) (hx:items[i]? = some x)
    (hQ:∀h',kh h' e it ((i:Int)+1)→pF b it l items (i+1) h'→h'.get? s.heap.objs.size=some {cls:=.type "tuple",data:=.seq #[.int i s.toks,x]}→
      (∀c o,c≠e→c≠it→s.heap.get? c=some o→h'.get? c=some o)→Q (some (.ref s.heap.objs.size)) {s with heap:=h',toks:=s.toks+1}) :
    wpAny (model prog w) A (pyNext (.ref e)) Q E s:=by
  obtain⟨f0,f1,old,he,hf⟩:=he;obtain⟨oi,Ti,hoi,hci,hTi⟩:=qaL st;obtain⟨ol,Tl,hol,hcl,hTl⟩:=qd_ st;have hne:it≠e:=bK hoi he hci rfl hTi;have hnl:l≠e:=bK hol he hcl rfl hTl;have hT:s.TypeIs (.ref e) "enumerate" :=⟨_,he,rfl⟩;unfold pyNext;refine wpAny_bind (wpAny_attempt (wpAny_callSpecial?_slot (name:=Str.ofString "__next__") hT F.slot_enumerate_next (wpAny_call_entry F.slot_enumerate_next hT F.entry_enumerate_next ?_ (F.args_enumerate_next_1 _))));obtain⟨hp,g,d,tk,os⟩:=s;show wpAny (model prog w) _ (field (.ref e) 2 >>= _) _ _ _;refine wpAny_bind (wpAny_field he rfl (x:=.ref it) rfl ?_);refine wpAny_bind (qaM st hx fun h1 st1 hs1=>?_);replace hs1:Heap.SameBut it hp h1:=hs1;have he1:=(hs1.2 e hne.symm).trans he;show wpAny (model prog w) _ (field (.ref e) 3 >>= _) _ _ ⟨h1,g,d,tk,os⟩;refine wpAny_bind (wpAny_field he1 rfl (x:=rawInt i) rfl ?_);show wpAny (model prog w) _ (field (.ref e) 4 >>= _) _ _ ⟨h1,g,d,tk,os⟩;refine wpAny_bind (wpAny_field he1 rfl (x:=.none) rfl ?_);show wpAny (model prog w) _ (mkInt i >>= _) _ _ ⟨h1,g,d,tk,os⟩;refine wpAny_bind (wpAny_mkInt ?_);show wpAny (model prog w) _ (setField (.ref e) 3 (rawInt ((i:Int)+1)) >>= _) _ _ ⟨h1,g,d,tk+1,os⟩;refine wpAny_bind (wpAny_setField_rec he1 (by simp) fun h2 he2 hs2=>?_);replace hs2:Heap.SameBut e h1 h2:=hs2;show wpAny (model prog w) _ (setField (.ref e) 4 .none >>= _) _ _ ⟨h2,g,d,tk+1,os⟩;refine wpAny_bind (wpAny_setField_rec he2 (by simp) fun h3 he3 hs3=>?_);replace hs3:Heap.SameBut e h2 h3:=hs3;show wpAny (model prog w) _ (newTuple [.int i tk,x] >>= _) _ _ ⟨h3,g,d,tk+1,os⟩;refine wpAny_bind (wpAny_newTuple ?_);have hsz:h3.objs.size=hp.objs.size:=by rw[hs3.1,hs2.1,hs1.1]
  have hel:e<hp.objs.size:=Heap.lt_size he;have he4:(h3.push {cls:=.type "tuple",data:=.seq #[.int i tk,x]}).get? e=some {cls:=.type "enumerate",dict:=none,data:=.fields #[f0,f1,.ref it,rawInt ((i:Int)+1),.none,old],slots:=#[]}:=Heap.get?_push_of_some _ he3;have ht4:(h3.push {cls:=.type "tuple",data:=.seq #[.int i tk,x]}).get? hp.objs.size=some {cls:=.type "tuple",data:=.seq #[.int i tk,x]}:=by rw[← hsz];exact Heap.get?_push_size _ rfl
  have hk4:∀c o,c≠e→c≠it→hp.get? c=some o→(h3.push {cls:=.type "tuple",data:=.seq #[.int i tk,x]}).get? c=some o:=fun c o h1 h2 h3=>Heap.get?_push_of_some _ (hs3.extBut c o h1 (hs2.extBut c o h1 (hs1.extBut c o h2 h3)));have st4:pF b it l items (i+1) (h3.push {cls:=.type "tuple",data:=.seq #[.int i tk,x]}):=CJ st1 (fun o z=>Heap.get?_push_of_some _ (hs3.extBut _ _ hne (hs2.extBut _ _ hne z))) (fun o z=>Heap.get?_push_of_some _ (hs3.extBut _ _ hnl (hs2.extBut _ _ hnl z)));refine qc5 (s:=⟨h3.push {cls:=.type "tuple",data:=.seq #[.int i tk,x]},g,d,tk+1,os⟩) he4 hf fun h5 hE5 hs5=>⟨_,rfl,wpAny_pure ?_⟩;rw[show(Shared.mk h3 g d (tk+1) os).heap.objs.size=hp.objs.size from hsz];refine hQ h5 hE5 (CJ st4 (fun o z=>(hs5.2 _ hne).trans z) (fun o z=>(hs5.2 _ hnl).trans z)) ((hs5.2 _ (Nat.ne_of_gt hel)).trans ht4) fun c o h1 h2 h3=>(hs5.2 c h1).trans (hk4 c o h1 h2 h3)
end
end L2
namespace PySem
open Sem (wp)
theorem yq:typeLookup (.type "enumerate") "__getattr__" = pure none:=by rw[typeLookup_type,builtinLookup_eq_fast];kernel_rfl
theorem CK:typeLookup (.type "enumerate") "keys" = pure none:=by rw[typeLookup_type,builtinLookup_eq_fast];kernel_rfl
theorem rZ:entryFor table "enumerate.__getattribute__" = some Builtin.«object.__getattribute__»:=
  entryFor_alias (id':= "object.__getattribute__") (by kernel_rfl) (by decide+kernel) (by decide+kernel) (by kernel_rfl)
theorem Px (a:Addr) (xs:Array Value) (sl:Array (Option Value)) (name:Str) (u:Tok) (hmiss:typeLookup (.type "enumerate") name=pure none) (hname:(["__module__", "__name__", "__qualname__", "__doc__", "__annotations__"]:List Str).contains name=false) (hsz:name.length+100≤sizeLine:=by size_fits) :
    Meets (Builtin.«object.__getattribute__» ⟨[.ref a,.str name u],[]⟩) (fun A R s=>s.heap.get? a=some {cls:=.type "enumerate",dict:=none,data:=.fields xs,slots:=sl}∧raisesAttr (.ref a) name A R s):=
  Meets.of_wp fun prog w A R s hs=>by
    obtain⟨hp,g,d,tk,os⟩:=s;obtain⟨hx,hs⟩:=hs;have hT:(⟨hp,g,d,tk,os⟩:Shared).TypeIs (.ref a) "enumerate" :=⟨_,hx,rfl⟩;unfold Builtin.«object.__getattribute__»
    repeat (any_goals (first | assumption | wp_step))
    simp only[hname,Bool.false_eq_true,if_false]
    repeat (any_goals (first | assumption | wp_step))
    exact wpAny_raiseAttrError hs.1 hs.2 (attrMsg_fits (by decide+kernel) hsz)
theorem Py {prog:Program} {w:World} {A:Around} {E:Value→Shared→Prop} {s:Shared} {a:Addr} {xs:Array Value} {Q:Option Value→Shared→Prop}
    (hx:s.heap.get? a=some {cls:=.type "enumerate",dict:=none,data:=.fields xs,slots:=#[]}) (hA:A.handled=none)
    (h:∀h' tk,(∀b o,s.heap.get? b=some o→h'.get? b=some o)→Q none {s with heap:=h',toks:=tk}) :
    wpAny (model prog w) A (getAttr? (.ref a) "keys") Q E s:=by
  obtain⟨hp,g,d,tk,os⟩:=s;have hT:∀tk',(⟨hp,g,d,tk',os⟩:Shared).TypeIs (.ref a) "enumerate" :=fun _=>⟨_,hx,rfl⟩;have f1:=sub_AttributeError;have f3:=F.slot_enumerate_getattribute.lookup;have f4:=F.slot_enumerate_getattribute.bind (.ref a);have f5:=yq;have hname:(["__module__", "__name__", "__qualname__", "__doc__", "__annotations__"]:List Str).contains "keys" = false:=by decide
  unfold getAttr? getAttrBy? getAttrBy
  repeat (any_goals (first | assumption | exact hT _ | ((with_reducible show wpAny _ _ (call (Value.builtin "enumerate.__getattribute__") _ _) _ _ _);refine call_meets F.slot_enumerate_getattribute (hT _) rZ (F.args_enumerate_getattribute_2 _ _) (Px a xs #[] "keys" _ CK hname) ⟨hx,hA,fun h' tk' e hx'=>?_⟩) | wp_step))
  obtain⟨t',u',he⟩:=hx'.there;show wpAny _ _ (getattributeRaised _ _ _ _ _ _ _) _ _ _;unfold getattributeRaised
  repeat (any_goals (first | assumption | wp_step))
  exact h _ _ hx'.of.keeps
end PySem
namespace PySem
open Sem (wp)
open AutoSeq1 (wpAny_loadPart')
theorem CN (l:Addr) (items:Array Value) (n:Nat) (dct:Option Addr) (sl:Array (Option Value)) :
    Meets (Builtin.«enumerate.__new__» ⟨[.type "enumerate",.ref l],[]⟩) (fun _ R s=>s.heap.get? l=some {cls:=.type "tuple",dict:=dct,data:=.seq items n,slots:=sl}∧
      R (.ok (.ret (.ref (s.heap.push {cls:=.type "tuple_iterator",data:=.fields #[.ref l,.int 0 0]}).objs.size)))
        {s with heap:=(s.heap.push {cls:=.type "tuple_iterator",data:=.fields #[.ref l,.int 0 0]}).push {cls:=.type "enumerate",data:=.fields #[.none,.bool false,.ref s.heap.objs.size,rawInt 0,.none,.none]}}):=
  .of_wp fun prog w A R s h=>by
    obtain⟨hp,g,d,tk,os⟩:=s;obtain⟨hl,h⟩:=h;have hsub:=sub_enumerate;have hL:Heap.IsTuple (Shared.heap ⟨hp,g,d,tk,os⟩) l items:=⟨_,hl,rfl,n,rfl⟩
    wp_walk using wpAny_loadPart' hl
    refine wpAny_stack_any fun st=>wpAny_pure ?_;split
    · rename_i c _ _ _ _ _;cases (c == Value.type "enumerate")
      · wp_walk using wpAny_loadPart' hl,wpAny_pyIter_tuple hL
        exact⟨_,rfl,h⟩
      · wp_walk using wpAny_loadPart' hl,wpAny_pyIter_tuple hL
        exact⟨_,rfl,h⟩
    · wp_walk using wpAny_loadPart' hl,wpAny_pyIter_tuple hL
      exact⟨_,rfl,h⟩
section
variable {prog:Program} {w:World} {A:Around} {E:Value→Shared→Prop} {s:Shared}
theorem tW {b:Bool} {l:Addr} {items:Array Value} {Q:Value→Shared→Prop} (hL:match b with | true=>s.heap.IsList l items | false=>s.heap.IsTuple l items)
    (h:∀h',L2.kh h' (s.heap.objs.size+1) s.heap.objs.size 0→L2.pF b s.heap.objs.size l items 0 h'→h'.objs.size=s.heap.objs.size+2→
      (∀b o,s.heap.get? b=some o→h'.get? b=some o)→Q (.ref (s.heap.objs.size+1)) {s with heap:=h'}) :
    wpAny (model prog w) A (call (.type "enumerate") [.ref l]) Q E s:=by
  cases b with
  | true=>
    exact call_enumerate_list hL fun h' b1 b2 b3 kk=>h h' ⟨_,_,_,b1,.inl rfl⟩ ⟨b2,hL.at fun o z=>kk _ _ z⟩ b3 kk
  | false=>
    obtain⟨⟨c,dct,dt,sl⟩,hl,hc,n,hd⟩:=id hL;replace hc:c = .type "tuple" :=hc;replace hd:dt = .seq items n:=hd;subst hc hd;refine callType_new F.called_enumerate (by decide) (F.typeCall_enumerate_1 _) (F.newCall_enumerate_1 _) (fun obj=>F.args_object_init_2 obj _) F.entry_enumerate_new
      (CN l items n dct sl) ⟨hl,?_⟩
    have hz:(s.heap.push {cls:=.type "tuple_iterator",data:=.fields #[.ref l,.int 0 0]}).objs.size=s.heap.objs.size+1:=Heap.size_push ..;show _∧_;rw[hz];have he:L2.kh ((s.heap.push {cls:=.type "tuple_iterator",data:=.fields #[.ref l,.int 0 0]}).push
        {cls:=.type "enumerate",data:=.fields #[.none,.bool false,.ref s.heap.objs.size,rawInt 0,.none,.none]}) (s.heap.objs.size+1) s.heap.objs.size 0:=by
      have:=Heap.get?_push_size (s.heap.push {cls:=.type "tuple_iterator",data:=.fields #[.ref l,.int 0 0]})
        (o:={cls:=.type "enumerate",data:=.fields #[.none,.bool false,.ref s.heap.objs.size,rawInt 0,.none,.none]}) rfl
      rw[hz] at this;exact⟨_,_,_,this,.inl rfl⟩
    obtain⟨_,_,_,he',_⟩:=id he;have kk:∀b o,s.heap.get? b=some o→((s.heap.push {cls:=.type "tuple_iterator",data:=.fields #[.ref l,.int 0 0]}).push
        {cls:=.type "enumerate",data:=.fields #[.none,.bool false,.ref s.heap.objs.size,rawInt 0,.none,.none]}).get? b=some o:=fun b o x=>Heap.get?_push_of_some _ (Heap.get?_push_of_some _ x)
    refine⟨⟨_,he',rfl⟩,h _ he ⟨⟨_,Heap.get?_push_of_some _ (Heap.get?_push_size _ rfl),rfl,rfl⟩,⟨_,kk _ _ hl,rfl,n,rfl⟩⟩ (by rw[Heap.size_push,hz]) kk⟩
end
end PySem
namespace L2
open PySem PySem.Spec PyProof.Rows
section
variable {prog:Program} {w:World} {A:Around} {E:Value→Shared→Prop} {s:Shared}
theorem I_ {b:Bool} {e it l:Addr} {i:Nat} {items:Array Value} {Q:Option Value→Shared→Prop} (hh:A.handled=none)
    (he:kh s.heap e it i) (st:pF b it l items i s.heap) (hx:items[i]? = none)
    (hQ:∀h',Heap.ExtBut it s.heap h'→Q none {s with heap:=h'}):wpAny (model prog w) A (pyNext (.ref e)) Q E s:=by
  obtain⟨f0,f1,old,he,hf⟩:=he;have hT:s.TypeIs (.ref e) "enumerate" :=⟨_,he,rfl⟩;unfold pyNext;refine wpAny_bind (wpAny_attempt (wpAny_callSpecial?_slot (name:=Str.ofString "__next__") hT F.slot_enumerate_next
    (wpAny_call_entry F.slot_enumerate_next hT F.entry_enumerate_next ?_ (F.args_enumerate_next_1 _))))
  show wpAny _ _ (field (.ref e) 2 >>= _) _ _ _;refine wpAny_bind (wpAny_field he rfl (x:=.ref it) rfl ?_);refine wpAny_bind (qaN hh st hx fun h' x he' hx'=>?_);obtain⟨o,ho,hc⟩:=hx';refine wpAny_bind (wpAny_isInstance (T:= "StopIteration") (b:=true) ⟨o,ho,hc⟩ isSubtype_stop ?_);exact wpAny_pure (hQ _ he')
end
theorem CP:entryFor table "dict.update.loop" = some Builtin.«dict.update.loop»:=entryFor_of_fast (by kernel_rfl)
theorem qX:plainId "dict.update.loop" = true:=by decide+kernel
def nums {α:Type}:Nat→List α→List (Key×α)
  | _,[]=>[]
  | n,x::xs=>(Sum.inl (n:Int),x)::nums (n+1) xs
theorem Jr {α:Type}:∀(n:Nat) (xs:List α),(nums n xs).length=xs.length
  | _,[]=>rfl
  | n,x::xs=>by rw[nums,List.length_cons,List.length_cons,Jr]
theorem RN {α:Type}:∀(n:Nat) (xs:List α) (y:α),nums n (xs++[y])=nums n xs++[(Sum.inl ((n+xs.length:Nat):Int),y)]
  | n,[],y=>rfl
  | n,x::xs,y=>by
    rw[List.cons_append,nums,RN (n+1) xs y,nums,List.cons_append,List.length_cons,Nat.add_right_comm,Nat.add_assoc]
theorem RP {α:Type}:∀(n:Nat) (xs:List α) (m:Nat),(nums n xs).any (fun kv=>decide (kv.1=(Sum.inl (m:Int):Key)))=true→n≤m∧m<n+xs.length
  | n,[],m,h=>by simp[nums] at h
  | n,x::xs,m,h=>by
    rw[nums,List.any_cons,Bool.or_eq_true] at h
    rcases h with h | h
    · have h1:=of_decide_eq_true h;injection h1 with h1;have h2:n=m:=by omega
      subst h2;simp
    ·have:=RP (n+1) xs m h;rw[List.length_cons];omega
theorem qc6:∀{ys:List V} {its:List Value} (n:Nat),Vals ys its→KV (nums n ys) (nums n its):=by
  intro ys its n r
  induction r generalizing n with
  | nil=>exact .nil
  | cons h t ih=>exact .cons ⟨rfl,h⟩ (ih (n+1))
section
variable {P:Program} {w:World} {A:Around} {R:Result→Shared→Prop} {b:Bool} {e it l D:Addr} {its:List Value}
theorem qc7 (hh:A.handled=none) (h1:D≠e) (h2:D≠it) (h3:D≠l) (hs:its.length≤sizeLine) :
    ∀(k i:Nat) (s:Shared),its.length - i=k→i≤its.length→kh s.heap e it i→pF b it l its.toArray i s.heap→s.heap.DictOf (bR P w) D (nums 0 (its.take i))→
      (∀h' tk,(∀c o,c≠D→c≠e→c≠it→s.heap.get? c=some o→h'.get? c=some o)→h'.DictOf (bR P w) D (nums 0 its)→R (.ok (.ret .none)) {s with heap:=h',toks:=tk})→
      codeAny (model P w) A (.builtin "dict.update.loop" ⟨[.ref D,.ref e,rawInt i,.none],[]⟩) R s:=by
  intro k
  induction k with
  | zero=>
    intro i s hk hi hE hst hD hR;obtain rfl:i=its.length:=by omega
    refine codeAny_builtin CP ?_;rw[Around.under_plainId qX _];show wpAny _ A.in1 (pyNext (.ref e) >>= _) _ _ s;refine wpAny_bind (I_ (A:=A.in1) hh hE hst (by simp) fun h' hm=>?_);refine wpAny_bind (wpAny_pure ?_);refine wpAny_pure (hR h' s.toks (fun c o c1 c2 c3 z=>hm c o c3 z) ?_);rw[List.take_length] at hD;exact hD.extBut hm h2
  | succ k ih=>
    intro i s hk hi hE hst hD hR;have hlt:i<its.length:=by omega
    refine codeAny_builtin CP ?_;rw[Around.under_plainId qX _];show wpAny _ A.in1 (pyNext (.ref e) >>= _) _ _ s;refine wpAny_bind (IW hE hst (x:=its[i]) (by simp[hlt]) fun h' hE' hst' ht hm=>?_);have hT:(Shared.mk h' s.gens s.drawn (s.toks+1) s.os).TypeIs (.ref s.heap.objs.size) "tuple" :=⟨_,ht,rfl⟩;show wpAny _ A.in1 (holding _ _ >>= _) _ _ _;refine wpAny_bind (wpAny_holding ?_);refine wpAny_bind (wpAny_tryCatch ?_);unfold Builtin.Dict.pairItems;refine wpAny_bind (wpAny_typeOf hT ?_);rw[if_pos (by decide)];refine wpAny_bind (wpAny_seqItems ht rfl ?_);refine wpAny_pure ?_;show wpAny _ A.in1 (holding _ (dictSet D (.int i s.toks) its[i])) _ _ _;refine wpAny_holding ?_;have hD':h'.DictOf (bR P w) D (nums 0 (its.take i)):=by
      obtain⟨o,es,ep,ho,r⟩:=hD;exact⟨o,es,ep,hm D o h1 h2 ho,r⟩
    refine wpAny_dictSet_pairs (knd:=bR P w) (k:=Sum.inl (i:Int)) (s:=Shared.mk h' s.gens s.drawn (s.toks+1) s.os) (FZ P w i s.toks) hD' (fun h2' hD2 hsb=>?_) (by rw[Jr,List.length_take];omega);have ei:(i:Int)+1=((i+1:Nat):Int):=by omega
    have est:stored (nums 0 (its.take i)) (Sum.inl (i:Int)) its[i]=nums 0 (its.take (i+1)):=by
      unfold stored;rw[if_neg (fun z=>?_)]
      ·rw[List.take_succ_eq_append_getElem hlt,RN,List.length_take,Nat.min_eq_left (by omega),Nat.zero_add]
      ·have:=RP _ _ _ z;rw[List.length_take] at this;omega
    rw[est] at hD2;rw[ei] at hE';refine wpAny_pure ⟨plainId_quiet qX _,?_⟩;show codeAny _ A (.builtin "dict.update.loop" ⟨[.ref D,.ref e,rawInt ((i:Int)+1),.none],[]⟩) _ _;rw[ei];refine ih (i+1) _ (by omega) hlt ?_ (CJ hst' (fun o z=>(hsb.2 _ h2.symm).trans z) (fun o z=>(hsb.2 _ h3.symm).trans z)) hD2 fun h3' tk hm3 M_=>?_
    ·obtain⟨f0,f1,old,q,hf⟩:=hE';exact⟨f0,f1,old,(hsb.2 _ h1.symm).trans q,hf⟩
    ·exact hR h3' tk (fun c o c1 c2 c3 z=>hm3 c o c1 c2 c3 ((hsb.2 c c1).trans (hm c o c2 c3 z))) M_
end
section
variable {P:Program} {w:World} {A:Around} {E:Value→Shared→Prop} {s:Shared} {b:Bool} {e it l:Addr} {its:List Value}
theorem Pz {Q:Value→Shared→Prop} (hT:s.TypeIs (.ref e) "enumerate") (h:Q (.ref e) s):wpAny (model P w) A (pyIter (.ref e)) Q E s:=by
  refine wpAny_pyIter_slot hT F.slot_enumerate_iter (wpAny_call_entry F.slot_enumerate_iter hT F.entry_enumerate_iter ?_ (F.args_enumerate_iter_1 _));show wpAny _ _ (ret (.ref e)) _ _ s;exact wpAny_pure ⟨_,rfl, "enumerate",_,hT,F.slot_enumerate_next.lookup,h⟩
theorem qc8 {Q:Value→Shared→Prop} (hh:A.handled=none) (hE:kh s.heap e it 0) (hst:pF b it l its.toArray 0 s.heap) (hs:its.length≤sizeLine)
    (h:∀h' tk,(∀c o,c≠e→c≠it→s.heap.get? c=some o→h'.get? c=some o)→h'.DictOf (bR P w) s.heap.objs.size (nums 0 its)→Q (.ref s.heap.objs.size) {s with heap:=h',toks:=tk}) :
    wpAny (model P w) A (call (.type "dict") [.ref e]) Q E s:=by
  obtain⟨f0,f1,old,he,hf⟩:=hE;obtain⟨oi,Ti,hoi,hci,hTi⟩:=qaL hst;obtain⟨ol,Tl,hol,hcl,hTl⟩:=qd_ hst;refine callType_codes (Q₁:=fun obj s₁=>obj = .ref s.heap.objs.size∧s₁={s with heap:=s.heap.push {cls:=.type "dict",data:=.dict #[]}}) F.kt_called_dict (F.kt_typeCall_dict_1 _) F.entry_dict_init (kt_code_dict_new _ ⟨rfl,rfl⟩) ?_;rintro obj s₁ ⟨rfl,rfl⟩;have hnew:(s.heap.push {cls:=.type "dict",data:=.dict #[]}).DictOf (bR P w) s.heap.objs.size []:=Heap.DictOf.new s.heap;have kp:∀c o,s.heap.get? c=some o→(s.heap.push {cls:=.type "dict",data:=.dict #[]}).get? c=some o:=fun c o z=>Heap.get?_push_of_some _ z;have ne:∀{c o},s.heap.get? c=some o→s.heap.objs.size≠c:=fun z=>Nat.ne_of_gt (Heap.lt_size z);have hT:(Shared.mk (s.heap.push {cls:=.type "dict",data:=.dict #[]}) s.gens s.drawn s.toks s.os).TypeIs (.ref e) "enumerate" :=⟨_,kp _ _ he,rfl⟩;refine⟨hnew.typeIs,F.args_dict_init_2 _ _,?_⟩;unfold Builtin.«dict.__init__»;refine wpAny_bind ?_;unfold Builtin.Dict.selfAndRest;refine wpAny_bind (wpAny_notOrdered_dict hnew.typeIs ?_);show wpAny _ _ (pure (s.heap.objs.size,[Value.ref e])) _ _ _;refine wpAny_pure ?_;show wpAny _ _ (Builtin.Dict.updateFrom "dict.__init__" s.heap.objs.size (.ref e) [] .none) _ _ _;unfold Builtin.Dict.updateFrom;refine wpAny_bind (wpAny_typeOf hT ?_);rw[if_pos (by decide)];show wpAny (model P w) A.in1.in1 (getAttr? (.ref e) "keys" >>= _) _ _ _;refine wpAny_bind (Py (A:=A.in1.in1) (kp _ _ he) hh fun h1 tk1 k1=>?_);have he1:=k1 _ _ (kp _ _ he);have hT1:(Shared.mk h1 s.gens s.drawn tk1 s.os).TypeIs (.ref e) "enumerate" :=⟨_,he1,rfl⟩;simp only[Option.isNone_none,if_true];refine wpAny_bind (wpAny_rule ?_);refine wpAny_bind (Pz (s:=Shared.mk h1 s.gens s.drawn tk1 s.os) hT1 ?_);refine wpAny_pure ⟨plainId_quiet qX _,?_⟩;have hD1:h1.DictOf (bR P w) s.heap.objs.size []:=by
    obtain⟨o,es,ep,ho,r⟩:=hnew;exact⟨o,es,ep,k1 _ o ho,r⟩
  refine qc7 (A:=A.in1) (b:=b) (l:=l) (it:=it) hh (ne he) (ne hoi) (ne hol) hs its.length 0 _ (by omega) (Nat.zero_le _) ⟨f0,f1,old,he1,hf⟩ (CJ hst (fun o z=>k1 _ _ (kp _ _ z)) (fun o z=>k1 _ _ (kp _ _ z))) (by simpa [nums] using hD1) fun h' tk hm hD=>⟨rfl,h h' tk (fun c o c1 c2 z=>hm c o (ne z).symm c1 c2 (k1 _ _ (kp _ _ z))) hD⟩
end
section
variable {X:Cx} {K:W.Frag}
def tDE (K:W.Frag) (t:TA):TE:=fun σ H Q=>t σ H fun vs H1=>∃a xs,vs=[.ref a]∧(bC K H1 a xs∨gq K H1 a xs)∧∀p,H1 p=none→Q (.ref p) (upd H1 p (.dK (nums 0 xs)))
@[simp ↓] theorem qlE (K:W.Frag) (t:TA) σ H Q:tDE K t σ H Q=(t σ H fun vs H1=>∃a xs,vs=[.ref a]∧(bC K H1 a xs∨gq K H1 a xs)∧∀p,H1 p=none→Q (.ref p) (upd H1 p (.dK (nums 0 xs)))):=rfl
theorem Gh (hK:X.K=K) (hc:X.calm=true) {a:Expr} {ta:TA} {p p2 pos pos2:Pos} (hg1:Gl X "dict") (hm1:X.mg "dict" = none) (hg2:Gl X "enumerate") (hm2:X.mg "enumerate" = none) (ha:PA X [a] ta)
    (hs:starEach [a] X.env=[(false,eval a X.env)]:=by rfl)
    (hs1:starEach [.Call (.Name "enumerate" p2) [a] [] pos2] X.env=[(false,eval (.Call (.Name "enumerate" p2) [a] [] pos2) X.env)]:=by rfl) :
    PE X (.Call (.Name "dict" p) [.Call (.Name "enumerate" p2) [a] [] pos2] [] pos) (tDE K ta):=by
  subst hK;intro p_ s σ H Q I h;refine wpAny_Call_Name_kw (rR I hg1 hm1 Uw ?_ (by decide) (by decide));refine PyProof.Rows.callWith_type1 ?_ (by rw[hs1];rfl) (by rfl);rw[hs1];show wpAny _ _ (spliced ((false,eval (.Call (.Name "enumerate" p2) [a] [] pos2) X.env)::[])) _ _ s;refine Calls.spliced_cons ?_;refine wpAny_Call_Name_kw (rR I hg2 hm2 Ep ?_ (by decide) (by decide));refine PyProof.Rows.callWith_type1 (cU (ha pos2 p_ s σ H _ I h) fun us s1 zz=>?_) (by rw[hs];rfl) (by rfl);obtain⟨vs,H1,I1,r1,q1⟩:=zz;obtain⟨l1,xs,rfl,qa,q⟩:=q1;obtain⟨u,rfl,r⟩:=vals1 r1;obtain rfl:u=Value.ref l1:=r;have go:∃(b:Bool) (its:List Value),Vals xs its∧its.length≤sizeLine∧(match b with | true=>s1.heap.IsList l1 its.toArray | false=>s1.heap.IsTuple l1 its.toArray):=by
    rcases qa with qa | qa
    ·obtain⟨its,rv,pl,hz⟩:=I1.list qa;exact⟨true,its,rv,by rw[← rv.length];exact hz,pl.isList⟩
    ·obtain⟨its,rv,pl,hz⟩:=I1.tuple qa;exact⟨false,its,rv,by rw[← rv.length];exact hz,pl⟩
  obtain⟨b,its,rv,hz,hL⟩:=go;refine tW (b:=b) hL fun h' b1 b2 b3 kk=>?_;refine Calls.spliced_nil ?_;refine qc8 (s:={s1 with heap:=h'}) (b:=b) (I1.ok.hd hc) b1 b2 hz fun h2 tk km hD=>?_;have kk2:∀c o,s1.heap.get? c=some o→h2.get? c=some o:=fun c o z=>km c o (Nat.ne_of_lt (Nat.lt_succ_of_lt (Heap.lt_size z))) (Nat.ne_of_lt (Heap.lt_size z)) (kk c o z);have hle:s1.heap.objs.size≤h'.objs.size:=by rw[b3];omega
  have hf:H1 h'.objs.size=none:=I1.hok.fresh hle;refine⟨.ref h'.objs.size,_,I1.laid (o:=.dK (nums 0 xs)) (t':=tk) kk2 hle ?_,rfl,q _ hf⟩;refine(show dj _ _ _ _ _ (.dK (nums 0 xs)) from⟨by rw[Jr,rv.length];exact hz,?_,nums 0 its,qc6 0 rv,hD⟩);have h1:=I1.big;have h2:sysModules<h'.objs.size:=Nat.lt_of_lt_of_le h1 hle;exact beq_eq_false_iff_ne.mpr (Nat.ne_of_gt h2)
end
structure Nm3 (mg:Str→Option Value):Prop where
  sum:mg "sum" = none
theorem boot_sum:bootBuiltins "sum" = some (.builtin "sum"):=by decide+kernel
theorem Js:∀{ys:List Str} {us:List Value},Vals (ys.map V.str) us→StrsAre us ys
  | [],_,r=>by rw[List.map_nil] at r;cases r;exact .nil
  | y::ys,_,r=>by
    rw[List.map_cons] at r;cases r with
    | cons h t=>
      obtain⟨k,rfl⟩:=h;exact .cons y k (Js t)
theorem Jt:∀{ns:List Int} {us:List Value},Vals (ns.map V.int) us→∃l:List (Int×Tok),us.toArray=intItems l.toArray∧l.map (·.1)=ns
  | [],_,r=>by rw[List.map_nil] at r;cases r;exact⟨[],by simp[intItems],rfl⟩
  | y::ys,_,r=>by
    rw[List.map_cons] at r;cases r with
    | @cons _ _ _ us h t=>
      obtain⟨k,rfl⟩:=h;obtain⟨l,h1,h2⟩:=Jt t;refine⟨(y,k)::l,?_,by rw[List.map_cons,h2]⟩;have:us=l.map fun p=>Value.int p.1 p.2:=by simpa [intItems] using congrArg Array.toList h1
      rw[this];simp[intItems]
section
variable {X:Cx} {K:W.Frag}
def qaO (K:W.Frag):V→List V→Hp→VK→Prop:=fun x xs H Q=>∃(l:Addr) (ys:List Str) (k:Str),x = .ref l∧xs=[.str k]∧bC K H l (ys.map V.str)∧Q (.int (ys.count k:Nat)) H
theorem Aj (k:Str):∀ys:List Str,countIn (.str k) (ys.map PyData.str)=((ys.count k:Nat):Int)
  | []=>rfl
  | y::ys=>by
    rw[countIn_strs_sum,List.map_cons,List.sum_cons,← countIn_strs_sum,Aj k ys,List.count_cons]
    by_cases h:(y == k)=true
    ·rw[if_pos h,if_pos h];omega
    ·rw[if_neg h,if_neg h];omega
theorem qaP (hK:X.K=K):X8 X "list.count" (qaO K):=by
  subst hK;intro p_ s σ H x xs v us Q I rx rs q;obtain⟨l,ys,k,rfl,rfl,hl,q⟩:=q;obtain⟨u,rfl,ru⟩:=rs.one;obtain⟨t,rfl⟩:=ru;obtain rfl:v=Value.ref l:=rx;obtain⟨its,rv,pl,hz1⟩:=I.list hl;refine count_list_strs pl.isList (Js rv) ?_;rw[Aj];exact⟨.int _,H,I.tok _,⟨_,rfl⟩,q⟩
def qhq (K:W.Frag):List V→Hp→VK→Prop:=fun xs H Q=>∃(l:Addr) (ns:List Int),xs=[.ref l]∧bC K H l (ns.map V.int)∧Q (.int ns.sum) H
theorem Yr (hK:X.K=K) (hc:X.calm=true):cN X (.builtin "sum") (qhq K):=by
  subst hK;intro p_ s σ H xs us Q I r h;obtain⟨l,ns,rfl,hl,q⟩:=h;obtain⟨u,rfl,ru⟩:=r.one;obtain rfl:u=Value.ref l:=ru;obtain⟨its,rv,pl,hz1⟩:=I.list hl;obtain⟨ls,e1,e2⟩:=Jt rv;have hL:=pl.isList;rw[e1] at hL;refine sum_intListG (I.ok.hd hc) hL fun h' tk t' kk=>⟨.int _,H,I.kept (t':=tk) kk,⟨t',rfl⟩,?_⟩;rw[preSum_eq,List.take_of_length_le (by simp)];rw[show(ls.toArray.toList.map (·.1))=ns from e2];exact q
theorem qkG (hK:X.K=K):SlR X (qcQ K):=by subst hK;exact qcR
@[simp ↓] theorem qjx (K:W.Frag) x lo hi H Q:qcQ K x lo hi H Q=(∃a xs,x = .ref a∧bC K H a xs∧∀p,H p=none→Q (.ref p) (upd H p (.lst (xY xs lo hi)))):=rfl
end
section
variable {X:Cx} {sc0 sc:Scope} {N0 own N:List Str} {caps:List Nat} {elt tg iter:Expr} {ifs:List Expr} {pos:Pos} {wi:TI} {g:TG} {tt:TT} {te:TE}
theorem qaQ {C0 s0 H0 fp0 pn0} (S:aR sc0 sc N0 own caps N) (hc:(bN X sc0 N0 C0 s0 H0 fp0 pn0).calm=true) (hi:PI (bN X sc0 N0 C0 s0 H0 fp0 pn0) tg iter wi)
    (hg:∀C s H fp pn,PG (bN (bN X sc0 N0 C0 s0 H0 fp0 pn0) sc N C s H fp pn) tg g) (ht:∀C s H fp pn,PTs (bN (bN X sc0 N0 C0 s0 H0 fp0 pn0) sc N C s H fp pn) ifs tt) (he:∀C s H fp pn,PE (bN (bN X sc0 N0 C0 s0 H0 fp0 pn0) sc N C s H fp pn) elt te)
    (hs:∀x,foldedSetIterable iter (bN X sc0 N0 C0 s0 H0 fp0 pn0).env x=pure x:=by intro _;rfl):PE (bN X sc0 N0 C0 s0 H0 fp0 pn0) (.ListComp elt [⟨tg,iter,ifs,0⟩] sc pos) (MF own caps wi g tt te):=by
  have S':aR (relabel sc0 X.env) sc N0 own caps N:=by
    refine⟨S.kind,S.uniq,S.nd,S.names,fun p hp e=>?_,S.qg3⟩;rw[rW]
    rcases S.free p hp e with h | h
    ·rw[h];exact .inl rfl
    · rw[h];simp only[Option.map_some];split
      ·exact .inl rfl
      ·exact .inr rfl
  exact cF (ps:=relabel sc0 X.env) (pN:=N0) rfl rfl S' hc hi hg ht he hs
end
def fY (ns:List Int):List PyData:=ns.map PyData.int
theorem CQ {K:W.Frag} {H:Hp}:∀ns:List Int,yc K H (fY ns) (ns.map V.int)
  | []=>rfl
  | n::ns=>⟨_,_,rfl,rfl,CQ ns⟩
theorem lay_ints:∀ns:List Int,PyData.canLayAll0 (fY ns)=true
  | []=>by simp[fY,PyData.canLayAll0]
  | x::xs=>by
    have:=lay_ints xs;simp[fY] at this;simp[fY,PyData.canLayAll0,PyData.canLay0,this]
theorem yr:∀xs:List Int,PyData.depthAll (fY xs)≤1
  | []=>by simp[fY,PyData.depthAll]
  | x::xs=>by
    have:=yr xs;simp[fY] at this;simp[fY,PyData.depthAll,PyData.depth,this]
theorem yt:∀a b:List Int,PyData.eqvAll (fY a) (fY b)=decide (a=b)
  | [],[]=>rfl
  | [],y::b=>by simp[fY,PyData.eqvAll]
  | x::a,[]=>by simp[fY,PyData.eqvAll]
  | x::a,y::b=>by
    show(PyData.eqv (.int x) (.int y) && PyData.eqvAll (fY a) (fY b))=_;rw[yt a b,Bool.eq_iff_iff];simp[PyData.eqv]
def Bf (n:Int) (e:Str×Str):Str:=if n=0 then e.1 else e.2
def vA (n:Int) (e:Str×Str):Str:=if n=0 then e.2 else e.1
def mF:List Int→List (Str×Str)→Nat→List iB
  | n::ns,e::ps,k=>(k,Bf n e,vA n e)::mF ns ps (k+1)
  | _,_,_=>[]
theorem qaR (fx:Nat→Option Int):∀(ps:List (Str×Str)) (ns:List Int) (k:Nat),(∀i,fx (k+i)=ns[i]?)→ns.length=ps.length→(∀n∈ns,0≤n∧n≤1)→gG fx ps k=mF ns ps k
  | [],ns,k,_,hl,_=>by
    have:ns=[]:=List.length_eq_zero_iff.mp hl;subst this;rfl
  | e::ps,[],k,_,hl,_=>by simp at hl
  | e::ps,n::ns,k,hf,hl,h01=>by
    have h0:=hf 0;rw[Nat.add_zero] at h0;have hn:=h01 n List.mem_cons_self;have ih:=qaR fx ps ns (k+1) (fun i=>by rw[show k+1+i=k+(i+1) by omega,hf (i+1)];simp) (by simpa using hl) fun m hm=>h01 m (List.mem_cons_of_mem _ hm);rw[gG,mF,ih];unfold Pr Bf vA;rw[h0];have:n=0∨n=1:=by omega
    rcases this with rfl | rfl <;> simp
def nC:List Int→List (Str×Str)→List Str
  | n::ns,e::ps=>vA n e::nC ns ps
  | _,_=>[]
def nF (c:List Str):List Int→List (Str×Str)→Nat
  | n::ns,e::ps=>(if ¬Bf n e∈c∧vA n e∈c then 1 else 0)+nF c ns ps
  | _,_=>0
def U4 (c:List Str) (ps:List (Str×Str)):Nat:=(ps.filter fun e=>decide (e.1∈c) && decide (e.2∈c)).length
theorem PB:∀(ns:List Int) (ps:List (Str×Str)) (k:Nat),(mF ns ps k).map (·.2.2)=nC ns ps
  | [],_,_=>by simp[mF,nC]
  | n::ns,[],_=>by simp[mF,nC]
  | n::ns,e::ps,k=>by rw[mF,nC,List.map_cons,PB ns ps]
theorem WL (c:List Str):∀(ns:List Int) (ps:List (Str×Str)) (k:Nat),((mF ns ps k).filter fun st=>decide (¬st.2.1∈c∧st.2.2∈c)).length=nF c ns ps
  | [],_,_=>by simp[mF,nF]
  | n::ns,[],_=>by simp[mF,nF]
  | n::ns,e::ps,k=>by
    rw[mF,nF,List.filter_cons,← WL c ns ps (k+1)]
    by_cases h:¬Bf n e∈c∧vA n e∈c
    ·rw[if_pos h,if_pos (decide_eq_true h),List.length_cons];omega
    ·rw[if_neg h,if_neg (by rw[decide_eq_false h];simp)];omega
theorem CT:∀(ns:List Int) (ps:List (Str×Str)) (c:List Str),ns.length=ps.length→((nC ns ps).filter fun x=>decide (x∈c)).length=U4 c ps+nF c ns ps
  | [],[],c,_=>by simp[nC,U4,nF]
  | [],e::ps,c,h=>by simp at h
  | n::ns,[],c,h=>by simp at h
  | n::ns,e::ps,c,h=>by
    have ih:=CT ns ps c (by simpa using h);unfold U4 at ih ⊢;rw[nC,nF,List.filter_cons,List.filter_cons];unfold vA Bf
    by_cases h1:e.1∈c <;> by_cases h2:e.2∈c <;> by_cases hn:n=0 <;> simp[h1,h2,hn] <;> omega
theorem Bg (k:Str):∀{vs:List Value} {ys:List Str},StrsAre vs ys→∀(j:Nat) (h1:j<vs.length) (h2:j<ys.length),isStrOf k vs[j]=(ys[j] == k)
  | _,_,.cons n t _,0,_,_=>rfl
  | _,_,.cons n t r,j+1,h1,h2=>Bg k r j (Nat.lt_of_succ_lt_succ h1) (Nat.lt_of_succ_lt_succ h2)
theorem Ju {k:Str}:∀{ys:List Str} {j:Nat},j<ys.idxOf k→∀(h2:j<ys.length),(ys[j] == k)=false
  | n::r,0,h,_=>by
    by_cases e:n=k
    ·subst e;simp at h
    ·simpa using e
  | n::r,j+1,h,h2=>by
    by_cases e:n=k
    ·subst e;simp at h
    · have hb:(n == k)=false:=by simpa using e
      have h':j<r.idxOf k:=by
        rw[List.idxOf_cons,hb] at h;exact Nat.lt_of_succ_lt_succ h
      exact Ju h' (Nat.lt_of_succ_lt_succ h2)
theorem RQ:∀{vs:List Value} {ys:List Str},StrsAre vs ys→vs.length=ys.length
  | _,_,.nil=>rfl
  | _,_,.cons _ _ r=>congrArg (· + 1) (RQ r)
section
variable {X:Cx} {K:W.Frag}
def qaS (K:W.Frag):V→List V→Hp→VK→Prop:=fun x xs H Q=>∃(l:Addr) (ys:List Str) (k:Str),x = .ref l∧xs=[.str k]∧bC K H l (ys.map V.str)∧k∈ys∧Q (.int (ys.idxOf k:Nat)) H
theorem qaT (hK:X.K=K):X8 X "list.index" (qaS K):=by
  subst hK;intro p_ s σ H x xs v us Q I rx rs q;obtain⟨l,ys,k,rfl,rfl,hl,hk,q⟩:=q;obtain⟨u,rfl,ru⟩:=rs.one;obtain⟨t,rfl⟩:=ru;obtain rfl:v=Value.ref l:=rx;obtain⟨its,rv,pl,hz1⟩:=I.list hl;have hi:=Js rv;obtain⟨⟨cls,dd,data,sl⟩,ho,hc,n,hd⟩:=pl.isList;simp only at hc hd;subst hc hd;have hlen:=RQ hi;have hj:ys.idxOf k<ys.length:=List.idxOf_lt_length_iff.mpr hk;have hz2:ys.length≤sizeLine:=by simpa using hz1
  have hs:sizeLine=2 ^ 24:=rfl;refine call_meets PySem.F.slot_list_index ⟨_,ho,rfl⟩ PySem.F.entry_list_index (PySem.F.args_list_index_2 _ _)
    (SeqAt.list_indexAt l its.toArray n dd sl (.str k t) (isStrOf k) (ys.idxOf k) (by simpa [hlen] using hj) (by omega) ?_ ?_) ⟨ho,fun y hy=>(eq_isStrOf k t hi y (by simpa using hy)).at _ _,⟨.int _,H,I.tok _,⟨_,rfl⟩,q⟩⟩
  ·show isStrOf k its[ys.idxOf k]=true;rw[Bg k hi _ (by omega) hj];simpa using List.getElem_idxOf hj
  ·intro j hjs hlt;show isStrOf k its[j]=false;rw[Bg k hi j (by simpa using hjs) (by omega)];exact Ju hlt _
def qea (K:W.Frag):List V→Hp→VK→Prop:=fun xs H Q=>∃(l:Addr) (ns:List Int),xs=[.ref l]∧bC K H l (ns.map V.int)∧ns≠[]∧∀m,m∈ns→(∀x∈ns,m≤x)→Q (.int m) H
theorem Ys (hK:X.K=K) (hc:X.calm=true):cN X (.builtin "min") (qea K):=by
  subst hK;intro p_ s σ H xs us Q I r h;obtain⟨l,ns,rfl,hl,hne,q⟩:=h;obtain⟨u,rfl,ru⟩:=r.one;obtain rfl:u=Value.ref l:=ru;obtain⟨its,rv,pl,hz1⟩:=I.list hl;obtain⟨ls,e1,e2⟩:=Jt rv;have hL:=pl.isList;rw[e1] at hL;have hsz:0<ls.toArray.size:=by
    cases ls with
    | nil=>exact absurd e2.symm hne
    | cons _ _=>simp
  refine min_intList (I.ok.hd hc) hL hsz fun v h' tk hv hk=>?_;obtain⟨t,rfl⟩:=intItems_at hv;obtain⟨h1,h2⟩:=argBest_lt (numAt ls.toArray) (ls.toArray.size - 1);refine⟨.int _,H,I.kept (t':=tk) hk,⟨t,rfl⟩,q _ ?_ fun a ha=>?_⟩
  ·rw[← e2,numAt_eq];exact PySem.getD_mem (by rw[List.length_map,Array.length_toList];show _<ls.toArray.size;omega)
  · rw[← e2] at ha;obtain⟨j,hj,rfl⟩:=PySem.mem_getD ha;rw[List.length_map] at hj;rw[show(ls.map (·.1)).getD j 0=numAt ls.toArray j from(numAt_eq _ _).symm];exact h2 j (by simp;omega)
theorem boot_repr:bootBuiltins "repr" = some (.builtin "repr"):=by decide+kernel
end
def isInt (x:V) (R:Int→Prop):Prop:=match x with | .int i=>R i | _=>False
def isStr (x:V) (R:Str→Prop):Prop:=match x with | .str i=>R i | _=>False
def xR (x:V) (R:Bool→Prop):Prop:=match x with | .bl i=>R i | _=>False
def isRef (x:V) (R:Addr→Prop):Prop:=match x with | .ref i=>R i | _=>False
def Yt (x:V) (R:String→Prop):Prop:=match x with | .ty n=>R n | _=>False
def ar0 (xs:List V) (R:Prop):Prop:=match xs with | []=>R | _=>False
def ar1 (xs:List V) (R:V→Prop):Prop:=match xs with | [x]=>R x | _=>False
def ar2 (xs:List V) (R:V→V→Prop):Prop:=match xs with | [x,y]=>R x y | _=>False
def arH (xs:List V) (R:V→List V→Prop):Prop:=match xs with | x::r=>R x r | []=>False
def getSt:St→Nat→(V→Prop)→Prop
  | [],_,_=>False
  | o::_,0,R=>match o with | some v=>R v | none=>False
  | _::σ,n+1,R=>getSt σ n R
@[simp ↓] theorem qjy (i:Int) R:isInt (.int i) R=R i:=rfl
@[simp ↓] theorem qjz (i:Str) R:isStr (.str i) R=R i:=rfl
@[simp ↓] theorem qkH (i:Bool) R:xR (.bl i) R=R i:=rfl
@[simp ↓] theorem qjA (i:Addr) R:isRef (.ref i) R=R i:=rfl
@[simp ↓] theorem qkI (i:String) R:Yt (.ty i) R=R i:=rfl
@[simp ↓] theorem qlF R:ar0 [] R=R:=rfl
@[simp ↓] theorem qlG x R:ar1 [x] R=R x:=rfl
@[simp ↓] theorem qlH x y R:ar2 [x,y] R=R x y:=rfl
@[simp ↓] theorem qlI x r R:arH (x::r) R=R x r:=rfl
@[simp ↓] theorem qjB v σ R:getSt (some v::σ) 0 R=R v:=rfl
@[simp ↓] theorem qjC o σ n R:getSt (o::σ) (n+1) R=getSt σ n R:=rfl
theorem isInt.out {x:V} {R} (h:isInt x R):∃i,x = .int i∧R i:=by cases x <;> first | exact⟨_,rfl,h⟩ | exact h.elim
theorem isStr.out {x:V} {R} (h:isStr x R):∃i,x = .str i∧R i:=by cases x <;> first | exact⟨_,rfl,h⟩ | exact h.elim
theorem xR.out {x:V} {R} (h:xR x R):∃i,x = .bl i∧R i:=by cases x <;> first | exact⟨_,rfl,h⟩ | exact h.elim
theorem isRef.out {x:V} {R} (h:isRef x R):∃i,x = .ref i∧R i:=by cases x <;> first | exact⟨_,rfl,h⟩ | exact h.elim
theorem Yt.out {x:V} {R} (h:Yt x R):∃i,x = .ty i∧R i:=by cases x <;> first | exact⟨_,rfl,h⟩ | exact h.elim
theorem ar0.out {xs:List V} {R} (h:ar0 xs R):xs=[]∧R:=by cases xs <;> first | exact⟨rfl,h⟩ | exact h.elim
theorem ar1.out {xs:List V} {R} (h:ar1 xs R):∃x,xs=[x]∧R x:=by
  match xs,h with
  | [x],h=>exact⟨x,rfl,h⟩
theorem ar2.out {xs:List V} {R} (h:ar2 xs R):∃x y,xs=[x,y]∧R x y:=by
  match xs,h with
  | [x,y],h=>exact⟨x,y,rfl,h⟩
theorem arH.out {xs:List V} {R} (h:arH xs R):∃x r,xs=x::r∧R x r:=by cases xs <;> first | exact⟨_,_,rfl,h⟩ | exact h.elim
theorem getSt.out:∀{σ:St} {i:Nat} {R},getSt σ i R→∃v,σ[i]? = some (some v)∧R v
  | [],_,_,h=>h.elim
  | some v::_,0,_,h=>⟨v,rfl,h⟩
  | none::_,0,_,h=>h.elim
  | _::σ,n+1,R,h=>by
    obtain⟨v,e,q⟩:=getSt.out (σ:=σ) (i:=n) h;exact⟨v,by simpa using e,q⟩
section
variable {X:Cx}
theorem PE.mono {e:Expr} {t t':TE} (o:PE X e t) (h:∀{σ H Q},t' σ H Q→t σ H Q):PE X e t':=fun p_ s σ H Q I q=>o p_ s σ H Q I (h q)
theorem PS.mono {e:Stmt} {t t':TS} (o:PS X e t) (h:∀{D σ H},t' D σ H→t D σ H):PS X e t':=fun p_ s σ H D I q=>o p_ s σ H D I (h q)
theorem fB.mono {e:List Expr} {t t':Mj} (o:fB X e t) (h:∀{v σ H Q},t' v σ H Q→t v σ H Q):fB X e t':=fun p_ s σ H v u Q I r q=>o p_ s σ H v u Q I r (h q)
theorem iU.mono {f:Value→Value→Sem Value} {r r':R2} (o:iU X f r) (h:∀{x y H Q},r' x y H Q→r x y H Q):iU X f r':=fun p_ s σ H x y v u Q I rx ry q=>o p_ s σ H x y v u Q I rx ry (h q)
theorem UnR.mono {f:Value→Sem Value} {r r':V→Hp→VK→Prop} (o:UnR X f r) (h:∀{x H Q},r' x H Q→r x H Q):UnR X f r':=fun p_ s σ H x v Q I rx q=>o p_ s σ H x v Q I rx (h q)
theorem cN.mono {f:Value} {r r':List V→Hp→VK→Prop} (o:cN X f r) (h:∀{x H Q},r' x H Q→r x H Q):cN X f r':=fun p_ s σ H x v Q I rx q=>o p_ s σ H x v Q I rx (h q)
theorem X8.mono {f:String} {r r':V→List V→Hp→VK→Prop} (o:X8 X f r) (h:∀{x y H Q},r' x y H Q→r x y H Q):X8 X f r':=fun p_ s σ H x y v u Q I rx ry q=>o p_ s σ H x y v u Q I rx ry (h q)
theorem IxR.mono {r r':R2} (o:IxR X r) (h:∀{x y H Q},r' x y H Q→r x y H Q):IxR X r':=fun a b p_ s σ H x y v u Q I rx ry q z=>o a b p_ s σ H x y v u Q I rx ry (h q) z
theorem SlR.mono {r r':V→Option Int→Option Int→Hp→VK→Prop} (o:SlR X r) (h:∀{x lo hi H Q},r' x lo hi H Q→r x lo hi H Q):SlR X r':=fun p_ s σ H x v vl vu lo hi sl Q I rx z1 z2 z3 q=>o p_ s σ H x v vl vu lo hi sl Q I rx z1 z2 z3 (h q)
theorem PIp.mono {op:Operator} {r r':TIp} (o:PIp X op r) (h:∀{x y H Q},r' x y H Q→r x y H Q):PIp X op r':=fun p_ s σ H x y v u Q I rx ry q=>o p_ s σ H x y v u Q I rx ry (h q)
theorem Xz.mono {r r':Xy} (o:Xz X r) (h:∀{x y z H Q},r' x y z H Q→r x y z H Q):Xz X r':=fun p_ s σ H o' i v ov iv u Q I a b c q=>o p_ s σ H o' i v ov iv u Q I a b c (h q)
end
def fVar (i:Nat):TE:=fun σ H Q=>getSt σ i fun v=>Q v H
@[simp ↓] theorem qkJ (i:Nat) σ H Q:fVar i σ H Q=getSt σ i (fun v=>Q v H):=rfl
theorem qfA {i:Nat} {σ H Q} (h:fVar i σ H Q):qeK i σ H Q:=getSt.out h
def nU:List Str→List V→St
  | _::N,v::vs=>some v::nU N vs
  | _::N,[]=>none::nU N []
  | [],_=>[]
@[simp ↓] theorem qgD n N v vs:nU (n::N) (v::vs)=some v::nU N vs:=rfl
@[simp ↓] theorem qgE n N:nU (n::N) []=none::nU N []:=rfl
@[simp ↓] theorem qhr vs:nU [] vs=[]:=by cases vs <;> rfl
theorem vB:∀(N:List Str) (vs:List V),vs.length≤N.length→nU N vs=start N vs
  | [],[],_=>rfl
  | [],_::_,h=>by simp at h
  | n::N,[],_=>by
    rw[nU,vB N [] (by simp)];simp[start,List.replicate_succ]
  | n::N,v::vs,h=>by
    rw[nU,vB N vs (by simpa using h)];simp[start]
def U5 (g:Int→Int→V):R2:=fun x y H Q=>isInt x fun i=>isInt y fun j=>Q (g i j) H
def fI (C:Int→Int→Prop) (g:Int→Int→V):R2:=fun x y H Q=>isInt x fun i=>isInt y fun j=>C i j∧Q (g i j) H
def fU (g:Int→V):V→Hp→VK→Prop:=fun x H Q=>isInt x fun i=>Q (g i) H
@[simp ↓] theorem qlJ g x y H Q:U5 g x y H Q=(isInt x fun i=>isInt y fun j=>Q (g i j) H):=rfl
@[simp ↓] theorem ql4 C g x y H Q:fI C g x y H Q=(isInt x fun i=>isInt y fun j=>C i j∧Q (g i j) H):=rfl
@[simp ↓] theorem ql5 g x H Q:fU g x H Q=(isInt x fun i=>Q (g i) H):=rfl
theorem Nb {g:Int→Int→V} {x y H Q} (h:U5 g x y H Q):rI0 g x y H Q:=by
  obtain⟨i,rfl,h1⟩:=isInt.out h;obtain⟨j,rfl,h2⟩:=isInt.out h1;exact⟨i,j,rfl,rfl,h2⟩
theorem Yu {C} {g:Int→Int→V} {x y H Q} (h:fI C g x y H Q):rI C g x y H Q:=by
  obtain⟨i,rfl,h1⟩:=isInt.out h;obtain⟨j,rfl,h2⟩:=isInt.out h1;exact⟨i,j,rfl,rfl,h2⟩
theorem qkK {g:Int→V} {x H Q} (h:fU g x H Q):rU g x H Q:=by
  obtain⟨i,rfl,h⟩:=isInt.out h;exact⟨i,rfl,h⟩
def fEq:R2:=fun x y H Q=>match x,y with
  | .int i,.int j=>Q (.bl (decide (i=j))) H
  | .str i,.str j=>Q (.bl (decide (i=j))) H
  | .bl i,.bl j=>Q (.bl (decide (i=j))) H
  | x,y=>GQ x y=true∧Q (.bl (decide (x=y))) H
def fNe:R2:=fun x y H Q=>match x,y with
  | .int i,.int j=>∃k,decide (i=j) = !k∧Q (.bl k) H
  | .str i,.str j=>∃k,decide (i=j) = !k∧Q (.bl k) H
  | .bl i,.bl j=>∃k,decide (i=j) = !k∧Q (.bl k) H
  | x,y=>GQ x y=true∧∃k,decide (x=y) = !k∧Q (.bl k) H
@[simp ↓] theorem qlK i j H Q:fEq (.int i) (.int j) H Q=Q (.bl (decide (i=j))) H:=rfl
@[simp ↓] theorem qlL i j H Q:fEq (.str i) (.str j) H Q=Q (.bl (decide (i=j))) H:=rfl
@[simp ↓] theorem qlM i j H Q:fEq (.bl i) (.bl j) H Q=Q (.bl (decide (i=j))) H:=rfl
@[simp ↓] theorem qlN i j H Q:fNe (.int i) (.int j) H Q=∃k,decide (i=j) = !k∧Q (.bl k) H:=rfl
@[simp ↓] theorem qlO i j H Q:fNe (.str i) (.str j) H Q=∃k,decide (i=j) = !k∧Q (.bl k) H:=rfl
@[simp ↓] theorem qlP i j H Q:fNe (.bl i) (.bl j) H Q=∃k,decide (i=j) = !k∧Q (.bl k) H:=rfl
theorem Es {b:Bool} {R:Bool→Prop} (h:∃k,b = !k∧R k):R (!b):=by
  obtain⟨k,e,q⟩:=h;rw[e,Bool.not_not];exact q
theorem qhs {x y H Q} (h:fEq x y H Q):rEq x y H Q:=by
  unfold fEq at h;split at h
  ·exact⟨rfl,by simpa using h⟩
  ·exact⟨rfl,by simpa using h⟩
  ·exact⟨rfl,by simpa using h⟩
  ·exact h
theorem qht {x y H Q} (h:fNe x y H Q):rNe x y H Q:=by
  unfold fNe at h;split at h
  ·exact⟨rfl,by simpa using Es (R:=fun k=>Q (.bl k) H) h⟩
  ·exact⟨rfl,by simpa using Es (R:=fun k=>Q (.bl k) H) h⟩
  ·exact⟨rfl,by simpa using Es (R:=fun k=>Q (.bl k) H) h⟩
  ·exact⟨h.1,Es (R:=fun k=>Q (.bl k) H) h.2⟩
def qaU:R2:=fun x y H Q=>isStr x fun i=>isStr y fun j=>i.length+j.length≤sizeLine∧Q (.str (i++j)) H
@[simp ↓] theorem qjD x y H Q:qaU x y H Q=(isStr x fun i=>isStr y fun j=>i.length+j.length≤sizeLine∧Q (.str (i++j)) H):=rfl
theorem qc9 {x y H Q} (h:qaU x y H Q):qg6 x y H Q:=by
  obtain⟨i,rfl,h1⟩:=isStr.out h;obtain⟨j,rfl,h2⟩:=isStr.out h1;exact⟨i,j,rfl,rfl,h2⟩
def U6:R2:=fun x y H Q=>isRef x fun l=>isRef y fun b=>∃xs,H l=some (.lst xs)∧∃zs,H b=some (.lst zs)∧xs.length+zs.length≤sizeLine∧∀p,H p=none→Q (.ref p) (upd H p (.lst (xs++zs)))
@[simp ↓] theorem qkL x y H Q:U6 x y H Q=(isRef x fun l=>isRef y fun b=>∃xs,H l=some (.lst xs)∧∃zs,H b=some (.lst zs)∧xs.length+zs.length≤sizeLine∧∀p,H p=none→Q (.ref p) (upd H p (.lst (xs++zs)))):=rfl
theorem qfB {x y H Q} (h:U6 x y H Q):qg1 x y H Q:=by
  obtain⟨i,rfl,h0⟩:=isRef.out h;obtain⟨j,rfl,xs,h1,zs,h2,h3⟩:=isRef.out h0;exact⟨i,j,xs,zs,rfl,rfl,h1,h2,h3⟩
def qhu:R2:=fun x y H Q=>isRef x fun l=>isInt y fun k=>∃xs,H l=some (.lst xs)∧-(2 ^ 63)≤k∧k<2 ^ 63∧xs.length * k.toNat≤sizeLine∧∀p,H p=none→Q (.ref p) (upd H p (.lst (List.replicate k.toNat xs).flatten))
def yu (t:TE):TT:=fun σ H Q=>t σ H fun x H'=>xR x fun k=>Q k H'
@[simp ↓] theorem qjE (t:TE) σ H Q:yu t σ H Q=(t σ H fun x H'=>xR x fun k=>Q k H'):=rfl
def qaV (ta:TE):TE:=fun σ H Q=>ta σ H fun x H1=>xR x fun c=>Q (.bl (!c)) H1
@[simp ↓] theorem qjF (ta:TE) σ H Q:qaV ta σ H Q=(ta σ H fun x H1=>xR x fun c=>Q (.bl (!c)) H1):=rfl
def qaW (ta tb:TE):TE:=fun σ H Q=>ta σ H fun x H1=>xR x fun c=>iu c (tb σ H1 Q) (Q (.bl false) H1) ⟨0⟩
@[simp ↓] theorem qjG (ta tb:TE) σ H Q:qaW ta tb σ H Q=(ta σ H fun x H1=>xR x fun c=>iu c (tb σ H1 Q) (Q (.bl false) H1) ⟨0⟩):=rfl
def PJ (r r':R2) (ta tb tc:TE):TE:=fun σ H Q=>ta σ H fun x H1=>tb σ H1 fun y H2=>r x y H2 fun z H3=>xR z fun k=>iu k (tc σ H3 fun w' H4=>r' y w' H4 Q) (Q (.bl false) H3) ⟨0⟩
@[simp ↓] theorem qhv (r r':R2) (ta tb tc:TE) σ H Q:PJ r r' ta tb tc σ H Q=(ta σ H fun x H1=>tb σ H1 fun y H2=>r x y H2 fun z H3=>xR z fun k=>iu k (tc σ H3 fun w' H4=>r' y w' H4 Q) (Q (.bl false) H3) ⟨0⟩):=rfl
section
variable {X:Cx} {K:W.Frag} {a b c:Expr} {ta tb tc:TE} {tA:TT} {pos:Pos}
theorem aH (i:Nat) {x:Str} {pos:Pos} (hN:X.N[i]? = some x:=by rfl) (hv:Vis X.env.scope x:=by first | exact Or.inl rfl | exact Or.inr (Or.inl rfl) | exact Or.inr (Or.inr rfl)) (hd:(x == ("__debug__" : Str))=false:=by decide)
    (hcd:(x == ("__classdict__" : Str))=false:=by decide):PE X (.Name x pos) (fVar i):=(qeL hN hv hd hcd).mono qfA
theorem gH:iU X (binaryOp .Add) (U5 fun i j=>.int (i+j)):=qe0.mono Nb
theorem vZ:iU X (binaryOp .Sub) (U5 fun i j=>.int (i - j)):=qe1.mono Nb
theorem PK:iU X (compareOp .Lt) (U5 fun i j=>.bl (decide (i<j))):=qgV.mono Nb
theorem v7:iU X (compareOp .LtE) (U5 fun i j=>.bl (decide (i≤j))):=qgW.mono Nb
theorem PL:iU X (compareOp .Gt) (U5 fun i j=>.bl (decide (j<i))):=qgX.mono Nb
theorem uN:iU X (compareOp .Eq) fEq:=qgT.mono qhs
theorem Et:iU X (compareOp .NotEq) fNe:=qgU.mono qht
theorem RV:iU X (binaryOp .Add) qaU:=Uh.mono qc9
theorem bZ:iU X (binaryOp .Add) U6:=qfh.mono qfB
theorem Hi:UnR X (unaryOp .USub) (fU fun i=>.int (-i)):=qe8.mono qkK
theorem CV (x:V) (R:Bool→Prop):xR x R=(∃k,x = .bl k∧R k):=propext ⟨xR.out,fun⟨k,e,q⟩=>by subst e;exact q⟩
theorem qaX (x:V) (R:Int→Prop):isInt x R=(∃k,x = .int k∧R k):=propext ⟨isInt.out,fun⟨k,e,q⟩=>by subst e;exact q⟩
theorem RW (x:V) (R:Addr→Prop):isRef x R=(∃k,x = .ref k∧R k):=propext ⟨isRef.out,fun⟨k,e,q⟩=>by subst e;exact q⟩
theorem qaY (x:V) (R:Str→Prop):isStr x R=(∃k,x = .str k∧R k):=propext ⟨isStr.out,fun⟨k,e,q⟩=>by subst e;exact q⟩
theorem qfC (x:List V) (R:V→List V→Prop):arH x R=(∃k j,x=k::j∧R k j):=propext ⟨arH.out,fun⟨k,j,e,q⟩=>by subst e;exact q⟩
theorem RX (t:TE):yu t=Wr t:=by
  funext σ H Q
  exact congrArg (t σ H) (funext fun x=>funext fun H'=>CV _ _)
theorem qeb (t:TE):yu t=tB t:=by
  funext σ H Q
  exact congrArg (t σ H) (funext fun x=>funext fun H'=>CV _ _)
theorem qaZ (t:TE):qaV t=ZW t:=by
  funext σ H Q
  exact congrArg (t σ H) (funext fun x=>funext fun H'=>CV _ _)
theorem qa0 (t u:TE):qaW t u=ZV t u:=by
  funext σ H Q
  exact congrArg (t σ H) (funext fun x=>funext fun H'=>CV _ _)
theorem Nf (r r':R2) (ta tb tc:TE):PJ r r' ta tb tc=Oq r r' ta tb tc:=by
  funext σ H Q
  exact congrArg (ta σ H) (funext fun x=>funext fun H1=>congrArg (tb σ H1) (funext fun y=>funext fun H2=>congrArg (r x y H2) (funext fun z=>funext fun H3=>CV _ _)))
theorem bI {op:CmpOp} {r:R2} (ho:iU X (compareOp op) r) (ha:PE X a ta) (hb:PE X b tb) (hm:behindInMarks op b=false):PT X (.Compare a [op] [b] pos) (yu (Ld r ta tb)):=RX _▸qcJ ho ha hb hm
theorem qc_ {op:CmpOp} {t:TE} (h:PC X op a b t) (h1:behindInMarks op b=false:=by first | exact Ra _ (by decide) (by decide) | rfl):PT X (.Compare a [op] [b] pos) (yu t):=qeb _▸qeM h h1
theorem dg {e:Expr} {t:TE} (h:PE X e t) (he:∀whole,isTrue e X.env whole=(do let v ← whole;standAt e.pos;holding [v] (truthy v)):=by intro _;rfl):PT X e (yu t):=qeb _▸qeN h he
theorem Ng {op op':CmpOp} {r r':R2} (ho:iU X (compareOp op) r) (ho':iU X (compareOp op') r') (ha:PE X a ta) (hb:PE X b tb) (hc:PE X c tc)
    (hm:lastMarks [op,op'] [b,c]=false:=by with_unfolding_all rfl):PE X (.Compare a [op,op'] [b,c] pos) (PJ r r' ta tb tc):=Nf _ _ _ _ _▸qaa ho ho' ha hb hc hm
theorem Eu {op op':CmpOp} {r r':R2} (ho:iU X (compareOp op) r) (ho':iU X (compareOp op') r') (ha:PE X a ta) (hb:PE X b tb) (hc:PE X c tc)
    (hm:lastMarks [op,op'] [b,c]=false:=by with_unfolding_all rfl):PT X (.Compare a [op,op'] [b,c] pos) (yu (PJ r r' ta tb tc)):=by
  rw[RX,Nf];exact qab ho ho' ha hb hc hm
theorem CW (ha:PE X a ta):PE X (.UnaryOp .Not a pos) (qaV ta):=qaZ _▸qeP ha
theorem CZ {rest:List Expr} (ha:PE X a ta) (hb:PE X (.BoolOp .And (b::rest) pos) tb):PE X (.BoolOp .And (a::b::rest) pos) (qaW ta tb):=qa0 _ _▸qeO ha hb
end
def qfD (K:W.Frag):R2:=fun x y H Q=>isRef x fun p=>isInt y fun i=>∃xs,(bC K H p xs∨gq K H p xs)∧∃v,Il xs i=some v∧Q v H
@[simp ↓] theorem qkM (K:W.Frag) x y H Q:qfD K x y H Q=(isRef x fun p=>isInt y fun i=>∃xs,(bC K H p xs∨gq K H p xs)∧∃v,Il xs i=some v∧Q v H):=rfl
theorem qfE {K:W.Frag} {x y H Q} (h:qfD K x y H Q):qfp K x y H Q:=by
  obtain⟨p,rfl,h1⟩:=isRef.out h;obtain⟨i,rfl,xs,h2,v,h3,h4⟩:=isInt.out h1;exact⟨p,xs,i,v,rfl,rfl,h2,h3,h4⟩
def qfF  : R2:=fun x y H Q=>isStr x fun z=>isInt y fun i=>z.length≤sizeLine∧∃c,Il z.cps.toList i=some c∧Q (.str ⟨#[c]⟩) H
@[simp ↓] theorem qkN  x y H Q:qfF x y H Q=(isStr x fun z=>isInt y fun i=>z.length≤sizeLine∧∃c,Il z.cps.toList i=some c∧Q (.str ⟨#[c]⟩) H):=rfl
theorem qfG  {x y H Q} (h:qfF x y H Q):qgY x y H Q:=by
  obtain⟨z,rfl,h1⟩:=isStr.out h;obtain⟨i,rfl,h2,c,h3,h4⟩:=isInt.out h1;exact⟨z,i,c,rfl,rfl,h2,h3,h4⟩
def Gi (K:W.Frag):List V→Hp→VK→Prop:=fun xs H Q=>ar1 xs fun x=>isRef x fun p=>∃ys,(bC K H p ys∨gq K H p ys)∧Q (.int ys.length) H
@[simp ↓] theorem qjH (K:W.Frag) xs H Q:Gi K xs H Q=(ar1 xs fun x=>isRef x fun p=>∃ys,(bC K H p ys∨gq K H p ys)∧Q (.int ys.length) H):=rfl
theorem qda {K:W.Frag} {xs H Q} (h:Gi K xs H Q):qd3 K xs H Q:=by
  obtain⟨x,rfl,h1⟩:=ar1.out h;obtain⟨p,rfl,ys,h2,h3⟩:=isRef.out h1;exact⟨p,ys,rfl,h2,h3⟩
def qa1  : List V→Hp→VK→Prop:=fun xs H Q=>ar1 xs fun x=>isStr x fun z=>z.length≤sizeLine∧Q (.int z.length) H
@[simp ↓] theorem qjI  xs H Q:qa1 xs H Q=(ar1 xs fun x=>isStr x fun z=>z.length≤sizeLine∧Q (.int z.length) H):=rfl
theorem qdb  {xs H Q} (h:qa1 xs H Q):qd4 xs H Q:=by
  obtain⟨x,rfl,h1⟩:=ar1.out h;obtain⟨p,rfl,h2⟩:=isStr.out h1;exact⟨p,rfl,h2⟩
def PN (K:W.Frag):List V→Hp→VK→Prop:=fun xs H Q=>ar1 xs fun x=>isRef x fun p=>∃ys,(bC K H p ys∨gq K H p ys)∧∀l,H l=none→Q (.ref l) (upd H l (.lst ys))
@[simp ↓] theorem qgF (K:W.Frag) xs H Q:PN K xs H Q=(ar1 xs fun x=>isRef x fun p=>∃ys,(bC K H p ys∨gq K H p ys)∧∀l,H l=none→Q (.ref l) (upd H l (.lst ys))):=rfl
theorem Yv {K:W.Frag} {xs H Q} (h:PN K xs H Q):Wv K xs H Q:=by
  obtain⟨x,rfl,h1⟩:=ar1.out h;obtain⟨p,rfl,ys,h2,h3⟩:=isRef.out h1;exact⟨p,ys,rfl,h2,h3⟩
def PX  : List V→Hp→VK→Prop:=fun xs H Q=>ar1 xs fun x=>isRef x fun p=>∃ys,Sq H p ys∧∀l H',H' l=some (.tup ys)→Same H H'→Q (.ref l) H'
@[simp ↓] theorem qgG  xs H Q:PX xs H Q=(ar1 xs fun x=>isRef x fun p=>∃ys,Sq H p ys∧∀l H',H' l=some (.tup ys)→Same H H'→Q (.ref l) H'):=rfl
theorem Yw  {xs H Q} (h:PX xs H Q):Ww xs H Q:=by
  obtain⟨x,rfl,h1⟩:=ar1.out h;obtain⟨p,rfl,ys,h2,h3⟩:=isRef.out h1;exact⟨p,ys,rfl,h2,h3⟩
def qa2 (K:W.Frag):List V→Hp→VK→Prop:=fun xs H Q=>ar2 xs fun x y=>Yt y fun n=>∃t,qw K H x t∧∃b,W.kitOne K t (.type n)=some b∧Q (.bl b) H
@[simp ↓] theorem qjJ (K:W.Frag) xs H Q:qa2 K xs H Q=(ar2 xs fun x y=>Yt y fun n=>∃t,qw K H x t∧∃b,W.kitOne K t (.type n)=some b∧Q (.bl b) H):=rfl
theorem qdc {K:W.Frag} {xs H Q} (h:qa2 K xs H Q):qd5 K xs H Q:=by
  obtain⟨x,y,rfl,h1⟩:=ar2.out h;obtain⟨n,rfl,t,h2,b,h3,h4⟩:=Yt.out h1;exact⟨x,n,t,b,rfl,h2,h3,h4⟩
def qa3 (K:W.Frag):List V→Hp→VK→Prop:=fun xs H Q=>ar2 xs fun x y=>isRef y fun p=>∃m n,H p=some (.tup [.ty m,.ty n])∧∃t,qw K H x t∧∃b,W.kitAny K t [.type m,.type n]=some b∧Q (.bl b) H
@[simp ↓] theorem qjK (K:W.Frag) xs H Q:qa3 K xs H Q=(ar2 xs fun x y=>isRef y fun p=>∃m n,H p=some (.tup [.ty m,.ty n])∧∃t,qw K H x t∧∃b,W.kitAny K t [.type m,.type n]=some b∧Q (.bl b) H):=rfl
theorem qdd {K:W.Frag} {xs H Q} (h:qa3 K xs H Q):qd6 K xs H Q:=by
  obtain⟨x,y,rfl,h1⟩:=ar2.out h;obtain⟨p,rfl,m,n,h0,t,h2,b,h3,h4⟩:=isRef.out h1;exact⟨x,p,m,n,t,b,rfl,h0,h2,h3,h4⟩
def fIn (K:W.Frag):R2:=fun x y H Q=>isRef y fun p=>∃xs,(bC K H p xs∨gq K H p xs)∧lO x=true∧(∀z∈xs,lO z=true)∧Q (.bl (inV x xs)) H
@[simp ↓] theorem qlQ (K:W.Frag) x y H Q:fIn K x y H Q=(isRef y fun p=>∃xs,(bC K H p xs∨gq K H p xs)∧lO x=true∧(∀z∈xs,lO z=true)∧Q (.bl (inV x xs)) H):=rfl
theorem qhw {K:W.Frag} {x y H Q} (h:fIn K x y H Q):qcX K x y H Q:=by
  obtain⟨p,rfl,xs,h1,h2,h3,h4⟩:=isRef.out h;exact .inl ⟨p,xs,rfl,h1,h2,List.all_eq_true.mpr h3,h4⟩
def U7 (K:W.Frag):R2:=fun x y H Q=>isRef y fun p=>∃xs,(bC K H p xs∨gq K H p xs)∧lO x=true∧(∀z∈xs,lO z=true)∧∃k,inV x xs = !k∧Q (.bl k) H
@[simp ↓] theorem qhx (K:W.Frag) x y H Q:U7 K x y H Q=(isRef y fun p=>∃xs,(bC K H p xs∨gq K H p xs)∧lO x=true∧(∀z∈xs,lO z=true)∧∃k,inV x xs = !k∧Q (.bl k) H):=rfl
theorem qa4 {K:W.Frag} {x y H Q} (h:U7 K x y H Q):O8 K x y H Q:=by
  obtain⟨p,rfl,xs,h1,h2,h3,h4⟩:=isRef.out h;exact .inl ⟨p,xs,rfl,h1,h2,List.all_eq_true.mpr h3,Es (R:=fun k=>Q (.bl k) H) h4⟩
def qfH (K:W.Frag):R2:=fun x y H Q=>isStr x fun i=>isStr y fun j=>Q (.bl (!(Builtin.Str.occurrences j i 0 j.length 1).isEmpty)) H
@[simp ↓] theorem qkO (K:W.Frag) x y H Q:qfH K x y H Q=(isStr x fun i=>isStr y fun j=>Q (.bl (!(Builtin.Str.occurrences j i 0 j.length 1).isEmpty)) H):=rfl
theorem qfI {K:W.Frag} {x y H Q} (h:qfH K x y H Q):qcX K x y H Q:=by
  obtain⟨i,rfl,h1⟩:=isStr.out h;obtain⟨j,rfl,h2⟩:=isStr.out h1;exact .inr ⟨i,j,rfl,rfl,h2⟩
def P0  : V→List V→Hp→VK→Prop:=fun x vs H Q=>isRef x fun l=>ar1 vs fun y=>∃xs,H l=some (.lst xs)∧xs.length<sizeLine∧Q .non (upd H l (.lst (xs++[y])))
@[simp ↓] theorem qgH  x vs H Q:P0 x vs H Q=(isRef x fun l=>ar1 vs fun y=>∃xs,H l=some (.lst xs)∧xs.length<sizeLine∧Q .non (upd H l (.lst (xs++[y])))):=rfl
theorem Yx  {x vs H Q} (h:P0 x vs H Q):OJ x vs H Q:=by
  obtain⟨l,rfl,h1⟩:=isRef.out h;obtain⟨y,rfl,xs,h2,h3⟩:=ar1.out h1;exact⟨l,xs,y,rfl,rfl,h2,h3⟩
def P_  : V→List V→Hp→VK→Prop:=fun x vs H Q=>isRef x fun l=>ar2 vs fun j y=>isInt j fun i=>∃xs,H l=some (.lst xs)∧0≤i∧i≤xs.length∧xs.length<sizeLine∧Q .non (upd H l (.lst (xs.take i.toNat++y::xs.drop i.toNat)))
@[simp ↓] theorem qgI  x vs H Q:P_ x vs H Q=(isRef x fun l=>ar2 vs fun j y=>isInt j fun i=>∃xs,H l=some (.lst xs)∧0≤i∧i≤xs.length∧xs.length<sizeLine∧Q .non (upd H l (.lst (xs.take i.toNat++y::xs.drop i.toNat)))):=rfl
theorem Yy  {x vs H Q} (h:P_ x vs H Q):O4 x vs H Q:=by
  obtain⟨l,rfl,h1⟩:=isRef.out h;obtain⟨j,y,rfl,h2⟩:=ar2.out h1;obtain⟨i,rfl,xs,h3⟩:=isInt.out h2;exact⟨l,xs,i,y,rfl,rfl,h3⟩
def U8 (K:W.Frag):V→List V→Hp→VK→Prop:=fun x vs H Q=>isRef x fun l=>ar1 vs fun y=>isStr y fun k=>∃ys:List Str,bC K H l (ys.map V.str)∧Q (.int (ys.count k:Nat)) H
@[simp ↓] theorem qhy (K:W.Frag) x vs H Q:U8 K x vs H Q=(isRef x fun l=>ar1 vs fun y=>isStr y fun k=>∃ys:List Str,bC K H l (ys.map V.str)∧Q (.int (ys.count k:Nat)) H):=rfl
theorem qa5 {K:W.Frag} {x vs H Q} (h:U8 K x vs H Q):qaO K x vs H Q:=by
  obtain⟨l,rfl,h1⟩:=isRef.out h;obtain⟨y,rfl,h2⟩:=ar1.out h1;obtain⟨k,rfl,ys,h3⟩:=isStr.out h2;exact⟨l,ys,k,rfl,rfl,h3⟩
def U9 (K:W.Frag):V→List V→Hp→VK→Prop:=fun x vs H Q=>isRef x fun l=>ar1 vs fun y=>isStr y fun k=>∃ys:List Str,bC K H l (ys.map V.str)∧k∈ys∧Q (.int (ys.idxOf k:Nat)) H
@[simp ↓] theorem qhz (K:W.Frag) x vs H Q:U9 K x vs H Q=(isRef x fun l=>ar1 vs fun y=>isStr y fun k=>∃ys:List Str,bC K H l (ys.map V.str)∧k∈ys∧Q (.int (ys.idxOf k:Nat)) H):=rfl
theorem qa6 {K:W.Frag} {x vs H Q} (h:U9 K x vs H Q):qaS K x vs H Q:=by
  obtain⟨l,rfl,h1⟩:=isRef.out h;obtain⟨y,rfl,h2⟩:=ar1.out h1;obtain⟨k,rfl,ys,h3⟩:=isStr.out h2;exact⟨l,ys,k,rfl,rfl,h3⟩
def qfJ (K:W.Frag):List V→Hp→VK→Prop:=fun xs H Q=>ar1 xs fun x=>isRef x fun l=>∃ns:List Int,bC K H l (ns.map V.int)∧Q (.int ns.sum) H
@[simp ↓] theorem qkP (K:W.Frag) xs H Q:qfJ K xs H Q=(ar1 xs fun x=>isRef x fun l=>∃ns:List Int,bC K H l (ns.map V.int)∧Q (.int ns.sum) H):=rfl
theorem qfK {K:W.Frag} {xs H Q} (h:qfJ K xs H Q):qhq K xs H Q:=by
  obtain⟨x,rfl,h1⟩:=ar1.out h;obtain⟨l,rfl,ns,h2⟩:=isRef.out h1;exact⟨l,ns,rfl,h2⟩
def qa7 (K:W.Frag):List V→Hp→VK→Prop:=fun xs H Q=>ar1 xs fun x=>isRef x fun l=>∃ns:List Int,bC K H l (ns.map V.int)∧ns≠[]∧∀m,m∈ns→(∀x∈ns,m≤x)→Q (.int m) H
@[simp ↓] theorem qjL (K:W.Frag) xs H Q:qa7 K xs H Q=(ar1 xs fun x=>isRef x fun l=>∃ns:List Int,bC K H l (ns.map V.int)∧ns≠[]∧∀m,m∈ns→(∀x∈ns,m≤x)→Q (.int m) H):=rfl
theorem qde {K:W.Frag} {xs H Q} (h:qa7 K xs H Q):qea K xs H Q:=by
  obtain⟨x,rfl,h1⟩:=ar1.out h;obtain⟨l,rfl,ns,h2⟩:=isRef.out h1;exact⟨l,ns,rfl,h2⟩
def qfL (K:W.Frag):R2:=fun x y H Q=>∃d,Is K H d x∧∃e,Is K H e y∧d.canLay0=true∧e.canLay0=true∧d.depth≤64∧∃k,PyData.eqv d e = !k∧Q (.bl k) H
@[simp ↓] theorem qkQ (K:W.Frag) x y H Q:qfL K x y H Q=(∃d,Is K H d x∧∃e,Is K H e y∧d.canLay0=true∧e.canLay0=true∧d.depth≤64∧∃k,PyData.eqv d e = !k∧Q (.bl k) H):=rfl
theorem qfM {K:W.Frag} {x y H Q} (h:qfL K x y H Q):qhg K x y H Q:=by
  obtain⟨d,h1,e,h2,h3,h4,h5,h6⟩:=h;exact⟨d,e,h1,h2,h3,h4,h5,Es (R:=fun k=>Q (.bl k) H) h6⟩
def qfN  : List V→Hp→VK→Prop:=fun xs H Q=>ar1 xs fun x=>isInt x fun i=>Q (.int (if i<0 then -i else i)) H
@[simp ↓] theorem qkR  xs H Q:qfN xs H Q=(ar1 xs fun x=>isInt x fun i=>Q (.int (if i<0 then -i else i)) H):=rfl
theorem qfO  {xs H Q} (h:qfN xs H Q):(fun xs H Q=>∃i,xs=[.int i]∧Q (.int (if i<0 then -i else i)) H:List V→Hp→VK→Prop) xs H Q:=by
  obtain⟨x,rfl,h1⟩:=ar1.out h;obtain⟨i,rfl,h2⟩:=isInt.out h1;exact⟨i,rfl,h2⟩
def qa8  : List V→Hp→VK→Prop:=fun xs H Q=>ar2 xs fun x y=>isInt x fun i=>isInt y fun j=>Q (.int (if j > i then j else i)) H
@[simp ↓] theorem qjM  xs H Q:qa8 xs H Q=(ar2 xs fun x y=>isInt x fun i=>isInt y fun j=>Q (.int (if j > i then j else i)) H):=rfl
theorem qdf  {xs H Q} (h:qa8 xs H Q):(fun xs H Q=>∃i j,xs=[.int i,.int j]∧Q (.int (if j > i then j else i)) H:List V→Hp→VK→Prop) xs H Q:=by
  obtain⟨x,y,rfl,h1⟩:=ar2.out h;obtain⟨i,rfl,h2⟩:=isInt.out h1;obtain⟨j,rfl,h3⟩:=isInt.out h2;exact⟨i,j,rfl,h3⟩
def qa9  : List V→Hp→VK→Prop:=fun xs H Q=>ar2 xs fun x y=>isInt x fun i=>isInt y fun j=>Q (.int (if j<i then j else i)) H
@[simp ↓] theorem qjN  xs H Q:qa9 xs H Q=(ar2 xs fun x y=>isInt x fun i=>isInt y fun j=>Q (.int (if j<i then j else i)) H):=rfl
theorem qdg  {xs H Q} (h:qa9 xs H Q):(fun xs H Q=>∃i j,xs=[.int i,.int j]∧Q (.int (if j<i then j else i)) H:List V→Hp→VK→Prop) xs H Q:=by
  obtain⟨x,y,rfl,h1⟩:=ar2.out h;obtain⟨i,rfl,h2⟩:=isInt.out h1;obtain⟨j,rfl,h3⟩:=isInt.out h2;exact⟨i,j,rfl,h3⟩
def Qa  : List V→Hp→VK→Prop:=fun xs H Q=>ar2 xs fun x y=>isInt x fun i=>isInt y fun j=>XH i j∧∀p,H p=none→Q (.ref p) (upd H p (.tup [.int (i / j),.int (i % j)]))
@[simp ↓] theorem qgJ  xs H Q:Qa xs H Q=(ar2 xs fun x y=>isInt x fun i=>isInt y fun j=>XH i j∧∀p,H p=none→Q (.ref p) (upd H p (.tup [.int (i / j),.int (i % j)]))):=rfl
theorem Yz  {xs H Q} (h:Qa xs H Q):(fun xs H Q=>∃i j,xs=[.int i,.int j]∧XH i j∧∀p,H p=none→Q (.ref p) (upd H p (.tup [.int (i / j),.int (i % j)])):List V→Hp→VK→Prop) xs H Q:=by
  obtain⟨x,y,rfl,h1⟩:=ar2.out h;obtain⟨i,rfl,h2⟩:=isInt.out h1;obtain⟨j,rfl,h3⟩:=isInt.out h2;exact⟨i,j,rfl,h3⟩
def qfP  : List V→Hp→VK→Prop:=fun xs H Q=>ar1 xs fun x=>isRef x fun a=>∃ys,H a=some (.lst ys)∧∃bs,yd ys bs∧Q (.bl (bs.all id)) H
@[simp ↓] theorem qkS  xs H Q:qfP xs H Q=(ar1 xs fun x=>isRef x fun a=>∃ys,H a=some (.lst ys)∧∃bs,yd ys bs∧Q (.bl (bs.all id)) H):=rfl
theorem qfQ  {xs H Q} (h:qfP xs H Q):(fun xs H Q=>∃a ys bs,xs=[.ref a]∧H a=some (.lst ys)∧yd ys bs∧Q (.bl (bs.all id)) H:List V→Hp→VK→Prop) xs H Q:=by
  obtain⟨x,rfl,h1⟩:=ar1.out h;obtain⟨a,rfl,ys,h2,bs,h3,h4⟩:=isRef.out h1;exact⟨a,ys,bs,rfl,h2,h3,h4⟩
def WM:List V→Hp→VK→Prop:=fun xs H Q=>ar1 xs fun x=>match x with | .int i=>Q (.int i) H | .bl k=>Q (.int (if k=true then 1 else 0)) H | _=>False
@[simp ↓] theorem qjO i H Q:WM [.int i] H Q=Q (.int i) H:=rfl
@[simp ↓] theorem qjP k H Q:WM [.bl k] H Q=Q (.int (if k=true then 1 else 0)) H:=rfl
theorem qdh {xs H Q} (h:WM xs H Q):(fun xs H Q=>(∃i,xs=[.int i]∧Q (.int i) H)∨∃k,xs=[.bl k]∧Q (.int (if k then 1 else 0)) H:List V→Hp→VK→Prop) xs H Q:=by
  obtain⟨x,rfl,h1⟩:=ar1.out h;cases x with
  | int i=>exact .inl ⟨i,rfl,h1⟩
  | bl k=>exact .inr ⟨k,rfl,h1⟩
  | _=>exact h1.elim
def qa_:Xy:=fun o i v H Q=>isRef o fun p=>isInt i fun k=>∃xs,H p=some (.lst xs)∧∃j,ixN xs.length k=some j∧Q (upd H p (.lst (xs.set j v)))
@[simp ↓] theorem qjQ o i v H Q:qa_ o i v H Q=(isRef o fun p=>isInt i fun k=>∃xs,H p=some (.lst xs)∧∃j,ixN xs.length k=some j∧Q (upd H p (.lst (xs.set j v)))):=rfl
theorem qdi {o i v H Q} (h:qa_ o i v H Q):qd2 o i v H Q:=by
  obtain⟨p,rfl,h1⟩:=isRef.out h;obtain⟨k,rfl,xs,h2,j,h3,h4⟩:=isInt.out h1;exact⟨p,xs,k,j,rfl,rfl,h2,h3,h4⟩
def U_ (K:W.Frag):V→Option Int→Option Int→Hp→VK→Prop:=fun x lo hi H Q=>isRef x fun a=>∃xs,bC K H a xs∧∀p,H p=none→Q (.ref p) (upd H p (.lst (xY xs lo hi)))
@[simp ↓] theorem qkT (K:W.Frag) x lo hi H Q:U_ K x lo hi H Q=(isRef x fun a=>∃xs,bC K H a xs∧∀p,H p=none→Q (.ref p) (upd H p (.lst (xY xs lo hi)))):=rfl
theorem qfR {K:W.Frag} {x lo hi H Q} (h:U_ K x lo hi H Q):qcQ K x lo hi H Q:=by
  obtain⟨a,rfl,xs,h1⟩:=isRef.out h;exact⟨a,xs,rfl,h1⟩
def qhA:Mj:=fun vs σ H Q=>ar0 vs (Q σ H)
def qec (t:TG) (u:Mj):Mj:=fun vs σ H Q=>arH vs fun v r=>t v σ H fun σ' H'=>u r σ' H' Q
def qdj (K:W.Frag) (n:Nat) (t:Mj):TG:=fun v σ H Q=>isRef v fun a=>∃xs,gq K H a xs∧xs.length=n∧t xs σ H Q
@[simp ↓] theorem qkU vs σ H Q:qhA vs σ H Q=ar0 vs (Q σ H):=rfl
@[simp ↓] theorem qjR t u vs σ H Q:qec t u vs σ H Q=(arH vs fun v r=>t v σ H fun σ' H'=>u r σ' H' Q):=rfl
@[simp ↓] theorem qkV K n t v σ H Q:qdj K n t v σ H Q=(isRef v fun a=>∃xs,gq K H a xs∧xs.length=n∧t xs σ H Q):=rfl
theorem dJ {vs σ H Q} (h:qhA vs σ H Q):qeS vs σ H Q:=ar0.out h
theorem aW (t:TG) (u:Mj):qec t u=ZX t u:=by
  funext vs σ H Q
  exact qfC _ _
theorem dh (K:W.Frag) (n:Nat) (t:Mj):qdj K n t=qcF K n t:=by
  funext v σ H Q
  refine propext ⟨fun h=>?_,fun⟨a,xs,e,h⟩=>by subst e;exact⟨xs,h⟩⟩;obtain⟨a,rfl,xs,h1⟩:=isRef.out h;exact⟨a,xs,rfl,h1⟩
def qfS (f:Int→Int→Int):TIp:=fun x y H Q=>isInt x fun i=>isInt y fun j=>Q (.int (f i j)) H
@[simp ↓] theorem qkW f x y H Q:qfS f x y H Q=(isInt x fun i=>isInt y fun j=>Q (.int (f i j)) H):=rfl
theorem qfT {f:Int→Int→Int} {x y H Q} (h:qfS f x y H Q):ipI f x y H Q:=by
  obtain⟨i,rfl,h1⟩:=isInt.out h;obtain⟨j,rfl,h2⟩:=isInt.out h1;exact⟨i,j,rfl,rfl,h2⟩
def qhB (i:Nat) (te:TE) (ti:TIp):TS:=fun D σ H=>getSt σ i fun x=>te σ H fun y H1=>ti x y H1 fun z H2=>D.nx (σ.set i (some z)) H2
@[simp ↓] theorem qkX i te ti D σ H:qhB i te ti D σ H=(getSt σ i fun x=>te σ H fun y H1=>ti x y H1 fun z H2=>D.nx (σ.set i (some z)) H2):=rfl
theorem qfU {i:Nat} {te:TE} {ti:TIp} {D σ H} (h:qhB i te ti D σ H):qeU i te ti D σ H:=getSt.out h
def Va (K:W.Frag) (tl:TE):TI:=fun σ H R=>tl σ H fun x H1=>isRef x fun a=>(∃xs,bC K H1 a xs)∧R (ZJ K a) H1
def qee (K:W.Frag) (tl:TE):TI:=fun σ H R=>tl σ H fun x H1=>isRef x fun p=>∃b,(∃xs,Ru b K H1 p xs)∧R (Itq b K p) H1
def qef (tl:TE):TI:=fun σ H R=>tl σ H fun x H1=>isStr x fun z=>R (Its z) H1
def qba (ta:TA):TI:=fun σ H R=>ta σ H fun vs H1=>ar1 vs fun v=>isInt v fun j=>-(2 ^ 62)≤j∧j<2 ^ 62∧R (T9 0 j.toNat) H1
def qbb (ta:TA):TI:=fun σ H R=>ta σ H fun vs H1=>ar2 vs fun v w=>isInt v fun i=>isInt w fun j=>(-(2 ^ 62)≤i∧i<2 ^ 62∧-(2 ^ 62)≤j∧j<2 ^ 62)∧R (T9 i (j - i).toNat) H1
def qeg (K:W.Frag) (t:TA):TI:=fun σ H R=>t σ H fun vs H1=>ar2 vs fun x y=>isRef x fun a=>isRef y fun b=>(∃xs,bC K H1 a xs)∧(∃ys,bC K H1 b ys)∧R (ZK K a b) H1
def qbc (K:W.Frag) (t:TA):TI:=fun σ H R=>t σ H fun vs H1=>ar1 vs fun x=>isRef x fun a=>(∃xs,bC K H1 a xs)∧R (Ite K a) H1
@[simp ↓] theorem qhC K tl σ H R:Va K tl σ H R=(tl σ H fun x H1=>isRef x fun a=>(∃xs,bC K H1 a xs)∧R (ZJ K a) H1):=rfl
@[simp ↓] theorem qjS K tl σ H R:qee K tl σ H R=(tl σ H fun x H1=>isRef x fun p=>∃b,(∃xs,Ru b K H1 p xs)∧R (Itq b K p) H1):=rfl
@[simp ↓] theorem qjT tl σ H R:qef tl σ H R=(tl σ H fun x H1=>isStr x fun z=>R (Its z) H1):=rfl
@[simp ↓] theorem qhD ta σ H R:qba ta σ H R=(ta σ H fun vs H1=>ar1 vs fun v=>isInt v fun j=>-(2 ^ 62)≤j∧j<2 ^ 62∧R (T9 0 j.toNat) H1):=rfl
@[simp ↓] theorem qhE ta σ H R:qbb ta σ H R=(ta σ H fun vs H1=>ar2 vs fun v w=>isInt v fun i=>isInt w fun j=>(-(2 ^ 62)≤i∧i<2 ^ 62∧-(2 ^ 62)≤j∧j<2 ^ 62)∧R (T9 i (j - i).toNat) H1):=rfl
@[simp ↓] theorem qjU K t σ H R:qeg K t σ H R=(t σ H fun vs H1=>ar2 vs fun x y=>isRef x fun a=>isRef y fun b=>(∃xs,bC K H1 a xs)∧(∃ys,bC K H1 b ys)∧R (ZK K a b) H1):=rfl
@[simp ↓] theorem qhF K t σ H R:qbc K t σ H R=(t σ H fun vs H1=>ar1 vs fun x=>isRef x fun a=>(∃xs,bC K H1 a xs)∧R (Ite K a) H1):=rfl
theorem cA (K:W.Frag) (tl:TE):Va K tl=Wi K tl:=by
  funext σ H R
  exact congrArg (tl σ H) (funext fun x=>funext fun H1=>RW _ _)
theorem su (K:W.Frag) (tl:TE):qee K tl=qfr K tl:=by
  funext σ H R
  refine congrArg (tl σ H) (funext fun x=>funext fun H1=>propext ⟨fun h=>?_,fun⟨b,p,e,h⟩=>by subst e;exact⟨b,h⟩⟩);obtain⟨p,rfl,b,h1⟩:=isRef.out h;exact⟨b,p,rfl,h1⟩
theorem qbd (tl:TE):qef tl=qfk tl:=by
  funext σ H R
  exact congrArg (tl σ H) (funext fun x=>funext fun H1=>qaY _ _)
theorem rG (ta:TA):qba ta=Z5 ta:=by
  funext σ H R
  refine congrArg (ta σ H) (funext fun x=>funext fun H1=>propext ⟨fun h=>?_,fun⟨b,e,h⟩=>by subst e;exact h⟩);obtain⟨v,rfl,h1⟩:=ar1.out h;obtain⟨i,rfl,h2⟩:=isInt.out h1;exact⟨i,rfl,h2⟩
theorem Nh (ta:TA):qbb ta=Z6 ta:=by
  funext σ H R
  refine congrArg (ta σ H) (funext fun x=>funext fun H1=>propext ⟨fun h=>?_,fun⟨b,c,e,h⟩=>by subst e;exact h⟩);obtain⟨v,w,rfl,h1⟩:=ar2.out h;obtain⟨i,rfl,h2⟩:=isInt.out h1;obtain⟨j,rfl,h3⟩:=isInt.out h2;exact⟨i,j,rfl,h3⟩
theorem RZ (K:W.Frag) (t:TA):qeg K t=qcT K t:=by
  funext σ H R
  refine congrArg (t σ H) (funext fun x=>funext fun H1=>propext ⟨fun h=>?_,fun⟨a,b,xs,ys,e,h1,h2,h3⟩=>by subst e;exact⟨⟨xs,h1⟩,⟨ys,h2⟩,h3⟩⟩);obtain⟨v,w,rfl,h1⟩:=ar2.out h;obtain⟨i,rfl,h2⟩:=isRef.out h1;obtain⟨j,rfl,⟨xs,h3⟩,⟨ys,h4⟩,h5⟩:=isRef.out h2;exact⟨i,j,xs,ys,rfl,h3,h4,h5⟩
theorem zO (K:W.Frag) (t:TA):qbc K t=qaG K t:=by
  funext σ H R
  refine congrArg (t σ H) (funext fun x=>funext fun H1=>propext ⟨fun h=>?_,fun⟨a,xs,e,h1,h3⟩=>by subst e;exact⟨⟨xs,h1⟩,h3⟩⟩);obtain⟨v,rfl,h1⟩:=ar1.out h;obtain⟨i,rfl,⟨xs,h3⟩,h5⟩:=isRef.out h1;exact⟨i,xs,rfl,h3,h5⟩
def qeh (sp:Sp) (E:XK) (t:TA):TE:=fun σ H Q=>t σ H fun vs H1=>Yp sp vs H1 Q ⟨0⟩ E
@[simp ↓] theorem qjV sp E t σ H Q:qeh sp E t σ H Q=(t σ H fun vs H1=>Yp sp vs H1 Q ⟨0⟩ E):=rfl
theorem aF (sp:Sp) (E:XK) (t:TA):qeh sp E t=qaf sp [] E t:=by
  funext σ H Q
  exact congrArg (t σ H) (funext fun vs=>funext fun H1=>by rw[List.append_nil];rfl)
def qei (C:Addr) (m:Str) (sp:Sp) (E:XK) (ta:TE) (t:TA):TE:=fun σ H Q=>ta σ H fun x H1=>isRef x fun a=>∃dx fs,H1 a=some (.ins C dx fs)∧fs.lookup m=none∧t σ H1 fun vs H2=>Yp sp (.ref a::vs) H2 Q ⟨0⟩ E
@[simp ↓] theorem qjW C m sp E ta t σ H Q:qei C m sp E ta t σ H Q=(ta σ H fun x H1=>isRef x fun a=>∃dx fs,H1 a=some (.ins C dx fs)∧fs.lookup m=none∧t σ H1 fun vs H2=>Yp sp (.ref a::vs) H2 Q ⟨0⟩ E):=rfl
theorem jZ (C:Addr) (m:Str) (sp:Sp) (E:XK) (ta:TE) (t:TA):qei C m sp E ta t=qag C m sp [] E ta t:=by
  funext σ H Q
  refine congrArg (ta σ H) (funext fun x=>funext fun H1=>propext ⟨fun h=>?_,fun⟨a,dx,fs,e,h1,h2,h3⟩=>?_⟩)
  ·obtain⟨a,rfl,dx,fs,h1,h2,h3⟩:=isRef.out h;refine⟨a,dx,fs,rfl,h1,h2,?_⟩;simp only[List.append_nil];exact h3
  ·subst e;refine⟨dx,fs,h1,h2,?_⟩;simp only[List.append_nil] at h3;exact h3
def qej (C:Addr) (sp:Sp) (E:XK) (t:TA):TE:=fun σ H Q=>t σ H fun vs H1=>∀x dx,H1 x=none→H1 dx=none→dx≠x→
  Yp sp (.ref x::vs) (upd (upd H1 dx (.own x)) x (.ins C dx [])) (fun v H2=>v = .non∧Q (.ref x) H2) ⟨0⟩ E
@[simp ↓] theorem qjX C sp E t σ H Q:qej C sp E t σ H Q=(t σ H fun vs H1=>∀x dx,H1 x=none→H1 dx=none→dx≠x→
  Yp sp (.ref x::vs) (upd (upd H1 dx (.own x)) x (.ins C dx [])) (fun v H2=>v = .non∧Q (.ref x) H2) ⟨0⟩ E):=rfl
theorem qbe (C:Addr) (sp:Sp) (E:XK) (t:TA):qej C sp E t=qah C sp [] E t:=by
  funext σ H Q
  refine congrArg (t σ H) (funext fun vs=>funext fun H1=>?_);simp only[List.append_nil];rfl
def qhG (K:W.Frag) (ta:TE) (f:Str):TE:=fun σ H Q=>ta σ H fun x H1=>isRef x fun a=>∃C dx fs,H1 a=some (.ins C dx fs)∧Cls K C∧qu K C f∧∃v,fs.lookup f=some v∧Q v H1
@[simp ↓] theorem qkY K ta f σ H Q:qhG K ta f σ H Q=(ta σ H fun x H1=>isRef x fun a=>∃C dx fs,H1 a=some (.ins C dx fs)∧Cls K C∧qu K C f∧∃v,fs.lookup f=some v∧Q v H1):=rfl
theorem Qc (K:W.Frag) (ta:TE) (f:Str):qhG K ta f=qcM K ta f:=by
  funext σ H Q
  refine congrArg (ta σ H) (funext fun x=>funext fun H1=>propext ⟨fun h=>?_,fun⟨a,C,dx,fs,v,e,h1,h2,h3,h4⟩=>by subst e;exact⟨C,dx,fs,h1,h2,h3,v,h4⟩⟩);obtain⟨a,rfl,C,dx,fs,h1,h2,h3,v,h4⟩:=isRef.out h;exact⟨a,C,dx,fs,v,rfl,h1,h2,h3,h4⟩
def qek (td ty:TE):TE:=fun σ H Q=>td σ H fun x H1=>ty σ H1 fun y H2=>isRef x fun a=>∃v,rY H2 a y (some v)∧Q v H2
def WQ (ty td:TE):TE:=fun σ H Q=>ty σ H fun y H1=>td σ H1 fun x H2=>isRef x fun a=>∃o,rY H2 a y o∧Q (.bl o.isNone) H2
def qel (td ty tv:TE):TS:=fun D σ H=>tv σ H fun v H1=>td σ H1 fun x H2=>ty σ H2 fun y H3=>isRef x fun a=>∃H4,O_ H3 a y v H4∧D.nx σ H4
def qbf (td ty tx:TE):TE:=fun σ H Q=>td σ H fun x H1=>isRef x fun a=>IsD H1 a∧ty σ H1 fun y H2=>tx σ H2 fun z H3=>∃o,rY H3 a y o∧Q (o.getD z) H3
@[simp ↓] theorem qjY td ty σ H Q:qek td ty σ H Q=(td σ H fun x H1=>ty σ H1 fun y H2=>isRef x fun a=>∃v,rY H2 a y (some v)∧Q v H2):=rfl
@[simp ↓] theorem qgK ty td σ H Q:WQ ty td σ H Q=(ty σ H fun y H1=>td σ H1 fun x H2=>isRef x fun a=>∃o,rY H2 a y o∧Q (.bl o.isNone) H2):=rfl
@[simp ↓] theorem qjZ td ty tv D σ H:qel td ty tv D σ H=(tv σ H fun v H1=>td σ H1 fun x H2=>ty σ H2 fun y H3=>isRef x fun a=>∃H4,O_ H3 a y v H4∧D.nx σ H4):=rfl
@[simp ↓] theorem qhH td ty tx σ H Q:qbf td ty tx σ H Q=(td σ H fun x H1=>isRef x fun a=>IsD H1 a∧ty σ H1 fun y H2=>tx σ H2 fun z H3=>∃o,rY H3 a y o∧Q (o.getD z) H3):=rfl
theorem Vb {x:V} {β:Type} {R:Addr→β→Prop}:(isRef x fun a=>∃b,R a b)=(∃a b,x = .ref a∧R a b):=propext ⟨fun h=>by obtain⟨a,rfl,b,h1⟩:=isRef.out h;exact⟨a,b,rfl,h1⟩,fun⟨a,b,e,h⟩=>by subst e;exact⟨b,h⟩⟩
theorem R0 (td ty:TE):qek td ty=qaD td ty:=by
  funext σ H Q
  exact congrArg (td σ H) (funext fun x=>funext fun H1=>congrArg (ty σ H1) (funext fun y=>funext fun H2=>Vb))
theorem Vc (ty td:TE):WQ ty td=Pb ty td:=by
  funext σ H Q
  refine congrArg (ty σ H) (funext fun x=>funext fun H1=>congrArg (td σ H1) (funext fun y=>funext fun H2=>?_));rw[Vb];simp only[Option.not_isSome]
theorem qbg (td ty tv:TE):qel td ty tv=qaE td ty tv:=by
  funext D σ H
  exact congrArg (tv σ H) (funext fun v=>funext fun H1=>congrArg (td σ H1) (funext fun x=>funext fun H2=>congrArg (ty σ H2) (funext fun y=>funext fun H3=>Vb)))
theorem Ni (td ty tx:TE):qbf td ty tx=UL td ty tx:=by
  funext σ H Q
  exact congrArg (td σ H) (funext fun x=>funext fun H1=>RW _ _)
def Nj (t:TE):TO:=fun σ H Q=>t σ H fun x H1=>isInt x fun i=>Q (some i) H1
@[simp ↓] theorem qj0 t σ H Q:Nj t σ H Q=(t σ H fun x H1=>isInt x fun i=>Q (some i) H1):=rfl
theorem eY (t:TE):Nj t=qak t:=by
  funext σ H Q
  exact congrArg (t σ H) (funext fun x=>funext fun H1=>qaX _ _)
section
variable {X:Cx} {K:W.Frag}
theorem PE.eqv {e:Expr} {t t':TE} (o:PE X e t) (h:t'=t):PE X e t':=h▸o
theorem PC.eqv {op:CmpOp} {a b:Expr} {t t':TE} (o:PC X op a b t) (h:t'=t):PC X op a b t':=h▸o
theorem PS.eqv {e:Stmt} {t t':TS} (o:PS X e t) (h:t'=t):PS X e t':=h▸o
theorem PG.eqv {e:Expr} {t t':TG} (o:PG X e t) (h:t'=t):PG X e t':=h▸o
theorem fB.eqv {e:List Expr} {t t':Mj} (o:fB X e t) (h:t'=t):fB X e t':=h▸o
theorem PI.eqv {tg e:Expr} {t t':TI} (o:PI X tg e t) (h:t'=t):PI X tg e t':=h▸o
theorem PO.eqv {e:Option Expr} {t t':TO} (o:PO X e t) (h:t'=t):PO X e t':=h▸o
theorem Hj:iU X (binaryOp .Mult) (fI qcH fun i j=>.int (i * j)):=qe2.mono Yu
theorem qbh:iU X (binaryOp .FloorDiv) (fI XH fun i j=>.int (i / j)):=qcI.mono Yu
theorem zP:iU X (binaryOp .Mod) (fI (fun _ j=>0<j) fun i j=>.int (i % j)):=qe3.mono Yu
theorem Qd:iU X (binaryOp .Pow) (fI Rg fun i j=>.int (i ^ j.toNat)):=qe4.mono Yu
theorem qdk:iU X (binaryOp .LShift) (fI Rg fun i j=>.int (i * 2 ^ j.toNat)):=qe5.mono Yu
theorem qdl:iU X (binaryOp .RShift) (fI (fun _ j=>0≤j) fun i j=>.int (i / 2 ^ j.toNat)):=qe6.mono Yu
theorem dw (hK:X.K=K):IxR X (qfD K):=(qkf hK).mono qfE
theorem WR:IxR X qfF:=qfd.mono qfG
theorem YB (hK:X.K=K):iU X (compareOp .In) (fIn K):=(inK hK).mono qhw
theorem qkZ (hK:X.K=K):iU X (compareOp .In) (qfH K):=(inK hK).mono qfI
theorem WT (hK:X.K=K):iU X (compareOp .NotIn) (U7 K):=(qfq hK).mono qa4
theorem qz (hK:X.K=K) (hu:X.A.units+64<cLine):iU X (compareOp .NotEq) (qfL K):=(qfy hK hu).mono qfM
theorem cW (hK:X.K=K):cN X (.builtin "len") (Gi K):=(qg7 hK).mono qda
theorem qfV:cN X (.builtin "len") qa1:=qg8.mono qdb
theorem Jv (hK:X.K=K):cN X (.type "list") (PN K):=(qcY hK).mono Yv
theorem Nk:cN X (.type "tuple") PX:=qaz.mono Yw
theorem Vd (hK:X.K=K):cN X (.builtin "isinstance") (qa2 K):=(qg9 hK).mono qdc
theorem qbi (hK:X.K=K):cN X (.builtin "isinstance") (qa3 K):=(qg_ hK).mono qdd
theorem nW (hc:X.calm=true):cN X (.builtin "all") qfP:=(Yj hc).mono qfQ
theorem iY:cN X (.type "int") WM:=XR.mono qdh
theorem Np:cN X (.builtin "abs") qfN:=qac.mono qfO
theorem Jw (hc:X.calm=true):cN X (.builtin "max") qa8:=(XM hc).mono qdf
theorem Ve (hc:X.calm=true):cN X (.builtin "min") qa9:=(XQ hc).mono qdg
theorem Qe:cN X (.builtin "divmod") Qa:=Rh.mono Yz
theorem YC (hK:X.K=K) (hc:X.calm=true):cN X (.builtin "sum") (qfJ K):=(Yr hK hc).mono qfK
theorem Vf (hK:X.K=K) (hc:X.calm=true):cN X (.builtin "min") (qa7 K):=(Ys hK hc).mono qde
theorem gJ:X8 X "list.append" P0:=X8.mono (r:=OJ) Ek Yx
theorem Vg:X8 X "list.insert" P_:=X8.mono (r:=O4) Yi Yy
theorem Ew (hK:X.K=K):X8 X "list.count" (U8 K):=(qaP hK).mono qa5
theorem YD (hK:X.K=K):X8 X "list.index" (U9 K):=(qaT hK).mono qa6
theorem tX (hK:X.K=K):SlR X (U_ K):=(qkG hK).mono qfR
theorem Nq:Xz X qa_:=set_list.mono qdi
theorem qdm:PIp X .Add (qfS fun i j=>i+j):=qeW.mono qfT
end
theorem getSt.imp {σ:St} {i:Nat} {R R':V→Prop} (f:∀v,R v→R' v):getSt σ i R→getSt σ i R':=by
  induction σ generalizing i with
  | nil=>exact fun h=>h.elim
  | cons o σ ih=>
    cases i with
    | zero=>cases o with
      | none=>exact fun h=>h.elim
      | some v=>exact f v
    | succ n=>exact ih
theorem isInt.imp {x:V} {R R':Int→Prop} (f:∀v,R v→R' v):isInt x R→isInt x R':=by cases x <;> first | exact f _ | exact fun h=>h.elim
theorem isRef.imp {x:V} {R R':Addr→Prop} (f:∀v,R v→R' v):isRef x R→isRef x R':=by cases x <;> first | exact f _ | exact fun h=>h.elim
theorem xR.imp {x:V} {R R':Bool→Prop} (f:∀v,R v→R' v):xR x R→xR x R':=by cases x <;> first | exact f _ | exact fun h=>h.elim
theorem R3 {K:W.Frag} {g:Int→Int→V} {i j:Nat}:∀(σ:St) (H:Hp) (Q Q':Bool→Hp→Prop),(∀(b:Bool) (H1:Hp),Q b H1→Q' b H1)→yu (Ld (U5 g) (fVar i) (tCB (Gi K) (iW (fVar j) xQ))) σ H Q→yu (Ld (U5 g) (fVar i) (tCB (Gi K) (iW (fVar j) xQ))) σ H Q':=
  fun _ _ _ _ f h=>getSt.imp (fun _ h=>getSt.imp (fun _ h=>isRef.imp (fun _ ⟨ys,h1,h2⟩=>⟨ys,h1,isInt.imp (fun _ h=>isInt.imp (fun _ h=>xR.imp (fun _ h=>f _ _ h) h) h) h2⟩) h) h) h
theorem dG.tY {P:Program} {w:World} {K:W.Frag} {mg:Str→Option Value} {base:Heap} {x qual:Str} {st:Stmt} {f:Addr} {fd:FuncData} {N ps:List Str} {k:Nat} {sp:Sp} (F:dG K x qual st f fd) (S:bh N ps (aD st)) (len:∀vs H Q E,sp vs H Q E→vs.length=ps.length)
    (hbody:∀(cdv:Value) (A:Around) (outer:List Env) (s:Shared) (H:Hp) (vs:List V) (Q:VK) (E:XK),iV k (A.deeper (envOfC qual (aD st) s.heap.objs.size f cdv))→sp vs H Q E→
      ∃t,K9 (aA mj P w K mg base N qual (aD st) f cdv A outer s H E).ZG (j_ st) t∧t {nx:=fun _ H'=>Q .non H',rt:=Q} (nU N vs) H):bV P w K mg base mj (k+1) f fd ps sp:=by
  refine F.ok S len fun cdv A outer s H vs Q E hr h=>?_;obtain⟨t,h1,h2⟩:=hbody cdv A outer s H vs Q E hr h;refine⟨t,h1,?_⟩;have hl:=len _ _ _ _ h;have hp:ps.length≤N.length:=by have:=congrArg List.length S.pre;rw[List.length_take] at this;omega
  rw[vB N vs (by omega)] at h2;exact h2
end L2
namespace L2
open PySem
def Ak (T:List iB) (h:Str) (wh:List Nat) (R:BR):BR:=T.foldl (fun R s=>if s.2.1=h∧¬s.2.2∈R.map (·.1) then R++[(s.2.2,wh++[s.1])] else R) R
def vC (S:List iB) (a:Str):Nat→BR
  | 0=>[(a,[])]
  | n+1=>match (vC S a n)[n]? with
    | some x=>Ak S x.1 x.2 (vC S a n)
    | none=>vC S a n
theorem Vh (T:List iB) (s:iB) (h:Str) (wh:List Nat) (R:BR):Ak (T++[s]) h wh R=if s.2.1=h∧¬s.2.2∈(Ak T h wh R).map (·.1) then Ak T h wh R++[(s.2.2,wh++[s.1])] else Ak T h wh R:=by
  unfold Ak;rw[List.foldl_append];rfl
theorem YF {S:List iB} {a:Str} {n:Nat} {h:Str} {wh:List Nat} (e:(vC S a n)[n]? = some (h,wh)):vC S a (n+1)=Ak S h wh (vC S a n):=by
  show(match (vC S a n)[n]? with | some x=>Ak S x.1 x.2 (vC S a n) | none=>vC S a n)=_
  rw[e]
theorem Nr {S:List iB} {a:Str} {R:BR} {n:Nat} (e:vC S a n=R) (hn:R.length≤n):∀k,vC S a (n+k)=R
  | 0=>e
  | k+1=>by
    have ih:=Nr e hn k;show(match (vC S a (n+k))[n+k]? with | some x=>Ak S x.1 x.2 (vC S a (n+k)) | none=>vC S a (n+k))=_
    rw[ih,List.getElem?_eq_none (by omega)]
def qhI (S:List iB) (a:Str) (R:BR):Prop:=vC S a R.length=R
def wg (H:Hp) (kvs:List (Key×V)):Prop:=∀kv∈kvs,∀p,kv.2 = .ref p→H p=none
theorem wg.snoc {H:Hp} {kvs:List (Key×V)} (h:wg H kvs) {k:Key} {p:Addr} (hp:H p=none):wg H (kvs++[(k,.ref p)]):=by
  intro kv hkv q hq
  rcases List.mem_append.mp hkv with z | z
  ·exact h kv z q hq
  ·simp at z;subst z;cases hq;exact hp
theorem zQ:∀(ns:List Int) (ps:List (Str×Str)) (k j:Nat) (s:iB),(mF ns ps k)[j]? = some s↔∃n e,ns[j]? = some n∧ps[j]? = some e∧s=(k+j,Bf n e,vA n e)
  | [],ps,k,j,s=>by simp[mF]
  | n::ns,[],k,j,s=>by simp[mF]
  | n::ns,e::ps,k,0,s=>by simp[mF,eq_comm]
  | n::ns,e::ps,k,j+1,s=>by
    rw[mF,List.getElem?_cons_succ,zQ ns ps (k+1) j s];simp only[List.getElem?_cons_succ,show k+1+j=k+(j+1) by omega]
theorem qbj {ns:List Int} {ps:List (Str×Str)} {s:iB}:s∈mF ns ps 0↔∃j n e,ns[j]? = some n∧ps[j]? = some e∧s=(j,Bf n e,vA n e):=by
  rw[List.mem_iff_getElem?];constructor
  ·rintro⟨j,h⟩;obtain⟨n,e,h1,h2,h3⟩:=(zQ ns ps 0 j s).mp h;exact⟨j,n,e,h1,h2,by rw[h3,Nat.zero_add]⟩
  ·rintro⟨j,n,e,h1,h2,h3⟩;exact⟨j,(zQ ns ps 0 j s).mpr ⟨n,e,h1,h2,by rw[h3,Nat.zero_add]⟩⟩
theorem Jx:∀(ns:List Int) (ps:List (Str×Str)) (k:Nat),ns.length=ps.length→(mF ns ps k).length=ps.length
  | [],[],k,_=>rfl
  | [],_::_,k,h=>by simp at h
  | _::_,[],k,h=>by simp at h
  | n::ns,e::ps,k,h=>by rw[mF,List.length_cons,Jx ns ps (k+1) (by simpa using h),List.length_cons]
def qdn (S:List iB) (f:List Str):Prop:=∀s∈S,s.2.1∈f→s.2.2∈f
structure Rch (S:List iB) (x:Str) (f:List Str):Prop where
  st:x∈f
  nd:f.Nodup
  rt:∀y∈f,RT (IV S) x y
structure qk0 (S T:List iB) (x:Str) (f0 f:List Str):Prop where
  r0:f0.Nodup
  r:Rch S x f
  sub:∀y∈f0,y∈f
  le:f0.length≤f.length
  md:∀s∈T,s.2.1∈f0→s.2.2∈f
  cl:qdn S f0→f=f0
theorem zsz {a b:Nat} (h:a<b) (hb:b≤20):a<sizeLine:=Nat.lt_of_lt_of_le h (Nat.le_trans hb (of_eq_true qaI))
theorem z01 {d:Int} (h:0≤d) (h2:d<2):d=0∨d=1:=by omega
theorem z2 {n:Nat} (h:(1:Int)<n):2≤n:=by omega
theorem zpa (c:Int):0≤if 1000000000000000000<c then c - 1000000000000000000 else 0:=by split <;> omega
theorem zpb (c:Int) (k:Nat):0≤c % 2147483629+977 * (k:Int)+1:=by omega
theorem zpc (c:Int) {k:Nat} (h:k<100):c % 2147483629+977 * (k:Int)+1<4294967296:=by omega
theorem zs1 {s i t p:Nat} (h:s≤2 * i+1) (hi:i<t) (e:t=p) (hp:p≤20):s<sizeLine:=by
  have:60<sizeLine:=by decide
  omega
theorem zs2 {s i:Nat} (h:s≤2 * i+1):s+1≤2 * (i+1):=by omega
theorem zs3 {s t p:Nat} (h:s≤2 * t) (e:t=p) (hp:p≤20):s≤40:=by omega
end L2
namespace L2
open PySem PySem.Spec PyProof.Rows
mutual
def cC (H:Hp):PyData→V→Prop
  | .none,v=>v = .non
  | .bool b,v=>v = .bl b
  | .int i,v=>v = .int i
  | .str x,v=>v = .str x
  | .list ds,v=>∃a xs,v = .ref a∧H a=some (.lst xs)∧aX H ds xs
  | .tuple ds,v=>∃a xs,v = .ref a∧H a=some (.tup xs)∧aX H ds xs
  | .dict kvs,v=>kvs=[]∧∃a,v = .ref a∧H a=some (.dK [])
def aX (H:Hp):List PyData→List V→Prop
  | [],vs=>vs=[]
  | d::ds,vs=>∃v r,vs=v::r∧cC H d v∧aX H ds r
end
mutual
theorem cC.same {H H':Hp} (s:Same H H'):∀(d:PyData) (v:V),cC H d v→cC H' d v
  | .none,v,h=>by simp only[cC] at h ⊢;exact h
  | .bool b,v,h=>by simp only[cC] at h ⊢;exact h
  | .int i,v,h=>by simp only[cC] at h ⊢;exact h
  | .str x,v,h=>by simp only[cC] at h ⊢;exact h
  | .list ds,v,h=>by
    simp only[cC] at h ⊢;obtain⟨a,xs,e,h1,h2⟩:=h;exact⟨a,xs,e,s _ _ h1,aX.same s ds xs h2⟩
  | .tuple ds,v,h=>by
    simp only[cC] at h ⊢;obtain⟨a,xs,e,h1,h2⟩:=h;exact⟨a,xs,e,s _ _ h1,aX.same s ds xs h2⟩
  | .dict kvs,v,h=>by
    simp only[cC] at h ⊢;obtain⟨e0,a,e,h1⟩:=h;exact⟨e0,a,e,s _ _ h1⟩
theorem aX.same {H H':Hp} (s:Same H H'):∀(ds:List PyData) (vs:List V),aX H ds vs→aX H' ds vs
  | [],vs,h=>by simp only[aX] at h ⊢;exact h
  | d::ds,vs,h=>by
    simp only[aX] at h ⊢;obtain⟨v,r,e,h1,h2⟩:=h;exact⟨v,r,e,cC.same s d v h1,aX.same s ds r h2⟩
end
theorem aX.ints (H:Hp):∀ns:List Int,aX H (ns.map PyData.int) (ns.map V.int)
  | []=>by simp[aX]
  | n::ns=>by simp only[List.map_cons,aX];exact⟨_,_,rfl,by simp[cC],aX.ints H ns⟩
theorem aX.append {H:Hp}:∀{ds es:List PyData} {xs ys:List V},aX H ds xs→aX H es ys→aX H (ds++es) (xs++ys)
  | [],_,_,_,h,q=>by simp only[aX] at h;subst h;exact q
  | d::ds,_,_,_,h,q=>by
    simp only[aX] at h;obtain⟨v,r,rfl,h1,h2⟩:=h;simp only[List.cons_append,aX];exact⟨_,_,rfl,h1,aX.append h2 q⟩
theorem aX.length {H:Hp}:∀{ds:List PyData} {xs:List V},aX H ds xs→ds.length=xs.length
  | [],_,h=>by simp only[aX] at h;subst h;rfl
  | d::ds,_,h=>by
    simp only[aX] at h;obtain⟨v,r,rfl,h1,h2⟩:=h;simp[aX.length h2]
theorem aX.at {H:Hp}:∀{ds:List PyData} {xs:List V} {i:Nat} {v:V},aX H ds xs→xs[i]? = some v→∃d,ds[i]? = some d∧cC H d v
  | [],_,i,v,h,e=>by simp only[aX] at h;subst h;simp at e
  | d::ds,_,0,v,h,e=>by
    simp only[aX] at h;obtain⟨w,r,rfl,h1,h2⟩:=h;simp at e;subst e;exact⟨d,rfl,h1⟩
  | d::ds,_,i+1,v,h,e=>by
    simp only[aX] at h;obtain⟨w,r,rfl,h1,h2⟩:=h;exact aX.at (i:=i) h2 (by simpa using e)
def hid (p:Addr) (H:Hp):Hp:=fun b=>if b=p then none else H b
theorem sy {p:Addr} {H:Hp}:Same (hid p H) H:=fun b o e=>by
  unfold hid at e;split at e
  ·cases e
  ·exact e
theorem Hl {p:Addr} {H H':Hp} (s:But p H H'):Same (hid p H) (hid p H'):=fun b o e=>by
  unfold hid at e ⊢;split at e
  ·cases e
  ·rename_i h;rw[if_neg h];exact s b o h e
theorem dM {p:Addr} {H H':Hp} (s:Same H H'):Same (hid p H) (hid p H'):=Hl fun b o _ e=>s b o e
theorem yx {p b:Addr} {H:Hp} {o:HO} (h:b≠p) (e:H b=some o):hid p H b=some o:=by
  unfold hid;rw[if_neg h];exact e
section
variable {X:Cx} {p_:List (Addr×Obj)} {σ:St} {H:Hp} {s:Shared} {K:W.Frag}
theorem Vi {P:Program} {w:World} {h:Heap} {a:Addr} (ok:xT P w H h) (e:H a=some (.dK [])):Reads h (.ref a) (.dict []) [a]∧(a == sysModules)=false:=by
  obtain⟨_,hd,vs,kv,o,es,ep,h1,h2,h3,_,h5,_⟩:=Rv ok e;refine⟨?_,hd⟩;have ev:vs=[]:=by cases kv;rfl
  subst ev;have el:es.toList=[]:=by
    generalize es.toList=l at h5;cases h5;rfl
  have:=Reads.dict (kvs:=[]) (as:=[]) (bs:=[]) h1 h2.1 h3 (by rw[el];exact .nil) (by rw[el];exact .nil);exact this
mutual
theorem cC.reads (I:Inv X p_ σ H s):∀(d:PyData) (v:V) (u:Value),cC H d v→RelV v u→∃as,Reads s.heap u d as
  | .none,v,u,h,r=>by
    simp only[cC] at h;subst h;cases r;exact⟨_,.none⟩
  | .bool b,v,u,h,r=>by
    simp only[cC] at h;subst h;cases r;exact⟨_,.bool b⟩
  | .int i,v,u,h,r=>by
    simp only[cC] at h;subst h;obtain⟨t,rfl⟩:=r;exact⟨_,.int i t⟩
  | .str x,v,u,h,r=>by
    simp only[cC] at h;subst h;obtain⟨t,rfl⟩:=r;exact⟨_,.str x t⟩
  | .list ds,v,u,h,r=>by
    simp only[cC] at h;obtain⟨a,xs,rfl,hq,hs⟩:=h;cases r;obtain⟨its,rv,pl,hz⟩:=I.list (bC.of hq);obtain⟨o,e,c,n,dt⟩:=pl.isList;obtain⟨as,ra⟩:=aX.reads I ds xs its hs rv;exact⟨_,.list e c dt (by simpa using ra)⟩
  | .tuple ds,v,u,h,r=>by
    simp only[cC] at h;obtain⟨a,xs,rfl,hq,hs⟩:=h;cases r;obtain⟨its,rv,pl,hz⟩:=I.tuple (gq.of hq);obtain⟨o,e,c,n,dt⟩:=pl;obtain⟨as,ra⟩:=aX.reads I ds xs its hs rv;exact⟨_,.tuple e c dt (by simpa using ra)⟩
  | .dict kvs,v,u,h,r=>by
    simp only[cC] at h;obtain⟨rfl,a,rfl,h1⟩:=h;cases r;exact⟨_,(Vi I.hok h1).1⟩
theorem aX.reads (I:Inv X p_ σ H s):∀(ds:List PyData) (vs:List V) (us:List Value),aX H ds vs→Vals vs us→∃as,ReadsAll s.heap us ds as
  | [],vs,us,h,r=>by
    simp only[aX] at h;subst h;cases r;exact⟨_,.nil⟩
  | d::ds,vs,us,h,r=>by
    simp only[aX] at h;obtain⟨v,vr,rfl,h1,h2⟩:=h;cases r with
    | cons r1 r2=>
      obtain⟨as,ra⟩:=cC.reads I d v _ h1 r1;obtain⟨bs,rb⟩:=aX.reads I ds vr _ h2 r2;exact⟨_,.cons ra rb⟩
end
end
section
variable {prog:Program} {w:World} {A:Around} {E:Value→Shared→Prop} {s:Shared}
theorem Jy {e it:Addr} {i:Int} {Q:Value→Shared→Prop} (he:kh s.heap e it i) (h:Q (.ref e) s):wpAny (model prog w) A (pyIter (.ref e)) Q E s:=by
  obtain⟨f0,f1,old,he,_⟩:=he;have hT:s.TypeIs (.ref e) "enumerate" :=⟨_,he,rfl⟩;refine wpAny_pyIter_slot hT F.slot_enumerate_iter (wpAny_call_entry F.slot_enumerate_iter hT F.entry_enumerate_iter (?_:wpAny _ _ (ret (.ref e)) _ _ s) (F.args_enumerate_iter_1 _));exact wpAny_pure ⟨_,rfl, "enumerate",_,hT,F.slot_enumerate_next.lookup,h⟩
theorem qbk {elts:List Expr} {x1} {pos:Pos} {e it a:Addr} {i:Int} {Q:Unit→Shared→Prop} (he:kh s.heap e it i)
    (hQ:∀h',kh h' e it i→Heap.SameBut e s.heap h'→Q () {s with heap:=h'}):wpAny (model prog w) A (letOwnedTupleGo (.Tuple elts x1 pos) (.ref e) (.ref a)) Q E s:=by
  obtain⟨f0,f1,old,he,hf⟩:=he;unfold letOwnedTupleGo;refine wpAny_bind (wpAny_load he ?_);dsimp only;split
  ·refine wpAny_bind (wpAny_rule ?_);exact wpAny_setField_rec (a:=e) he (by simp) fun h' z hs'=>hQ h' ⟨.none,f1,old,z,.inl rfl⟩ hs'
  ·exact wpAny_pure (hQ s.heap ⟨f0,f1,old,he,hf⟩ ⟨rfl,fun _ _=>rfl⟩)
end
def qdo (b:Bool) (K:W.Frag) (a:Addr):It:=
  ⟨fun i H=>∃xs x,Ru b K H a xs∧xs[i]? = some x,
   fun i H v H'=>∃t x,v = .ref t∧H t=none∧H'=upd H t (.tup [.int i,x])∧∀xs,Ru b K H a xs→xs[i]? = some x,
   fun i H=>∃xs,Ru b K H a xs∧xs.length≤i⟩
def LtB (b:Bool) (h:Heap) (a:Addr) (items:Array Value):Prop:=match b with
  | true=>h.IsList a items
  | false=>h.IsTuple a items
theorem Inv.qfW {X:Cx} {p_:List (Addr×Obj)} {σ:St} {H:Hp} {s:Shared} (I:Inv X p_ σ H s) {b:Bool} {a:Addr} {xs:List V} (h:Ru b X.K H a xs) :
    ∃its:List Value,Vals xs its∧its.length≤sizeLine∧LtB b s.heap a its.toArray:=by
  cases b with
  | true=>
    obtain⟨its,rv,pl,hz⟩:=I.list h;exact⟨its,rv,by rw[← rv.length];exact hz,pl.isList⟩
  | false=>
    obtain⟨its,rv,pl,hz⟩:=I.tuple h;exact⟨its,rv,by rw[← rv.length];exact hz,pl⟩
theorem Inv.qbl {X:Cx} {p_:List (Addr×Obj)} {σ:St} {H:Hp} {s:Shared} (I:Inv X p_ σ H s) {b:Bool} {a:Addr} {xs ys:List V} (h:Ru b X.K H a xs) (q:Ru b X.K H a ys):xs=ys:=by
  cases b with
  | true=>exact I.rT h q
  | false=>exact I.Mh h q
def ZM (b:Bool) (it a:Addr) (i:Nat) (h:Heap):Prop:=match b with
  | true=>h.IsListIter it a i
  | false=>h.IsTupleIter it a i
theorem ZM.src {b:Bool} {it a:Addr} {items:Array Value} {i:Nat} {h:Heap} (st:ZM b it a i h) (q:LtB b h a items):pF b it a items i h:=by
  cases b with
  | true=>exact⟨st,q⟩
  | false=>exact⟨st,q⟩
theorem ZM.of {b:Bool} {it a:Addr} {items:Array Value} {i:Nat} {h:Heap} (st:pF b it a items i h):ZM b it a i h:=by
  cases b with
  | true=>exact st.1
  | false=>exact st.1
theorem ZM.keep {b:Bool} {it a:Addr} {i:Nat} {h h':Heap} (st:ZM b it a i h) (k:∀o,h.get? it=some o→h'.get? it=some o):ZM b it a i h':=by
  cases b with
  | true=>obtain⟨o,e,c⟩:=st;exact⟨o,k _ e,c⟩
  | false=>obtain⟨o,e,c⟩:=st;exact⟨o,k _ e,c⟩
theorem ZM.obj {b:Bool} {it a:Addr} {i:Nat} {h:Heap} (st:ZM b it a i h):∃o,h.get? it=some o∧∀v,o.data≠.cell v:=by
  cases b with
  | true=>obtain⟨o,e,_,d⟩:=(show h.IsListIter it a i from st);exact⟨o,e,fun v y=>by rw[d] at y;cases y⟩
  | false=>obtain⟨o,e,_,d⟩:=(show h.IsTupleIter it a i from st);exact⟨o,e,fun v y=>by rw[d] at y;cases y⟩
structure qhJ (b:Bool) (e it a:Addr) (i:Nat) (h:Heap):Prop where
  he:kh h e it i
  hi:ZM b it a i h
theorem Vj {b:Bool} {P:Program} {w:World} {K:W.Frag} {es:List Expr} {k:Nat} {pos:Pos} {e it a:Addr} (nei:e≠it) :
    Turn P w K (.Tuple es k pos) (qdo b K a) [e,it] e (qhJ b e it a) where
  mem:=by simp
  obj:=fun i h st c hc=>by
    simp only[List.mem_cons,List.not_mem_nil,or_false] at hc
    rcases hc with rfl | rfl
    ·obtain⟨f0,f1,old,q,_⟩:=st.he;exact⟨_,q,fun v e=>nomatch e⟩
    ·exact st.hi.obj
  keep:=fun i h h' st kk=>by
    obtain⟨f0,f1,old,q,hf⟩:=st.he;exact⟨⟨f0,f1,old,kk e (by simp) _ q,hf⟩,st.hi.keep fun o z=>kk it (by simp) o z⟩
  item:=by
    intro X hP hw hK hc i p_ s σ H E I hf st hg;subst hP hw hK;obtain⟨xs,x,qa,hx⟩:=hg;obtain⟨its,rv,hz,pl⟩:=I.qfW qa;obtain⟨u,hu,ru⟩:=rv.get hx;obtain⟨f0,f1,old,hE,_⟩:=id st.he;obtain⟨o1,e1,_⟩:=st.hi.obj;refine IW st.he (st.hi.src pl) (x:=u) (by simpa using hu) fun h' a1 a2 a3 kk=>?_;refine⟨_,rfl,qbk (s:={s with heap:=h',toks:=s.toks+1}) a1 fun h2 b1 sb=>?_⟩;have lt:∀{c o},s.heap.get? c=some o→s.heap.objs.size≠c:=fun e=>Nat.ne_of_gt (Heap.lt_size e);have hn:H s.heap.objs.size=none:=I.hok.fresh (Nat.le_refl _);have kk2:∀c o,c∉[e,it]→s.heap.get? c=some o→h2.get? c=some o:=fun c o hc z=>by
      simp only[List.mem_cons,List.not_mem_nil,or_false,not_or] at hc;exact(sb.2 c hc.1).trans (kk c o hc.1 hc.2 z)
    have I1:Inv X p_ σ H {s with heap:=h2,toks:=s.toks+1}:=I.tU kk2 hf;have Cq:=sb.extBut _ _ (lt hE) a3;have I2:Inv X p_ σ (upd H s.heap.objs.size (.tup [.int i,x])) {s with heap:=h2,toks:=s.toks+1}:=I.Wz I1 ⟨_,rfl⟩ ru Cq;refine⟨.ref s.heap.objs.size,_,I2,rfl,⟨s.heap.objs.size,x,rfl,hn,rfl,fun xs' q'=>by rw[I.qbl q' qa];exact hx⟩,?_,fun c hcm=>?_⟩
    ·exact⟨b1,(ZM.of a2).keep fun o z=>(sb.2 it nei.symm).trans z⟩
    · have hne:c≠s.heap.objs.size:=by
        simp only[List.mem_cons,List.not_mem_nil,or_false] at hcm
        rcases hcm with rfl | rfl
        ·exact(lt hE).symm
        ·exact(lt e1).symm
      rw[aM hne];exact(hf c hcm).1
  done:=by
    intro X hP hw hK hc i p_ s σ H E I hf st hg;subst hP hw hK;obtain⟨xs,qa,hl⟩:=hg;obtain⟨its,rv,hz,pl⟩:=I.qfW qa;have l1:=rv.length;refine I_ (I.ok.hd hc) st.he (st.hi.src pl) (by simp;omega) fun h' kk=>⟨rfl,I.tU (t':=s.toks) (fun c o hcm z=>?_) hf⟩;simp only[List.mem_cons,List.not_mem_nil,or_false,not_or] at hcm;exact kk c o hcm.2 z
  self:=fun _ _ _ _ _ st h=>Jy st.he h
section
variable {X:Cx} {K:W.Frag}
def WW (K:W.Frag) (t:TA):TI:=fun σ H R=>t σ H fun vs H1=>ar1 vs fun x=>isRef x fun a=>∃b,(∃xs,Ru b K H1 a xs)∧R (qdo b K a) H1
@[simp ↓] theorem qgL K t σ H R:WW K t σ H R=(t σ H fun vs H1=>ar1 vs fun x=>isRef x fun a=>∃b,(∃xs,Ru b K H1 a xs)∧R (qdo b K a) H1):=rfl
theorem qbm (hK:X.K=K) {es:List Expr} {k:Nat} {pos':Pos} {a:Expr} {ta:TA} {p pos:Pos} (hg:Gl X "enumerate") (hm:X.mg "enumerate" = none) (ha:PA X [a] ta)
    (hs:starEach [a] X.env=[(false,eval a X.env)]:=by rfl) :
    PI X (.Tuple es k pos') (.Call (.Name "enumerate" p) [a] [] pos) (WW K ta):=by
  subst hK;intro p_ s σ H R I h;refine Call_ (rR I hg hm Ep (PyProof.Rows.callWith_type1 (cU (ha pos p_ s σ H _ I h) fun us s1 zz=>?_) (by rw[hs];rfl) (by rfl)));obtain⟨vs,H1,I1,r1,q1⟩:=zz;obtain⟨v,rfl,q2⟩:=ar1.out q1;obtain⟨l1,rfl,b,⟨xs,qa⟩,q⟩:=isRef.out q2;obtain⟨u,rfl,r⟩:=vals1 r1;obtain rfl:u=Value.ref l1:=r;obtain⟨its,rv,hz,pl⟩:=I1.qfW qa;refine tW (b:=b) (items:=its.toArray) (by cases b <;> exact pl) fun h' b1 b2 b3 kk=>?_;refine Jy (s:={s1 with heap:=h'}) b1 ?_;have I2:Inv X p_ σ H1 {s1 with heap:=h'}:=I1.kept (t':=s1.toks) kk;refine⟨s1.heap.objs.size+1,[s1.heap.objs.size+1,s1.heap.objs.size],_,_,H1,rfl,I2,Vj (Nat.succ_ne_self _),⟨b1,ZM.of b2⟩,fun c hc=>?_,q⟩;have hle:s1.heap.objs.size≤c:=by
    simp only[List.mem_cons,List.not_mem_nil,or_false] at hc
    rcases hc with rfl | rfl <;> first | exact Nat.le_add_right _ _ | exact Nat.le_refl _
  exact I1.Ij hle (I1.hok.fresh hle)
end
section
variable {K:W.Frag} {own:List Str} {caps:List Nat} {g:TG} {tt:TT} {te:TE} {D l:Addr} {σ:St} {H:Hp} {Q:Hp→Prop} {d:qaH g tt te Q}
theorem qk1 {b:Bool} (xs:List V) (Pv:Nat→St→Hp→Prop) (h0:Pv 0 (stC own caps σ) H) (hl:∀i σ H,i≤xs.length→Pv i σ H→Ru b K H l xs)
    (hs:∀i x t σ H,xs[i]? = some x→H t=none→Pv i σ H→Cy g tt te D (Pv (i+1)) (.ref t) σ (upd H t (.tup [.int i,x]))) (hd:∀σ H,Pv xs.length σ H→Q H):tCm own caps (qdo b K l) g tt te Q d D σ H:=by
  refine⟨fun i m σ H=>m=xs.length - i∧i≤xs.length∧Pv i σ H,⟨xs.length,by simp,Nat.zero_le _,h0⟩,?_⟩;rintro i m σ H ⟨rfl,hi,p⟩;have q:=hl i σ H hi p
  by_cases hlt:i<xs.length
  ·refine .inr ⟨⟨xs,xs[i],q,by simp[hlt]⟩,Pv (i+1),fun σ' H' p'=>⟨xs.length - (i+1),by omega,rfl,hlt,p'⟩,fun x H' y=>?_⟩;obtain⟨t,u,rfl,ht,rfl,e⟩:=y;exact hs i u t σ H (e xs q) ht p
  · have:i=xs.length:=by omega
    subst this;exact .inl ⟨⟨xs,q,Nat.le_refl _⟩,hd σ H p⟩
end
theorem Jz {f:Array Value→Array Value} {o:Obj}:(Obj.mapFields f o).dict=o.dict:=by
  obtain⟨c,d,dat,sl⟩:=o;cases dat <;> rfl
def Trc (base h:Heap) (e:Addr) (cls:Value×Option Addr) (fl:Value) (T:Addr):Prop:=
  ∃oe vs oT ts,h.get? e=some oe∧(oe.cls,oe.dict)=cls∧oe.data = .fields vs∧vs[2]? = some .none∧vs[1]? = some (.ref T)∧base.get? T=none∧T≠e∧h.get? T=some oT∧oT.data = .fields ts∧ts[3]? = some fl
structure Stn (base:Heap) (l:List Env) (e:Addr) (cls:Value×Option Addr) (fl:Value) (h h':Heap):Prop where
  stays:base.StaysIn h'
  frames:h'.FunFrames base l
  trc:∃T,Trc base h' e cls fl T
  slots:h.UpToSlots h'
section
variable {M:Model} {A:Around} {E:Value→Shared→Prop} {s:Shared} {base:Heap} {env:Env} {outer l:List Env} {L e:Addr} {Q:Unit→Shared→Prop}
theorem WX {oe:Obj} {vs:Array Value} {head:Value} {had:Bool} (fr:A.frames=some (env::outer)) (ff:s.heap.FunFrames base (env::outer)) (lf:env.frame=some L) (ee:s.heap.get? e=some oe)
    (st:base.StaysIn s.heap) (nb:base.get? e=none) (de:oe.data = .fields vs) (v2:vs[2]? = some .none) (hq:∀h',Stn base (env::outer) e (oe.cls,oe.dict) (rawInt L) s.heap h'→Q () {s with heap:=h'}) :
    wpAny M A (do let a ← frameOf env;let pl ← entryPlaceOf L had;let b ← EntryCells.newEntry head a .none (rawInt L) .none pl;setField (.ref e) 1 b) Q E s:=by
  have sz2:2<vs.size:=(Array.getElem?_eq_some_iff.mp v2).1;have ne:e∉frs (env::outer):=fun z=>by
    obtain⟨_,o,y,d⟩:=ff.mem z;rw[ee] at y;cases y;exact d vs de
  refine wpAny_bind (wpAny_frameOf_fun fr ff lf fun g1 x1=>?_);refine wpAny_bind (wpAny_entryPlaceOf fun pl okp=>?_);unfold EntryCells.newEntry newFields;refine wpAny_bind (wpAny_newObj_type ?_ (okp.sizeOk5 _ _ _ _ _));have e1:g1.get? e=some oe:=(x1.2.1 e ne).trans ee;have st1:base.StaysIn g1:=fun b o z=>(x1.2.1 b fun y=>by rw[(ff.mem y).1] at z;cases z).trans (st b o z);generalize hR:({cls:=.type "traceback",dict:=none,data:=.fields ([head,.ref L,.none,rawInt L,.none]++(if pl.isEmpty then List.replicate 6 Value.none else pl)).toArray}:Obj)=R
  have dR:∃ts,R.data = .fields ts∧ts[3]? = some (rawInt L)∧R.isFreed=false:=by
    subst hR;exact⟨_,rfl,by simp,rfl⟩
  obtain⟨ts,dR,tR,fR⟩:=dR;have e2:=Heap.get?_push_of_some (h:=g1) R e1;refine wpAny_setField e2 de (Nat.lt_of_succ_lt sz2) (hq _ ?_);have Te:g1.objs.size≠e:=Nat.ne_of_gt (Heap.lt_size e1);have keep:∀{b o},b≠e→g1.get? b=some o→((g1.push R).update e (Obj.mapFields (·.setIfInBounds 1 (Value.ref g1.objs.size)))).get? b=some o:=fun {b o} nb z=>by
    rw[Heap.get?_update_other _ _ (Ne.symm nb)];exact Heap.get?_push_of_some _ z
  have nr:∀{b o},s.heap.get? b=some o→(∀us,o.data≠.fields us)→b≠e:=fun {b o} z d y=>by
    rw[y,ee] at z;cases z;exact d vs de
  have d3:=Obj.data_mapFields de (·.setIfInBounds 1 (Value.ref g1.objs.size));refine⟨fun b o z=>keep (fun y=>by rw[y,nb] at z;cases z) (st1 b o z),ff.of_keeps fun b o z d=>?_,⟨g1.objs.size,?_⟩,fun b o z d=>?_⟩
  ·obtain⟨sl,y⟩:=x1.2.2 b o z;exact⟨_,keep (nr z d) y,rfl⟩
  · refine⟨_,_,R,ts,Heap.get?_update_self _ e2 (Obj.isFreed_of_fields d3),by rw[Obj.cls_mapFields,Jz],d3,?_,?_,st1.fresh,Te,?_,dR,tR⟩
    ·rw[Array.getElem?_setIfInBounds_ne (by decide)];exact v2
    ·simp[Nat.lt_of_succ_lt sz2]
    ·rw[Heap.get?_update_other _ _ (Ne.symm Te)];exact Heap.get?_push_size g1 fR
  ·obtain⟨sl,y⟩:=x1.2.2 b o z;exact⟨sl,keep (nr z d) y⟩
theorem Vk {oe:Obj} {vs:Array Value} (fr:A.frames=some (env::outer)) (ff:s.heap.FunFrames base (env::outer)) (lf:env.frame=some L) (ee:s.heap.get? e=some oe)
    (st:base.StaysIn s.heap) (nb:base.get? e=none) (de:oe.data = .fields vs) (v1:vs[1]? = some .none) (v2:vs[2]? = some .none) (hq:∀h',Stn base (env::outer) e (oe.cls,oe.dict) (rawInt L) s.heap h'→Q () {s with heap:=h'}) :
    wpAny M A (noteFrame (.ref e) env) Q E s:=by
  unfold noteFrame;simp only[lf];refine wpAny_bind (wpAny_field ee de v1 ?_);rw[if_neg (by decide)];exact WX fr ff lf ee st nb de v2 hq
theorem Nt {cls:Value×Option Addr} {T:Addr} (fr:A.frames=some (env::outer)) (ff:s.heap.FunFrames base (env::outer)) (lf:env.frame=some L) (tr:Trc base s.heap e cls .none T)
    (st:base.StaysIn s.heap) (nb:base.get? e=none) (hq:∀h',Stn base (env::outer) e cls (rawInt L) s.heap h'→Q () {s with heap:=h'}) :
    wpAny M A (noteFrame (.ref e) env) Q E s:=by
  obtain⟨oe,vs,oT,ts,ee,rfl,de,v2,v1,nT,Te,eT,dT,t3⟩:=tr;unfold noteFrame;simp only[lf];refine wpAny_bind (wpAny_field ee de v1 ?_);rw[if_pos (by simp)];refine wpAny_bind (wpAny_field eT dT t3 ?_);rw[if_neg (by simp[rawInt])];refine wpAny_bind (wpAny_setField eT dT (Array.getElem?_eq_some_iff.mp t3).1 ?_);have oth:∀{b},b≠T→(s.heap.update T (Obj.mapFields (·.setIfInBounds 3 Value.none))).get? b=s.heap.get? b:=fun n=>Heap.get?_update_other _ _ (Ne.symm n);have nr:∀{b o},s.heap.get? b=some o→(∀us,o.data≠.fields us)→b≠T:=fun {b o} z d y=>by
    rw[y,eT] at z;cases z;exact d ts dT
  refine WX (s:={s with heap:=s.heap.update T (Obj.mapFields (·.setIfInBounds 3 Value.none))}) fr (ff.of_keeps fun b o z d=>⟨o,(oth (nr z d)).trans z,rfl⟩) lf ((oth (Ne.symm Te)).trans ee) (fun b o z=>(oth fun y=>by rw[y,nT] at z;cases z).trans (st b o z)) nb de v2 fun h' x=>hq h' ⟨x.stays,x.frames,x.trc,fun b o z d=>x.slots b o ((oth (nr z d)).trans z) d⟩
theorem JB {cls:Value×Option Addr} {fl:Value} {T:Addr} (ff:s.heap.FunFrames base l) (tr:Trc base s.heap e cls fl T) (st:base.StaysIn s.heap) (hq:∀h',Stn base l e cls .none s.heap h'→Q () {s with heap:=h'}) :
    wpAny M A (setFlight (.ref e) none) Q E s:=by
  obtain⟨oe,vs,oT,ts,ee,rfl,de,v2,v1,nT,Te,eT,dT,t3⟩:=tr;have z3:3<ts.size:=(Array.getElem?_eq_some_iff.mp t3).1;unfold setFlight;refine wpAny_bind (wpAny_field ee de v1 ?_);rw[if_pos (by simp)];refine wpAny_setField eT dT z3 (hq _ ?_);have oth:∀{b} (f:Obj→Obj),b≠T→(s.heap.update T f).get? b=s.heap.get? b:=fun f n=>Heap.get?_update_other _ _ (Ne.symm n);have nr:∀{b o},s.heap.get? b=some o→(∀us,o.data≠.fields us)→b≠T:=fun {b o} z d y=>by
    rw[y,eT] at z;cases z;exact d ts dT
  refine⟨fun b o z=>(oth _ fun y=>by rw[y,nT] at z;cases z).trans (st b o z),ff.of_keeps fun b o z d=>⟨o,(oth _ (nr z d)).trans z,rfl⟩,⟨T,oe,vs,_,_,(oth _ (Ne.symm Te)).trans ee,rfl,de,v2,v1,nT,Te,Heap.get?_update_self _ eT (Obj.isFreed_of_fields (Obj.data_mapFields dT _)),Obj.data_mapFields dT _,?_⟩,fun b o z d=>⟨o.slots,(oth _ (nr z d)).trans z⟩⟩;simp[z3]
theorem WY {cls:Value×Option Addr} (note:∀Q':Unit→Shared→Prop,(∀h',Stn base (env::outer) e cls (rawInt L) s.heap h'→Q' () {s with heap:=h'})→wpAny M A (noteFrame (.ref e) env) Q' E s)
    (hq:∀h',Stn base (env::outer) e cls .none s.heap h'→Q () {s with heap:=h'}):wpAny M A (leaving env (.ref e)) Q E s:=by
  unfold leaving;refine wpAny_bind (note _ fun h1 x1=>?_);obtain⟨T,tr⟩:=x1.trc;exact JB (s:={s with heap:=h1}) x1.frames tr x1.stays fun h2 x2=>hq h2 ⟨x2.stays,x2.frames,x2.trc,x1.slots.trans x2.slots⟩
end
structure Nu (h0 h:Heap) (H:Hp) (a C:Addr) (od:Option Addr):Prop where
  new:h0.get? a=none
  un:H a=none
  ob:∃oe vs,h.get? a=some oe∧(oe.cls,oe.dict)=(Value.ref C,od)∧oe.data = .fields vs∧vs[2]? = some .none∧(vs[1]? = some .none∨
    ∃T oT ts,vs[1]? = some (.ref T)∧T≠a∧h0.get? T=none∧H T=none∧h.get? T=some oT∧oT.data = .fields ts∧ts[3]? = some .none)
structure qbn (h0 h:Heap) (H:Hp) (a C:Addr) (od:Option Addr) (T:Addr):Prop where
  new:h0.get? a=none
  newT:h0.get? T=none
  un:H a=none
  unT:H T=none
  ob:∃oe vs oT ts,h.get? a=some oe∧(oe.cls,oe.dict)=(Value.ref C,od)∧oe.data = .fields vs∧vs[2]? = some .none∧vs[1]? = some (.ref T)∧T≠a∧h.get? T=some oT∧oT.data = .fields ts∧ts[3]? = some .none
theorem qbn.in {h0 h:Heap} {H:Hp} {a C T:Addr} {od:Option Addr} (x:qbn h0 h H a C od T):Nu h0 h H a C od:=by
  obtain⟨h1,h2,h3,h4,oe,vs,oT,ts,t1,t2,t3,t4,t5,t6,t7⟩:=x;exact⟨h1,h3,oe,vs,t1,t2,t3,t4,.inr ⟨T,oT,ts,t5,t6,h2,h4,t7⟩⟩
def Qf (P:Program) (w:World):X7:=fun outer H s E e s'=>∃(a C:Addr) (od:Option Addr) (H':Hp),e = .ref a∧s'.os=s.os∧AllBare s'.gens∧Un (frs outer) [] H H' s.heap s'.heap∧xT P w H' s'.heap∧(∃T,qbn s.heap s'.heap H' a C od T)∧E (.ref C) od H'
theorem qbo {P:Program} {w:World} {H:Hp} {h:Heap} (x:xT P w H h) {b:Addr} (e:h.get? b=none):H b=none:=by
  cases q:H b with
  | none=>rfl
  | some u=>
    obtain⟨o,eo⟩:∃o,h.get? b=some o:=by
      have:=x b u q;cases u with
      | lst xs=>obtain⟨_,_,_,_,e⟩:=this;exact⟨_,e⟩
      | tup xs=>obtain⟨_,_,_,o,e,_⟩:=this;exact⟨_,e⟩
      | dK kvs=>obtain⟨_,_,_,_,o,_,_,e,_⟩:=this;exact⟨_,e⟩
      | dT kvs=>obtain⟨_,_,_,_,o,_,_,e,_⟩:=this;exact⟨_,e⟩
      | set S n=>obtain⟨o,_,_,_,e,_⟩:=this;exact⟨_,e⟩
      | ins C dx fs=>obtain⟨_,_,_,e,_⟩:=this;exact⟨_,e⟩
      | own y=>obtain⟨_,e⟩:=this;exact⟨_,e⟩
      | xd fs=>obtain⟨_,⟨_,_,_,e,_⟩,_⟩:=this;exact⟨_,e⟩
      | rng lo hi=>obtain⟨_,_,_,e⟩:=this;exact⟨_,e⟩
      | Q9 ob u=>obtain⟨e,_⟩:=this;exact⟨_,e⟩
      | tbl ps=>exact⟨_,(show h.get? b=some _ from this)⟩
      | met f y=>exact⟨_,(show h.get? b=some _ from this)⟩
      | ext φ=>obtain⟨_,⟨o,e⟩,_⟩:=this;exact⟨_,e⟩
    rw[e] at eo;cases eo
section
variable {X:Cx} {p_:List (Addr×Obj)} {σ:St} {H:Hp} {s:Shared}
theorem Inv.old (I:Inv X p_ σ H s) (hex:X.ex=[]) {b:Addr} (e:s.heap.get? b=none):X.s₀.heap.get? b=none:=by
  cases q:X.s₀.heap.get? b with
  | none=>rfl
  | some o=>
    obtain⟨o',eo⟩:=I.base.there b o q (by rw[hex];simp);rw[e] at eo;cases eo
theorem W0 (I:Inv X p_ σ H s) (hex:X.ex=[]) {a C:Addr} {od:Option Addr} {l:List Addr} (hl:∀b∈l,b∈frs X.stack∨(X.s₀.heap.get? b=none∧H b=none)) (ha:X.s₀.heap.get? a=none) (hH:H a=none) (hs:∀b∈frs X.stack,b∈l)
    {E:XK} (hE:E (.ref C) od H) {h':Heap} (x:Stn (W.hideAll s.heap l) X.stack a (.ref C,od) .none s.heap h'):Qf X.prog X.w X.outer X.H₀ X.s₀ E (.ref a) {s with heap:=h'}:=by
  obtain⟨k1,k2,⟨T,oe,vs,oT,ts,t1,t2,t3,t4,tt,t5,t6,t7,t8,t9⟩,k4⟩:=x;have nl:∀{b:Addr} {o:Obj},b∉l→s.heap.get? b=some o→h'.get? b=some o:=fun hb e=>k1 _ _ (W.hideAll_get _ e hb);have qhK:∀{b:Addr} {o:Obj},X.s₀.heap.get? b=some o→b∉X.fs→b∉l:=fun {b o} e hb hm=>by
    rcases hl b hm with z | ⟨z,_⟩
    · rcases List.mem_cons.mp (I.Ba b z) with z | z
      ·rw[z] at e;exact absurd (Heap.lt_size e) (Nat.not_lt.mpr I.ok.above)
      ·exact hb z
    ·rw[z] at e;cases e
  have trL:∀{b:Addr} {u:HO},H b=some u→b∉l:=fun {b u} e hm=>by
    rcases hl b hm with z | ⟨_,z⟩
    ·rw[I.Hg b z] at e;cases e
    ·rw[z] at e;cases e
  have fsl:∀{b:Addr} {o:Obj},b∈X.fs→s.heap.get? b=some o→∃sl,h'.get? b=some {o with slots:=sl}:=fun {b o} hb e=>by
    obtain⟨_,o2,e2,hd⟩:=I.xV.mem hb;rw[e] at e2;cases e2;exact k4 b o e hd
  have ZG:∀b:Addr,b∉X.ex:=fun b=>by rw[hex];simp
  refine⟨a,C,od,H,rfl,I.os,I.bare,⟨fun b o e n hb _=>?_,fun b o e n hb _=>?_,fun b o e n _=>I.base.free b o e n (ZG b),fun b o e _=>?_,I.base.tups,I.base.Ac,I.base.A_⟩,fun b u e=>?_,⟨T,ha,?_,hH,?_,oe,vs,oT,ts,t1,t2,t3,t4,tt,t6,t7,t8,t9⟩,hE⟩
  ·exact nl (qhK e hb) (I.base.keep b o e n hb (ZG b))
  ·obtain⟨sl,e2⟩:=I.base.slot b o e n hb (ZG b);obtain⟨sl',e3⟩:=fsl hb e2;exact⟨sl',e3⟩
  · obtain⟨o',e2⟩:=I.base.there b o e (ZG b)
    by_cases hb:b∈X.fs
    ·obtain⟨sl,e3⟩:=fsl hb e2;exact⟨_,e3⟩
    ·exact⟨o',nl (qhK e hb) e2⟩
  · refine(I.hok b u e).stay (fun c v hc q=>?_) (fun c q=>q) fun c xs q=>q
    rcases hc with rfl | hc
    ·exact nl (trL e) q
    ·exact nl (trL hc) q
  all_goals
    have hT:T∉frs X.stack:=fun hm=>by
      obtain⟨_,o2,e2,hd⟩:=k2.mem hm;rw[t7] at e2;cases e2;exact hd _ t8
    have cs:s.heap.get? T=none∨(X.s₀.heap.get? T=none∧H T=none):=by
      cases q:s.heap.get? T with
      | none=>exact .inl rfl
      | some o=>
        by_cases hm:T∈l
        ·exact .inr ((hl T hm).resolve_left hT)
        ·rw[W.hideAll_get _ q hm] at t5;cases t5
  ·exact cs.elim (fun z=>I.old hex z) fun z=>z.1
  ·exact cs.elim (fun z=>qbo I.hok z) fun z=>z.2
theorem qbp (I:Inv X p_ σ H s) (hst:X.stack=X.env::X.outer) (hfr:X.env.frame=some X.env.locals) (hex:X.ex=[]) {a C:Addr} {od:Option Addr} (x:Nu X.s₀.heap s.heap H a C od) {E:XK} (hE:E (.ref C) od H) {E':Value→Shared→Prop} :
    wpAny (model X.prog X.w) X.A (leaving X.env (.ref a)) (fun _ s''=>Qf X.prog X.w X.outer X.H₀ X.s₀ E (.ref a) s'') E' s:=by
  obtain⟨new,un,oe,vs,he,hc,hd,h0,hT⟩:=x;have fr:=I.ok.frames;rw[hst] at fr;have qem:∀l:List Addr,s.heap.FunFrames (W.hideAll s.heap (frs X.stack++l)) (X.env::X.outer):=fun l=>by
    rw[← hst];exact W.funFrames_hide I.stack fun env he b hb=>List.mem_append_left _ (List.mem_filterMap.mpr ⟨env,he,hb⟩)
  rcases hT with h1 | ⟨T,oT,ts,h1,h2,h3,h4,h5,h6,h7⟩
  · refine WY (base:=W.hideAll s.heap (frs X.stack++[a])) (fun Q' q=>Vk fr (qem _) hfr he (fun b o e=>W.of_hideAll _ e) (W.hideAll_none _ (by simp)) hd h1 h0 q) fun h' hL=>?_;rw[hc,← hst] at hL;refine W0 I hex (fun b hb=>?_) new un (fun b hb=>List.mem_append_left _ hb) hE hL
    rcases List.mem_append.mp hb with z | z
    ·exact .inl z
    ·rw[List.mem_singleton.mp z];exact .inr ⟨new,un⟩
  · refine WY (base:=W.hideAll s.heap (frs X.stack++[a,T])) (cls:=(.ref C,od)) (fun Q' q=>Nt fr (qem _) hfr (T:=T) ⟨oe,vs,oT,ts,he,hc,hd,h0,h1,W.hideAll_none _ (by simp),h2,h5,h6,h7⟩ (fun b o e=>W.of_hideAll _ e) (W.hideAll_none _ (by simp)) q) fun h' hL=>?_;rw[← hst] at hL;refine W0 I hex (fun b hb=>?_) new un (fun b hb=>List.mem_append_left _ hb) hE hL
    rcases List.mem_append.mp hb with z | z
    ·exact .inl z
    · simp only[List.mem_cons,List.not_mem_nil,or_false] at z
      rcases z with rfl | rfl
      ·exact .inr ⟨new,un⟩
      ·exact .inr ⟨h3,h4⟩
theorem Nu.back {h0 h1 h:Heap} {H:Hp} {a C:Addr} {od:Option Addr} (x:Nu h1 h H a C od) (k:∀b,h1.get? b=none→h0.get? b=none):Nu h0 h H a C od:=by
  obtain⟨new,un,oe,vs,he,hc,hd,h2,hT⟩:=x;refine⟨k _ new,un,oe,vs,he,hc,hd,h2,?_⟩
  rcases hT with h1 | ⟨T,oT,ts,h1,h2,h3,h4,h5⟩
  ·exact .inl h1
  ·exact .inr ⟨T,oT,ts,h1,h2,k _ h3,h4,h5⟩
def Lets (X:Cx) (E:XK):Prop:=∀(p_:List (Addr×Obj)) (σ:St) (H:Hp) (s:Shared) (a C:Addr) (od:Option Addr),Inv X p_ σ H s→Nu X.s₀.heap s.heap H a C od→E (.ref C) od H→X.xe (.ref a) s
theorem kj {P:Program} {w:World} {K:W.Frag} {mg:Str→Option Value} {base:Heap} {N:List Str} {qual:Str} {scope:Scope} {f:Addr} {cd:Value} {A:Around} {outer:List Env} {s:Shared} {H:Hp} {E:XK} :
    Lets (aA (Qf P w) P w K mg base N qual scope f cd A outer s H E) E:=fun p_ σ H1 s1 a C od I x hE=>qbp I rfl rfl rfl x hE
theorem Lets.passes {X:Cx} {E:XK} (h:Lets X E) (hex:X.ex=[]):Passes (Qf X.prog X.w) X E:=fun p_ σ H s e s' I hx=>by
  obtain⟨a,C,od,H',rfl,ho,hg,un,hok,⟨T,ex⟩,hE⟩:=hx;have I':Inv X p_ σ H' s':=I.call' (ch:=[]) ho un hok hg fun b z=>(nomatch z);exact h p_ σ H' s' a C od I' (ex.in.back fun b e=>I.old hex e) hE
theorem Qg {K:W.Frag} {h:Heap} {C:Addr} {bmB:List Value} {newId:String} (X:K.In h) (q:W.excIn K C bmB newId=true) :
    ∃bm N nm q bs hdct sn sub ab col dd k0 k1 k2 k3 k5 mN,h.get? C=some (excClassObj nm q C N bs bm hdct sn sub ab col dd k0 k1 k2 k3 k5 newId)∧h.Ns N mN∧mN "__init__" = none∧OwnTail h bmB bm∧∀v b,W.mroIn K C v=some b→(Value.ref C::bm).contains v=b:=by
  unfold W.excIn at q;split at q
  · rename_i dd cd sl ho;split at q
    · rename_i C' bm k0 k1 k2 k3 n k5 hm hs;simp only[Bool.and_eq_true,beq_iff_eq,Bool.not_eq_true'] at q;obtain⟨⟨⟨⟨⟨rfl,rfl⟩,hdel⟩,ht⟩,hok⟩,hni⟩:=q;obtain⟨nm,bs,mro,ns,qn,hd,sn,sub,ab,col,del⟩:=cd;dsimp only at hm hdel hok hni;subst hm hdel;obtain rfl:sl = #[k0,k1,k2,k3,some (.builtin n),k5]:=by
        obtain⟨l⟩:=sl;simp only at hs;rw[hs]
      exact⟨bm,ns,nm,qn,bs,hd,sn,sub,ab,col,dd,k0,k1,k2,k3,k5,_,X _ _ ho,.of_isNs (W.isNs_of_in X hok),W.nsMap_none_of_in X hok hni,W.tail_of_in X ht,fun v b e=>by
        unfold W.mroIn W.clsIn at e;rw[ho] at e;simpa using e⟩
    ·cases q
  ·cases q
abbrev Al:List Value:=[.type "ValueError",.type "Exception",.type "BaseException",.type "object"]
def wj (K:W.Frag) (C:Addr):Prop:=W.excIn K C Al "ValueError.__new__" = true
def qbq (C:Addr) (E:XK) (ta:TA):TS:=fun _ σ H=>ta σ H fun vs H1=>vs.length≤sizeLine∧E (.ref C) none H1
@[simp ↓] theorem qhL C E ta D σ H:qbq C E ta D σ H=ta σ H fun vs H1=>vs.length≤sizeLine∧E (.ref C) none H1:=rfl
theorem yC {X:Cx} {E:XK} {C:Addr} {x:Str} {np cpos pos:Pos} {e:Expr} {es:List Expr} {ta:TA} (hL:Lets X E) (hex:X.ex=[]) (hc:X.calm=true) (cl:wj X.K C) (hg:Gl X x) (hm:X.mg x=some (.ref C)) (ha:PA X (e::es) ta)
    (hdb:(x == ("__debug__" : Str))=false:=by decide) (hs:starEach (e::es) X.env=(false,eval e X.env)::starEach es X.env:=by rfl) (hpl:(backTo cpos (starEach (e::es) X.env)).any (·.1)=false:=by rfl) :
    PS X (.Raise (some (.Call (.Name x np) (e::es) [] cpos)) none pos) (qbq C E ta):=by
  intro p_ s σ H D I h;obtain⟨bm,N,nm,q,bs,hdct,sn,sub,ab,col,dd,k0,k1,k2,k3,k5,mN,hC0,hN0,hni,T0,_⟩:=Qg I.ok.mod.kin cl;refine wpAny_Raise_call_subT (bm:=bm) (N:=N) (nm:=nm) (q:=q) (bs:=bs) (hdct:=hdct) (sn:=sn) (sub:=sub) (ab:=ab) (col:=col) (dd:=dd) (k0:=k0) (k1:=k1) (k2:=k2) (k3:=k3) (k5:=k5) (mN:=mN) (C:=C) PySem.F.excBase_ValueError (T0.hasType (by decide)) (I.ok.hd hc) hpl hni ?_;refine vV I hg hm ⟨rfl,?_⟩ hdb;have hp:=fun Q q=>ha cpos p_ s σ H Q I q;rw[hs] at hp ⊢;show wpAny _ _ (evalArgs (.ref C) true ((false,eval e X.env)::backTo cpos (starEach es X.env)) []) _ _ s;refine Calls.evalArgs_plain (cU (hp _ h) fun us s1 zz=>?_);obtain⟨vs,H1,I1,r1,hz,hE⟩:=zz;refine⟨rfl,by rw[← r1.length];exact hz,I1.bk _ _ hC0,hN0.keeps I1.bk,T0.keeps I1.bk,fun h' a mk=>?_⟩;obtain⟨t,ht,htn,htt⟩:=mk.there;have I2:Inv X p_ σ H1 {s1 with heap:=h',toks:=s1.toks}:=I1.kept mk.keeps;exact hL p_ σ H1 _ a C none I2 ⟨I1.old hex mk.new,qbo I1.hok mk.new,_,_,ht,rfl,rfl,rfl,.inl rfl⟩ hE
theorem dG.okE {P:Program} {w:World} {K:W.Frag} {mg:Str→Option Value} {base:Heap} {x qual:Str} {st:Stmt} {f:Addr} {fd:FuncData} {N ps:List Str} {k:Nat} {sp:Sp} (F:dG K x qual st f fd) (S:bh N ps (aD st)) (len:∀vs H Q E,sp vs H Q E→vs.length=ps.length)
    (hbody:∀(cdv:Value) (A:Around) (outer:List Env) (s:Shared) (H:Hp) (vs:List V) (Q:VK) (E:XK),iV k (A.deeper (envOfC qual (aD st) s.heap.objs.size f cdv))→sp vs H Q E→
      ∃t,K9 (aA (Qf P w) P w K mg base N qual (aD st) f cdv A outer s H E) (j_ st) t∧t {nx:=fun _ H'=>Q .non H',rt:=Q} (start N vs) H):bV P w K mg base (Qf P w) (k+1) f fd ps sp:=by
  obtain⟨oc,od,kV,doc,pm,an,cdv,ct,osl,rfl,lk,hcd⟩:=F.ex;exact qd1 lk hcd S len fun A outer s H vs Q E hr hsp=>hbody cdv A outer s H vs Q E hr hsp
theorem Inv.gone {X:Cx} {p_:List (Addr×Obj)} {σ:St} {H:Hp} {s:Shared} {h':Heap} {t':Nat} {ch:List Addr} (I:Inv X p_ σ H s) (hex:X.ex=[])
    (hch:∀b∈ch,X.s₀.heap.get? b=none∧H b=none∧(∀vs o,s.heap.get? b=some o→o.data = .fields vs→True)∧(∃o vs,s.heap.get? b=some o∧o.data = .fields vs)∧∀p∈X.pn++p_,p.1≠b)
    (k1:∀b o,b∉frs X.stack→b∉ch→s.heap.get? b=some o→h'.get? b=some o) (k2:∀b o,s.heap.get? b=some o→(∀vs,o.data≠.fields vs)→∃sl,h'.get? b=some {o with slots:=sl}) :
    Inv X p_ σ H {s with heap:=h',toks:=t'}:=by
  have nf:∀{b o},s.heap.get? b=some o→(∀vs,o.data≠.fields vs)→b∉ch:=fun {b o} e hd hb=>by
    obtain⟨_,_,_,⟨o2,vs,e2,d2⟩,_⟩:=hch b hb;rw[e] at e2;cases e2;exact hd vs d2
  have fsl:∀{b:Addr} {o:Obj},b∈frs X.stack→s.heap.get? b=some o→∃sl,h'.get? b=some {o with slots:=sl}:=fun {b o} hb e=>by
    obtain⟨_,o2,e2,hd⟩:=I.stack.mem hb;rw[e] at e2;cases e2;exact k2 b o e hd
  have ex1:∀{b:Addr} {o:Obj},b∉ch→s.heap.get? b=some o→∃o',h'.get? b=some o':=fun {b o} hb e=>by
    by_cases hf:b∈frs X.stack
    ·obtain⟨sl,z⟩:=fsl hf e;exact⟨_,z⟩
    ·exact⟨o,k1 b o hf hb e⟩
  have old:∀{b:Addr} {o:Obj},X.s₀.heap.get? b=some o→b∉ch:=fun e hb=>by
    rw[(hch _ hb).1] at e;cases e
  have qk2:∀{b:Addr} {o:Obj},X.s₀.heap.get? b=some o→b∉X.fs→b∉frs X.stack:=fun {b o} e hb hm=>by
    rcases List.mem_cons.mp (I.Ba b hm) with z | z
    ·rw[z] at e;exact absurd (Heap.lt_size e) (Nat.not_lt.mpr I.ok.above)
    ·exact hb z
  have ZG:∀b:Addr,b∉X.ex:=fun b=>by rw[hex];simp
  have cells:∀{c:Addr} {v:Option Value},s.heap.IsCell c v→h'.IsCell c v:=fun {c v} ⟨o,e,d⟩=>by
    obtain⟨sl,z⟩:=k2 c o e (fun vs q=>by rw[d] at q;cases q);exact⟨_,z,d⟩
  have subs:∀{b:Addr},b∈X.fs→b∈frs X.stack:=fun {b} hb=>by
    rcases I.ok.stk with e | ⟨e,hf⟩
    ·rw[e];exact hb
    ·rw[e];show b∈List.filterMap _ (X.env::X.outer);rw[List.filterMap_cons,hf];exact List.mem_cons_of_mem _ hb
  refine⟨I.ok,I.os,I.bare,⟨fun b o e n hb hx=>?_,fun b o e n hb hx=>?_,I.base.free,fun b o e hx=>?_,I.base.tups,I.base.Ac,I.base.A_⟩,?_,fun x c e=>?_,I.free,I.lN,fun p hp=>?_,fun b u e=>?_,I.len⟩
  ·exact k1 b o (qk2 e hb) (old e) (I.base.keep b o e n hb hx)
  ·obtain⟨sl,z⟩:=I.base.slot b o e n hb hx;obtain⟨sl',z'⟩:=fsl (subs hb) z;exact⟨sl',z'⟩
  ·obtain⟨o',z⟩:=I.base.there b o e hx;exact ex1 (old e) z
  · obtain⟨m,⟨o,es,ep,e,d,r⟩,q⟩:=I.loc;obtain⟨sl,z⟩:=k2 _ o e (fun vs y=>by rw[d] at y;cases y);refine⟨m,⟨_,es,ep,z,d,r⟩,fun i x v e1 e2 e3=>?_⟩;obtain⟨u,rv,l⟩:=q i x v e1 e2 e3;refine⟨u,rv,?_⟩
    rcases l with l | ⟨kd,c,ec,y⟩
    ·exact .inl l
    ·exact .inr ⟨kd,c,ec,cells y⟩
  ·obtain⟨v,z⟩:=I.cell x c e;exact⟨v,cells z⟩
  · obtain⟨e,n,ne,nfs,d⟩:=I.pin p hp;refine⟨k1 _ _ (fun hm=>?_) (fun hm=>(hch _ hm).2.2.2.2 p hp rfl) e,n,ne,nfs,d⟩
    rcases List.mem_cons.mp (I.Ba _ hm) with z | z
    ·exact ne z
    ·exact nfs z
  · have no:∀{c:Addr} {u:HO},H c=some u→c∉frs X.stack∧c∉ch:=fun {c u} q=>⟨fun hm=>(by rw[I.Hg _ hm] at q;cases q),fun hm=>(by rw[(hch _ hm).2.1] at q;cases q)⟩;refine(I.hok b u e).stay (fun c v hc q=>?_) (fun c q=>q) fun c xs q=>q
    rcases hc with rfl | hc
    ·exact k1 _ _ (no e).1 (no e).2 q
    ·exact k1 _ _ (no hc).1 (no hc).2 q
end
end L2
namespace L2
open PySem PySem.Spec PySem.W PyProof.Rows
section
variable {prog:Program} {w:World} {A:Around} {E:Value→Shared→Prop} {K:W.Frag} {h:Heap} {g:Array GenState} {d:Drawn} {t:Nat} {os:OsState} {x C:Addr}
structure wk (K:W.Frag) (C:Addr):Prop where
  ga:findIn K (.ref C) "__getattribute__" = some (some (.builtin "BaseException.__getattribute__"))
  gn:findIn K (.ref C) "__getattr__" = some none
  cl:findIn K (.ref C) "__class__" = some (some (.builtin "object.__class__"))
  sp:specialIn K (.builtin "object.__class__") "__get__" = some (some (.builtin "getset_descriptor.__get__"))
  tk:takesIn K (.builtin "object.__class__")=some true
  mo:mroIn K C (.type "object")=some true
  mb:mroIn K C (.type "BaseException")=some true
def wu (x C:Addr) (h:Heap):Prop:=∃ox vs,h.get? x=some ox∧ox.cls = .ref C∧ox.data = .fields vs
theorem wu.type {M:Model} (e:wu x C h):Looks M h (typeOf (.ref x)) (.ref C):=by
  obtain⟨ox,vs,h1,h2,_⟩:=e;exact h2▸(Looks.ld h1).andThen .now
theorem qdp {R:Result→Shared→Prop} {tp:Value} (X:K.In h) (I:wu x C h) (L:wk K C) (hq:R (.ok (.ret (.ref C))) ⟨h,g,d,t,os⟩) :
    codeAny (model prog w) A (.call (.builtin "getset_descriptor.__get__") ⟨[.builtin "object.__class__",.ref x,tp],[]⟩) R ⟨h,g,d,t,os⟩:=by
  have L0:=I.type (M:=model prog w);have L1:=looks_mroIn (M:=model prog w) X L.mo;have hT5:(⟨h,g,d,t,os⟩:Shared).TypeIs (.builtin "object.__class__") "getset_descriptor" :=F.typeOf_object_class;refine codeAny_call_builtin F.slot_gs_get.plain F.entry_gs_get (F.slot_gs_get.check _ _ _ _ _ _ _ _ hT5 (F.args_gs_get _ _ _) ?_)
  repeat (any_goals (first | assumption | with_reducible refine L0.at ?_ | with_reducible refine L1.at ?_ | wp_step))
  rw[show(".".intercalate ("object.__class__".cutAt '.').dropLast) = "object" by decide+kernel];refine L1.at ?_
  repeat (any_goals (first | assumption | with_reducible refine L0.at ?_ | wp_step))
  refine⟨Code.quiet_builtin _ (by decide+kernel),codeAny_builtin KF.entry_class ?_⟩;unfold Builtin.«object.__class__»
  repeat (any_goals (first | assumption | with_reducible refine L0.at ?_ | wp_step))
theorem YG {tk:Tok} {Q:PySem.Fin→Shared→Prop} (X:K.In h) (I:wu x C h) (L:wk K C) (hq:Q (.done (.ret (.ref C))) ⟨h,g,d,t,os⟩) :
    wpAny (model prog w) A (Builtin.«object.__getattribute__» ⟨[.ref x,.str "__class__" tk],[]⟩) Q E ⟨h,g,d,t,os⟩:=by
  have L0:=I.type (M:=model prog w);have L1:=looks_findIn (M:=model prog w) X L.cl;have hT5:(⟨h,g,d,t,os⟩:Shared).TypeIs (.builtin "object.__class__") "getset_descriptor" :=F.typeOf_object_class;have f5:=F.typeOf_object_class;have f6:=F.slot_gs_get.lookup;have f7:=F.slot_gs_set.lookup
  repeat (any_goals (first | assumption | with_reducible refine L0.at ?_ | with_reducible refine L1.at ?_ | wp_step))
  refine qdp X I L ?_
  repeat (any_goals (first | assumption | wp_step))
theorem YH {M:Model} {nameV:Value} {Q:Unit→Shared→Prop} (X:K.In h) (I:wu x C h) (L:wk K C) (hq:Q () ⟨h,g,d,t,os⟩) :
    wpAny M A (checkBuiltinCall "BaseException.__getattribute__" ⟨[.ref x,nameV],[]⟩) Q E ⟨h,g,d,t,os⟩:=by
  have hk:builtinKind "BaseException.__getattribute__" = some .slot:=by decide+kernel
  have hs:splitId "BaseException.__getattribute__" = some ("BaseException", "__getattribute__"):=by decide+kernel
  have L0:=I.type (M:=M);have L1:=looks_mroIn (M:=M) X L.mb;have ha:=F.args_bexc_ga (.ref x) nameV;simp only[checkBuiltinCall,hk,hs];refine wpAny_bind ?_;unfold isInstance
  repeat (first | with_reducible refine L0.at ?_ | with_reducible refine L1.at ?_ | wp_step)
  exact hq
theorem qfX {tk:Tok} {fill:Bool} {Q:Value→Shared→Prop} (X:K.In h) (I:wu x C h) (L:wk K C) (hq:Q (.ref C) ⟨h,g,d,t,os⟩) :
    wpAny (model prog w) A (getAttrBy (.ref x) (.str "__class__" tk) fill) Q E ⟨h,g,d,t,os⟩:=by
  have L0:=I.type (M:=model prog w);have L1:=looks_findIn (M:=model prog w) X L.ga;have L2:=looks_findIn (M:=model prog w) X L.gn;have f3:=(F.attrBase_ValueError.ga).bind (.ref x);have hx2:(Value.builtin "BaseException.__getattribute__" == Value.builtin "object.__getattribute__")=false:=by decide+kernel
  have hx1:(onTheHeap (Value.ref C) && Value.builtin "BaseException.__getattribute__" == Value.builtin "object.__getattribute__")=false:=by rw[hx2];rfl
  repeat (any_goals (first | assumption | with_reducible refine L0.at ?_ | with_reducible refine L1.at ?_ | with_reducible refine L2.at ?_ | wp_step))
  refine codeAny_call_builtin F.attrBase_ValueError.ga.plain F.entry_bexc_ga (YH X I L (YG X I L ?_))
  repeat (any_goals (first | assumption | wp_step))
theorem YJ {s:Shared} {Q:Option Value→Shared→Prop} (X:K.In s.heap) (I:wu x C s.heap) (L:wk K C) (hq:Q (some (.ref C)) {s with toks:=s.toks+1}) :
    wpAny (model prog w) A (getAttr? (.ref x) "__class__") Q E s:=by
  obtain⟨h,g,d,t,os⟩:=s;unfold getAttr? getAttrBy?
  repeat (any_goals (first | assumption | with_reducible apply qfX X I L | wp_step))
end
theorem R4 {K:W.Frag} {x C:Addr} {cd:ClassData} (hcd:clsIn K C=some cd) (L:wk K C):KitX K (.ref x) (.ref C) (wu x C) where
  ty:=fun M h _ e=>e.type
  it:=fun _ _ X _=>by
    unfold clsIn at hcd;split at hcd
    ·rename_i c' d' cd' sl' ho;intro A' Q' E' s' k q;unfold isType loadHead;exact wpAny_bind (wpAny_loadPart (k _ _ (X _ _ ho)) (wpAny_pure q))
    ·cases hcd
  ne:=fun h tp dd its n sl X htp=>by
    refine Bool.eq_false_iff.mpr fun q=>?_;have e:C=tp:=Value.ref.inj (beq_iff_eq.mp q);subst e;unfold clsIn at hcd;split at hcd
    ·rename_i c' d' cd' sl' ho;have z:=(X _ _ ho).symm.trans htp;cases z
    ·cases hcd
  ca:=fun X e k=>YJ X e L k
end L2
namespace L2
open PySem PySem.Spec PyProof.Rows
def Cx.caught (X:Cx) (a:Addr):Cx:={X with A:=X.A.mark (some (.ref a)),calm:=false,xe:=fun _ _=>False}
def Cx.tried (X:Cx) (pn:List (Addr×Obj)) (xe:Value→Shared→Prop):Cx:={X with pn:=pn,xe:=xe}
section
variable {X:Cx} {p_:List (Addr×Obj)} {σ:St} {H:Hp} {s:Shared}
theorem Inv.caught (I:Inv X p_ σ H s) (a:Addr):Inv (X.caught a) p_ σ H s:=
  ⟨⟨I.ok.mod,I.ok.kind,I.ok.glob,I.ok.blt,I.ok.above,I.ok.inj,I.ok.has,I.ok.cab,fun z=>(nomatch z),I.ok.frames,I.ok.stk,I.ok.exf,I.ok.bs,I.ok.Xx,I.ok.Q_,I.ok.Om,I.ok.xV,I.ok.ZS⟩,I.os,I.bare,I.base,I.loc,I.cell,I.free,I.lN,I.pin,I.hok,I.len⟩
theorem Inv.uncaught {a:Addr} {s':Shared} (I:Inv X p_ σ H s) {σ':St} {H':Hp} (J:Inv (X.caught a) p_ σ' H' s'):Inv X p_ σ' H' s':=
  ⟨I.ok,J.os,J.bare,J.base,J.loc,J.cell,J.free,J.lN,J.pin,J.hok,J.len⟩
theorem Inv.tried (I:Inv X p_ σ H s) (xe:Value→Shared→Prop):Inv (X.tried (X.pn++p_) xe) [] σ H s:=
  ⟨⟨I.ok.mod,I.ok.kind,I.ok.glob,I.ok.blt,I.ok.above,I.ok.inj,I.ok.has,I.ok.cab,I.ok.hd,I.ok.frames,I.ok.stk,I.ok.exf,I.ok.bs,I.ok.Xx,I.ok.Q_,I.ok.Om,I.ok.xV,I.ok.ZS⟩,I.os,I.bare,I.base,I.loc,I.cell,I.free,I.lN,fun p hp=>I.pin p (by rw[List.append_nil] at hp;exact hp),I.hok,I.len⟩
theorem Inv.C_ {xe:Value→Shared→Prop} {H_:List (Addr×Obj)} {s':Shared} (I:Inv X p_ σ H s) {σ':St} {H':Hp} (J:Inv (X.tried (X.pn++p_) xe) H_ σ' H' s'):Inv X p_ σ' H' s':=
  ⟨I.ok,J.os,J.bare,J.base,J.loc,J.cell,J.free,J.lN,fun p hp=>J.pin p (List.mem_append_left _ hp),J.hok,J.len⟩
def Takes (X:Cx) (pn:List (Addr×Obj)) (xe:Value→Shared→Prop) (R:St→Addr→Option Addr→Hp→Prop):Prop:=
  ∀(p_:List (Addr×Obj)) (σ:St) (H:Hp) (s:Shared) (a C:Addr) (od:Option Addr) (T:Addr),Inv (X.tried pn xe) p_ σ H s→qbn X.s₀.heap s.heap H a C od T→(∀p∈pn,p.1≠a∧p.1≠T)→R σ C od H→xe (.ref a) s
def qbr (sp:Sp) (R:St→Addr→Option Addr→Hp→Prop) (t:TA):TE:=fun σ H Q=>t σ H fun vs H1=>Yp sp vs H1 Q ⟨0⟩ (fun v od H'=>∃C,v = .ref C∧R σ C od H')
@[simp ↓] theorem qhM sp R t σ H Q:qbr sp R t σ H Q=t σ H fun vs H1=>Yp sp vs H1 Q ⟨0⟩ (fun v od H'=>∃C,v = .ref C∧R σ C od H'):=rfl
theorem R5 {k:Nat} {f:Addr} {fd:FuncData} {ps:List Str} {sp:Sp} {x:Str} {p pos:Pos} {e:Expr} {es:List Expr} {t:TA} {pn:List (Addr×Obj)} {xe:Value→Shared→Prop} {R:St→Addr→Option Addr→Hp→Prop}
    (hx:Takes X pn xe R) (hex:X.ex=[]) (F:bV X.prog X.w X.K X.mg X.base (Qf X.prog X.w) k f fd ps sp) (hr:iV k X.A) (hg:Gl X x) (hm:X.mg x=some (.ref f)) (hk:W.keepIn X.K (.ref f)=true) (hb:Binds X.K fd ps [])
    (ha:PA (X.tried pn xe) (e::es) t) (hdb:(x == ("__debug__" : Str))=false:=by decide) (he:starEach (e::es) X.env=(false,eval e X.env)::starEach es X.env:=by rfl) (hpl:(backTo pos (starEach es X.env)).any (·.1)=false:=by rfl) :
    PE (X.tried pn xe) (.Call (.Name x p) (e::es) [] pos) (qbr sp R t):=by
  intro p_ s σ H Q I h;refine wpAny_Call_Name_kw (vV I hg hm ?_ hdb);refine W.callWith_K (h₀:=X.base) I.ok.mod.kin hk (cU (ha pos p_ s σ H _ I h) fun us s1 zz=>?_) he hpl;obtain⟨vs,H1,I1,r,q⟩:=zz;refine⟨I1.Ad,?_⟩;have hl:us.length=ps.length:=by rw[← r.length];exact F.len _ _ _ _ q
  have hbd:=hb s1 us I1.Ad (by rw[List.append_nil];exact hl);rw[List.append_nil] at hbd;refine wpAny_call (codeAny_mono (F.run X.A X.stack s1 H1 ⟨us,[]⟩ us vs Q _ hr I1.env0 hbd r q) fun rr s' hq=>?_);cases rr with
  | error e=>
    obtain⟨a,C,od,H',rfl,ho,hgn,un,hok,⟨T,ex⟩,C',e2,hR⟩:=hq;cases e2;have I':Inv (X.tried pn xe) p_ σ H' s':=I1.call' (ch:=[]) ho un hok hgn fun b z=>(nomatch z);have old:∀b,s1.heap.get? b=none→X.s₀.heap.get? b=none:=fun b z=>I1.old hex z;refine hx p_ σ H' s' a C od T I' ⟨old _ ex.new,old _ ex.newT,ex.un,ex.unT,ex.ob⟩ (fun p hp=>?_) hR;have e1:=(I1.pin p (List.mem_append_left _ hp)).1;exact⟨fun z=>(by rw[z,ex.new] at e1;cases e1),fun z=>(by rw[z,ex.newT] at e1;cases e1)⟩
  | ok fl=>
    cases fl with
    | ret u=>exact I1.after hq
    | next=>exact False.elim hq
    | brk=>exact False.elim hq
    | cont=>exact False.elim hq
def Qh (x C:Addr) (od:Option Addr) (h:Heap):Prop:=∃ox vs,h.get? x=some ox∧(ox.cls,ox.dict)=(Value.ref C,od)∧ox.data = .fields vs∧vs[2]? = some .none
theorem Qh.at {x C:Addr} {od:Option Addr} {h:Heap} (e:Qh x C od h):wu x C h:=by
  obtain⟨ox,vs,h1,h2,h3,h4⟩:=e;exact⟨ox,vs,h1,congrArg Prod.fst h2,h3⟩
def qdq (a C:Addr) (od:Option Addr):HO:=.ext fun h=>Qh a C od h
abbrev qY (a C:Addr):HO:=qdq a C none
def JC (K:W.Frag) (C:Addr):Prop:=∀h,K.In h→∃bm N nm q bs hdct sn sub ab col dd k0 k1 k2 k3 k5,h.get? C=some (excClassObj nm q C N bs bm hdct sn sub ab col dd k0 k1 k2 k3 k5 "ValueError.__new__")∧∀v b,W.mroIn K C v=some b→(Value.ref C::bm).contains v=b
theorem JC.of {K:W.Frag} {C:Addr} (c:wj K C):JC K C:=fun h X=>by
  obtain⟨bm,N,nm,q,bs,hdct,sn,sub,ab,col,dd,k0,k1,k2,k3,k5,mN,hC,_,_,_,hmro⟩:=Qg X c;exact⟨bm,N,nm,q,bs,hdct,sn,sub,ab,col,dd,k0,k1,k2,k3,k5,hC,hmro⟩
theorem Inv.track {a C:Addr} {od:Option Addr} (I:Inv X p_ σ H s) (hex:X.ex=[]) (new:X.s₀.heap.get? a=none) (un:H a=none) (e:Qh a C od s.heap) (hp:∀p∈X.pn++p_,p.1≠a):Inv X p_ σ (upd H a (qdq a C od)) s:=by
  have nf:∀{b o},s.heap.get? b=some o→(∀vs,o.data≠.fields vs)→b≠a:=fun {b o} eb hd z=>by
    subst z;obtain⟨ox,vs,h1,_,h3,_⟩:=e;rw[eb] at h1;cases h1;exact hd vs h3
  have ZG:∀b:Addr,b∉X.ex:=fun b=>by rw[hex];simp
  have old:∀{b o},X.s₀.heap.get? b=some o→b≠a:=fun {b o} eb z=>by
    rw[z,new] at eb;cases eb
  have ne:∀{b:Addr} {u:HO},H b=some u→b≠a:=fun {b u} q z=>by
    rw[z,un] at q;cases q
  refine⟨I.ok,I.os,I.bare,⟨fun b o eb n hb hx=>I.base.keep b o eb n hb hx,I.base.slot,fun b o eb n hx=>?_,I.base.there,fun b xs q=>?_,fun b o u q=>?_,fun b ps q=>?_⟩,I.loc,I.cell,?_,fun x c q=>?_,fun p hpp=>?_,fun b u q=>?_,I.len⟩
  ·rw[aM (old eb)];exact I.base.free b o eb n hx
  ·have z:=I.base.tups b xs q;rw[aM (ne z)];exact z
  ·have z:=I.base.Ac b o u q;rw[aM (ne z)];exact z
  ·obtain⟨m,z⟩:=I.base.A_ b ps q;exact⟨m,by rw[aM (ne z)];exact z⟩
  ·obtain⟨m,⟨o,es,ep,eo,d,r⟩,_⟩:=I.loc;rw[aM (nf eo fun vs y=>by rw[d] at y;cases y)];exact I.free
  ·obtain⟨v,o,eo,d⟩:=I.cell x c q;rw[aM (nf eo fun vs y=>by rw[d] at y;cases y)];exact I.lN x c q
  ·obtain⟨f1,f2,f3⟩:=I.pin p hpp;refine⟨f1,?_,f3⟩;rw[aM (hp p hpp)];exact f2
  · by_cases hb:b=a
    ·subst hb;rw[ak] at q;cases q;obtain⟨ox,vs,h1,h2,h3,_⟩:=id e;exact⟨e,⟨ox,h1⟩,fun h1 h2 ⟨ox,vs,a1,a2,a3⟩ k=>⟨ox,vs,k _ a1,a2,a3⟩⟩
    · rw[aM hb] at q;refine(I.hok b u q).stay (fun c v _ z=>z) (fun c z=>?_) fun c xs z=>?_
      ·rw[aM (ne z)];exact z
      ·rw[aM (ne z)];exact z
theorem YK {M:Model} {A:Around} {E:Value→Shared→Prop} {i:Nat} {n:Str} {v:V} {Q:Unit→Shared→Prop} (I:Inv X p_ σ H s) (hN:X.N.Nodup) (hi:X.N[i]? = some n) (hl:X.env.scope.names.lookup n=some .local) (hv:σ[i]? = some (some v))
    (h:∀s',Inv X p_ (σ.set i none) H s'→Q () s'):wpAny M A (unbindName X.env n) Q E s:=by
  obtain⟨m,hn,q⟩:=id I.loc;obtain⟨u,rv,l⟩:=q i n v hi hv (.inl hl);have hm:m n=some u:=by
    rcases l with⟨_,l⟩ | ⟨k,c,_⟩
    ·exact l
    · rcases k with k | k
      ·have:X.env.kindOf n=some .local:=hl;rw[k] at this;cases this
      ·have:X.env.kindOf n=some .local:=hl;rw[k] at this;cases this
  have hcls:(X.env.scope.kind == .class || (X.env.scope.kind == .module && X.env.locals != X.env.globals))=false:=by rw[I.ok.kind];rfl
  have hiσ:i<σ.length:=by rw[I.len];exact(List.getElem?_eq_some_iff.mp hi).1
  refine wpAny_unbindName_local hl hn hm hcls fun h' u' hn' hs=>?_;obtain⟨oL,_,_,hoL,_⟩:=id hn;have loc:∀b o,X.s₀.heap.get? b=some o→b≠X.env.locals:=fun b o e=>Nat.ne_of_lt (Nat.lt_of_lt_of_le (Heap.lt_size e) I.ok.above);refine h _ ⟨I.ok,I.os,I.bare,⟨fun b o e n hb hx=>?_,fun b o e n hb hx=>?_,I.base.free,fun b o e hx=>?_,I.base.tups,I.base.Ac,I.base.A_⟩,⟨_,hn',fun j y v' e1 e2 e3=>?_⟩,fun y c e=>?_,I.free,I.lN,fun p hp=>?_,fun b ob e=>?_,by simpa using I.len⟩
  ·exact(hs.2 b (loc b o e)).trans (I.base.keep b o e n hb hx)
  ·obtain⟨sl,z⟩:=I.base.slot b o e n hb hx;exact⟨sl,(hs.2 b (loc b o e)).trans z⟩
  ·obtain⟨o',z⟩:=I.base.there b o e hx;exact⟨o',(hs.2 b (loc b o e)).trans z⟩
  · have hj:j≠i:=fun z=>by
      subst z;rw[List.getElem?_set_self hiσ] at e2;cases e2
    rw[List.getElem?_set_ne (Ne.symm hj)] at e2;obtain⟨u2,r2,l2⟩:=q j y v' e1 e2 e3;refine⟨u2,r2,?_⟩
    rcases l2 with⟨k,e⟩ | ⟨k,c,e,z⟩
    ·have:y≠n:=fun e=>hj (Ia hN e1 (e▸hi));exact .inl ⟨k,by simp[this,e]⟩
    ·exact .inr ⟨k,c,e,z.sameBut hs (I.cne y c e)⟩
  ·obtain⟨w',z⟩:=I.cell y c e;exact⟨w',z.sameBut hs (I.cne y c e)⟩
  ·obtain⟨e,n,ne,nf,d⟩:=I.pin p hp;exact⟨(hs.2 p.1 ne).trans e,n,ne,nf,d⟩
  · have no:∀{c:Addr} {u:HO},H c=some u→c≠X.env.locals:=fun {c u} q z=>by
      rw[z,I.free] at q;cases q
    refine(I.hok b ob e).stay (fun c w' hc q=>(hs.2 c ?_).trans q) (fun _ q=>q) fun _ _ q=>q
    rcases hc with rfl | hc
    ·exact no e
    ·exact no hc
end
section
variable {M:Model} {A:Around} {E:Value→Shared→Prop} {h:Heap} {g:Array GenState} {d:Drawn} {t:Nat} {os:OsState}
variable {nm q:Str} {C N:Addr} {bs bm:List Value} {hdct:Bool} {sn:List Str} {sub:List Value} {ab:Bool} {col:Option Bool} {dd:Option Addr} {k0 k1 k2 k3 k5:Option Value} {newId:String}
variable {nm' q':Str} {D N':Addr} {bs' bm':List Value} {qen:Bool} {sn':List Str} {sub':List Value} {ab':Bool} {col':Option Bool} {dd':Option Addr} {j0 j1 j2 j3 j5:Option Value} {newId':String}
theorem YL {e:Addr} {oe:Obj} {Q:Bool→Shared→Prop} (hC:h.get? C=some (excClassObj nm q C N bs bm hdct sn sub ab col dd k0 k1 k2 k3 k5 newId))
    (hD:h.get? D=some (excClassObj nm' q' D N' bs' bm' qen sn' sub' ab' col' dd' j0 j1 j2 j3 j5 newId')) (he:h.get? e=some oe) (hcls:oe.cls = .ref C) (hbase:bm'.contains (.type "BaseException")=true) (hin:bm.contains (.ref D)=true)
    (hq:Q true ⟨h,g,d,t,os⟩):wpAny M A (excMatches (.ref e) (.ref D)) Q E ⟨h,g,d,t,os⟩:=by
  have hDB:(Value.ref D::bm').contains (.type "BaseException")=true:=by rw[List.contains_cons,hbase,Bool.or_true]
  have hCD:(Value.ref C::bm).contains (.ref D)=true:=by rw[List.contains_cons,hin,Bool.or_true]
  have f:=tc_notTuple;unfold excMatches
  repeat (first | (with_reducible refine wpAny_loadPart_at he ?_;rw[hcls]) | with_reducible refine wpAny_loadPart_at hD ?_ | (with_reducible refine wpAny_isSubtype_exc hD ?_;rw[hDB]) | (with_reducible refine wpAny_isSubtype_exc hC ?_;rw[hCD]) | wp_step)
  exact hq
end
def qbs (i:Nat) (K:W.Frag) (D:Addr) (ts:Addr→TS) (Dn:Ends):St→Addr→Option Addr→Hp→Prop:=fun σ1 C od H1=>(JC K C∧W.mroIn K C (.ref D)=some true∧C≠D)∧∀a,H1 a=none→
    ts a {nx:=fun σ2 H2=>Dn.nx (σ2.set i none) H2,rt:=Dn.rt,bk:=fun σ2 H2=>Dn.bk (σ2.set i none) H2,ct:=fun σ2 H2=>Dn.ct (σ2.set i none) H2} (σ1.set i (some (.ref a))) (upd H1 a (qdq a C od))
def qhN (i:Nat) (K:W.Frag) (D:Addr) (ts:Addr→TS) (tb:(St→Addr→Option Addr→Hp→Prop)→TS):TS:=fun Dn σ H=>tb (qbs i K D ts Dn) Dn σ H
section
variable {X:Cx} {body suite:List Stmt} {b₀:Stmt} {i:Nat} {n cls:Str} {np hpos pos:Pos} {D:Addr} {ts:Addr→TS} {tb:(St→Addr→Option Addr→Hp→Prop)→TS}
theorem qfY (hst:X.stack=X.env::X.outer) (hfr:X.env.frame=some X.env.locals) (hex:X.ex=[]) (hN:X.N.Nodup) (hi:X.N[i]? = some n) (hl:X.env.scope.names.lookup n=some .local)
    (hb:∀R pn xe,Takes X pn xe R→K9 (X.tried pn xe) body (tb R)) (hg:Gl X cls) (hm:X.mg cls=some (.ref D)) (clD:wj X.K D) (hsu:∀a,K9 (X.caught a) (b₀::suite) (ts a))
    (hdb:(cls == ("__debug__" : Str))=false:=by decide) :
    PS X (.Try body [.ExceptHandler (some (.Name cls np)) (some n) (b₀::suite) hpos] [] [] pos) (qhN i X.K D ts tb):=by
  intro p_ s σ H Dn I h;have hiσ:∀{σ':St} {H':Hp} {s':Shared},Inv X p_ σ' H' s'→i<σ'.length:=fun J=>by rw[J.len];exact(List.getElem?_eq_some_iff.mp hi).1
  refine wpAny_Try_except (wpAny_mono (hb (qbs i X.K D ts Dn) (X.pn++p_) (fun e s1=>∃a C od T σ1 H1,e = .ref a∧Inv X p_ σ1 H1 s1∧qbn X.s₀.heap s1.heap H1 a C od T∧(∀p∈X.pn++p_,p.1≠a∧p.1≠T)∧qbs i X.K D ts Dn σ1 C od H1) ?_ [] s σ H Dn (I.tried _) h) (fun f s1 hf=>?_) fun e s1 hx=>?_)
  ·intro H_ σ1 H1 s1 a C od T J ex hp hR;exact⟨a,C,od,T,σ1,H1,rfl,I.C_ J,ex,hp,hR⟩
  · cases f with
    | next=>obtain⟨σ',H',J,q⟩:=hf;exact wpAny_execs_nil ⟨σ',H',I.C_ J,q⟩
    | brk=>obtain⟨σ',H',J,q⟩:=hf;exact⟨σ',H',I.C_ J,q⟩
    | cont=>obtain⟨σ',H',J,q⟩:=hf;exact⟨σ',H',I.C_ J,q⟩
    | ret u=>obtain⟨v,σ',H',J,r,q⟩:=hf;exact⟨v,σ',H',I.C_ J,r,q⟩
  · obtain⟨a,C,od,T,σ1,H1,rfl,J,ex,hp,⟨clC,hCD,hne⟩,hR⟩:=hx;obtain⟨new,newT,un,unT,oe,vs,oT,tts,t1,t2,t3,t4,t5,t6,t7,t8,t9⟩:=ex;have fr:=J.ok.frames;rw[hst] at fr;have st0:(W.hideAll s1.heap (frs X.stack++[a,T])).StaysIn s1.heap:=fun b o e=>W.of_hideAll _ e;have na:(W.hideAll s1.heap (frs X.stack++[a,T])).get? a=none:=W.hideAll_none _ (by simp);have ff:s1.heap.FunFrames (W.hideAll s1.heap (frs X.stack++[a,T])) (X.env::X.outer):=by
      rw[← hst];exact W.funFrames_hide J.stack fun env he b hb=>List.mem_append_left _ (List.mem_filterMap.mpr ⟨env,he,hb⟩)
    have tr0:Trc (W.hideAll s1.heap (frs X.stack++[a,T])) s1.heap a (.ref C,od) .none T:=⟨oe,vs,oT,tts,t1,t2,t3,t4,t5,W.hideAll_none _ (by simp),t6,t7,t8,t9⟩;have gone:∀(h':Heap),(W.hideAll s1.heap (frs X.stack++[a,T])).StaysIn h'→s1.heap.UpToSlots h'→Inv X p_ σ1 H1 {s1 with heap:=h'}:=fun h' k1 k2=>by
      refine J.gone (t':=s1.toks) (ch:=[a,T]) hex (fun b hb=>?_) (fun b o hf hc e=>k1 b o (W.hideAll_get _ e (by rw[List.mem_append];exact fun z=>z.elim hf hc))) fun b o e hd=>k2 b o e hd;simp only[List.mem_cons,List.not_mem_nil,or_false] at hb
      rcases hb with rfl | rfl
      ·exact⟨new,un,fun _ _ _ _=>trivial,⟨oe,vs,t1,t3⟩,fun p q=>(hp p q).1⟩
      ·exact⟨newT,unT,fun _ _ _ _=>trivial,⟨oT,tts,t7,t8⟩,fun p q=>(hp p q).2⟩
    refine Nt fr ff hfr tr0 st0 na fun h4 x4=>?_;obtain⟨T4,tr4⟩:=x4.trc;refine JB (s:={s1 with heap:=h4}) x4.frames tr4 x4.stays fun h5 x5=>?_;obtain⟨T5,tr5⟩:=x5.trc;have J5:=gone h5 x5.stays (x4.slots.trans x5.slots);refine wpAny_handleBy_cons (codeAny_handlers_test (vV (J5.caught a) hg hm ?_ hdb)) (by intro q;cases q);obtain⟨oe5,vs5,oT5,ts5,u1,u2,u3,_⟩:=id tr5;obtain⟨bm,N,nm,q,bs,hdct,sn,sub,ab,col,dd,k0,k1,k2,k3,k5,hC,hmro⟩:=clC _ J5.Ad;obtain⟨bm',N',nm',q',bs',qen,sn',sub',ab',col',dd',j0,j1,j2,j3,j5,mN',hD,ql6,ql7,T0',_⟩:=Qg J5.Ad clD;have hin:bm.contains (.ref D)=true:=by
      have z:=hmro _ _ hCD;rw[List.contains_cons] at z
      rcases Bool.or_eq_true_iff.mp z with z | z
      ·exact absurd (Value.ref.inj (beq_iff_eq.mp z)).symm hne
      ·exact z
    refine YL hC hD u1 (congrArg Prod.fst u2) (T0'.hasType (by decide)) hin ?_;refine codeAny_handlers_suite_as ?_;refine JB (s:={s1 with heap:=h5}) x5.frames tr5 x5.stays fun h6 x6=>?_;have J6:=gone h6 x6.stays ((x4.slots.trans x5.slots).trans x6.slots);obtain⟨T6,oe6,vs6,oT6,ts6,v1,v2,v3,v4,_⟩:=x6.trc;have J7:=J6.track hex new un ⟨oe6,vs6,v1,v2,v3,v4⟩ fun p q=>(hp p q).1;refine zK J7 hN hi (.inl hl) (v:=.ref a) rfl (fun s8 J8 _=>?_) (.inr hl);refine wpAny_mono (hsu a p_ s8 _ _ _ (J8.caught a) (hR a un)) (fun f s9 hf=>?_) fun _ _ z=>False.elim z;show wpAny (model X.prog X.w) X.A (do bindName X.env n .none;unbindBehindTheSuite X.env n hpos) (fun _ s₃=>SP X p_ Dn f s₃) X.xe s9
    have go:∀{σ':St} {H':Hp} (Q':Shared→Prop),Inv X p_ σ' H' s9→(∀s',Inv X p_ (σ'.set i none) H' s'→Q' s')→wpAny (model X.prog X.w) X.A (do bindName X.env n .none;unbindBehindTheSuite X.env n hpos) (fun _ s₃=>Q' s₃) X.xe s9:=fun {σ' H'} Q' J9 hq=>by
      refine wpAny_bind ?_;unfold bindName;refine wpAny_bind (wpAny_holding (wpAny_point (wpAny_bind (zK J9 hN hi (.inl hl) (v:=.non) rfl (fun ZP J10 _=>wpAny_point ?_) (.inr hl)))));unfold unbindBehindTheSuite;refine wpAny_onRaise (YK (v:=.non) J10 hN hi hl (List.getElem?_set_self (hiσ J9)) fun s11 J11=>?_);rw[List.set_set] at J11;exact hq s11 J11
    cases f with
    | next=>obtain⟨σ',H',J9,q⟩:=hf;exact go _ (I.uncaught J9) fun s' J'=>⟨_,H',J',q⟩
    | brk=>obtain⟨σ',H',J9,q⟩:=hf;exact go _ (I.uncaught J9) fun s' J'=>⟨_,H',J',q⟩
    | cont=>obtain⟨σ',H',J9,q⟩:=hf;exact go _ (I.uncaught J9) fun s' J'=>⟨_,H',J',q⟩
    | ret u=>obtain⟨v,σ',H',J9,r,q⟩:=hf;exact go _ (I.uncaught J9) fun s' J'=>⟨v,_,H',J',r,q⟩
end
theorem Ey:entryFor table "proto.unchain" = some Builtin.«proto.unchain»:=entryFor_of_tree (by kernel_rfl)
def Lq (a:Addr) (h:Heap):Prop:=∃oa us,h.get? a=some oa∧oa.data = .fields us∧us[2]? = some .none
theorem Lq.to {a:Addr} {h h':Heap} (x:Lq a h) (k:∀o,h.get? a=some o→h'.get? a=some o):Lq a h':=by
  obtain⟨oa,us,e,d,u⟩:=x;exact⟨oa,us,k _ e,d,u⟩
section
variable {prog:Program} {w:World} {A:Around} {E:Value→Shared→Prop} {s:Shared} {a:Addr}
theorem qdr {α:Type} {e:Addr} {ox:Obj} {vs:Array Value} {Q:α→Shared→Prop} (hh:A.handled=some (.ref a)) (la:Lq a s.heap)
    (ex:s.heap.get? e=some ox) (dx:ox.data = .fields vs) (sz:2<vs.size) (ne:e≠a) (hE:∀h',Heap.SameBut e s.heap h'→(∃o',h'.get? e=some o'∧o'.cls=ox.cls)→E (.ref e) {s with heap:=h'}) :
    wpAny (model prog w) A (raiseNew (.ref e):Sem α) Q E s:=by
  obtain⟨oa,us,ha,da,ua⟩:=la;unfold raiseNew;refine wpAny_bind (wpAny_handled ?_);rw[hh];dsimp only;rw[if_pos (by simpa using Ne.symm ne)];refine wpAny_bind (wpAny_holding (wpAny_runValue (codeAny_builtin Ey ?_)));unfold Builtin.«proto.unchain»;refine wpAny_bind (wpAny_field ha da ua ?_);rw[if_pos (by rfl)];refine wpAny_bind (wpAny_pure (wpAny_pure ?_));show wpAny (model prog w) A (do updateField e 2 (.ref a);throw (.ref e)) Q E s
  refine wpAny_bind ?_;unfold updateField;refine wpAny_bind (wpAny_load ex ?_);rw[dx];dsimp only;rw[if_pos sz];refine wpAny_update ex ?_;refine wpAny_throw (hE _ (Heap.SameBut.update ..) ⟨_,Heap.get?_update_self _ ex (Obj.isFreed_of_fields (Obj.data_mapFields dx _)),?_⟩);obtain⟨c,d,dt,sl⟩:=ox;cases dt <;> rfl
theorem qbt {α:Type} {Q:α→Shared→Prop} (hh:A.handled=some (.ref a)) (la:Lq a s.heap)
    (hE:∀h' e,(∀b o,s.heap.get? b=some o→h'.get? b=some o)→(∃o,h'.get? e=some o∧o.cls = .type "StopIteration")→E (.ref e) {s with heap:=h'}) :
    wpAny (model prog w) A (newExc (.type "StopIteration") [] >>= fun e=>(raiseNew e:Sem α)) Q E s:=by
  refine wpAny_bind ?_;unfold newExc newTuple;refine wpAny_bind (wpAny_newObj_type ?_ (by size_fits));refine wpAny_bind (m:=firstArgMember _ _) (wpAny_of_eq (a:=Value.none) (by first | rfl | (unfold firstArgMember;rfl)) ?_)
  refine wpAny_newObj_type ?_ (by size_fits);have lt:∀{b:Addr} {o:Obj} (o1:Obj),s.heap.get? b=some o→(s.heap.push o1).objs.size≠b:=fun {b o} o1 z=>by
    have q:=Heap.lt_size z;rw[Heap.size_push];exact Nat.ne_of_gt (Nat.lt_succ_of_lt q)
  have kk:∀(o1 o2:Obj) {b:Addr} {o:Obj},s.heap.get? b=some o→((s.heap.push o1).push o2).get? b=some o:=fun o1 o2 {b o} z=>Heap.get?_push_of_some _ (Heap.get?_push_of_some _ z);obtain⟨oa,us,ha,da,ua⟩:=la;refine qdr hh ⟨oa,us,kk _ _ ha,da,ua⟩ (Heap.get?_push_size _ rfl) rfl (Nat.lt_of_lt_of_le (by decide) (Nat.le_trans (Nat.le_refl 6) ?_)) (lt _ ha) fun h' sb eo=>hE h' _ (fun b o z=>(sb.2 b (Ne.symm (lt _ z))).trans (kk _ _ z)) eo;simp
theorem R6 {it l:Addr} {items:Array Value} {i:Nat} {Q:Value→Shared→Prop} (hh:A.handled=some (.ref a)) (la:Lq a s.heap) (nit:a≠it)
    (hit:s.heap.IsListIter it l i) (hl:s.heap.IsList l items) (hx:items[i]? = none) (hE:∀h' e,Heap.ExtBut it s.heap h'→(∃o,h'.get? e=some o∧o.cls = .type "StopIteration")→E (.ref e) {s with heap:=h'}) :
    wpAny (model prog w) A (Builtin.SmallTypes.nextOf (.ref it)) Q E s:=by
  obtain⟨oi,ei,ci,di⟩:=id hit;obtain⟨ol,el,_,nl,dl⟩:=hl;unfold Builtin.SmallTypes.nextOf;refine wpAny_bind (wpAny_callSpecial?_slot (name:=Str.ofString "__next__") hit.typeIs slot_listiter_next (wpAny_call_entry slot_listiter_next hit.typeIs entry_listiter_next ?_ (args_listiter_next _)));show wpAny (model prog w) _ (field (.ref it) 0 >>= _) _ _ s;refine wpAny_bind (wpAny_field ei di (x:=.ref l) rfl ?_);show wpAny (model prog w) _ (if (Value.ref l == Value.none)=true then _ else _) _ _ s
  rw[if_neg (fun z=>by cases z)];show wpAny (model prog w) _ (field (.ref it) 1 >>= _) _ _ s;refine wpAny_bind (wpAny_field ei di (x:=.int i 0) rfl ?_);show wpAny (model prog w) _ (seqItems? (.ref l) >>= _) _ _ s;refine wpAny_bind (wpAny_seqItems el dl ?_);simp only[Int.toNat_natCast,hx];refine wpAny_bind (wpAny_rule (wpAny_bind (wpAny_setField ei di (by simp) ?_)));have eb:=(Heap.SameBut.update s.heap it (Obj.mapFields (·.setIfInBounds 0 Value.none))).extBut;exact qbt (A:=A.in1) hh (la.to fun o z=>eb _ _ nit z) fun h' e k eo=>hE h' e (fun b o nb z=>k _ _ (eb b o nb z)) eo
theorem qbu {it t:Addr} {i:Nat} {items} {Q:Option Value→Shared→Prop} (hh:A.handled=some (.ref a)) (la:Lq a s.heap) (nit:a≠it)
    (hit:IsTupIter s.heap it t i) (ht:IsTup s.heap t items) (hx:items[i]? = none)
    (hQ:∀h',Heap.ExtBut it s.heap h'→Q none {s with heap:=h'}):wpAny (model prog w) A (pyNext (.ref it)) Q E s:=by
  obtain⟨oi,ei,ci,di⟩:=id hit;obtain⟨ol,el,_,nl,dl⟩:=ht;unfold pyNext;refine wpAny_bind (wpAny_attempt (wpAny_callSpecial?_slot (name:=Str.ofString "__next__") hit.typeIs slot_tupleiter_next (wpAny_call_entry slot_tupleiter_next hit.typeIs entry_tupleiter_next ?_ (args_tupleiter_next _))));show wpAny (model prog w) _ (field (.ref it) 0 >>= _) _ _ s;refine wpAny_bind (wpAny_field ei di (x:=.ref t) rfl ?_);show wpAny (model prog w) _ (if (Value.ref t == Value.none)=true then _ else _) _ _ s
  rw[if_neg (fun z=>by cases z)];show wpAny (model prog w) _ (field (.ref it) 1 >>= _) _ _ s;refine wpAny_bind (wpAny_field ei di (x:=.int i 0) rfl ?_);show wpAny (model prog w) _ (seqItems? (.ref t) >>= _) _ _ s;refine wpAny_bind (wpAny_seqItems el dl ?_);simp only[Int.toNat_natCast,hx];refine wpAny_bind (wpAny_rule (wpAny_bind (wpAny_setField ei di (by simp) ?_)));have eb:=(Heap.SameBut.update s.heap it (Obj.mapFields (·.setIfInBounds 0 Value.none))).extBut;refine qbt (A:=A.in1) hh (la.to fun o z=>eb _ _ nit z) fun h' e k eo=>?_;obtain⟨o,eo,co⟩:=eo;refine wpAny_bind (wpAny_isInstance (b:=true) ⟨o,eo,co⟩ isSubtype_stop (wpAny_pure ?_));exact hQ _ fun b o nb z=>k _ _ (eb b o nb z)
theorem qbw {env:Env} {es:List Expr} {k1} {pos:Pos} {t:Addr} {items:Array Value} {Q:Unit→Shared→Prop} (hh:A.handled=some (.ref a)) (la:Lq a s.heap) (ht:IsTup s.heap t items)
    (hn:(assignEach es env).length=items.size) (hst:(assignEach es env).findIdx? (·.1)=none)
    (h:∀h',Heap.ExtBut s.heap.objs.size s.heap h'→wpAny (model prog w) A (assignInOrder ((assignEach es env).map (·.2)) items.toList) Q E {s with heap:=h'}) :
    wpAny (model prog w) A (assign (.Tuple es k1 pos) env (.ref t)) Q E s:=by
  rw[PyProof.Rows.assign_Tuple];refine wpAny_bind (wpAny_standAt ?_);unfold unpack;rw[hn,hst];refine wpAny_bind (wpAny_holding ?_);obtain⟨oa,us,ha,da,ua⟩:=id la;have tl:t≠s.heap.objs.size:=by
    obtain⟨o,z,_⟩:=ht;exact Nat.ne_of_lt (Heap.lt_size z)
  have al:a≠s.heap.objs.size:=Nat.ne_of_lt (Heap.lt_size ha);unfold unpackItems notIterableAtAll;refine wpAny_bind (wpAny_bind (wpAny_specialOf ht.typeIs slot_tuple_iter.lookup (wpAny_pure ?_)));simp only[Bool.false_eq_true,if_false];refine wpAny_bind (wpAny_holding (iter_tuple ht ?_));refine wpAny_bind (wpAny_holding (draw_tuple tl items.size 0 _ _ ⟨_,Heap.get?_push_size _ rfl,rfl,rfl⟩ (ht.push _) (by omega) fun h1 it1 sb1=>?_));have all:(items.toList.drop 0).take items.size=items.toList:=by
    rw[List.drop_zero];exact List.take_of_length_le (by simp)
  rw[all,if_neg (by simp)];refine wpAny_bind (wpAny_holding (qbu hh (la.to fun o z=>sb1.extBut a o al (Heap.get?_push_of_some _ z)) al it1 ((ht.push _).extBut sb1.extBut tl) (by simp) fun h2 eb2=>?_));simp only[Option.isSome_none,Bool.false_eq_true,if_false];exact wpAny_pure (h h2 fun b o hb z=>eb2 b o hb (sb1.extBut b o hb (Heap.get?_push_of_some _ z)))
theorem qbx {z TI TO i1 i2 l1 l2:Addr} {k1 k2:Nat} {xs ys:Array Value} {p q:Value} {Q:Option Value→Shared→Prop} (hh:A.handled=some (.ref a)) (la:Lq a s.heap) (D:ZipApart z TI TO i1 i2 l1 l2)
    (nz:a≠z) (nTO:a≠TO) (n1:a≠i1) (n2:a≠i2) (hz:IsZip s.heap z TI TO .none) (hTI:IsPair s.heap TI (.ref i1) (.ref i2)) (hTO:IsPair s.heap TO p q)
    (h1:s.heap.IsListIter i1 l1 k1) (h2:s.heap.IsListIter i2 l2 k2) (hl1:s.heap.IsList l1 xs) (hl2:s.heap.IsList l2 ys) (hend:xs[k1]? = none∨ys[k2]? = none)
    (hQ:∀h',(∀c o,c≠z→c≠TO→c≠i1→c≠i2→s.heap.get? c=some o→h'.get? c=some o)→Q none {s with heap:=h'}):wpAny (model prog w) A (pyNext (.ref z)) Q E s:=by
  have hT:s.TypeIs (.ref z) "zip" :=⟨_,hz,rfl⟩;unfold pyNext;refine wpAny_bind (wpAny_attempt (wpAny_callSpecial?_slot (name:=Str.ofString "__next__") hT F.slot_zip_next (wpAny_call_entry F.slot_zip_next hT F.entry_zip_next ?_ (F.args_zip_next_1 _))));show wpAny (model prog w) _ (field (.ref z) 2 >>= _) _ _ _;refine wpAny_bind (wpAny_field hz rfl (x:=.bool false) rfl ?_);show wpAny (model prog w) _ (field (.ref z) 3 >>= _) _ _ _;refine wpAny_bind (wpAny_field hz rfl (x:=.ref TI) rfl (wpAny_bind (wpAny_seqItems hTI rfl ?_)));show wpAny (model prog w) _ (Builtin.SmallTypes.ownedTupleIsFree (.ref z) >>= _) _ _ _;refine wpAny_bind ?_;unfold Builtin.SmallTypes.ownedTupleIsFree;refine wpAny_bind (wpAny_field hz rfl (x:=.none) rfl (wpAny_pure ?_));simp only[if_true];refine wpAny_bind (wpAny_rule (wpAny_bind (wpAny_field hz rfl (x:=.ref TO) rfl (wpAny_bind (wpAny_setField_rec hz (by simp) fun g1 z1 s1=>?_)))));replace z1:IsZip g1 z TI TO .ellipsis:=z1;have b1:=s1.extBut;refine wpAny_bind ?_;simp only[List.zipIdx_cons,List.zipIdx_nil,List.forIn_cons,List.forIn_nil];refine wpAny_bind (wpAny_bind (wpAny_onRaise ?_));show wpAny (model prog w) _ (Builtin.SmallTypes.nextOf (.ref i1) >>= _) _ _ _;cases hx:xs[k1]? with
  | none=>
    refine wpAny_bind (R6 (A:=A.in1) hh (la.to fun o y=>b1 a o nz y) n1 (h1.extBut b1 D.i1z) (hl1.extBut b1 D.l1z) hx fun g2 e b2 eo=>?_);obtain⟨oe,eo,co⟩:=eo;have z2:IsZip g2 z TI TO .ellipsis:=b2 _ _ D.i1z.symm z1;have ez:e≠z:=fun y=>by
      subst y;rw[z2] at eo;cases eo;simp at co
    refine wpAny_setField_rec z2 (by simp) fun g3 _ s3=>wpAny_bind (wpAny_isInstance (b:=true) ⟨oe,s3.extBut _ _ ez eo,co⟩ isSubtype_stop (wpAny_pure ?_));exact hQ g3 fun c o c1 _ c3 _ y=>s3.extBut _ _ c1 (b2 _ _ c3 (b1 _ _ c1 y))
  | some x=>
    have hy:ys[k2]? = none:=hend.resolve_left fun y=>by rw[hx] at y;cases y
    refine wpAny_bind (wpAny_nextOf_list_item (h1.extBut b1 D.i1z) (hl1.extBut b1 D.l1z) hx fun g2 it2 s2=>wpAny_pure ?_);have b2:=s2.extBut;have to2:IsPair g2 TO p q:=b2 _ _ D.TOi1 (b1 _ _ D.TOz hTO);refine wpAny_bind (wpAny_seqItems to2 rfl (wpAny_bind (wpAny_updateSeq_pair to2 fun g3 to3 s3=>?_)));have b3:=s3.extBut;refine wpAny_bind (wpAny_letGo (wpAny_pure (wpAny_bind (wpAny_bind (wpAny_onRaise ?_)))));show wpAny (model prog w) _ (Builtin.SmallTypes.nextOf (.ref i2) >>= _) _ _ _;refine wpAny_bind (R6 (A:=A.in1) hh (la.to fun o y=>b3 a o nTO (b2 a o n1 (b1 a o nz y))) n2 (((h2.extBut b1 D.i2z).extBut b2 D.i12.symm).extBut b3 D.TOi2.symm) (((hl2.extBut b1 D.l2z).extBut b2 D.l2i1).extBut b3 D.l2TO) hy fun g4 e b4 eo=>?_);obtain⟨oe,eo,co⟩:=eo;have z4:IsZip g4 z TI TO .ellipsis:=b4 _ _ D.i2z.symm (b3 _ _ D.TOz.symm (b2 _ _ D.i1z.symm z1));have ez:e≠z:=fun y=>by
      subst y;rw[z4] at eo;cases eo;simp at co
    refine wpAny_setField_rec z4 (by simp) fun g5 _ s5=>wpAny_bind (wpAny_isInstance (b:=true) ⟨oe,s5.extBut _ _ ez eo,co⟩ isSubtype_stop (wpAny_pure ?_));exact hQ g5 fun c o c1 c2 c3 c4 y=>s5.extBut _ _ c1 (b4 _ _ c4 (b3 _ _ c2 (b2 _ _ c3 (b1 _ _ c1 y))))
end
section
variable {X:Cx} {p_:List (Addr×Obj)} {σ:St} {H:Hp} {s:Shared} {a:Addr}
def Cau (H:Hp) (a:Addr):Prop:=∃C od,H a=some (qdq a C od)
theorem Inv.lone (I:Inv X p_ σ H s) (e:Cau H a):Lq a s.heap:=by
  obtain⟨C,od,e⟩:=e;obtain⟨⟨ox,vs,h1,h2,h3,h4⟩,_⟩:=I.hok a _ e;exact⟨ox,vs,h1,h3,h4⟩
theorem Cau.ne {b:Addr} (e:Cau H a) (h:H b=none):a≠b:=fun z=>by
  obtain⟨C,od,e⟩:=e;rw[z,h] at e;cases e
def qeo (a:Addr) (K:W.Frag) (n:Nat) (t:Mj):TG:=fun v σ H Q=>Cau H a∧qdj K n t v σ H Q
@[simp ↓] theorem qj1 a K n t v σ H Q:qeo a K n t v σ H Q=(Cau H a∧qdj K n t v σ H Q):=rfl
theorem Ho {K:W.Frag} (hK:X.K=K) (hh:X.A.handled=some (.ref a)) {es:List Expr} {k:Nat} {pos:Pos} {t:Mj} {n:Nat} (h:fB X es t)
    (hn:(assignEach es X.env).length=n:=by rfl) (hst:(assignEach es X.env).findIdx? (·.1)=none:=by rfl):PG X (.Tuple es k pos) (qeo a K n t):=by
  subst hK;intro p_ s σ H v u Q I r hw;obtain⟨ca,hw⟩:=hw;obtain⟨p,rfl,xs,hq,hl,hw⟩:=isRef.out hw;cases r;obtain⟨its,rv,ht,hz⟩:=I.tuple hq;refine qbw hh (I.lone ca) ht (by simp[hn,← hl,rv.length]) hst fun h' hx=>?_;have I1:Inv X p_ σ H {s with heap:=h'}:=I.kept (t':=s.toks) fun b o e=>hx b o (Nat.ne_of_lt (Heap.lt_size e)) e;exact h p_ _ σ H xs _ Q I1 (by simpa using rv) hw
end
structure qby (c:Addr) (P:Program) (w:World) (K:W.Frag) (tg:Expr) (J:It) (fp:List Addr) (it:Addr) (tn:Nat→Heap→Prop):Prop where
  mem:it∈fp
  obj:∀i h,tn i h→∀b∈fp,∃o,h.get? b=some o∧∀v,o.data≠.cell v
  keep:∀i h h',tn i h→(∀b∈fp,∀o,h.get? b=some o→h'.get? b=some o)→tn i h'
  item:∀(X:Cx),X.prog=P→X.w=w→X.K=K→∀(i:Nat) (p_:List (Addr×Obj)) (s:Shared) (σ:St) (H:Hp) (E:Value→Shared→Prop),Inv X p_ σ H s→(∀b∈fp,tQ X p_ H b)→tn i s.heap→J.go i H→
    wpAny (model P w) X.A (pyNext (.ref it)) (fun r s1=>∃u,r=some u∧
      wpAny (model P w) X.A (letOwnedTupleGo tg (.ref it) u) (fun _ s2=>∃x H',Inv X p_ σ H' s2∧RelV x u∧J.Z2 i H x H'∧tn (i+1) s2.heap∧∀b∈fp,H' b=none) E s1) E s
  done:∀(X:Cx),X.prog=P→X.w=w→X.K=K→X.A.handled=some (.ref c)→∀(i:Nat) (p_:List (Addr×Obj)) (s:Shared) (σ:St) (H:Hp) (E:Value→Shared→Prop),Inv X p_ σ H s→(∀b∈fp,tQ X p_ H b)→tn i s.heap→J.stop i H→
    wpAny (model P w) X.A (pyNext (.ref it)) (fun r s1=>r=none∧Inv X p_ σ H s1) E s
  self:∀(A:Around) (i:Nat) (s:Shared) (Q:Value→Shared→Prop) (E:Value→Shared→Prop),tn i s.heap→Q (.ref it) s→wpAny (model P w) A (pyIter (.ref it)) Q E s
def PIH (c:Addr) (X:Cx) (tg iter:Expr) (wi:TI):Prop:=
  ∀(p_:List (Addr×Obj)) (s:Shared) (σ:St) (H:Hp) (R:It→Hp→Prop),Inv X p_ σ H s→wi σ H R→
    wpAny (model X.prog X.w) X.A (eval iter X.env) (fun v s1=>wpAny (model X.prog X.w) X.A (pyIter v) (fun itv s2=>∃(it:Addr) (fp:List Addr) (tn:Nat→Heap→Prop) (J:It) (H':Hp),itv = .ref it∧Inv X p_ σ H' s2∧qby c X.prog X.w X.K tg J fp it tn∧tn 0 s2.heap∧(∀b∈fp,tQ X p_ H' b)∧R J H') X.xe s1) X.xe s
theorem qbz {X:Cx} {es:List Expr} {k:Nat} {pos:Pos} {z TI TO i1 i2 a b:Addr} (n12:i1≠i2) (nT:TI≠TO) {i:Nat} {p_:List (Addr×Obj)} {s:Shared} {σ:St} {H:Hp} {E:Value→Shared→Prop} (I:Inv X p_ σ H s)
    (hf:∀c∈[z,TI,TO,i1,i2],tQ X p_ H c) (st:Wu z TI TO i1 i2 a b i s.heap) (hg:(ZK X.K a b).go i H) :
    wpAny (model X.prog X.w) X.A (pyNext (.ref z)) (fun r s1=>∃u,r=some u∧
      wpAny (model X.prog X.w) X.A (letOwnedTupleGo (.Tuple es k pos) (.ref z) u) (fun _ s2=>∃x H',Inv X p_ σ H' s2∧RelV x u∧(ZK X.K a b).Z2 i H x H'∧Wu z TI TO i1 i2 a b (i+1) s2.heap∧∀c∈[z,TI,TO,i1,i2],H' c=none) E s1) E s:=by
  obtain⟨xs,ys,x,y,qa,qb,hx,hy⟩:=hg;obtain⟨its,rv,pl,hz1⟩:=I.list qa;obtain⟨its',rv',Rp,hz2⟩:=I.list qb;obtain⟨u,hu,ru⟩:=rv.get hx;obtain⟨u',hu',ru'⟩:=rv'.get hy;obtain⟨p,q,hTO⟩:=st.hO;obtain⟨oa,ea,ca,_⟩:=id pl.isList;obtain⟨ob,eb,cb,_⟩:=id Rp.isList;obtain⟨o1,e1,c1,_⟩:=id st.h1;obtain⟨o2,e2,c2,_⟩:=id st.h2;have D:ZipApart z TI TO i1 i2 a b:=
    ⟨bK st.hI st.hz rfl rfl (by decide),bK hTO st.hz rfl rfl (by decide),bK e1 st.hz c1 rfl (by decide),bK e2 st.hz c2 rfl (by decide),nT,bK st.hI e1 rfl c1 (by decide),bK st.hI e2 rfl c2 (by decide),
      bK hTO e1 rfl c1 (by decide),bK hTO e2 rfl c2 (by decide),n12,bK ea st.hz ca rfl (by decide),bK ea hTO ca rfl (by decide),bK ea e1 ca c1 (by decide),bK ea e2 ca c2 (by decide),
      bK eb st.hz cb rfl (by decide),bK eb hTO cb rfl (by decide),bK eb e1 cb c1 (by decide),bK eb e2 cb c2 (by decide)⟩
  refine wpAny_pyNext_zip_item D st.hz st.hI hTO st.h1 st.h2 pl.isList Rp.isList (x:=u) (y:=u') (by simpa using hu) (by simpa using hu') fun h' a1 a2 a3 a4 a5 a6 kk=>?_;refine⟨_,rfl,wpAny_letOwnedTupleGo_zip a1 fun h2 b1 sb=>?_⟩;have lt:∀{c o},s.heap.get? c=some o→s.heap.objs.size≠c:=fun e=>Nat.ne_of_gt (Heap.lt_size e);have hn:H s.heap.objs.size=none:=I.hok.fresh (Nat.le_refl _);have kk2:∀c o,c∉[z,TI,TO,i1,i2]→s.heap.get? c=some o→h2.get? c=some o:=fun c o hc e=>by
    simp only[List.mem_cons,List.not_mem_nil,or_false,not_or] at hc;exact(sb.2 c hc.1).trans (kk c o hc.1 hc.2.2.1 hc.2.2.2.1 hc.2.2.2.2 e)
  have I1:Inv X p_ σ H {s with heap:=h2,toks:=s.toks}:=I.tU kk2 hf;have Cq:IsPair h2 s.heap.objs.size u u':=sb.extBut _ _ (lt st.hz) a5;have I2:Inv X p_ σ (upd H s.heap.objs.size (.tup [x,y])) {s with heap:=h2,toks:=s.toks}:=by
    have hfr:H s.heap.objs.size=none:=hn;refine⟨I1.ok,I1.os,I1.bare,⟨I1.base.keep,I1.base.slot,fun c o e n hx=>?_,I1.base.there,fun c zs e=>?_,fun c o v e=>?_,fun c qs e=>?_⟩,I1.loc,I1.cell,?_,fun v c e=>?_,fun v hv=>?_,?_,I1.len⟩
    · rw[aM (fun e'=>?_)]
      ·exact I1.base.free c o e n hx
      ·exact absurd (Nat.lt_of_lt_of_le (Heap.lt_size e) I.sz) (by rw[e'];exact Nat.lt_irrefl _)
    ·have e':=I1.base.tups c zs e;rw[aM (aQ e' hfr)];exact e'
    ·have e':=I1.base.Ac c o v e;rw[aM (aQ e' hfr)];exact e'
    ·obtain⟨m,e'⟩:=I1.base.A_ c qs e;exact⟨m,by rw[aM (aQ e' hfr)];exact e'⟩
    ·rw[aM (Nat.ne_of_lt I.lt)];exact I1.free
    ·obtain⟨w',qc⟩:=I.cell v c e;rw[aM (Nat.ne_of_lt qc.lt)];exact I1.lN v c e
    ·obtain⟨f1,f2,f3⟩:=I1.pin v hv;refine⟨f1,?_,f3⟩;rw[aM (Nat.ne_of_lt (Heap.lt_size (I.pin v hv).1))];exact f2
    · intro c v e
      by_cases hcs:c=s.heap.objs.size
      ·subst hcs;rw[ak] at e;cases e;exact⟨by show 2≤sizeLine;rw[sizeLine_eq];decide,[u,u'],.cons ru (.cons ru' .nil),⟨_,Cq,rfl,0,rfl⟩⟩
      · rw[aM hcs] at e;refine(I1.hok c v e).stay (fun _ _ _ qq=>qq) (fun d qd=>?_) fun d zs qd=>?_
        ·rw[aM (aQ qd hfr)];exact qd
        ·rw[aM (aQ qd hfr)];exact qd
  refine⟨.ref s.heap.objs.size,_,I2,rfl,⟨s.heap.objs.size,x,y,rfl,hn,rfl,fun xs' q'=>by rw[I.rT q' qa];exact hx,fun ys' q'=>by rw[I.rT q' qb];exact hy⟩,?_,fun c hcm=>?_⟩
  ·exact⟨b1,sb.extBut _ _ D.TIz (kk _ _ D.TIz D.TITO D.TIi1 D.TIi2 st.hI),⟨_,_,sb.extBut _ _ D.TOz a2⟩,a3.extBut sb.extBut D.i1z,a4.extBut sb.extBut D.i2z⟩
  · have hne:c≠s.heap.objs.size:=by
      simp only[List.mem_cons,List.not_mem_nil,or_false] at hcm
      rcases hcm with rfl | rfl | rfl | rfl | rfl
      ·exact(lt st.hz).symm
      ·exact(lt st.hI).symm
      ·exact(lt hTO).symm
      ·exact(lt e1).symm
      ·exact(lt e2).symm
    rw[aM hne];exact(hf c hcm).1
def qds (c:Addr) (K:W.Frag) (a b:Addr):It:=⟨(ZK K a b).go,(ZK K a b).Z2,fun i H=>(ZK K a b).stop i H∧Cau H c⟩
theorem YM {c:Addr} {P:Program} {w:World} {K:W.Frag} {es:List Expr} {k:Nat} {pos:Pos} {z TI TO i1 i2 a b:Addr} (n12:i1≠i2) (nT:TI≠TO) :
    qby c P w K (.Tuple es k pos) (qds c K a b) [z,TI,TO,i1,i2] z (Wu z TI TO i1 i2 a b) where
  mem:=by simp
  obj:=fun i h st c hc=>by
    simp only[List.mem_cons,List.not_mem_nil,or_false] at hc
    rcases hc with rfl | rfl | rfl | rfl | rfl
    ·exact⟨_,st.hz,fun v e=>nomatch e⟩
    ·exact⟨_,st.hI,fun v e=>nomatch e⟩
    ·obtain⟨p,q,e⟩:=st.hO;exact⟨_,e,fun v e=>nomatch e⟩
    ·obtain⟨o,e,_,d⟩:=st.h1;exact⟨o,e,fun v y=>by rw[d] at y;cases y⟩
    ·obtain⟨o,e,_,d⟩:=st.h2;exact⟨o,e,fun v y=>by rw[d] at y;cases y⟩
  keep:=fun i h h' st kk=>by
    obtain⟨p,q,e⟩:=st.hO;exact⟨kk z (by simp) _ st.hz,kk TI (by simp) _ st.hI,⟨p,q,kk TO (by simp) _ e⟩,st.h1.at fun o e=>kk i1 (by simp) o e,st.h2.at fun o e=>kk i2 (by simp) o e⟩
  item:=by
    intro X hP hw hK i p_ s σ H E I hf st hg;subst hP hw hK;exact qbz n12 nT I hf st hg
  done:=by
    intro X hP hw hK hh i p_ s σ H E I hf st hg;subst hP hw hK;obtain⟨⟨xs,ys,qa,qb,hl⟩,cau⟩:=hg;have fne:∀d∈[z,TI,TO,i1,i2],c≠d:=fun d hd=>cau.ne (hf d hd).1;obtain⟨its,rv,pl,hz1⟩:=I.list qa;obtain⟨its',rv',Rp,hz2⟩:=I.list qb;obtain⟨p,q,hTO⟩:=st.hO;obtain⟨oa,ea,ca,_⟩:=id pl.isList;obtain⟨ob,eb,cb,_⟩:=id Rp.isList;obtain⟨o1,e1,c1,_⟩:=id st.h1;obtain⟨o2,e2,c2,_⟩:=id st.h2;have D:ZipApart z TI TO i1 i2 a b:=
      ⟨bK st.hI st.hz rfl rfl (by decide),bK hTO st.hz rfl rfl (by decide),bK e1 st.hz c1 rfl (by decide),bK e2 st.hz c2 rfl (by decide),nT,bK st.hI e1 rfl c1 (by decide),bK st.hI e2 rfl c2 (by decide),
        bK hTO e1 rfl c1 (by decide),bK hTO e2 rfl c2 (by decide),n12,bK ea st.hz ca rfl (by decide),bK ea hTO ca rfl (by decide),bK ea e1 ca c1 (by decide),bK ea e2 ca c2 (by decide),
        bK eb st.hz cb rfl (by decide),bK eb hTO cb rfl (by decide),bK eb e1 cb c1 (by decide),bK eb e2 cb c2 (by decide)⟩
    have l1:=rv.length;have l2:=rv'.length;refine qbx hh (I.lone cau) D (fne _ (by simp)) (fne _ (by simp)) (fne _ (by simp)) (fne _ (by simp)) st.hz st.hI hTO st.h1 st.h2 pl.isList Rp.isList ?_ fun h' kk=>⟨rfl,I.tU (t':=s.toks) (fun c o hcm e=>?_) hf⟩
    · rcases hl with hl | hl
      ·exact .inl (by simp;omega)
      ·exact .inr (by simp;omega)
    ·simp only[List.mem_cons,List.not_mem_nil,or_false,not_or] at hcm;exact kk c o hcm.1 hcm.2.2.1 hcm.2.2.2.1 hcm.2.2.2.2 e
  self:=fun _ _ _ _ _ st h=>wpAny_pyIter_zip st.hz h
section
variable {X:Cx} {c:Addr}
def qbA (c:Addr) (K:W.Frag) (t:TA):TI:=fun σ H R=>t σ H fun vs H1=>ar2 vs fun x y=>isRef x fun a=>isRef y fun b=>(∃xs,bC K H1 a xs)∧(∃ys,bC K H1 b ys)∧R (qds c K a b) H1
@[simp ↓] theorem qhO c K t σ H R:qbA c K t σ H R=(t σ H fun vs H1=>ar2 vs fun x y=>isRef x fun a=>isRef y fun b=>(∃xs,bC K H1 a xs)∧(∃ys,bC K H1 b ys)∧R (qds c K a b) H1):=rfl
theorem Hq {K:W.Frag} (hK:X.K=K) {es:List Expr} {k:Nat} {pos':Pos} {a b:Expr} {ta:TA} {p pos:Pos} (hg:Gl X "zip") (hm:X.mg "zip" = none) (ha:PA X [a,b] ta)
    (hs:starEach [a,b] X.env=[(false,eval a X.env),(false,eval b X.env)]:=by rfl) (hs2:starEach [b] X.env=[(false,eval b X.env)]:=by rfl) :
    PIH c X (.Tuple es k pos') (.Call (.Name "zip" p) [a,b] [] pos) (qbA c K ta):=by
  subst hK;intro p_ s σ H R I h;refine Call_ (rR I hg hm boot_zip (PyProof.Rows.callWith_type1 (cU (ha pos p_ s σ H _ I h) fun us s1 zz=>?_) (by rw[hs,hs2]) (by rw[hs2];rfl)));obtain⟨vs,H1,I1,r1,q1⟩:=zz;obtain⟨v1,v2,rfl,q1⟩:=ar2.out q1;obtain⟨l1,rfl,q1⟩:=isRef.out q1;obtain⟨l2,rfl,⟨xs,qa⟩,⟨ys,qb⟩,q⟩:=isRef.out q1;obtain⟨u,v,rfl,r,r'⟩:=r1.two;obtain rfl:u=Value.ref l1:=r;obtain rfl:v=Value.ref l2:=r';obtain⟨its,rv,pl,hz1⟩:=I1.list qa;obtain⟨its',rv',Rp,hz2⟩:=I1.list qb;refine call_zip_2 pl.isList Rp.isList fun h' b1 b2 b3 b4 b5 b6 kk=>?_;refine wpAny_pyIter_zip (s:={s1 with heap:=h'}) b1 ?_;have I2:Inv X p_ σ H1 {s1 with heap:=h'}:=I1.kept (t':=s1.toks) kk;refine⟨s1.heap.objs.size+4,[s1.heap.objs.size+4,s1.heap.objs.size+2,s1.heap.objs.size+3,s1.heap.objs.size,s1.heap.objs.size+1],_,_,H1,rfl,I2,YM (Nat.ne_of_lt (Nat.lt_succ_self _)) (Nat.ne_of_lt (Nat.lt_succ_self (s1.heap.objs.size+2))),⟨b1,b2,⟨_,_,b3⟩,b4,b5⟩,fun c hc=>?_,q⟩;have hle:s1.heap.objs.size≤c:=by
    simp only[List.mem_cons,List.not_mem_nil,or_false] at hc
    rcases hc with rfl | rfl | rfl | rfl | rfl <;> first | exact Nat.le_add_right _ _ | exact Nat.le_refl _
  exact I1.Ij hle (I1.hok.fresh hle)
end
section
variable {X:Cx} {c:Addr} {ps sc:Scope} {own pN:List Str} {caps:List Nat} {N:List Str}
theorem R7 {p_:List (Addr×Obj)} {σ:St} {H:Hp} {s:Shared} {E:Value→Shared→Prop} {elt tg iter:Expr} {ifs:List Expr} {pos:Pos} {J:It} {fp:List Addr} {it D:Addr} {tn:Nat→Heap→Prop} {g:TG} {tt:TT} {te:TE} {Q:Hp→Prop}
    (I:Inv X p_ σ H s) (hps:X.env.scope=ps) (hpN:X.N=pN) (S:aR ps sc pN own caps N) (T:qby c X.prog X.w X.K tg J fp it tn) (st:tn 0 s.heap) (hf:∀b∈fp,tQ X p_ H b) (hh:X.A.handled=some (.ref c))
    (hg:∀C s H fp pn,PG (bN X sc N C s H fp pn) tg g) (ht:∀C s H fp pn,PTs (bN X sc N C s H fp pn) ifs tt) (he:∀C s H fp pn,PE (bN X sc N C s H fp pn) elt te)
    (h:oR own caps J g tt te D σ H Q) :
    wpAny (model X.prog X.w) X.A (newFunctionEnv sc X.env.globals (O1 X.env sc.names) [] X.env.qual none .none (some X.env)) (fun cenv s4=>
      codeAny (model X.prog X.w) X.A (.compStart (.ListComp elt [⟨tg,iter,ifs,0⟩] sc pos) 0 (.ref it) (.ref D) {cenv with scope:=relabel sc X.env}) (Cp X p_ σ Q cenv.locals) s4) E s:=by
  obtain⟨qp,⟨m0,w0⟩,turn⟩:=h;refine Cm ?_;have ho:=T.obj 0 _ st;have I0:=Ro I hps hpN S hf ho;have ok':=O2 I hps S hf ho;have hk:∀b o,s.heap.get? b=some o→(blockAt sc s).heap.get? b=some o:=fun b o e=>pushCells_keeps _ _ b o (Heap.get?_push_of_some _ e);have st0:tn 0 (blockAt sc s).heap:=T.keep 0 _ _ st fun b _ o e=>hk b o e;have stat:∀{H':Hp},(∀b∈fp,H' b=none)→∀b∈fp,tQ (bN X sc N s.heap.objs.size s H fp (X.pn++p_)) [] H' b:=fun hn b hb=>
    ⟨hn b hb,(ok'.exf b hb).1,ok'.Om b hb,.inl hb,(ok'.exf b hb).2,fun p hp=>(hf b hb).2.2.2.2.2 p (by rw[List.append_nil] at hp;exact hp)⟩
  have loop:codeAny (model X.prog X.w) X.A (.compLoop (.ListComp elt [⟨tg,iter,ifs,0⟩] sc pos) 0 (.ref it) (.ref D) (bN X sc N s.heap.objs.size s H fp (X.pn++p_)).env) (Cp X p_ σ Q s.heap.objs.size) (blockAt sc s):=by
    refine Ge (fun n s'=>∃i σ' H',Inv (bN X sc N s.heap.objs.size s H fp (X.pn++p_)) [] σ' H' s'∧tn i s'.heap∧(∀b∈fp,H' b=none)∧qp i n σ' H') ?_ m0 ⟨0,_,H,I0,st0,fun b hb=>(hf b hb).1,w0⟩;rintro n s3 ⟨i,σ3,H3,I3,st3,fr3,w3⟩
    rcases turn i n σ3 H3 w3 with⟨stop,qn⟩ | ⟨go,N',hN,step⟩
    ·refine cU (T.done (bN X sc N s.heap.objs.size s H fp (X.pn++p_)) rfl rfl rfl hh i [] s3 σ3 H3 NoE I3 (stat fr3) st3 stop) fun r s4 zz=>?_;obtain⟨hr,I4⟩:=zz;subst hr;obtain⟨m,hn,_⟩:=I4.loc;exact⟨H3,rfl,Mz I hf I4,⟨m,hn⟩,I.Ij (Nat.le_refl _) I4.free,qn⟩
    · refine cU (T.item (bN X sc N s.heap.objs.size s H fp (X.pn++p_)) rfl rfl rfl i [] s3 σ3 H3 NoE I3 (stat fr3) st3 go) fun r s4 zz=>?_;obtain⟨u,hr,h4⟩:=zz;subst hr;refine cU h4 fun _ s5 zz=>?_;obtain⟨x,H5,I5,r5,y5,Z7,fr5⟩:=zz;have I5':=I5.pinned (stat fr5) (T.obj _ _ Z7);refine cU (hg _ _ _ _ _ _ s5 σ3 H5 x u _ I5' r5 (step x H5 y5)) fun _ s6 zz=>?_;obtain⟨σ6,H6,I6,q6⟩:=zz;refine cU (ht _ _ _ _ _ _ s6 σ6 H6 _ I6 q6) fun b s7 zz=>?_;obtain⟨H7,I7,q7⟩:=zz;have again:∀{σ8:St} {H8:Hp} {s8:Shared},Inv (bN X sc N s.heap.objs.size s H fp (X.pn++p_)) ([]++Ei fp s5.heap) σ8 H8 s8→N' σ8 H8→
          ∃m,m<n∧∃i σ' H',Inv (bN X sc N s.heap.objs.size s H fp (X.pn++p_)) [] σ' H' s8∧tn i s8.heap∧(∀b∈fp,H' b=none)∧qp i m σ' H':=fun {σ8 H8 s8} I8 n8=>by
        obtain⟨m',hm,w8⟩:=hN σ8 H8 n8;refine⟨m',hm,i+1,σ8,H8,I8.xX,T.keep _ _ _ Z7 fun b hb o e=>(I8.pin (b,o) (List.mem_append_right _ (List.mem_append_right _ (nP hb e)))).1,fun b hb=>?_,w8⟩;obtain⟨o,e,d⟩:=T.obj _ _ Z7 b hb;exact(I8.pin (b,o) (List.mem_append_right _ (List.mem_append_right _ (nP hb e)))).2.1
      cases b with
      | false=>
        rw[if_neg Bool.false_ne_true] at q7 ⊢;exact again I7 q7
      | true=>
        rw[if_pos rfl] at q7 ⊢;refine cU (he _ _ _ _ _ _ s7 σ6 H7 _ I7 q7) fun v s8 zz=>?_;obtain⟨y,H8,I8,r8,ys,hD,hz,n8⟩:=zz;refine cU (Ek (X:=bN X sc N s.heap.objs.size s H fp (X.pn++p_)) _ s8 σ6 H8 (.ref D) [y] (.ref D) [v] (fun _ H9=>N' σ6 H9) I8 rfl (.cons r8 .nil) ⟨D,ys,y,rfl,rfl,hD,hz,n8⟩) fun _ s9 zz=>?_;obtain⟨_,H9,I9,_,n9⟩:=zz;exact again I9 n9
  exact codeAny_compStart_list loop (T.self X.A 0 _ _ _ st0 loop)
variable {elt tg iter:Expr} {ifs:List Expr} {pos:Pos} {wi:TI} {g:TG} {tt:TT} {te:TE}
theorem Dc (hps:X.env.scope=ps) (hpN:X.N=pN) (S:aR ps sc pN own caps N) (hh:X.A.handled=some (.ref c)) (hi:PIH c X tg iter wi)
    (hg:∀C s H fp pn,PG (bN X sc N C s H fp pn) tg g) (ht:∀C s H fp pn,PTs (bN X sc N C s H fp pn) ifs tt) (he:∀C s H fp pn,PE (bN X sc N C s H fp pn) elt te)
    (hs:∀x,foldedSetIterable iter X.env x=pure x:=by intro _;rfl):PE X (.ListComp elt [⟨tg,iter,ifs,0⟩] sc pos) (MF own caps wi g tt te):=by
  intro p_ s σ H Q I h;rw[eval_ListComp];refine wpAny_comprehension_free (use:=none) rfl hs (qx (S.cells hps I.ok)) S.kind S.locs (cU (hi p_ s σ H _ I h) fun v s1 h1=>cU h1 fun itv s2 h2=>?_);obtain⟨it,fp,tn,J,H2,e,I2,T,st2,f2,q⟩:=h2;subst e;have fr:H2 s2.heap.objs.size=none:=I2.fresh;refine wpAny_newObj_type ?_;have I3:Inv X p_ σ (upd H2 s2.heap.objs.size (.lst [])) {s2 with heap:=s2.heap.push {cls:=.type "list",data:=.seq ([]:List Value).toArray},toks:=s2.toks}:=I2.qam (its:=[]) (ys:=[]) .nil (Nat.zero_le _);have f3:∀b∈fp,tQ X p_ (upd H2 s2.heap.objs.size (.lst [])) b:=fun b hb=>by
    obtain⟨o,e,_⟩:=T.obj 0 _ st2 b hb;exact⟨by rw[aM (Nat.ne_of_lt (Heap.lt_size e))];exact(f2 b hb).1,(f2 b hb).2⟩
  refine cU (R7 (iter:=iter) (pos:=pos) I3 hps hpN S T (T.keep 0 _ _ st2 fun b _ o e=>Heap.get?_push_of_some _ e) f3 hh hg ht he (q _ fr)) fun cenv s4 h4=>?_;refine codeAny_mono h4 fun r s5 ⟨H5,hr,I5,⟨m,hn⟩,f5,q5⟩=>?_;subst hr;refine⟨m,hn,fun h' hs'=>?_⟩;have I6:Inv X p_ σ H5 {s5 with heap:=h',toks:=s5.toks}:=I5.turned (it:=cenv.locals) (fun b o hb e=>(hs'.2 b hb).trans e) f5.1 f5.2.1 f5.2.2.2.1 f5.2.2.2.2.1 f5.2.2.2.2.2;exact⟨.ref s2.heap.objs.size,H5,I6,rfl,q5⟩
end
structure yD (P:Program) (w:World) (K:W.Frag) (mg:Str→Option Value) (base:Heap) (k:Nat) (f:Addr) (fd:FuncData) (ps:List Str) (sp:Addr→Sp):Prop where
  len:∀a vs H Q E,sp a vs H Q E→vs.length=ps.length
  run:∀(a:Addr) (A:Around) (outer:List Env) (s:Shared) (H:Hp) (args:Args) (us:List Value) (vs:List V) (Q:VK),iV k A→Rj P w K mg base A outer s H→BindsTo s fd args (ps.zip us)→Vals vs us→sp a vs H Q E0→
    codeAny (model P w) (A.mark (some (.ref a))) (.call (.ref f) args) (CR mj outer P w H s Q E0) s
theorem dG.okH {P:Program} {w:World} {K:W.Frag} {mg:Str→Option Value} {base:Heap} {x qual:Str} {st:Stmt} {f:Addr} {fd:FuncData} {N ps:List Str} {k:Nat} {sp:Addr→Sp} (F:dG K x qual st f fd) (S:bh N ps (aD st)) (len:∀a vs H Q E,sp a vs H Q E→vs.length=ps.length)
    (hbody:∀(a:Addr) (cdv:Value) (A:Around) (outer:List Env) (s:Shared) (H:Hp) (vs:List V) (Q:VK),iV k (A.deeper (envOfC qual (aD st) s.heap.objs.size f cdv))→sp a vs H Q E0→
      ∃t,K9 ((aA mj P w K mg base N qual (aD st) f cdv A outer s H E0).caught a) (j_ st) t∧t {nx:=fun _ H'=>Q .non H',rt:=Q} (start N vs) H):yD P w K mg base (k+1) f fd ps sp:=by
  obtain⟨oc,od,kV,doc,pm,an,cdv,ct,osl,rfl,lk,hcd⟩:=F.ex;refine⟨len,fun a A outer s H args us vs Q hr e0 hb r hsp=>?_⟩;have hl:=len _ _ _ _ _ hsp;have KX:K.In s.heap:=e0.mod.kin.keeps fun b o e=>(e0.bs b o e).1;have lim:s.heap.NoLimit:=e0.mod.nolimit.keeps fun b o e=>(e0.bs b o e).1;have hkind:∀y∈ps.zip us,(aD st).names.lookup y.1=some .local∨((aD st).names.lookup y.1=some .cell∧((cellsFrom (s.heap.objs.size+1) (aD st).names []).lookup y.1).isSome=true):=fun⟨n,v⟩ hy=>by
    rcases S.par n (List.of_mem_zip hy).1 with q | q
    ·exact .inl q
    ·exact .inr ⟨q,W.cellsFrom_some _ _ _ (.inl q)⟩
  refine codeAny_call_function (A:=A.mark (some (.ref a))) hr.depth (KX _ _ lk) rfl S.co S.gen rfl (W.codeRec_of KX hcd) (hb _ _ _ _ ?_);refine wpAny_newFunctionEnv_cells S.kind hkind fun env he s1 x=>?_;subst he;refine⟨lim.keeps x.toInCall.keep,codeAny_func ?_⟩;obtain⟨t,ht,hq⟩:=hbody a cdv A outer s H vs Q (hr.deeper _) hsp;have I:Inv (aA mj P w K mg base N qual (aD st) f cdv A outer s H E0) [] (start N vs) H s1:=Mv S hr.hd e0 hl r x;refine wpAny_mono (ht [] s1 (start N vs) H _ (I.caught a) hq) (fun fl s' hs=>?_) fun e s' hs=>hs.elim;have fin:∀{σ':St} {H':Hp} {v:V} {u:Value},Inv ((aA mj P w K mg base N qual (aD st) f cdv A outer s H E0).caught a) [] σ' H' s'→RelV v u→Q v H'→CE outer P w H s Q u s':=
    fun {σ' H' v u} J rv q=>⟨v,H',J.os,J.bare,J.base,J.hok,rv,q⟩
  cases fl with
  | ret u=>
    obtain⟨v,σ',H',J,rv,q⟩:=hs;exact fin J rv q
  | next=>
    obtain⟨σ',H',J,q⟩:=hs;exact fin (v:=V.non) (u:=Value.none) J rfl q
  | brk=>obtain⟨σ',H',J,q⟩:=hs;exact False.elim q
  | cont=>obtain⟨σ',H',J,q⟩:=hs;exact False.elim q
section
variable {X:Cx} {a:Addr}
def qbB (sp:Sp) (t:TA):TE:=fun σ H Q=>t σ H fun vs H1=>Yp sp vs H1 Q ⟨0⟩ E0
@[simp ↓] theorem qhP sp t σ H Q:qbB sp t σ H Q=t σ H fun vs H1=>Yp sp vs H1 Q ⟨0⟩ E0:=rfl
theorem qbC {k:Nat} {f:Addr} {fd:FuncData} {ps:List Str} {sp:Addr→Sp} {x:Str} {p pos:Pos} {e:Expr} {es:List Expr} {t:TA}
    (F:yD X.prog X.w X.K X.mg X.base k f fd ps sp) (hr:iV k X.A) (hg:Gl X x) (hm:X.mg x=some (.ref f)) (hk:W.keepIn X.K (.ref f)=true) (hb:Binds X.K fd ps [])
    (ha:PA (X.caught a) (e::es) t) (hdb:(x == ("__debug__" : Str))=false:=by decide) (he:starEach (e::es) X.env=(false,eval e X.env)::starEach es X.env:=by rfl) (hpl:(backTo pos (starEach es X.env)).any (·.1)=false:=by rfl) :
    PE (X.caught a) (.Call (.Name x p) (e::es) [] pos) (qbB (sp a) t):=by
  intro p_ s σ H Q I h;refine wpAny_Call_Name_kw (vV I hg hm ?_ hdb);refine W.callWith_K (h₀:=X.base) I.ok.mod.kin hk (cU (ha pos p_ s σ H _ I h) fun us s1 zz=>?_) he hpl;obtain⟨vs,H1,I1,r,q⟩:=zz;refine⟨I1.Ad,?_⟩;have hl:us.length=ps.length:=by rw[← r.length];exact F.len _ _ _ _ _ q
  have hbd:=hb s1 us I1.Ad (by rw[List.append_nil];exact hl);rw[List.append_nil] at hbd;have e0:=I1.env0;refine wpAny_call (codeAny_mono (F.run a X.A X.stack s1 H1 ⟨us,[]⟩ us vs Q hr ⟨e0.frames,e0.mod,e0.bs,e0.Xx,e0.xV,e0.ZS,e0.hok,e0.bare⟩ hbd r q) fun rr s' hq=>?_);cases rr with
  | error e=>exact hq.elim
  | ok fl=>
    cases fl with
    | ret u=>exact I1.after hq
    | next=>exact False.elim hq
    | brk=>exact False.elim hq
    | cont=>exact False.elim hq
end
def wz (K:W.Frag) (C:Addr):Prop:=wk K C∧∃cd,W.clsIn K C=some cd
def gw (K:W.Frag) (C:Addr):V→Option Bool
  | .ref D=>W.kitOne K (.ref C) (.ref D)
  | .ty n=>W.kitOne K (.ref C) (.type n)
  | _=>none
def qep (K:W.Frag):List V→Hp→VK→Prop:=fun xs H Q=>ar2 xs fun x y=>isRef x fun a=>∃C b,H a=some (qY a C)∧wz K C∧gw K C y=some b∧Q (.bl b) H
@[simp ↓] theorem qj2 K xs H Q:qep K xs H Q=(ar2 xs fun x y=>isRef x fun a=>∃C b,H a=some (qY a C)∧wz K C∧gw K C y=some b∧Q (.bl b) H):=rfl
theorem qhQ {X:Cx} {K:W.Frag} (hK:X.K=K):cN X (.builtin "isinstance") (qep K):=by
  subst hK;intro p_ s σ H xs us Q I r h;obtain⟨v1,v2,rfl,h⟩:=ar2.out h;obtain⟨a,rfl,C,b,e,⟨L,cd,hcd⟩,hk,q⟩:=isRef.out h;obtain⟨u,v,rfl,r1,r2⟩:=r.two;obtain rfl:u=Value.ref a:=r1;obtain⟨ex,_⟩:=I.hok a _ e;have go:∀{c:Value},W.kitOne X.K (.ref C) c=some b→wpAny (model X.prog X.w) X.A (call (.builtin "isinstance") [.ref a,c]) (EP X p_ σ Q) X.xe s:=fun {c} hc=>
    W.kia_one (R4 hcd L) I.Ad ex.at hc (fun z=>by cases z) fun tk=>⟨.bl b,H,I.kept (fun _ _ e=>e),rfl,q⟩
  cases v2 with
  | ref D=>obtain rfl:v=Value.ref D:=r2;exact go hk
  | ty n=>obtain rfl:v=Value.type n:=r2;exact go hk
  | _=>cases hk
theorem dG.Vl {P:Program} {w:World} {K:W.Frag} {mg:Str→Option Value} {base:Heap} {x qual:Str} {st:Stmt} {f:Addr} {fd:FuncData} {N ps:List Str} {k:Nat} {sp:Sp} (F:dG K x qual st f fd) (S:bh N ps (aD st)) (len:∀vs H Q E,sp vs H Q E→vs.length=ps.length)
    (hbody:∀(cdv:Value) (A:Around) (outer:List Env) (s:Shared) (H:Hp) (vs:List V) (Q:VK) (E:XK),iV k (A.deeper (envOfC qual (aD st) s.heap.objs.size f cdv))→sp vs H Q E→
      ∃t,K9 (aA (Qf P w) P w K mg base N qual (aD st) f cdv A outer s H E) (j_ st) t∧t {nx:=fun _ H'=>Q .non H',rt:=Q} (nU N vs) H):bV P w K mg base (Qf P w) (k+1) f fd ps sp:=by
  refine F.okE S len fun cdv A outer s H vs Q E hr h=>?_;obtain⟨t,h1,h2⟩:=hbody cdv A outer s H vs Q E hr h;refine⟨t,h1,?_⟩;have hl:=len _ _ _ _ h;have hp:ps.length≤N.length:=by have:=congrArg List.length S.pre;rw[List.length_take] at this;omega
  rw[vB N vs (by omega)] at h2;exact h2
theorem dG.qdt {P:Program} {w:World} {K:W.Frag} {mg:Str→Option Value} {base:Heap} {x qual:Str} {st:Stmt} {f:Addr} {fd:FuncData} {N ps:List Str} {k:Nat} {sp:Addr→Sp} (F:dG K x qual st f fd) (S:bh N ps (aD st)) (len:∀a vs H Q E,sp a vs H Q E→vs.length=ps.length)
    (hbody:∀(a:Addr) (cdv:Value) (A:Around) (outer:List Env) (s:Shared) (H:Hp) (vs:List V) (Q:VK),iV k (A.deeper (envOfC qual (aD st) s.heap.objs.size f cdv))→sp a vs H Q E0→
      ∃t,K9 ((aA mj P w K mg base N qual (aD st) f cdv A outer s H E0).caught a) (j_ st) t∧t {nx:=fun _ H'=>Q .non H',rt:=Q} (nU N vs) H):yD P w K mg base (k+1) f fd ps sp:=by
  refine F.okH S len fun a cdv A outer s H vs Q hr h=>?_;obtain⟨t,h1,h2⟩:=hbody a cdv A outer s H vs Q hr h;refine⟨t,h1,?_⟩;have hl:=len _ _ _ _ _ h;have hp:ps.length≤N.length:=by have:=congrArg List.length S.pre;rw[List.length_take] at this;omega
  rw[vB N vs (by omega)] at h2;exact h2
@[simp ↓] theorem qk3 i K D ts tb Dn σ H:qhN i K D ts tb Dn σ H=tb (qbs i K D ts Dn) Dn σ H:=rfl
theorem Hr:bootBuiltins "ValueError" = some (.type "ValueError"):=by decide+kernel
section
variable {K:W.Frag} {own:List Str} {caps:List Nat} {g:TG} {tt:TT} {te:TE} {D l1 l2 c:Addr} {σ:St} {H:Hp} {Q:Hp→Prop}
theorem qdu {d:qaH g tt te Q} (xs ys:List V) (Pv:Nat→St→Hp→Prop) (h0:Pv 0 (stC own caps σ) H) (he:xs.length=ys.length) (hl:∀i σ H,i≤xs.length→Pv i σ H→(bC K H l1 xs∧bC K H l2 ys)∧Cau H c)
    (hs:∀i x y t σ H,xs[i]? = some x→ys[i]? = some y→H t=none→Pv i σ H→Cy g tt te D (Pv (i+1)) (.ref t) σ (upd H t (.tup [x,y]))) (hd:∀σ H,Pv xs.length σ H→Q H):tCm own caps (qds c K l1 l2) g tt te Q d D σ H:=by
  refine⟨fun i m σ H=>m=xs.length - i∧i≤xs.length∧Pv i σ H,⟨xs.length,by simp,Nat.zero_le _,h0⟩,?_⟩;rintro i m σ H ⟨rfl,hi,p⟩;obtain⟨⟨q1,q2⟩,ca⟩:=hl i σ H hi p
  by_cases hlt:i<xs.length
  ·have hlt2:i<ys.length:=he▸hlt;refine .inr ⟨⟨xs,ys,xs[i],ys[i],q1,q2,by simp[hlt],by simp[hlt2]⟩,Pv (i+1),fun σ' H' p'=>⟨xs.length - (i+1),by omega,rfl,hlt,p'⟩,fun x H' y=>?_⟩;obtain⟨t,u,v,rfl,ht,rfl,e1,e2⟩:=y;exact hs i u v t σ H (e1 xs q1) (e2 ys q2) ht p
  · have e:i=xs.length:=by omega
    subst e;exact .inl ⟨⟨⟨xs,ys,q1,q2,.inl (Nat.le_refl _)⟩,ca⟩,hd σ H p⟩
end
section
variable {X:Cx} {K:W.Frag} {C D:Addr} {b:Bool}
def qhR (i:Nat) (C:Addr) (b:Bool):TE:=fun σ H Q=>getSt σ i fun x=>isRef x fun p=>H p=some (qY p C)∧Q (.bl b) H
@[simp ↓] theorem qk4 i C b σ H Q:qhR i C b σ H Q=getSt σ i fun x=>isRef x fun p=>H p=some (qY p C)∧Q (.bl b) H:=rfl
theorem cZ {i:Nat} {v:V} {e c:Expr} {p pos:Pos} (hK:X.K=K) (hg:Gl X "isinstance") (hm:X.mg "isinstance" = none) (L:wz K C) (hk:gw K C v=some b) (ha:PA X [e,c] (iW (fVar i) (iW (tC v) xQ)))
    (hs:starEach [e,c] X.env=(false,eval e X.env)::starEach [c] X.env:=by rfl) (hpl:(backTo pos (starEach [c] X.env)).any (·.1)=false:=by rfl) :
    PE X (.Call (.Name "isinstance" p) [e,c] [] pos) (qhR i C b):=
  PE.mono (aV (qhQ hK) hg hm boot_isinstance ha (by decide) (by decide) hs hpl) fun {σ H Q} h=>getSt.imp (fun x h1=>by
    obtain⟨q,rfl,h2,h3⟩:=isRef.out h1;exact⟨C,b,h2,L,hk,h3⟩) h
end
inductive Lf:V→PyData→Prop
  | non:Lf .non .none
  | bl (b):Lf (.bl b) (.bool b)
  | int (i):Lf (.int i) (.int i)
  | str (x):Lf (.str x) (.str x)
inductive Nv:List (Str×V)→List (PyData×PyData)→Prop
  | nil:Nv [] []
  | cons {x v d ks kvs}:Lf v d→Nv ks kvs→Nv ((x,v)::ks) ((.str x,d)::kvs)
section
variable {X:Cx} {p_:List (Addr×Obj)} {σ:St} {H:Hp} {s:Shared}
theorem Lf.reads {v:V} {d:PyData} {u:Value} {h:Heap} (l:Lf v d) (r:RelV v u):Reads h u d []:=by
  cases l with
  | non=>cases r;exact .none
  | bl b=>cases r;exact .bool b
  | int i=>obtain⟨t,rfl⟩:=r;exact .int i t
  | str x=>obtain⟨t,rfl⟩:=r;exact .str x t
theorem R8 {P:Program} {w:World} {h:Heap}:∀{ks:List (Str×V)} {kvs:List (PyData×PyData)} {vs:List (Key×Value)} {es:List DictEntry},Nv ks kvs→KV (ks.map fun e=>((Sum.inr e.1:Key),e.2)) vs→Pairs (bR P w) es vs→
    ReadsAll h (es.map (·.key)) (kvs.map (·.1)) []∧ReadsAll h (es.map (·.val)) (kvs.map (·.2)) []
  | _,_,_,_,.nil,kv,ps=>by
    cases kv;cases ps;exact⟨.nil,.nil⟩
  | _,_,_,_,.cons l ls,kv,ps=>by
    cases kv with
    | cons r rs=>
      cases ps with
      | cons h1 h2 h3=>
        obtain⟨i1,i2⟩:=R8 (h:=h) ls rs h3;obtain⟨r1,r2⟩:=r;simp only at r1 r2;rw[← r1] at h1;rw[Ua] at h1
        rcases dI h1 with⟨i,t,e,_⟩ | ⟨x,t,e,ek⟩
        ·cases e
        ·cases e;simp only[List.map_cons];rw[ek,h2];exact⟨.cons (.str _ t) i1,.cons (l.reads r2) i2⟩
theorem R9 {P:Program} {w:World} {h:Heap} {a:Addr} {ks:List (Str×V)} {kvs:List (PyData×PyData)} (ok:xT P w H h) (l:Nv ks kvs) (e:H a=some (.dK (ks.map fun e=>((Sum.inr e.1:Key),e.2)))):Reads h (.ref a) (.dict kvs) [a]∧(a == sysModules)=false:=by
  obtain⟨_,hd,vs,kv,o,es,ep,h1,h2,h3,_,h5,_⟩:=Rv ok e;refine⟨?_,hd⟩;obtain⟨r1,r2⟩:=R8 (h:=h) l kv h5;exact Reads.dict (as:=[]) (bs:=[]) h1 h2.1 h3 r1 r2
end
structure vo (k n:Nat) (d:PyData):Prop where
  sh:d.showable=true
  dp:d.depth≤k
  ln:d.shown.length≤n
theorem vo.mono {k n k' n':Nat} {d:PyData} (h:vo k n d) (hk:k≤k') (hn:n≤n'):vo k' n' d:=⟨h.sh,Nat.le_trans h.dp hk,Nat.le_trans h.ln hn⟩
theorem W2 {k n:Nat}:∀{ds:List PyData},(∀c∈ds,vo k n c)→PyData.showableAll ds=true∧PyData.depthAll ds≤k∧(PyData.shownAll ds).length=ds.length∧((PyData.shownAll ds).map (·.length)).sum≤n * ds.length
  | [],_=>by simp[PyData.showableAll,PyData.depthAll,PyData.shownAll]
  | c::ds,h=>by
    obtain⟨h1,h2,h3⟩:=h c List.mem_cons_self;obtain⟨i1,i2,i3,i4⟩:=W2 fun e he=>h e (List.mem_cons_of_mem _ he);simp only[PyData.showableAll,PyData.depthAll,PyData.shownAll,h1,i1,List.length_cons,List.map_cons,List.sum_cons,i3];refine⟨rfl,Nat.max_le.mpr ⟨h2,i2⟩,trivial,?_⟩;rw[Nat.mul_succ];omega
theorem vo.list {k n m:Nat} {ds:List PyData} (h:∀c∈ds,vo k n c) (hl:n * ds.length+2 * ds.length+3≤m):vo (k+1) m (.list ds):=by
  obtain⟨h1,h2,h3,h4⟩:=W2 h;have:=listText_len_le (PyData.shownAll ds);refine⟨by simpa [PyData.showable] using h1,by simp only[PyData.depth];omega,?_⟩;simp only[PyData.shown];omega
theorem vo.str {x:Str} {n:Nat} (hx:∀c∈x.cps.toList,c<16 ^ 8) (hn:10 * x.length+2≤n):vo 0 n (.str x):=by
  refine⟨rfl,Nat.le_of_eq rfl,?_⟩;simp only[PyData.shown];exact Nat.le_trans (StrLaws.reprText_len x hx) hn
theorem bV.or {P:Program} {w:World} {K:W.Frag} {mg:Str→Option Value} {base:Heap} {CX:X7} {k:Nat} {f:Addr} {fd:FuncData} {ps:List Str} {sp tO:Sp} (F:bV P w K mg base CX k f fd ps sp) (F':bV P w K mg base CX k f fd ps tO) :
    bV P w K mg base CX k f fd ps (fun vs H Q E=>sp vs H Q E∨tO vs H Q E):=
  ⟨fun vs H Q E h=>h.elim (F.len vs H Q E) (F'.len vs H Q E),fun A outer s H args us vs Q E hr he hb hv h=>h.elim (F.run A outer s H args us vs Q E hr he hb hv) (F'.run A outer s H args us vs Q E hr he hb hv)⟩
end L2
namespace L2
open PySem PySem.Spec
section
variable {σ:St} {H:Hp} {p:Addr}
def GD (p:Addr) (t:TE) (σ:St) (H:Hp) (d:PyData):Prop:=∀(H1:Hp) (Q:VK),(∃o,H p=some o)→Same H H1→(∀v H2,Same H1 H2→cC (hid p H2) d v→Q v H2)→t σ H1 Q
def GDs (p:Addr) (t:TA) (σ:St) (H:Hp) (ds:List PyData):Prop:=∀(H1:Hp) (Q:List V→Hp→Prop),(∃o,H p=some o)→Same H H1→(∀vs H2,Same H1 H2→aX (hid p H2) ds vs→Q vs H2)→t σ H1 Q
theorem wA {H1:Hp} {b:Addr} (h:∃o,H p=some o) (s:Same H H1) (hb:H1 b=none):b≠p:=fun z=>by
  obtain⟨o,e⟩:=h;have:=s _ _ e;rw[← z,hb] at this;cases this
theorem zR:GDs p xQ σ H []:=fun H1 Q _ _ q=>q [] H1 (Same.refl _) (by simp[aX])
theorem yE {ta:TE} {tr:TA} {d:PyData} {ds:List PyData} (h1:GD p ta σ H d) (h2:GDs p tr σ H ds):GDs p (iW ta tr) σ H (d::ds):=fun H1 Q hp s q=>
  h1 H1 _ hp s fun v H2 s2 hv=>h2 H2 _ hp (s.trans s2) fun vs H3 s3 hvs=>q _ H3 (s2.trans s3) (by simp only[aX];exact⟨v,vs,rfl,cC.same (dM s3) d v hv,hvs⟩)
theorem JD {t:TA} {ds:List PyData} (h:GDs p t σ H ds) (hl:ds.length≤sizeLine):GD p (X6 t) σ H (.list ds):=fun H1 Q hp s q=>
  h H1 _ hp s fun vs H2 s2 hv=>⟨by rw[← hv.length];exact hl,fun b hb=>q _ _ (s2.trans (au hb)) (by simp only[cC];exact⟨b,vs,rfl,yx (wA hp (s.trans s2) hb) ak,aX.same (dM (au hb)) ds vs hv⟩)⟩
theorem qfZ {t:TA} {ds:List PyData} (h:GDs p t σ H ds) (hl:ds.length≤sizeLine):GD p (X5 t) σ H (.tuple ds):=fun H1 Q hp s q=>
  h H1 _ hp s fun vs H2 s2 hv=>⟨by rw[← hv.length];exact hl,fun b hb=>q _ _ (s2.trans (au hb)) (by simp only[cC];exact⟨b,vs,rfl,yx (wA hp (s.trans s2) hb) ak,aX.same (dM (au hb)) ds vs hv⟩)⟩
theorem Vm:GD p (tC .non) σ H .none:=fun H1 Q _ s q=>q _ H1 (Same.refl _) (by simp[cC])
theorem kZ {i:Int}:GD p (tC (.int i)) σ H (.int i):=fun H1 Q _ s q=>q _ H1 (Same.refl _) (by simp[cC])
theorem W3 {i:Bool}:GD p (tC (.bl i)) σ H (.bool i):=fun H1 Q _ s q=>q _ H1 (Same.refl _) (by simp[cC])
theorem Qi {i:Str}:GD p (tC (.str i)) σ H (.str i):=fun H1 Q _ s q=>q _ H1 (Same.refl _) (by simp[cC])
theorem getSt.of:∀{σ:St} {i:Nat} {v:V} {R:V→Prop},σ[i]? = some (some v)→R v→getSt σ i R
  | [],_,_,_,h,_=>by simp at h
  | o::_,0,v,R,h,r=>by simp at h;subst h;exact r
  | _::σ,n+1,v,R,h,r=>getSt.of (σ:=σ) (i:=n) (by simpa using h) r
theorem qbD {i:Nat} {d:PyData} {v:V} (h:σ[i]? = some (some v)) (hv:cC (hid p H) d v):GD p (fVar i) σ H d:=fun H1 Q _ s q=>getSt.of h (q v H1 (Same.refl _) (cC.same (dM s) d v hv))
variable {φ:PyData→Prop}
structure big (t:TE) (σ:St) (H:Hp) (Q:VK):Prop where
  out:t σ H Q
theorem qf0 {X:Cx} {e:Expr} {t:TE} (h:PE X e t):PE X e (big t):=PE.mono h fun h=>h.out
end
end L2
namespace L2
open PySem PySem.Spec PyProof.Rows
section
variable {X:Cx} {K:W.Frag}
end
section
variable {X:Cx} {K:W.Frag}
end
def qhS:Key→PyData
  | .inl i=>.int i
  | .inr x=>.str x
inductive LfT:List (List Key×V)→List (PyData×PyData)→Prop
  | nil:LfT [] []
  | cons {k v d ks kvs}:Lf v d→LfT ks kvs→LfT ((k,v)::ks) ((.tuple (k.map qhS),d)::kvs)
def qhT (H:Hp) (a:Addr) (kvs:List (PyData×PyData)):Prop:=(∃ks,Nv ks kvs∧H a=some (.dK (ks.map fun e=>((Sum.inr e.1:Key),e.2))))∨∃ks,LfT ks kvs∧H a=some (.dT ks)
theorem Ny {h:Heap}:∀{ks:List Key} {us:List Value},Vals (ks.map kV) us→ReadsAll h us (ks.map qhS) []
  | [],_,r=>by rw[List.map_nil] at r;cases r;exact .nil
  | k::ks,_,r=>by
    rw[List.map_cons] at r;cases r with
    | cons r1 r2=>
      refine ReadsAll.cons (as:=[]) (bs:=[]) ?_ (Ny r2);cases k with
      | inl i=>obtain⟨t,rfl⟩:=r1;exact .int i t
      | inr x=>obtain⟨t,rfl⟩:=r1;exact .str x t
theorem Nz {P:Program} {w:World} {H:Hp} {h:Heap} (ok:xT P w H h):∀{ks:List (List Key×V)} {kvs:List (PyData×PyData)} {xs:List (List Key×Addr×Value)},LfT ks kvs→KT H ks xs→
    ReadsAll h ((xs.map (entryOfKey (tupleKind (bR P w)))).map (·.key)) (kvs.map (·.1)) []∧ReadsAll h ((xs.map (entryOfKey (tupleKind (bR P w)))).map (·.val)) (kvs.map (·.2)) []
  | _,_,_,.nil,kt=>by
    cases kt;exact⟨.nil,.nil⟩
  | _,_,_,.cons (k:=k) l ls,kt=>by
    cases kt with
    | @cons _ q _ qs r rs=>
      obtain⟨i1,i2⟩:=Nz ok ls rs;obtain⟨r1,r2,r3⟩:=r;simp only at r1 r2 r3;obtain⟨_,its,rv,o,h1,h2,n,h3⟩:=(show dj P w H h _ (.tup _) from ok _ _ r2);simp only[List.map_cons];refine⟨ReadsAll.cons (as:=[]) (bs:=[]) ?_ i1,ReadsAll.cons (as:=[]) (bs:=[]) ?_ i2⟩
      ·exact Reads.tuple h1 h2 h3 (by simpa using Ny rv)
      ·exact l.reads r3
theorem JF {P:Program} {w:World} {H:Hp} {h:Heap} {a:Addr} {kvs:List (PyData×PyData)} (ok:xT P w H h) (l:qhT H a kvs):Reads h (.ref a) (.dict kvs) [a]∧(a == sysModules)=false:=by
  rcases l with⟨ks,h1,h2⟩ | ⟨ks,h1,h2⟩
  ·exact R9 ok h1 h2
  ·obtain⟨_,hd,xs,kt,o,es,ep,q1,q2,q3,q4,q5,q6⟩:=qd8 ok h2;obtain⟨r1,r2⟩:=Nz ok h1 kt;rw[← q4] at r1 r2;exact⟨Reads.dict (as:=[]) (bs:=[]) q1 q2.1 q3 r1 r2,hd⟩
mutual
def iC (H:Hp):PyData→V→Prop
  | .none,v=>v = .non
  | .bool b,v=>v = .bl b
  | .int i,v=>v = .int i
  | .str x,v=>v = .str x
  | .list ds,v=>∃a xs,v = .ref a∧H a=some (.lst xs)∧cJ H ds xs
  | .tuple ds,v=>∃a xs,v = .ref a∧H a=some (.tup xs)∧cJ H ds xs
  | .dict kvs,v=>∃a,v = .ref a∧qhT H a kvs
def cJ (H:Hp):List PyData→List V→Prop
  | [],vs=>vs=[]
  | d::ds,vs=>∃v r,vs=v::r∧iC H d v∧cJ H ds r
end
theorem cJ.length {H:Hp}:∀{ds:List PyData} {xs:List V},cJ H ds xs→ds.length=xs.length
  | [],_,h=>by simp only[cJ] at h;subst h;rfl
  | d::ds,_,h=>by
    simp only[cJ] at h;obtain⟨v,r,rfl,h1,h2⟩:=h;simp[cJ.length h2]
section
variable {X:Cx} {p_:List (Addr×Obj)} {σ:St} {H:Hp} {s:Shared}
mutual
theorem iC.reads (I:Inv X p_ σ H s):∀(d:PyData) (v:V) (u:Value),iC H d v→RelV v u→∃as,Reads s.heap u d as
  | .none,v,u,h,r=>by
    simp only[iC] at h;subst h;cases r;exact⟨_,.none⟩
  | .bool b,v,u,h,r=>by
    simp only[iC] at h;subst h;cases r;exact⟨_,.bool b⟩
  | .int i,v,u,h,r=>by
    simp only[iC] at h;subst h;obtain⟨t,rfl⟩:=r;exact⟨_,.int i t⟩
  | .str x,v,u,h,r=>by
    simp only[iC] at h;subst h;obtain⟨t,rfl⟩:=r;exact⟨_,.str x t⟩
  | .list ds,v,u,h,r=>by
    simp only[iC] at h;obtain⟨a,xs,rfl,hq,hs⟩:=h;cases r;obtain⟨its,rv,pl,hz⟩:=I.list (bC.of hq);obtain⟨o,e,c,n,dt⟩:=pl.isList;obtain⟨as,ra⟩:=cJ.reads I ds xs its hs rv;exact⟨_,.list e c dt (by simpa using ra)⟩
  | .tuple ds,v,u,h,r=>by
    simp only[iC] at h;obtain⟨a,xs,rfl,hq,hs⟩:=h;cases r;obtain⟨its,rv,pl,hz⟩:=I.tuple (gq.of hq);obtain⟨o,e,c,n,dt⟩:=pl;obtain⟨as,ra⟩:=cJ.reads I ds xs its hs rv;exact⟨_,.tuple e c dt (by simpa using ra)⟩
  | .dict kvs,v,u,h,r=>by
    simp only[iC] at h;obtain⟨a,rfl,h1⟩:=h;cases r;exact⟨_,(JF I.hok h1).1⟩
theorem cJ.reads (I:Inv X p_ σ H s):∀(ds:List PyData) (vs:List V) (us:List Value),cJ H ds vs→Vals vs us→∃as,ReadsAll s.heap us ds as
  | [],vs,us,h,r=>by
    simp only[cJ] at h;subst h;cases r;exact⟨_,.nil⟩
  | d::ds,vs,us,h,r=>by
    simp only[cJ] at h;obtain⟨v,vr,rfl,h1,h2⟩:=h;cases r with
    | cons r1 r2=>
      obtain⟨as,ra⟩:=iC.reads I d v _ h1 r1;obtain⟨bs,rb⟩:=cJ.reads I ds vr _ h2 r2;exact⟨_,.cons ra rb⟩
end
mutual
theorem iC.NK (I:Inv X p_ σ H s):∀(d:PyData) (v:V) (u:Value),iC H d v→RelV v u→d.showable=true→d.shown.length≤sizeLine→
    ∃bs,ReadAtMost s.heap d.depth bs∧ReprK X.prog X.w bs s.heap d.depth u d.shown
  | .none,v,u,h,r,hs,hz=>by
    obtain⟨as,ra⟩:=iC.reads I _ v u h r;exact ReprK.of_reads ra hs (PyData.noDict_hsm rfl) hz
  | .bool b,v,u,h,r,hs,hz=>by
    obtain⟨as,ra⟩:=iC.reads I _ v u h r;exact ReprK.of_reads ra hs (PyData.noDict_hsm rfl) hz
  | .int i,v,u,h,r,hs,hz=>by
    obtain⟨as,ra⟩:=iC.reads I _ v u h r;exact ReprK.of_reads ra hs (PyData.noDict_hsm rfl) hz
  | .str x,v,u,h,r,hs,hz=>by
    obtain⟨as,ra⟩:=iC.reads I _ v u h r;exact ReprK.of_reads ra hs (PyData.noDict_hsm rfl) hz
  | .list ds,v,u,h,r,hs,hz=>by
    obtain⟨as,ra⟩:=iC.reads I (.list ds) v u h r;simp only[iC] at h;obtain⟨a,xs,rfl,hq,hall⟩:=h;cases r;obtain⟨its,rv,pl,hzz⟩:=I.list (bC.of hq);obtain⟨o,e,c,n,dt⟩:=pl.isList;have hzL:(listText (PyData.shownAll ds)).length≤sizeLine:=by simpa only[PyData.shown] using hz
    obtain⟨bs,mb,kb⟩:=cJ.NK I ds xs its hall rv (by simpa [PyData.showable] using hs) (fun t ht=>Nat.le_trans (listText_mem_le ht) hzL);have nab:a∉bs:=not_mem_of_deeper ra (by simp only[PyData.depth];exact Nat.lt_succ_self _) mb;refine⟨a::bs,ReadAtMost.cons ra (by simp only[PyData.depth];omega) mb,?_⟩;simp only[PyData.depth,PyData.shown];cases its with
    | nil=>
      cases rv;have e2:ds=[]:=List.eq_nil_of_length_eq_zero hall.length;subst e2;simp only[PyData.shownAll,listText_nil];exact ReprK.listEmpty e c dt
    | cons x l=>exact ReprK.list e c dt nab (by simpa using kb.length_eq) (fun i y z=>kb.item i y (by simpa using z))
  | .tuple ds,v,u,h,r,hs,hz=>by
    obtain⟨as,ra⟩:=iC.reads I (.tuple ds) v u h r;simp only[iC] at h;obtain⟨a,xs,rfl,hq,hall⟩:=h;cases r;obtain⟨its,rv,pl,hzz⟩:=I.tuple (gq.of hq);obtain⟨o,e,c,n,dt⟩:=pl;have hzL:(tupleText (PyData.shownAll ds)).length≤sizeLine:=by simpa only[PyData.shown] using hz
    obtain⟨bs,mb,kb⟩:=cJ.NK I ds xs its hall rv (by simpa [PyData.showable] using hs) (fun t ht=>Nat.le_trans (tupleText_mem_le ht) hzL);have nab:a∉bs:=not_mem_of_deeper ra (by simp only[PyData.depth];exact Nat.lt_succ_self _) mb;refine⟨a::bs,ReadAtMost.cons ra (by simp only[PyData.depth];omega) mb,?_⟩;simp only[PyData.depth,PyData.shown];exact ReprK.tuple e c dt nab (by simpa using kb)
  | .dict kvs,v,u,h,r,hs,hz=>by
    simp only[iC] at h;obtain⟨a,rfl,h1⟩:=h;cases r;obtain⟨ra,hd⟩:=JF I.hok h1;refine ReprK.of_reads ra hs (fun _ hm=>?_) hz;rw[List.mem_singleton] at hm;rw[← hm] at hd;simp at hd
theorem cJ.NK (I:Inv X p_ σ H s):∀(ds:List PyData) (vs:List V) (us:List Value),cJ H ds vs→Vals vs us→PyData.showableAll ds=true→(∀t∈PyData.shownAll ds,t.length≤sizeLine)→
    ∃bs,ReadAtMost s.heap (PyData.depthAll ds) bs∧ReprAllK X.prog X.w bs s.heap (PyData.depthAll ds) us (PyData.shownAll ds)
  | [],vs,us,h,r,_,_=>by
    simp only[cJ] at h;subst h;cases r;exact⟨[],(fun _ h=>nomatch h),.nil⟩
  | d::ds,vs,us,h,r,hs,hz=>by
    simp only[cJ] at h;obtain⟨v,vr,rfl,h1,h2⟩:=h;simp only[PyData.showableAll,Bool.and_eq_true] at hs;simp only[PyData.shownAll,List.mem_cons,forall_eq_or_imp] at hz;cases r with
    | cons r1 r2=>
      obtain⟨b1,m1,k1⟩:=iC.NK I d v _ h1 r1 hs.1 hz.1;obtain⟨b2,m2,k2⟩:=cJ.NK I ds vr _ h2 r2 hs.2 hz.2;refine⟨b1++b2,(m1.mono ?_).append (m2.mono ?_),?_⟩
      ·simp only[PyData.depthAll];exact Nat.le_max_left ..
      ·simp only[PyData.depthAll];exact Nat.le_max_right ..
      · simp only[PyData.shownAll];refine .cons ((k1.more fun b hb=>List.mem_append_left _ hb).level_le ?_) (k2.more_le (fun b hb=>List.mem_append_right _ hb) ?_)
        ·simp only[PyData.depthAll];exact Nat.le_max_left ..
        ·simp only[PyData.depthAll];exact Nat.le_max_right ..
end
def qbE:List V→Hp→VK→Prop:=fun xs H Q=>ar1 xs fun v=>∃ds:List PyData,iC H (.list ds) v∧(PyData.list ds).showable=true∧(PyData.list ds).depth≤32∧(PyData.list ds).shown.length≤sizeLine∧Q (.str (PyData.list ds).shown) H
@[simp ↓] theorem qhU xs H Q:qbE xs H Q=(ar1 xs fun v=>∃ds:List PyData,iC H (.list ds) v∧(PyData.list ds).showable=true∧(PyData.list ds).depth≤32∧(PyData.list ds).shown.length≤sizeLine∧Q (.str (PyData.list ds).shown) H):=rfl
theorem Gj (hg:X.A.guards=some []) (hu:X.A.units+64<cLine):cN X (.builtin "repr") qbE:=by
  intro p_ s σ H xs us Q I r h;obtain⟨v,rfl,ds,hi,hs,hd,hz,q⟩:=ar1.out h;obtain⟨u,rfl,ru⟩:=r.one;have hi0:=hi;simp only[iC] at hi;obtain⟨a,xs,rfl,hq,hall⟩:=hi;cases ru;obtain⟨its,rv,pl,hzz⟩:=I.list (bC.of hq);obtain⟨o,e,c,n,dt⟩:=pl.isList;have hzL:(listText (PyData.shownAll ds)).length≤sizeLine:=by simpa only[PyData.shown] using hz
  obtain⟨as,ra⟩:=iC.reads I (.list ds) (.ref a) (.ref a) hi0 rfl;obtain⟨bs,mb,kb⟩:=cJ.NK I ds xs its hall rv (by simpa [PyData.showable] using hs) (fun t ht=>Nat.le_trans (listText_mem_le ht) hzL);have nab:a∉bs:=not_mem_of_deeper ra (by simp only[PyData.depth];exact Nat.lt_succ_self _) mb;simp only[PyData.depth] at hd;simp only[PyData.shown] at q;refine call_repr_slot (by omega) ⟨o,e,c⟩ F.slot_list_repr.toG ?_;cases its with
  | nil=>
    cases rv;have e2:ds=[]:=List.eq_nil_of_length_eq_zero hall.length;subst e2;simp only[PyData.shownAll,listText_nil] at q;exact call_list_repr_empty ⟨o,e,c⟩ e dt ⟨_,_,rfl,.str _,H,I.tok _,⟨_,rfl⟩,q⟩
  | cons x l=>
    refine call_list_reprK e c dt nab (by simpa using kb.length_eq) (fun i y z=>kb.item i y (by simpa using z)) hg (fun b _=>Clear.nil b) ?_ (fun _ _ z=>z) (fun h' u tk hk=>⟨_,_,rfl,.str _,H,I.kept (t':=tk) hk,⟨u,rfl⟩,q⟩) hzL;show X.A.units+1+_<_;omega
end
def qf1 (K:W.Frag):List V→Hp→VK→Prop:=fun xs H Q=>ar2 xs fun x y=>isRef x fun a=>isRef y fun p=>∃(C:Addr) (Ds:List Addr) (b:Bool),H a=some (qY a C)∧wz K C∧H p=some (.tup (Ds.map V.ref))∧W.kitAny K (.ref C) (Ds.map Value.ref)=some b∧Q (.bl b) H
theorem NP:∀{Ds:List Addr} {us:List Value},Vals (Ds.map V.ref) us→us=Ds.map Value.ref
  | [],_,h=>by cases h;rfl
  | D::Ds,_,h=>by
    cases h with
    | cons a b=>
      rw[NP b];obtain rfl:=(show _=Value.ref D from a);rfl
theorem qf2 {X:Cx} {K:W.Frag} (hK:X.K=K):cN X (.builtin "isinstance") (qf1 K):=by
  subst hK;intro p_ s σ H xs us Q I r h;obtain⟨v1,v2,rfl,h⟩:=ar2.out h;obtain⟨a,rfl,h⟩:=isRef.out h;obtain⟨p,rfl,C,Ds,b,e,⟨L,cd,hcd⟩,hp,hk,q⟩:=isRef.out h;obtain⟨u,v,rfl,r1,r2⟩:=r.two;obtain rfl:u=Value.ref a:=r1;obtain rfl:v=Value.ref p:=r2;obtain⟨ex,_⟩:=I.hok a _ e;obtain⟨_,its,rv,o,e1,e2,k,e3⟩:=(show dj X.prog X.w H s.heap p (.tup (Ds.map V.ref)) from I.hok p _ hp);obtain rfl:=NP rv;obtain⟨c,dd,dt,sl⟩:=o;replace e2:c = .type "tuple" :=e2;replace e3:dt = .seq (Ds.map Value.ref).toArray k:=e3;subst e2 e3;exact W.kia_tup (R4 hcd L) I.Ad ex.at e1 hk (fun z=>by cases z) fun tk=>⟨.bl b,H,I.kept (fun _ _ e=>e),rfl,q⟩
def qbF (i:Nat) (C:Addr) (Ds:List Addr) (b:Bool):TE:=fun σ H Q=>getSt σ i fun x=>isRef x fun a=>H a=some (qY a C)∧∀p,H p=none→Q (.bl b) (upd H p (.tup (Ds.map V.ref)))
@[simp ↓] theorem qhV i C Ds b σ H Q:qbF i C Ds b σ H Q=getSt σ i fun x=>isRef x fun a=>H a=some (qY a C)∧∀p,H p=none→Q (.bl b) (upd H p (.tup (Ds.map V.ref))):=rfl
theorem Dd {X:Cx} {K:W.Frag} {C:Addr} {Ds:List Addr} {b:Bool} {i:Nat} {t:TA} {e c:Expr} {p pos:Pos} (hK:X.K=K) (hg:Gl X "isinstance") (hm:X.mg "isinstance" = none) (L:wz K C) (hk:W.kitAny K (.ref C) (Ds.map Value.ref)=some b)
    (hl:Ds.length≤20) (ht:∀σ H Q,t σ H Q=Q (Ds.map V.ref) H) (ha:PA X [e,c] (iW (fVar i) (iW (X5 t) xQ)))
    (hs:starEach [e,c] X.env=(false,eval e X.env)::starEach [c] X.env:=by rfl) (hpl:(backTo pos (starEach [c] X.env)).any (·.1)=false:=by rfl) :
    PE X (.Call (.Name "isinstance" p) [e,c] [] pos) (qbF i C Ds b):=
  PE.mono (aV (qf2 hK) hg hm boot_isinstance ha (by decide) (by decide) hs hpl) fun {σ H Q} h=>getSt.imp (fun x h1=>by
    obtain⟨q,rfl,h2,h3⟩:=isRef.out h1;show X5 t σ H _;unfold X5;rw[ht];refine⟨by rw[List.length_map];exact Nat.le_trans hl (by decide),fun p hp=>?_⟩;exact⟨C,Ds,b,by rw[aM (aQ h2 hp)];exact h2,L,ak,hk,h3 p hp⟩) h
section
variable {X:Cx}
def yF:List TE→St→Hp→Str→(Str→Hp→Prop)→Prop
  | [],_,H,acc,Q=>Q acc H
  | t::r,σ,H,acc,Q=>t σ H fun x H1=>isStr x fun y=>y.length≤sizeLine∧(acc++y).length≤sizeLine∧yF r σ H1 (acc++y) Q
@[simp ↓] theorem qhW σ H acc Q:yF [] σ H acc Q=Q acc H:=rfl
@[simp ↓] theorem qhX t r σ H acc Q:yF (t::r) σ H acc Q=(t σ H fun x H1=>isStr x fun y=>y.length≤sizeLine∧(acc++y).length≤sizeLine∧yF r σ H1 (acc++y) Q):=rfl
def W5 (ts:List TE):TE:=fun σ H Q=>yF ts σ H Str.empty fun z H1=>z.length≤sizeLine∧Q (.str z) H1
@[simp ↓] theorem qgM ts σ H Q:W5 ts σ H Q=(yF ts σ H Str.empty fun z H1=>z.length≤sizeLine∧Q (.str z) H1):=rfl
def PF (X:Cx) (e:Expr) (t:TE):Prop:=∀(p_:List (Addr×Obj)) (s:Shared) (σ:St) (H:Hp) (Q:Str→Hp→Prop),Inv X p_ σ H s→(t σ H fun x H1=>isStr x fun y=>y.length≤sizeLine∧Q y H1)→
  wpAny (model X.prog X.w) X.A (eval e X.env) (fun v s1=>∃y tk H1,v = .str y tk∧Inv X p_ σ H1 s1∧Q y H1) X.xe s
theorem qbG {e:Expr} {t:TE} (h:PE X e t):PF X e t:=fun p_ s σ H Q I hq=>
  cU (h p_ s σ H _ I hq) fun v s1 ⟨x,H1,I1,r,q⟩=>by
    obtain⟨y,rfl,_,q2⟩:=isStr.out q;obtain⟨tk,rfl⟩:=r;exact⟨y,tk,H1,rfl,I1,q2⟩
inductive PFs (X:Cx):List Expr→List TE→Prop where
  | nil:PFs X [] []
  | cons {e:Expr} {es:List Expr} {t:TE} {ts:List TE}:PF X e t→PFs X es ts→PFs X (e::es) (t::ts)
theorem PFs.joins {es:List Expr} {ts:List TE} (h:PFs X es ts):∀(p_:List (Addr×Obj)) (s:Shared) (σ:St) (H:Hp) (acc:Str) (Q:Str→Hp→Prop) (R:Str→Shared→Prop),Inv X p_ σ H s→yF ts σ H acc Q→
    (∀out s1 H1,Inv X p_ σ H1 s1→Q out H1→R out s1)→Joins (model X.prog X.w) X.A X.xe (evalEach es X.env) acc R s:=by
  induction h with
  | nil=>exact fun p_ s σ H acc Q R I hq hR=>hR _ _ _ I hq
  | @cons e es t ts h hs ih=>
    intro p_ s σ H acc Q R I hq hR;show wpAny _ _ (eval e X.env) _ _ s;refine wpAny_mono (h p_ s σ H (fun y H1=>(acc++y).length≤sizeLine∧yF ts σ H1 (acc++y) Q) I hq) (fun v s1 ⟨y,tk,H1,e1,I1,hl,q⟩=>⟨y,tk,e1,hl,ih p_ s1 σ H1 _ Q R I1 q hR⟩) fun _ _ z=>z
theorem YQ {v₁ v₂:Expr} {rest:List Expr} {pos:Pos} {ts:List TE} (h:PFs X (v₁::v₂::rest) ts):PE X (.JoinedStr (v₁::v₂::rest) pos) (W5 ts):=by
  intro p_ s σ H Q I hq;refine wpAny_JoinedStr (h.joins p_ s σ H Str.empty _ _ I hq fun out s1 H1 I1 q=>?_);exact⟨q.1,.str out,H1,I1.tok _,⟨_,rfl⟩,q.2⟩
end
section
variable {X:Cx} {e:Expr} {es:List Expr} {te:TE} {t:TA}
structure PAq (X:Cx) (es:List Expr) (t:TA):Prop where
  out:PA X es t
theorem YS {env:Env} (h:∀a b,e≠.Starred a b):starEach (e::es) env=(false,eval e env)::starEach es env:=by
  cases e <;> first | rfl | exact absurd rfl (h _ _)
theorem Hs:PAq X [] xQ:=⟨aq⟩
theorem bT (ha:PE X e te) (hr:PAq X es t) (hn:∀a b,e≠.Starred a b:=by(intro _ _ h;cases h)):PAq X (e::es) (iW te t):=⟨aj ha hr.out (YS hn)⟩
end
structure PEq (X:Cx) (e:Expr) (te:TE):Prop where
  out:PE X e te
theorem Ht {X:Cx} {es:List Expr} {t:TA} {pos:Pos} (h:PAq X es t):PEq X (.List es pos) (X6 t):=⟨bA h.out⟩
structure PSq (X:Cx) (st:Stmt) (t:TS):Prop where
  out:PS X st t
structure YT (X:Cx) (st:List Stmt) (t:TS):Prop where
  out:K9 X st t
section
variable {X:Cx} {st:Stmt} {rest:List Stmt} {t u:TS} {e a b:Expr} {te ta tb:TE} {pos:Pos}
theorem vD (h1:PSq X st t) (h2:YT X rest u):YT X (st::rest) (qeQ t u):=⟨aC h1.out h2.out⟩
theorem Hu {i:Nat} {x:Str} {pos':Pos} (hN:X.N.Nodup) (hi:X.N[i]? = some x) (hx:Loc X.env.scope x) (he:PEq X e te) (hs:swapsWith e (some (.Name x pos')) pos.line X.env=pure false:=by rfl) (hf:X.fn x=true∨X.env.scope.names.lookup x=some .local:=by first | exact .inl rfl | exact .inr rfl | assumption) :
    PSq X (.Assign [.Name x pos'] e pos) (Z1 te (Ml i)):=⟨bx hN hi hx he.out hs hf⟩
theorem qbH {op:Operator} {r:R2} (ho:iU X (binaryOp op) r) (ha:PEq X a ta) (hb:PEq X b tb):PEq X (.BinOp a op b pos) (Ld r ta tb):=⟨bG ho ha.out hb.out⟩
theorem Hv (h:PEq X e te):PEq X e (big te):=⟨qf0 h.out⟩
end
end L2
namespace L2
open PySem PySem.Spec PySem.W PyProof.Rows
section
variable {prog:Program} {w:World} {A:Around} {E:Value→Shared→Prop} {K:W.Frag} {h:Heap} {g:Array GenState} {d:Drawn} {t:Nat} {os:OsState}
variable {nm q:Str} {C N:Addr} {bs bm:List Value} {hdct:Bool} {sn:List Str} {sub:List Value} {ab:Bool} {col:Option Bool} {dd:Option Addr} {k0 k1 k2 k3 k5:Option Value}
structure qk5 (K:W.Frag) (C:Addr):Prop where
  ga:findIn K (.ref C) "__getattribute__" = some (some (.builtin "BaseException.__getattribute__"))
  gn:findIn K (.ref C) "__getattr__" = some none
  mb:mroIn K C (.type "BaseException")=some true
  hd:hasDictIn K C=true
structure qk6 (K:W.Frag) (C PE:Addr):Prop where
  sa:findIn K (.ref C) "__setattr__" = some (some (.builtin "object.__setattr__"))
  mo:mroIn K C (.type "object")=some true
  cl:∃cd,clsIn K C=some cd∧cd.mro = .ref C::.ref PE::Al∧cd.hasDict=true
end
end L2
namespace L2
open PySem PySem.Spec PyProof.Rows
structure XMk (K:W.Frag) (C B f:Addr):Prop where
  ob:∃nm q N bs hdct sn sub ab col dd k0 k1 k2 k3 k5,K.lookup C=some (excClassObj nm q C N bs (.ref B::Al) hdct sn sub ab col dd k0 k1 k2 k3 k5 "ValueError.__new__")
  pe:wj K B
  pm:∃cd,W.clsIn K B=some cd∧cd.mro = .ref B::Al
  init:W.findIn K (.ref C) "__init__" = some (some (.ref f))
  fn:W.typeIn K (.ref f)=some (.type "function")
  kp:W.keepIn K (.ref C)=true
end L2
namespace L2
open PySem
theorem Df {K:W.Frag} {C:Addr}:W.kitOne K (.ref C) (.ref C)=some true:=by
  unfold W.kitOne;simp
theorem cG {K:W.Frag} {C D:Addr} {b:Bool} (ne:(C == D)=false) (i:W.isClsIn K D=true) (t:W.typeIn K (.ref D)=some (.type "type")) (s:W.subIn K (.ref C) (.ref D)=some b):W.kitOne K (.ref C) (.ref D)=some b:=by
  have i':(W.clsIn K D).isSome=true:=i;have ne':C≠D:=by simpa using ne
  unfold W.kitOne W.kitCls;rw[if_neg (by simpa using ne')];show(if _ then _ else _)=_
  rw[if_pos (by rw[i',t];rfl)];exact s
theorem Qj:W.kitMeta "ValueError" = true:=by decide+kernel
theorem Qk {K:W.Frag} {C:Addr} {T:String} {b:Bool} (m:W.kitMeta T=true) (s:W.subIn K (.ref C) (.type T)=some b):W.kitOne K (.ref C) (.type T)=some b:=by
  unfold W.kitOne W.kitCls;rw[if_neg (by simp)];show(if _ then _ else _)=_
  rw[if_pos m];exact s
theorem Hw {C D:Addr} (h:(C == D)=false):C≠D:=by simpa using h
end L2
namespace L2
open PySem PySem.Spec PyProof.Rows PySem.SeqAt
structure XC (K:W.Frag) (C B:Addr):Prop where
  cl:∃cd,W.clsIn K C=some cd∧cd.mro = .ref C::.ref B::Al∧cd.hasDict=true
  ty:W.typeIn K (.ref C)=some (.type "type")
  ga:W.findIn K (.ref C) "__getattribute__" = some (some (.builtin "BaseException.__getattribute__"))
  gn:W.findIn K (.ref C) "__getattr__" = some none
  gc:W.findIn K (.ref C) "__class__" = some (some (.builtin "object.__class__"))
  kp:W.keepIn K (.ref C)=true
section
variable {K:W.Frag} {C D B:Addr}
end
def ar3 (vs:List V) (R:V→V→V→Prop):Prop:=match vs with
  | [u,v,w]=>R u v w
  | _=>False
@[simp ↓] theorem qlR u v w R:ar3 [u,v,w] R=R u v w:=rfl
end L2
namespace L2
open PySem PySem.Spec PyProof.Rows
variable {X:Cx}
def qbI:R2:=fun x y H Q=>isStr x fun i=>isInt y fun k=>(0≤k∧k<2 ^ 60)∧i.length * k.toNat≤sizeLine∧∀z:Str,z.cps.toList=(List.replicate k.toNat i.cps.toList).flatten→Q (.str z) H
@[simp ↓] theorem qj3 x y H Q:qbI x y H Q=(isStr x fun i=>isInt y fun k=>(0≤k∧k<2 ^ 60)∧i.length * k.toNat≤sizeLine∧∀z:Str,z.cps.toList=(List.replicate k.toNat i.cps.toList).flatten→Q (.str z) H):=rfl
theorem Ez:∀(l:List (Array Nat)) (a:Array Nat),(l.foldl (·++·) a).toList=a.toList++(l.map Array.toList).flatten
  | [],a=>by simp
  | x::l,a=>by rw[List.foldl_cons,Ez l];simp
theorem qbJ:iU X (binaryOp .Mult) qbI:=by
  intro p_ s σ H x y v u Q I rx ry h;obtain⟨i,rfl,h0⟩:=isStr.out h;obtain⟨k,rfl,⟨hk0,hk1⟩,hz,q⟩:=isInt.out h0;obtain⟨t,rfl⟩:=rx;obtain⟨t',rfl⟩:=ry;have hlen:i.length=i.cps.toList.length:=by simp[Str.length]
  have hl:Builtin.Str.tooLong (i.length * k.toNat)=false:=by
    unfold Builtin.Str.tooLong;exact decide_eq_false (by omega)
  refine PySem.P.mul_str (by
    have h1:¬k < -(2 ^ 63:Int):=by omega
    have h2:¬k≥2 ^ 63:=by omega
    rw[decide_eq_false h1,decide_eq_false h2];rfl) (fun h1 h2=>?_) (fun h1 h2=>hl) ?_
  · have hk:(0:Int)<k:=by omega
    have hm:(i.length:Int) * k≤2 ^ 63 - 1:=by
      have e1:((i.length * k.toNat:Nat):Int)=(i.length:Int) * k:=by rw[Int.natCast_mul,Int.toNat_of_nonneg hk0]
      have e2:sizeLine≤2 ^ 60:=by rw[sizeLine_eq];decide
      rw[← e1];omega
    have:=(Int.le_ediv_iff_mul_le hk).mpr hm;omega
  · by_cases h1:k<1
    · have hk:k=0:=by omega
      subst hk;rw[if_pos (by decide)];exact⟨by decide,⟨.str Str.empty,H,I.tok _,⟨_,rfl⟩,q _ (by rfl)⟩⟩
    · rw[if_neg h1]
      by_cases h2:(k == 1 || i.length == 0)=true
      · rw[if_pos h2];refine⟨.str i,H,I,⟨_,rfl⟩,q _ ?_⟩
        rcases Bool.or_eq_true_iff.mp h2 with h3 | h3
        · have:k=1:=by simpa using h3
          subst this;simp
        ·have h4:i.cps.toList=[]:=List.eq_nil_of_length_eq_zero (by rw[← hlen];simpa using h3);rw[h4];simp
      · rw[if_neg h2];refine⟨?_,⟨.str _,H,I.tok _,⟨_,rfl⟩,q _ ?_⟩⟩
        · have e:∀z:Str,z.length=z.cps.toList.length:=fun z=>by simp[Str.length]
          rw[e,Ez];simp only[List.nil_append,List.map_replicate,List.length_flatten,List.sum_replicate_nat];rw[hlen] at hz;simpa [Nat.mul_comm] using hz
        ·rw[Ez];simp
@[simp ↓] theorem qk7 x y H Q:qhu x y H Q=(isRef x fun l=>isInt y fun k=>∃xs,H l=some (.lst xs)∧-(2 ^ 63)≤k∧k<2 ^ 63∧xs.length * k.toNat≤sizeLine∧∀p,H p=none→Q (.ref p) (upd H p (.lst (List.replicate k.toNat xs).flatten))):=rfl
theorem zT:iU X (binaryOp .Mult) qhu:=by
  refine qfi.mono fun {x y H Q} h=>?_;obtain⟨l,rfl,h1⟩:=isRef.out h;obtain⟨k,rfl,xs,h2⟩:=isInt.out h1;exact⟨l,k,xs,rfl,rfl,h2⟩
theorem wB {K:W.Frag} {C:Addr}:W.kitAny K (.ref C) (([]:List Addr).map Value.ref)=some false:=rfl
theorem gA {K:W.Frag} {C D:Addr} {Ds:List Addr} (h1:gw K C (.ref D)=some false) (h2:W.kitAny K (.ref C) (Ds.map Value.ref)=some false):W.kitAny K (.ref C) ((D::Ds).map Value.ref)=some false:=by
  have e1:W.kitOne K (.ref C) (.ref D)=some false:=h1;rw[List.map_cons];unfold W.kitAny;simp[e1,h2]
end L2
namespace L2
open PySem PySem.Spec
section
variable {σ:St} {H:Hp} {p:Addr}
variable {φ:PyData→Prop}
end
theorem qbK {n j:Nat} {d:Nat}:HT.Ik n d (some (j:Int))=min j n:=by
  simp[HT.Ik];intro h;omega
theorem qf3 {xs:List V} {j:Nat}:xY xs none (some (j:Int))=xs.take j:=by
  unfold xY;rw[qbK];simp[HT.Ik,List.take_eq_take_iff]
theorem qbL {xs:List V} {j:Nat}:xY xs (some (j:Int)) none=xs.drop j:=by
  unfold xY;rw[qbK];simp[HT.Ik];rw[List.take_of_length_le (by simp)]
  by_cases h:j≤xs.length
  ·rw[Nat.min_eq_left h]
  ·rw[Nat.min_eq_right (by omega),List.drop_of_length_le (Nat.le_refl _),List.drop_of_length_le (by omega)]
structure Ltr (n:Nat) (x:Str):Prop where
  cp:∀c∈x.cps.toList,c<16 ^ 8
  ln:x.length≤n
section
variable {σ:St} {H:Hp} {p:Addr} {K:W.Frag}
theorem W7 {vs:List V} {k:Int} {n:Nat} (h:vs.length=n) (h0:0≤k) (h1:k<n):∃v,v∈vs∧Il vs k=some v:=by
  obtain⟨v,hv⟩:∃v,vs[k.toNat]? = some v:=⟨_,List.getElem?_eq_getElem (show k.toNat<vs.length by omega)⟩;refine⟨v,List.mem_of_getElem? hv,?_⟩;rw[show k=(k.toNat:Int) by omega];exact bM hv
end
section
variable {σ:St} {H:Hp} {p:Addr} {K:W.Frag}
mutual
theorem cC.x {H:Hp}:∀(d:PyData) (v:V),cC H d v→iC H d v
  | .none,v,h=>by simp only[cC,iC] at h ⊢;exact h
  | .bool b,v,h=>by simp only[cC,iC] at h ⊢;exact h
  | .int i,v,h=>by simp only[cC,iC] at h ⊢;exact h
  | .str x,v,h=>by simp only[cC,iC] at h ⊢;exact h
  | .list ds,v,h=>by
    simp only[cC,iC] at h ⊢;obtain⟨a,xs,e,h1,h2⟩:=h;exact⟨a,xs,e,h1,aX.x ds xs h2⟩
  | .tuple ds,v,h=>by
    simp only[cC,iC] at h ⊢;obtain⟨a,xs,e,h1,h2⟩:=h;exact⟨a,xs,e,h1,aX.x ds xs h2⟩
  | .dict kvs,v,h=>by
    simp only[cC,iC] at h ⊢;obtain⟨rfl,a,e,h1⟩:=h;exact⟨a,e,.inl ⟨[],.nil,h1⟩⟩
theorem aX.x {H:Hp}:∀(ds:List PyData) (vs:List V),aX H ds vs→cJ H ds vs
  | [],vs,h=>by simp only[aX,cJ] at h ⊢;exact h
  | d::ds,vs,h=>by
    simp only[aX,cJ] at h ⊢;obtain⟨v,r,e,h1,h2⟩:=h;exact⟨v,r,e,cC.x d v h1,aX.x ds r h2⟩
end
theorem R_:GD p UJ σ H (.dict []):=fun H1 Q hp s q b hb=>q _ _ (au hb) (by simp only[cC];exact⟨trivial,b,rfl,yx (wA hp s hb) ak⟩)
theorem NQ {H:Hp}:∀{ds:List PyData} {xs:List V} (j:Nat),aX H ds xs→aX H (ds.take j) (xs.take j)
  | ds,xs,0,h=>by simp[aX]
  | [],xs,j+1,h=>by simp only[aX] at h;subst h;simp[aX]
  | d::ds,xs,j+1,h=>by
    simp only[aX] at h;obtain⟨v,r,rfl,h1,h2⟩:=h;simp only[List.take_succ_cons,aX];exact⟨v,_,rfl,h1,NQ j h2⟩
theorem NT {H:Hp}:∀{ds:List PyData} {xs:List V} (j:Nat),aX H ds xs→aX H (ds.drop j) (xs.drop j)
  | ds,xs,0,h=>by simpa using h
  | [],xs,j+1,h=>by simp only[aX] at h;subst h;simp[aX]
  | d::ds,xs,j+1,h=>by
    simp only[aX] at h;obtain⟨v,r,rfl,h1,h2⟩:=h;simp only[List.drop_succ_cons];exact NT j h2
theorem Vn {ta tb:TE} {ds es:List PyData} (h1:GD p ta σ H (.list ds)) (h2:GD p tb σ H (.list es)) (hl:ds.length+es.length≤sizeLine):GD p (Ld U6 ta tb) σ H (.list (ds++es)):=fun H1 Q hp s q=>
  h1 H1 _ hp s fun v H2 s2 hv=>h2 H2 _ hp (s.trans s2) fun u H3 s3 hu=>by
    have hv:=cC.same (dM s3) _ _ hv;simp only[cC] at hv hu;obtain⟨a,xs,rfl,a1,a2⟩:=hv;obtain⟨b,ys,rfl,b1,b2⟩:=hu;have l1:=a2.length;have l2:=b2.length;refine⟨xs,sy _ _ a1,ys,sy _ _ b1,by omega,fun c hc=>q _ _ (s2.trans (s3.trans (au hc))) ?_⟩;simp only[cC];exact⟨c,_,rfl,yx (wA hp (s.trans (s2.trans s3)) hc) ak,aX.same (dM (au hc)) _ _ (aX.append a2 b2)⟩
theorem qhY {t tj:TE} {ds:List PyData} {j:Nat} (h1:GD p t σ H (.list ds)) (h2:GD p tj σ H (.int j)):GD p (tSl (U_ K) t zL (Nj tj)) σ H (.list (ds.take j)):=fun H1 Q hp s q=>
  h1 H1 _ hp s fun v H2 s2 hv=>h2 H2 _ hp (s.trans s2) fun u H3 s3 hu=>by
    have hv:=cC.same (dM s3) _ _ hv;simp only[cC] at hv hu;subst hu;obtain⟨a,xs,rfl,a1,a2⟩:=hv;refine⟨xs,bC.of (sy _ _ a1),fun c hc=>q _ _ (s2.trans (s3.trans (au hc))) ?_⟩;rw[qf3];simp only[cC];exact⟨c,_,rfl,yx (wA hp (s.trans (s2.trans s3)) hc) ak,aX.same (dM (au hc)) _ _ (NQ j a2)⟩
theorem W9 {t tj:TE} {ds:List PyData} {j:Nat} (h1:GD p t σ H (.list ds)) (h2:GD p tj σ H (.int j)):GD p (tSl (U_ K) t (Nj tj) zL) σ H (.list (ds.drop j)):=fun H1 Q hp s q=>
  h1 H1 _ hp s fun v H2 s2 hv=>h2 H2 _ hp (s.trans s2) fun u H3 s3 hu=>by
    have hv:=cC.same (dM s3) _ _ hv;simp only[cC] at hv hu;subst hu;obtain⟨a,xs,rfl,a1,a2⟩:=hv;refine⟨xs,bC.of (sy _ _ a1),fun c hc=>q _ _ (s2.trans (s3.trans (au hc))) ?_⟩;rw[qbL];simp only[cC];exact⟨c,_,rfl,yx (wA hp (s.trans (s2.trans s3)) hc) ak,aX.same (dM (au hc)) _ _ (NT j a2)⟩
theorem qf4 {ta tb:TE} {i j:Int} {g:Int→Int→Int} (h1:GD p ta σ H (.int i)) (h2:GD p tb σ H (.int j)):GD p (Ld (U5 fun i j=>.int (g i j)) ta tb) σ H (.int (g i j)):=fun H1 Q hp s q=>
  h1 H1 _ hp s fun v H2 s2 hv=>h2 H2 _ hp (s.trans s2) fun u H3 s3 hu=>by
    simp only[cC] at hv hu;subst hv hu;exact q _ H3 (s2.trans s3) (by simp[cC])
theorem qbM {ta tb:TE} {i j:Int} (h1:GD p ta σ H (.int i)) (h2:GD p tb σ H (.int j)) (hc:Rg i j):GD p (Ld (fI Rg fun i j=>.int (i ^ j.toNat)) ta tb) σ H (.int (i ^ j.toNat)):=fun H1 Q hp s q=>
  h1 H1 _ hp s fun v H2 s2 hv=>h2 H2 _ hp (s.trans s2) fun u H3 s3 hu=>by
    simp only[cC] at hv hu;subst hv hu;exact⟨hc,q _ H3 (s2.trans s3) (by simp[cC])⟩
theorem Vo {ta:TE} {i:Int} (h1:GD p ta σ H (.int i)):GD p (tUn (fU fun i=>.int (-i)) ta) σ H (.int (-i)):=fun H1 Q hp s q=>
  h1 H1 _ hp s fun v H2 s2 hv=>by
    simp only[cC] at hv;subst hv;exact q _ H2 s2 (by simp[cC])
theorem qf5 {t:TE} {ds:List PyData} (h1:GD p t σ H (.list ds)):GD p (tCB (Gi K) (iW t xQ)) σ H (.int ds.length):=fun H1 Q hp s q=>
  h1 H1 _ hp s fun v H2 s2 hv=>by
    simp only[cC] at hv;obtain⟨a,xs,rfl,a1,a2⟩:=hv;refine⟨xs,.inl (bC.of (sy _ _ a1)),q _ _ s2 ?_⟩;rw[a2.length];simp[cC]
def JG (φ:PyData→Prop) (H:Hp) (vs:List V):Prop:=∀v∈vs,∃d,cC H d v∧φ d
theorem JG.same {φ:PyData→Prop} {H H':Hp} {vs:List V} (h:JG φ H vs) (s:Same H H'):JG φ H' vs:=fun v hv=>by
  obtain⟨d,h1,h2⟩:=h v hv;exact⟨d,cC.same s d v h1,h2⟩
theorem JG.app {φ:PyData→Prop} {H:Hp} {vs us:List V} (h:JG φ H vs) (k:JG φ H us):JG φ H (vs++us):=fun v hv=>(List.mem_append.mp hv).elim (h v) (k v)
def GT (φ:PyData→Prop) (p:Addr) (t:TE) (σ:St) (H:Hp):Prop:=∀(H1:Hp) (Q:VK),(∃o,H p=some o)→Same H H1→(∀v d H2,Same H1 H2→cC (hid p H2) d v→φ d→Q v H2)→t σ H1 Q
def GTs (φ:PyData→Prop) (p:Addr) (n:Nat) (t:TA) (σ:St) (H:Hp):Prop:=∀(H1:Hp) (Q:List V→Hp→Prop),(∃o,H p=some o)→Same H H1→(∀vs H2,Same H1 H2→vs.length=n→JG φ (hid p H2) vs→Q vs H2)→t σ H1 Q
variable {φ:PyData→Prop}
theorem Hx:GTs φ p 0 xQ σ H:=fun H1 Q _ _ q=>q [] H1 (Same.refl _) rfl fun v hv=>absurd hv (by simp)
theorem bU {ta:TE} {tr:TA} {n:Nat} (h1:GT φ p ta σ H) (h2:GTs φ p n tr σ H):GTs φ p (n+1) (iW ta tr) σ H:=fun H1 Q hp s q=>
  h1 H1 _ hp s fun v d H2 s2 hv hd=>h2 H2 _ hp (s.trans s2) fun vs H3 s3 hl hvs=>q _ H3 (s2.trans s3) (by simp[hl]) fun u hu=>by
    rcases List.mem_cons.mp hu with rfl | hu
    ·exact⟨d,cC.same (dM s3) d _ hv,hd⟩
    ·exact hvs u hu
theorem fZ {t:TE} {d:PyData} (h:GD p t σ H d) (hf:φ d):GT φ p t σ H:=fun H1 Q hp s q=>h H1 Q hp s fun v H2 s2 hv=>q v d H2 s2 hv hf
theorem qf6 {ta tb:TE} {x:Str} {k:Nat} (h1:GD p ta σ H (.str x)) (h2:GD p tb σ H (.int k)) (hk:k≤1000) (hl:x.length * k≤sizeLine) (hf:∀z:Str,z.cps.toList=(List.replicate k x.cps.toList).flatten→φ (.str z)):GT φ p (Ld qbI ta tb) σ H:=fun H1 Q hp s q=>
  h1 H1 _ hp s fun v H2 s2 hv=>h2 H2 _ hp (s.trans s2) fun u H3 s3 hu=>by
    simp only[cC] at hv hu;subst hv hu;exact⟨⟨by omega,by omega⟩,hl,fun z hz=>q _ _ H3 (s2.trans s3) (by simp[cC]) (hf z hz)⟩
theorem Dg {t:TA} {n:Nat} (h:GTs φ p n t σ H) (hp:∃o,H p=some o) (hl:n≤sizeLine) {Q:VK} (q:∀b vs H2,H b=none→Same H H2→vs.length=n→H2 b=some (.lst vs)→JG φ (hid p H2) vs→Q (.ref b) H2):big (X6 t) σ H Q:=
  ⟨h H _ hp (Same.refl _) fun vs H2 s2 hn hv=>⟨by rw[hn];exact hl,fun b hb=>q b vs _ (cg s2 hb) (s2.trans (au hb)) hn ak (hv.same (dM (au hb)))⟩⟩
end
end L2
namespace L2
open PySem PySem.Spec
section
variable {X:Cx}
def qeq (t:TE):TE:=fun σ H Q=>t σ H fun x H1=>isInt x fun i=>i.natAbs.log2<1920∧Q (.str (toString i)) H1
@[simp ↓] theorem qj4 t σ H Q:qeq t σ H Q=(t σ H fun x H1=>isInt x fun i=>i.natAbs.log2<1920∧Q (.str (toString i)) H1):=rfl
theorem qbN {e:Expr} {pos:Pos} {t:TE} (h:PE X e t):PF X (.FormattedValue e (-1) none pos) (qeq t):=fun p_ s σ H Q I hq=>
  wpAny_FormattedValue_plain (cU (h p_ s σ H _ I hq) fun v s1 ⟨x,H1,I1,r,q⟩=>by
    obtain⟨i,rfl,hi,q1⟩:=isInt.out q;obtain⟨y,e1,_,q2⟩:=isStr.out q1;cases e1;obtain⟨tk,rfl⟩:=r;exact wpAny_formatField_int hi ⟨_,_,H1,rfl,I1.tok _,q2⟩)
end
end L2
namespace PySem.SeqAt
open AutoSeq1 (wpAny_loadPart')
open MeetsSeq
theorem yG (b:Str) (u:Tok) (l:Addr) (es:Array DictEntry) (ep:Nat) (dd:Option Addr) (sl:Array (Option Value)) :
    Meets (Builtin.«str.__eq__» ⟨[.str b u,.ref l],[]⟩) (fun _ R s=>s.heap.get? l=some {cls:=.type "dict",dict:=dd,data:=.dict es ep,slots:=sl}∧R (.ok (.ret .notImplemented)) s):=
  .of_wp fun prog w A R s h=>by obtain⟨hp,g,d,tk,os⟩:=s;obtain⟨hl,h⟩:=h;wp_walk using wpAny_loadPart' hl,wpAny_load hl;exact⟨_,rfl,h⟩
end PySem.SeqAt
namespace L2
open PySem PySem.Spec PyProof.Rows
section
variable {X:Cx}
theorem Sd {prog:Program} {w:World} {A:Around} {E:Value→Shared→Prop} {s:Shared} {a:Addr} {z:Str} {t:Tok} {es:Array DictEntry} {ep:Nat} {dd:Option Addr} {sl:Array (Option Value)} {Q:Value→Shared→Prop}
    (ho:s.heap.get? a=some {cls:=.type "dict",dict:=dd,data:=.dict es ep,slots:=sl}) (hu:A.units<cLine) (h:Q (.bool false) s):wpAny (model prog w) A (compareOp .Eq (.ref a) (.str z t)) Q E s:=by
  have ty:s.TypeIs (.ref a) "dict" :=⟨_,ho,rfl⟩;refine PySem.SeqAt.rc_eq_decline_or (k:=false) ty (typeIs_str s z t) (by decide) F.sub_str_dict F.slot_dict_eq F.slot_str_eq_refl (fun Q' hq=>?_)
    (fun _ hq=>call_meets F.slot_str_eq_refl (typeIs_str s z t) F.entry_str_eq (F.args_str_eq_2 _ _) (PySem.SeqAt.yG z t a es ep dd sl) ⟨ho,hq⟩)
    (fun _ hq=>wpAny_of_eq (rfl:isSame (.ref a) (.str z t)=pure false) hq) (.inr hu) h
  refine wpAny_call_entry PySem.F.slot_dict_eq ty PySem.F.entry_dict_eq ?_ (PySem.F.args_dict_eq_2 _ _);show wpAny _ _ (Builtin.Dict.dictSlotArgs "__eq__" ⟨[.ref a,.str z t],[]⟩ >>= _) _ _ s;refine wpAny_bind ?_;unfold Builtin.Dict.dictSlotArgs;refine wpAny_bind (wpAny_notOrdered_dict ty ?_);show wpAny _ _ (pure (Value.ref a,Value.str z t)) _ _ s;refine wpAny_pure ?_;refine wpAny_bind (wpAny_isInstance (T:= "str") (typeIs_str s z t) PySem.F.sub_str_dict ?_);simp only[Bool.not_false,if_true];exact wpAny_bind (wpAny_rule (wpAny_pure ⟨_,rfl,hq⟩))
def qhZ:R2:=fun x y H Q=>isStr y fun z=>∃d,cC H d x∧(d.canLay0=true∨d = .dict [])∧PyData.strOk z=true∧d.depth≤64∧Q (.bl (PyData.eqv d (.str z))) H
@[simp ↓] theorem qk8 x y H Q:qhZ x y H Q=(isStr y fun z=>∃d,cC H d x∧(d.canLay0=true∨d = .dict [])∧PyData.strOk z=true∧d.depth≤64∧Q (.bl (PyData.eqv d (.str z))) H):=rfl
theorem qf7 (hu:X.A.units+64<cLine):iU X (compareOp .Eq) qhZ:=by
  intro p_ s σ H x y v u Q I rx ry h;obtain⟨z,rfl,d,hd,hl,hz,hdp,q⟩:=isStr.out h;obtain⟨t,rfl⟩:=ry
  rcases hl with hl | rfl
  ·obtain⟨as,ra⟩:=cC.reads I d x v hd rx;exact SeqAt.compareEq_reads ra (.str z t) hl (by simpa [PyData.canLay0] using hz) (by omega) ⟨.bl _,H,I,rfl,q⟩
  ·simp only[cC] at hd;obtain⟨_,a,rfl,e⟩:=hd;cases rx;obtain⟨_,_,vs,kv,⟨cls,dd,dt,sl⟩,es,ep,h1,h2,h3,_⟩:=Rv I.hok e;obtain⟨h2,_⟩:=h2;simp only at h2 h3;subst h2 h3;exact Sd h1 (by omega) ⟨.bl _,H,I,rfl,q⟩
end
end L2
local macro_rules | `(tactic| left) => `(tactic| simp -dsimp [L2.aA,L2.stC,-Bool.exists_bool,-List.map_take,-Prod.forall,-Prod.exists])
local macro_rules | `(tactic| symm) => `(tactic| decide +kernel)
local macro_rules | `(tactic| exists $H, $p, $v, $s:ident, $e:ident, $G:ident, $h) => `(tactic| (have $s : L2.Same $H (L2.upd $H $p $v) := L2.au $h; have $e : L2.upd $H $p $v $p = some $v := L2.ak; generalize L2.upd $H $p $v = $G at $s:ident $e:ident ⊢))
local macro_rules | `(tactic| exists $a, $b) => `(tactic| refine $a $b (fun $(Lean.mkIdent `vs) $(Lean.mkIdent `H) $(Lean.mkIdent `Q) $(Lean.mkIdent `E) $(Lean.mkIdent `h) => ?_) (fun $(Lean.mkIdent `cdv) $(Lean.mkIdent `A) $(Lean.mkIdent `outer) $(Lean.mkIdent `s) $(Lean.mkIdent `H) $(Lean.mkIdent `vs) $(Lean.mkIdent `Q) $(Lean.mkIdent `E) $(Lean.mkIdent `hr) $(Lean.mkIdent `h) => ?_))
local macro_rules | `(tactic| ac_rfl) => `(tactic| exact ⟨rfl, rfl, rfl, by decide +kernel, rfl, by decide +kernel, by decide +kernel⟩)
namespace K83
open PySem L2
def top (i:Nat):Stmt:=PySem.Challenge.pw_pointways_k83_steps_refused.main.body.getD i (.Pass ⟨0,0,0,0⟩)
abbrev EY:Stmt:=top 18
abbrev Bh:Stmt:=top 19
abbrev zU:Stmt:=top 20
abbrev qZ:Stmt:=top 21
abbrev Dh:Stmt:=top 22
abbrev wC:Stmt:=top 23
abbrev wD:Stmt:=inClass (top 24) 0
abbrev wF:Stmt:=inClass (top 24) 1
abbrev Bj:Stmt:=inClass (top 24) 2
abbrev Bm:Stmt:=inClass (top 24) 3
abbrev yH:Stmt:=top 26
abbrev oU:Stmt:=top 27
abbrev yI:Stmt:=top 29
abbrev tZ:Stmt:=top 30
abbrev Bo:Stmt:=top 31
abbrev oV:Stmt:=top 32
abbrev JH:Stmt:=top 33
abbrev uO:Stmt:=top 35
abbrev wG:Stmt:=top 36
abbrev E_:Stmt:=top 38
abbrev oW:Stmt:=top 39
abbrev k_:Stmt:=top 40
abbrev JK:Stmt:=top 41
abbrev mG:Stmt:=top 42
abbrev Di:Stmt:=top 43
abbrev sE:Stmt:=top 45
abbrev mH:Stmt:=top 46
abbrev q_:Stmt:=top 47
abbrev qC:Stmt:=top 51
abbrev qer:Stmt:=top 54
abbrev kE:Stmt:=top 56
abbrev yJ:Stmt:=top 59
abbrev kI:Stmt:=top 60
abbrev qbO:Stmt:=top 62
abbrev Vp:Stmt:=top 63
abbrev Ql:Stmt:=top 64
abbrev Qm:Stmt:=top 65
abbrev qbP:Stmt:=top 66
abbrev vG:Stmt:=top 67
abbrev Hy:Stmt:=top 68
abbrev Sg:Stmt:=top 69
abbrev mJ:Stmt:=top 70
abbrev wH:Stmt:=top 71
abbrev Fb:Stmt:=top 72
abbrev oX:Stmt:=top 73
abbrev yK:Stmt:=top 74
abbrev Qn:Stmt:=top 75
abbrev Dj:Stmt:=top 76
theorem JL:bh ["thing"] ["thing"] (aD EY):=by ac_rfl
theorem Sh:bh ["thing"] ["thing"] (aD Bh):=by ac_rfl
theorem Vq:bh ["thing"] ["thing"] (aD zU):=by ac_rfl
theorem Lr:bh ["thing"] ["thing"] (aD qZ):=by ac_rfl
theorem YW:bh ["thing", "points"] ["thing", "points"] (aD Dh):=by ac_rfl
theorem Ss:bh ["thing", "points"] ["thing", "points"] (aD wC):=by ac_rfl
theorem Sv:bh ["self", "points", "ties"] ["self", "points", "ties"] (aD wD):=by ac_rfl
theorem Ls:bh ["self"] ["self"] (aD wF):=by ac_rfl
theorem Sw:bh ["self"] ["self"] (aD Bj):=by ac_rfl
theorem Sx:bh ["self"] ["self"] (aD Bm):=by ac_rfl
theorem Qo:bh ["web", "thing"] ["web", "thing"] (aD yH):=by ac_rfl
theorem JM:bh ["web", "thing"] ["web", "thing"] (aD oU):=by ac_rfl
theorem NZ:bh ["web", "points", "lot"] ["web", "points"] (aD yI):=by ac_rfl
theorem rm:bh ["points", "parts", "point"] ["points"] (aD tZ):=by ac_rfl
theorem Sy:bh ["web"] ["web"] (aD Bo):=by ac_rfl
theorem JN:bh ["web", "part"] ["web", "part"] (aD oV):=by ac_rfl
theorem YX:bh ["web", "lot"] ["web", "lot"] (aD JH):=by ac_rfl
theorem iZ:bh ["web", "fixed", "steps", "number", "first", "second"] ["web", "fixed"] (aD uO):=by ac_rfl
theorem dH:bh ["start", "steps", "ways", "row", "at", "here", "number", "origin", "goal"] ["start", "steps"] (aD wG):=by ac_rfl
theorem Vr:bh ["thing"] ["thing"] (aD E_):=by ac_rfl
theorem JQ:bh ["web", "thing"] ["web", "thing"] (aD oW):=by ac_rfl
theorem qJ:bh ["web", "thing"] ["web", "thing"] (aD k_):=by ac_rfl
theorem N5:bh ["web", "pointing"] ["web", "pointing"] (aD JK):=by ac_rfl
theorem GX:bh ["web", "one", "other"] ["web", "one", "other"] (aD mG):=by ac_rfl
theorem YZ:bh ["web", "pointing", "numbers"] ["web", "pointing", "numbers"] (aD Di):=by ac_rfl
theorem zV:bh ["web", "pointing", "goals"] ["web", "pointing"] (aD sE):=by ac_rfl
theorem xr:bh ["web", "points"] ["web"] (aD mH):=by ac_rfl
theorem uP:bh ["weighed", "ins", "k", "places", "many"] ["weighed", "ins", "k"] (aD q_):=by ac_rfl
theorem Fd:bh ["thing", "least"] ["thing", "least"] (aD qC):=by ac_rfl
theorem cB:bh ["web", "one", "other", "left", "rings", "number", "origin", "goal", "ring"] ["web", "one", "other"] (aD kE):=by ac_rfl
theorem cL:bh ["web", "one", "other", "k", "weighed", "goal", "here", "steps", "start", "end", "numbers"] ["web", "one", "other", "k"] (aD kI):=by ac_rfl
theorem qbQ:bh ["_law_script", "_law_k", "_law_cell"] ["_law_script", "_law_k"] (aD qbO):=by ac_rfl
theorem W_:bh ["_law_pot_here", "_law_many", "_law_digit"] ["_law_pot_here", "_law_many"] (aD Vp):=by ac_rfl
theorem pG:bh ["_law_pot_here", "_law_many", "_law_letters", "_law_begin", "_law_found", "_law_k", "_law_word", "_law_j"] ["_law_pot_here", "_law_many"] (aD Ql):=by ac_rfl
theorem JR:bh ["_law_pot_here", "_law_things", "_law_found", "_law_thing"] ["_law_pot_here", "_law_things"] (aD Qm):=by ac_rfl
theorem Vs:bh ["_law_pot_here", "_law_names_here", "_law_a", "_law_b"] ["_law_pot_here", "_law_names_here"] (aD qbP):=by ac_rfl
theorem iw:bh ["_law_pot_here", "_law_times", "_law_names_here", "_law_leads_here", "_law_turn", "_law_row", "_law_pointing", "_law_ties"] ["_law_pot_here", "_law_times"] (aD vG):=by ac_rfl
theorem qbR:bh ["_law_web", "_law_pointing"] ["_law_web", "_law_pointing"] (aD Hy):=by ac_rfl
theorem qbS:bh ["_law_web", "_law_pointing", "_law_goals"] ["_law_web", "_law_pointing"] (aD Sg):=by ac_rfl
theorem j4:bh ["_law_web", "_law_pointing", "_law_leads_here", "_law_found", "_law_mask", "_law_lot"] ["_law_web", "_law_pointing"] (aD mJ):=by ac_rfl
theorem dX:bh ["_law_e", "_law_found", "_law_words"] ["_law_e"] (aD wH):=by ac_rfl
theorem sG:bh ["_law_web", "_law_one", "_law_other", "_law_k", "_law_held", "_law_found", "_law_e"] ["_law_web", "_law_one", "_law_other", "_law_k"] (aD Fb):=by ac_rfl
theorem i_:bh ["_law_pot_here", "_law_one", "_law_at", "_law_some"] ["_law_pot_here", "_law_one"] (aD oX):=by ac_rfl
theorem Dk:bh ["_law_pot_here", "_law_some"] ["_law_pot_here"] (aD yK):=by ac_rfl
theorem qdv:bh ["_law_web"] ["_law_web"] (aD Qn):=by ac_rfl
theorem mK:bh ["_law_script", "_law_k", "_law_pot_here", "_law_known", "_law_one", "_law_web", "_law_bad", "_law_odd", "_law_shut_here", "_law_least", "_law_told", "_law_due", "_law_number"] ["_law_script"] (aD Dj):=by ac_rfl
set_option genInjectivity false in
structure Adr where
  jC:Addr
  sH:FuncData
  jc:Addr
  t_:FuncData
  lR:Addr
  wI:FuncData
  fJ:Addr
  oY:FuncData
  pH:Addr
  zW:FuncData
  jd:Addr
  ug:FuncData
  gK:Addr
  um:FuncData
  dZ:Addr
  oZ:FuncData
  gM:Addr
  uo:FuncData
  gO:Addr
  uq:FuncData
  gB:Addr
  rA:FuncData
  eE:Addr
  mL:FuncData
  pI:Addr
  zX:FuncData
  gC:Addr
  rB:FuncData
  je:Addr
  ur:FuncData
  eF:Addr
  mO:FuncData
  pJ:Addr
  zY:FuncData
  eG:Addr
  mQ:FuncData
  fK:Addr
  o_:FuncData
  lU:Addr
  wJ:FuncData
  eN:Addr
  mR:FuncData
  b_:Addr
  dY:FuncData
  mU:Addr
  vH:FuncData
  dN:Addr
  kJ:FuncData
  pK:Addr
  zZ:FuncData
  j6:Addr
  rH:FuncData
  dO:Addr
  kO:FuncData
  fL:Addr
  pq:FuncData
  cX:Addr
  jD:FuncData
  Gm:Addr
  Qp:FuncData
  cj:Addr
  dB:FuncData
  dU:Addr
  kW:FuncData
  cY:Addr
  jE:FuncData
  Gn:Addr
  Qq:FuncData
  yL:Addr
  Hz:FuncData
  uw:Addr
  Dl:FuncData
  ux:Addr
  Dm:FuncData
  Gp:Addr
  Qs:FuncData
  pL:Addr
  z6:FuncData
  uy:Addr
  Dq:FuncData
  Gq:Addr
  Qt:FuncData
  fM:Addr
  pA:FuncData
  kY:Addr
  pO:FuncData
  lV:Addr
  wK:FuncData
  eO:Addr
  mV:FuncData
  gD:Addr
  rC:FuncData
  f_shut:Addr
  HB:FuncData
  Gs:Addr
  Qu:FuncData
  nY:Value
  eZ:Value
  fQ:Value
  jf:Value
  gP:Value
  bO:Addr
  bB:Addr
  Dr:Addr
  Dt:Addr
  vI:Addr
  aB:Addr
  aG:Addr
  aK:Addr
  aO:Addr
  bJ:Addr
  bW:Addr
  bD:Addr
  bF:Addr
structure Txt (K:W.Frag) (mg:Str→Option Value) (a:Adr):Prop where
  jF:dG K "is_list" "is_list" EY a.jC a.sH
  nZ:Binds K a.sH ["thing"] []
  n_:mg "is_list" = some (.ref a.jC)
  sI:dG K "is_whole" "is_whole" Bh a.jc a.t_
  wL:Binds K a.t_ ["thing"] []
  wM:mg "is_whole" = some (.ref a.jc)
  vJ:dG K "is_name" "is_name" zU a.lR a.wI
  z7:Binds K a.wI ["thing"] []
  z8:mg "is_name" = some (.ref a.lR)
  wN:dG K "are_points" "are_points" qZ a.fJ a.oY
  Du:Binds K a.oY ["thing"] []
  Dv:mg "are_points" = some (.ref a.fJ)
  JT:dG K "is_tie" "is_tie" Dh a.pH a.zW
  SJ:Binds K a.zW ["thing", "points"] []
  SM:mg "is_tie" = some (.ref a.pH)
  Bp:dG K "are_ties" "are_ties" wC a.jd a.ug
  JV:Binds K a.ug ["thing", "points"] []
  JW:mg "are_ties" = some (.ref a.jd)
  JX:dG K "__init__" "Web.__init__" wD a.gK a.um
  JZ:Binds K a.um ["self", "points", "ties"] []
  Dw:dG K "points" "Web.points" wF a.dZ a.oZ
  gQ:Binds K a.oZ ["self"] []
  J0:dG K "ties" "Web.ties" Bj a.gM a.uo
  Bq:Binds K a.uo ["self"] []
  J_:dG K "many" "Web.many" Bm a.gO a.uq
  Br:Binds K a.uq ["self"] []
  yM:dG K "is_number" "is_number" yH a.gB a.rA
  Gu:Binds K a.rA ["web", "thing"] []
  Gv:mg "is_number" = some (.ref a.gB)
  uQ:dG K "are_numbers" "are_numbers" oU a.eE a.mL
  Am:Binds K a.mL ["web", "thing"] []
  Ao:mg "are_numbers" = some (.ref a.eE)
  Ka:dG K "lot_of" "lot_of" yI a.pI a.zX
  SN:Binds K a.zX ["web", "points"] []
  SQ:mg "lot_of" = some (.ref a.pI)
  yN:dG K "all_parts" "all_parts" tZ a.gC a.rB
  Gw:Binds K a.rB ["points"] []
  Gx:mg "all_parts" = some (.ref a.gC)
  Bs:dG K "all_lots" "all_lots" Bo a.je a.ur
  Kc:Binds K a.ur ["web"] []
  Kd:mg "all_lots" = some (.ref a.je)
  uR:dG K "ties_inside" "ties_inside" oV a.eF a.mO
  Aq:Binds K a.mO ["web", "part"] []
  Ar:mg "ties_inside" = some (.ref a.eF)
  Ke:dG K "within" "within" JH a.pJ a.zY
  SX:Binds K a.zY ["web", "lot"] []
  S_:mg "within" = some (.ref a.pJ)
  pB:dG K "steps_along" "steps_along" uO a.eG a.mQ
  uT:Binds K a.mQ ["web", "fixed"] []
  uU:mg "steps_along" = some (.ref a.eG)
  wO:dG K "ways_along" "ways_along" wG a.fK a.o_
  Dy:Binds K a.o_ ["start", "steps"] []
  Dz:mg "ways_along" = some (.ref a.fK)
  Fe:dG K "is_lead" "is_lead" E_ a.lU a.wJ
  N6:Binds K a.wJ ["thing"] []
  N7:mg "is_lead" = some (.ref a.lU)
  pC:dG K "is_pointing" "is_pointing" oW a.eN a.mR
  uV:Binds K a.mR ["web", "thing"] []
  uW:mg "is_pointing" = some (.ref a.eN)
  cH:dG K "sure_of_pointing" "sure_of_pointing" k_ a.b_ a.dY
  dD:Binds K a.dY ["web", "thing"] []
  dF:mg "sure_of_pointing" = some (.ref a.b_)
  vK:dG K "arrows" "arrows" JK a.mU a.vH
  DG:Binds K a.vH ["web", "pointing"] []
  DK:mg "arrows" = some (.ref a.mU)
  sJ:dG K "unlike_steps" "unlike_steps" mG a.dN a.kJ
  yO:Binds K a.kJ ["web", "one", "other"] []
  yP:mg "unlike_steps" = some (.ref a.dN)
  Kf:dG K "turned" "turned" Di a.pK a.zZ
  Tc:Binds K a.zZ ["web", "pointing", "numbers"] []
  Td:mg "turned" = some (.ref a.pK)
  f9:dG K "ins_of" "ins_of" sE a.j6 a.rH
  jg:Binds K a.rH ["web", "pointing"] []
  jh:mg "ins_of" = some (.ref a.j6)
  sO:dG K "weighed_lots" "weighed_lots" mH a.dO a.kO
  yQ:Binds K a.kO ["web"] []
  yR:mg "weighed_lots" = some (.ref a.dO)
  rD:dG K "is_over_by" "is_over_by" q_ a.fL a.pq
  wQ:Binds K a.pq ["weighed", "ins", "k"] []
  wR:mg "is_over_by" = some (.ref a.fL)
  qD:dG K "sure_of_times" "sure_of_times" qC a.cX a.jD
  xu:Binds K a.jD ["thing", "least"] []
  xG:mg "sure_of_times" = some (.ref a.cX)
  qes:dG K "way" "way" qer a.Gm a.Qp
  qet:Binds K a.Qp ["web", "pointing", "a", "b"] []
  qeu:mg "way" = some (.ref a.Gm)
  fC:dG K "rings_between" "rings_between" kE a.cj a.dB
  qF:Binds K a.dB ["web", "one", "other"] []
  qG:mg "rings_between" = some (.ref a.cj)
  yS:dG K "ends_to_turn" "ends_to_turn" yJ a.dU a.kW
  yU:Binds K a.kW ["web", "ins", "goal", "weighed", "k"] []
  yV:mg "ends_to_turn" = some (.ref a.dU)
  qH:dG K "steps_between" "steps_between" kI a.cY a.jE
  xH:Binds K a.jE ["web", "one", "other", "k"] []
  xJ:mg "steps_between" = some (.ref a.cY)
  qbT:dG K "_law_pot" "_law_pot" qbO a.Gn a.Qq
  qev:Binds K a.Qq ["_law_script", "_law_k"] []
  qew:mg "_law_pot" = some (.ref a.Gn)
  lg:dG K "_law_take" "_law_take" Vp a.yL a.Hz
  mW:Binds K a.Hz ["_law_pot_here", "_law_many"] []
  mX:mg "_law_take" = some (.ref a.yL)
  Qv:dG K "_law_names" "_law_names" Ql a.uw a.Dl
  Xa:Binds K a.Dl ["_law_pot_here", "_law_many"] []
  Xb:mg "_law_names" = some (.ref a.uw)
  HD:dG K "_law_mixed" "_law_mixed" Qm a.ux a.Dm
  Qw:Binds K a.Dm ["_law_pot_here", "_law_things"] []
  Qx:mg "_law_mixed" = some (.ref a.ux)
  qbU:dG K "_law_tie" "_law_tie" qbP a.Gp a.Qs
  qex:Binds K a.Qs ["_law_pot_here", "_law_names_here"] []
  qey:mg "_law_tie" = some (.ref a.Gp)
  Kg:dG K "_law_rounds" "_law_rounds" vG a.pL a.z6
  Tf:Binds K a.z6 ["_law_pot_here", "_law_times"] []
  Tg:mg "_law_rounds" = some (.ref a.pL)
  HF:dG K "_law_leads" "_law_leads" Hy a.uy a.Dq
  Qy:Binds K a.Dq ["_law_web", "_law_pointing"] []
  Qz:mg "_law_leads" = some (.ref a.uy)
  Xc:dG K "_law_ins" "_law_ins" Sg a.Gq a.Qt
  qbV:Binds K a.Qt ["_law_web", "_law_pointing"] []
  qbW:mg "_law_ins" = some (.ref a.Gq)
  wU:dG K "_law_least_into" "_law_least_into" mJ a.fM a.pA
  DN:Binds K a.pA ["_law_web", "_law_pointing"] []
  DP:mg "_law_least_into" = some (.ref a.fM)
  z9:dG K "_law_kinds" "_law_kinds" wH a.kY a.pO
  Xd:Binds K a.pO ["_law_e"] []
  Xe:mg "_law_kinds" = some (.ref a.kY)
  eU:dG K "_law_refusal" "_law_refusal" Fb a.lV a.wK
  fD:Binds K a.wK ["_law_web", "_law_one", "_law_other", "_law_k"] []
  fG:mg "_law_refusal" = some (.ref a.lV)
  uX:dG K "_law_no_pointing" "_law_no_pointing" oX a.eO a.mV
  Av:Binds K a.mV ["_law_pot_here", "_law_one"] []
  Aw:mg "_law_no_pointing" = some (.ref a.eO)
  yW:dG K "_law_no_number" "_law_no_number" yK a.gD a.rC
  Gy:Binds K a.rC ["_law_pot_here"] []
  Gz:mg "_law_no_number" = some (.ref a.gD)
  Vt:dG K "_law_shut" "_law_shut" Qn a.f_shut a.HB
  qbX:Binds K a.HB ["_law_web"] []
  qbY:mg "_law_shut" = some (.ref a.f_shut)
  qez:dG K "law" "law" Dj a.Gs a.Qu
  qh0:Binds K a.Qu ["_law_script"] []
  qh1:mg "law" = some (.ref a.Gs)
  N8:mg "LETTERS" = some a.nY
  N_:RelV (.str "abcdefghijklmnopqrstuvwxyz") a.nY
  yX:mg "MOST_LETTERS" = some a.eZ
  yZ:RelV (.int 4) a.eZ
  Ax:mg "MOST_POINTS" = some a.fQ
  Ay:RelV (.int 9) a.fQ
  GC:mg "MOST_TIES" = some a.jf
  GF:RelV (.int 20) a.jf
  wV:mg "MOST_TIMES" = some a.gP
  wW:RelV (.int 9) a.gP
  qeA:mg "Web" = some (.ref a.bO)
  qK:Cls K a.bO
  QB:qu K a.bO "names"
  HJ:qu K a.bO "pairs"
  qeB:Mk K a.bO a.gK
  gR:Meth K a.bO "points" a.dZ
  Bt:Meth K a.bO "ties" a.gM
  Bu:Meth K a.bO "many" a.gO
  DQ:mg "PointError" = some (.ref a.bB)
  qdw:mg "NoWeb" = some (.ref a.Dr)
  qdx:mg "NoLot" = some (.ref a.Dt)
  Y0:mg "NoPoint" = some (.ref a.vI)
  jG:mg "NoPointing" = some (.ref a.aB)
  oh:mg "NoNumber" = some (.ref a.aG)
  rJ:mg "NotOver" = some (.ref a.aK)
  sS:mg "Unlike" = some (.ref a.aO)
  pP:mg "NoNumbers" = some (.ref a.bJ)
  vL:mg "TooMuch" = some (.ref a.bW)
  za:mg "Parted" = some (.ref a.bD)
  zc:mg "Barred" = some (.ref a.bF)
  gU:wj K a.aB
  lq:wj K a.aG
  ou:wj K a.aK
  pQ:wj K a.aO
  jH:wj K a.bB
  d7:wz K a.aB
  lW:W.mroIn K a.aB (.ref a.bB)=some true∧a.aB≠a.bB
  lX:gw K a.aB (.ref a.aB)=some true
  nG:gw K a.aB (.ref a.aG)=some false
  pR:gw K a.aB (.ref a.aK)=some false
  qL:gw K a.aB (.ref a.aO)=some false
  mY:gw K a.aB (.ref a.bJ)=some false
  pU:gw K a.aB (.ref a.bW)=some false
  qM:gw K a.aB (.ref a.bD)=some false
  qN:gw K a.aB (.ref a.bF)=some false
  lY:gw K a.aB (.ty "ValueError")=some true
  gV:wz K a.aG
  nH:W.mroIn K a.aG (.ref a.bB)=some true∧a.aG≠a.bB
  nJ:gw K a.aG (.ref a.aB)=some false
  qO:gw K a.aG (.ref a.aG)=some true
  sU:gw K a.aG (.ref a.aK)=some false
  uz:gw K a.aG (.ref a.aO)=some false
  pW:gw K a.aG (.ref a.bJ)=some false
  sV:gw K a.aG (.ref a.bW)=some false
  uD:gw K a.aG (.ref a.bD)=some false
  uE:gw K a.aG (.ref a.bF)=some false
  nM:gw K a.aG (.ty "ValueError")=some true
  jJ:wz K a.aK
  pX:W.mroIn K a.aK (.ref a.bB)=some true∧a.aK≠a.bB
  pY:gw K a.aK (.ref a.aB)=some false
  sX:gw K a.aK (.ref a.aG)=some false
  uF:gw K a.aK (.ref a.aK)=some true
  vM:gw K a.aK (.ref a.aO)=some false
  qP:gw K a.aK (.ref a.bJ)=some false
  uG:gw K a.aK (.ref a.bW)=some false
  vN:gw K a.aK (.ref a.bD)=some false
  vO:gw K a.aK (.ref a.bF)=some false
  pZ:gw K a.aK (.ty "ValueError")=some true
  mZ:wz K a.aO
  qQ:W.mroIn K a.aO (.ref a.bB)=some true∧a.aO≠a.bB
  qR:gw K a.aO (.ref a.aB)=some false
  uH:gw K a.aO (.ref a.aG)=some false
  vP:gw K a.aO (.ref a.aK)=some false
  xK:gw K a.aO (.ref a.aO)=some true
  sY:gw K a.aO (.ref a.bJ)=some false
  vQ:gw K a.aO (.ref a.bW)=some false
  xM:gw K a.aO (.ref a.bD)=some false
  xO:gw K a.aO (.ref a.bF)=some false
  qT:gw K a.aO (.ty "ValueError")=some true
  d8:mg "ValueError" = none
  nm:Nm mg
  Y4:Nm2 mg
  nm3:Nm3 mg
end K83
namespace K83
open PySem L2
variable {P:Program} {w:World} {K:W.Frag} {mg:Str→Option Value} {base:Heap} {a:Adr}
def p7 (H:Hp) (p:Addr):Prop:=∃x y:Int,H p=some (.lst [.int x,.int y])∧0≤x∧0≤y∧y<4294967296
def qf8 (K:W.Frag):Sp:=fun vs H Q _=>∃(l:Addr) (ns:List Int) (k:Nat),vs=[.ref l,.int k]∧bC K H l (ns.map V.int)∧k<100∧∀p H',H p=none→p7 H' p→But p H H'→Q (.ref p) H'
def qdy:Sp:=fun vs H Q _=>∃(p:Addr) (m:Int),vs=[.ref p,.int m]∧p7 H p∧0<m∧m<1000000∧∀(d:Int) H',0≤d→d<m→p7 H' p→But p H H'→Q (.int d) H'
theorem qf9 (T:Txt K mg a):bV P w K mg base mj 1 a.Gn a.Qq ["_law_script", "_law_k"] (qf8 K):=by
  exists T.qbT.tY,qbQ
  ·obtain⟨l,ns,k,rfl,_⟩:=h;rfl
  · obtain⟨l,ns,k,rfl,hS,hk,q⟩:=h;refine⟨_,(aC (bx (i:=2) qbQ.nd rfl (Or.inl rfl) (Rb (bI PK (aH 1) (aV (cW (K:=K) rfl) rfl T.nm.len PySem.boot_len (aj (aH 0) aq)) (cD _)) (cV (dw (K:=K) rfl) (aH 0) (aH 1) (fun _ _=>rfl)) aN))
      (aJ (bw (bA (aj (aV (Jw rfl) rfl T.nm.max boot_max (aj aN (aj (bG vZ (aV Np rfl T.nm.abs boot_abs (aj (aH 2) aq)) (bG Qd aN aN)) aq))) (aj (bG gH (bG gH (bG zP (aV Np rfl T.nm.abs boot_abs (aj (aH 2) aq)) aN) (bG Hj aN (aH 1))) aN) aq)))))),?_⟩
    have fin:∀(x y:Int),0≤x→0≤y→y<4294967296→∀p:Addr,H p=none→Q (.ref p) (upd H p (.lst [.int x,.int y])):=fun x y h1 h2 h3 p hp=>
      q p _ hp ⟨x,y,ak,h1,h2,h3⟩ fun b o hb e=>by rw[aM hb];exact e
    left;refine⟨_,.inl hS,iu.of (fun h=>?_) (fun h=>?_)⟩
    · have hlt:k<ns.length:=by simpa using h
      left;refine⟨_,.inl hS,.int (ns[k]'hlt),bM (by simp[hlt]),?_⟩;left;exact fin _ _ (zpa _) (zpb _ _) (zpc _ hk)
    ·left;exact fin _ _ (by first | omega | (split <;> omega)) (by omega) (by omega)
theorem jK (T:Txt K mg a):bV P w K mg base mj 1 a.yL a.Hz ["_law_pot_here", "_law_many"] qdy:=by
  exists T.lg.tY,W_
  ·obtain⟨p,m,rfl,_⟩:=h;rfl
  · obtain⟨p,m,rfl,⟨x,y,hp,hx,hy,hy2⟩,hm,hm2,q⟩:=h;refine⟨_,(aC (eX (bI PL (cV (dw (K:=K) rfl) (aH 0) aN (fun _ _=>rfl)) aN (cD _)) (aC (Ig (aV Qe rfl T.nm.divmod boot_divmod (aj (cV (dw (K:=K) rfl) (aH 0) aN (fun _ _=>rfl)) (aj (aH 1) aq))) (PG.eqv (c7 (K:=K) (n:=2) rfl rfl (fB.eqv (aU (Z0 (aH 0) aN Nq) (fB.eqv (aU (aP (i:=2) W_.nd rfl (Or.inl rfl)) (fB.mono cM dJ)) (aW _ _))) (aW _ _))) (dh _ _ _)))
      (aJ (bw (aH 2)))) cu)
      (aC (Ig (bG zP (bG gH (bG Hj (cV (dw (K:=K) rfl) (aH 0) aN (fun _ _=>rfl)) aN) aN) aN) (Z0 (aH 0) aN Nq))
      (aJ (bw (bG zP (bG qbh (bG zP (bG Hj (cV (dw (K:=K) rfl) (aH 0) aN (fun _ _=>rfl)) (cV (dw (K:=K) rfl) (aH 0) aN (fun _ _=>rfl))) aN) aN) (aH 1)))))),?_⟩
    have hl:bC K H p [.int x,.int y]:=bC.of hp;left;refine⟨_,.inl hl,_,bM (j:=0) rfl,?_⟩;left;refine iu.of (fun h=>?_) (fun h=>?_)
    ·left;refine⟨_,.inl hl,_,bM (j:=0) rfl,?_⟩;left;refine⟨⟨hm,by omega⟩,fun t ht=>?_⟩;have npt:p≠t:=aQ hp ht;refine⟨_,gq.of ak,rfl,_,(by rw[aM npt];exact hp),0,rfl,?_⟩;refine q _ _ (Int.emod_nonneg _ (by omega)) (Int.emod_lt_of_pos _ hm) ⟨_,_,ak,Int.ediv_nonneg hx (by omega),hy,hy2⟩ fun b o hb e=>?_;rw[aM hb,aM (aQ e ht)];exact e
    ·have z0:0≤(y * 48271+12345) % 2147483647:=Int.emod_nonneg _ (by decide);have z1:(y * 48271+12345) % 2147483647<2147483647:=Int.emod_lt_of_pos _ (by decide);left;refine⟨_,.inl hl,_,bM (j:=1) rfl,?_⟩;left;refine⟨_,hp,1,rfl,_,.inl (bC.of ak),_,bM (j:=1) rfl,_,.inl (bC.of ak),_,bM (j:=1) rfl,?_⟩;left;refine⟨⟨by omega,by omega⟩,hm,?_⟩;refine q _ _ (Int.emod_nonneg _ (by omega)) (Int.emod_lt_of_pos _ hm) ⟨_,_,ak,hx,z0,by omega⟩ fun b o hb e=>?_;rw[aM hb];exact e
def Vu:Sp:=fun vs H Q _=>∃p xs,vs=[.ref p]∧Sq H p xs∧∀H',Same H H'→Q (.bl true) H'
theorem sZ (T:Txt K mg a):bV P w K mg base mj 1 a.jC a.sH ["thing"] Vu:=by
  exists T.jF.tY,JL
  ·obtain⟨p,xs,rfl,_⟩:=h;rfl
  · obtain⟨p,xs,rfl,hp,q⟩:=h;refine⟨_,(aJ (bw (aV (qbi (K:=K) rfl) rfl T.nm.isinstance boot_isinstance (aj (aH 0) (aj (fP (aj (mC (v:=.ty "list") rfl T.nm.list boot_list rfl) (aj (mC (v:=.ty "tuple") rfl T.nm.tuple boot_tuple rfl) aq))) aq))))),?_⟩;left;refine fun t ht=>⟨_,_,ak,?_⟩
    rcases(hp.same (au ht)).ty (K:=K) with ty | ty
    ·exact⟨_,ty,true,by simp[W.kitAny,W.kitOne],q _ (au ht)⟩
    ·exact⟨_,ty,true,by simp[W.kitAny,W.kitOne];rfl,q _ (au ht)⟩
def Vv:Sp:=fun vs H Q _=>∃x,vs=[.str x]∧x.length≤sizeLine∧∀H',Same H H'→Q (.bl (nameB x)) H'
theorem Bv (T:Txt K mg a):bV P w K mg base mj 1 a.lR a.wI ["thing"] Vv:=by
  exists T.vJ.tY,Vq
  ·obtain⟨x,rfl,_⟩:=h;rfl
  · obtain⟨x,rfl,hx,q⟩:=h;refine⟨_,(aC (eX (PW.pt (xq (fO (dg (aV (Vd (K:=K) rfl) rfl T.nm.isinstance boot_isinstance (aj (aH 0) (aj (mC (v:=.ty "str") rfl T.nm.str boot_str rfl) aq))))) (qm (fO (Eu v7 v7 aN (aV qfV rfl T.nm.len PySem.boot_len (aj (aH 0) aq)) (bL rfl T.yX T.yZ)))))) (aJ (bw mz)) cu)
      (aJ (bw (aV (nW rfl) rfl T.nm.all nQ (aj (cF rfl rfl (show aR (aD zU) _ ["thing"] ["sign"] [] ["sign"] from⟨rfl,by symm,by symm,rfl,by symm,by symm⟩) rfl (PI.eqv (qfl (aH 0)) (qbd _)) (fun C s H fp pn=>(aP (i:=0) (show(["sign"]:List Str).Nodup by symm) rfl (Or.inl rfl))) (fun C s H fp pn=>cO) (fun C s H fp pn=>(oN (qkZ (K:=K) rfl) (aH 0) (bL rfl T.N8 T.N_) rfl))) aq))))),?_⟩
    left;refine⟨_,.str x,_,RB K,iu.neg rfl ?_⟩;left;refine⟨hx,iu.of (fun h1=>?_) (fun h1=>?_)⟩
    · have h1':1≤x.length:=by simp at h1;omega
      left;refine iu.of (fun h2=>?_) (fun h2=>?_)
      · have h2':¬x.length≤4:=by simp at h2;omega
        have e:nameB x=false:=by
          unfold nameB;rw[decide_eq_false h2'];simp
        rw[e] at q;left;exact q H (Same.refl H)
      · have h2':x.length≤4:=by simp at h2;omega
        left;refine fun D hD=>cmS (fun i σ' H'=>(∃o,σ'=[o])∧Same H H'∧H' D=some (.lst ((x.cps.toList.take i).map fun c=>.bl (isL c)))) ⟨⟨none,rfl⟩,au hD,by simpa using ak⟩ ?_ ?_
        · rintro i c σ' H' hc ⟨⟨o,rfl⟩,sm,Lw⟩;have h4:4<sizeLine:=by decide
          have hsz:x.cps.size=x.length:=rfl;left;refine⟨_,Lw,by simp;omega,aZ sm hD,?_⟩;rw[ak,take_one (l:=x.cps.toList) (x:=c) (by simpa using hc),List.map_append];rfl
        · rintro σ' H' ⟨⟨o,rfl⟩,sm,Lw⟩;left;refine⟨_,Lw,_,vq isL _,?_⟩;rw[Uz];have e:nameB x=(x.cps.toList.take x.cps.size).all isL:=by
            unfold nameB;rw[decide_eq_true h1',decide_eq_true h2',show x.cps.toList.take x.cps.size=x.cps.toList from List.take_of_length_le (by simp)];rfl
          rw[← e];exact q H' sm
    · have h1':¬1≤x.length:=by simp at h1;omega
      have e:nameB x=false:=by
        unfold nameB;rw[decide_eq_false h1'];simp
      rw[e] at q;left;exact q H (Same.refl H)
theorem qbZ {xs:List Str} {i:Nat} {x:V} (h:(xs.map V.str)[i]? = some x):∃z,z∈xs∧x = .str z:=by
  rw[List.getElem?_map] at h;cases e:xs[i]? with
  | none=>rw[e] at h;cases h
  | some z=>
    rw[e] at h;exact⟨z,List.mem_of_getElem? e,(Option.some.inj h).symm⟩
theorem Bw {x:Str} (h:nameB x=true):x.length≤sizeLine:=by
  unfold nameB at h;simp at h;have h4:4≤sizeLine:=by decide
  omega
theorem rK:∀n,yd (List.replicate n (.bl true)) (List.replicate n true)
  | 0=>rfl
  | n+1=>⟨true,_,rfl,rfl,rK n⟩
theorem Kh:∀xs:List Str,keysOf (xs.map V.str)=xs.map Sum.inr
  | []=>rfl
  | x::xs=>by
    show Sum.inr x::keysOf (xs.map V.str)=_;rw[Kh xs];rfl
theorem qf_ {xs:List Str} (h:xs.Nodup):(K_ (fun i=>(keysOf (xs.map V.str))[i]?.getD (Sum.inl 0)) (xs.map V.str).length).length=xs.length:=by
  rw[Kh,List.length_map];refine(Ux _ xs.length fun i j hi hj e=>?_).1;simp[hi,hj] at e;exact(List.getElem_inj h).mp e
structure Oa (xs:List Str):Prop where
  len:1≤xs.length∧xs.length≤9
  nm:∀x∈xs,nameB x=true
  nd:xs.Nodup
def Lx:Sp:=fun vs H Q _=>∃p xs,vs=[.ref p]∧Sq H p (xs.map V.str)∧Oa xs∧∀H',Same H H'→Q (.bl true) H'
theorem Ly (T:Txt K mg a):bV P w K mg base mj 2 a.fJ a.oY ["thing"] Lx:=by
  exists T.wN.tY,Lr
  ·obtain⟨p,xs,rfl,_⟩:=h;rfl
  · obtain⟨p,xs,rfl,hp,hx,q⟩:=h;refine⟨_,(aC (eX (PW.pt (xq (fO (dg (PE.eqv (aL (sZ T) hr.d rfl T.n_ T.jF.kp T.nZ .nil aY (aj (aH 0) aq)) (aF _ _ _)))) (qm (fO (Eu v7 v7 aN (aV (cW (K:=K) rfl) rfl T.nm.len PySem.boot_len (aj (aH 0) aq)) (bL rfl T.Ax T.Ay)))))) (aJ (bw mz)) cu)
      (aJ (bw (CZ (aV (nW rfl) rfl T.nm.all nQ (aj (cF rfl rfl (show aR (aD qZ) _ ["thing"] ["one"] [] ["one"] from⟨rfl,by symm,by symm,rfl,by symm,by symm⟩) rfl (PI.eqv (vX (K:=K) rfl (aH 0)) (su _ _)) (fun C s H fp pn=>(aP (i:=0) (show(["one"]:List Str).Nodup by symm) rfl (Or.inl rfl))) (fun C s H fp pn=>cO) (fun C s H fp pn=>(PE.eqv (aL (Bv T) hr.d rfl T.z8 T.vJ.kp T.z7 .nil aY (aj (aH 0) aq)) (aF _ _ _)))) aq)) (Ie (oN uN (aV MP rfl T.nm.len PySem.boot_len (aj (dz (MN rfl) rfl T.nm.set MJ (aj (aH 0) aq)) aq)) (aV (cW (K:=K) rfl) rfl T.nm.len PySem.boot_len (aj (aH 0) aq)) (cD _))))))),?_⟩
    have hl:=hx.len;have h60:60<sizeLine:=by decide
    left;refine⟨p,_,rfl,hp,fun H1 s1=>?_⟩;have hp1:=hp.same s1;left;refine⟨_,hp1.q,iu.pos (by simp;omega) ?_⟩;left;refine iu.neg (by simp;omega) ?_;obtain⟨b,hb⟩:=hp.b;left;refine⟨b,⟨_,hb K H1 s1⟩,fun D hD=>cmQ (xs.map V.str) (fun i σ' H'=>(∃o,σ'=[o])∧Same H1 H'∧H' D=some (.lst (List.replicate i (.bl true)))) ⟨⟨none,rfl⟩,au hD,ak⟩ (fun i σ' H' _ h=>hb K H' (s1.trans h.2.1)) ?_ ?_⟩
    · rintro i x σ' H' hi ⟨⟨o,rfl⟩,sm,Lw⟩;obtain⟨z,hz,rfl⟩:=qbZ hi;have hi2:i<xs.length:=by simpa using (List.getElem?_eq_some_iff.mp hi).1
      left;refine⟨z,rfl,Bw (hx.nm z hz),fun H2 s2=>?_⟩;left;refine⟨_,s2 _ _ Lw,by simp;omega,aZ (sm.trans s2) hD,?_⟩;rw[ak,hx.nm z hz,← List.replicate_succ']
    ·rintro σ' H' ⟨⟨o,rfl⟩,sm,Lw⟩;have hp2:=hp1.same sm;left;refine⟨_,Lw,_,rK _,?_⟩;rw[show(List.replicate (xs.map V.str).length true).all id=true by simp];left;refine⟨_,hp2.q,by simp[isKey],by simp;unfold scanBound;omega,fun t ht=>⟨_,ak,_,(hp2.same (au ht)).q,?_⟩⟩;rw[decide_eq_true (by rw[qf_ hx.nd];simp)];exact q _ (s1.trans (sm.trans (au ht)))
theorem qdz {x:Str} {xs:List Str} (h:x∈xs):inV (.str x) (xs.map V.str)=true:=by
  unfold inV;rw[List.any_eq_true];exact⟨.str x,List.mem_map.mpr ⟨x,h,rfl⟩,by simp[X_]⟩
theorem qb0 (xs:List Str):(xs.map V.str).all lO=true:=by
  rw[List.all_eq_true];intro v hv;obtain⟨x,_,rfl⟩:=List.mem_map.mp hv;rfl
def Y5:Sp:=fun vs H Q _=>∃t p x y xs,vs=[.ref t,.ref p]∧Sq H t [.str x,.str y]∧Sq H p (xs.map V.str)∧Oa xs∧x∈xs∧y∈xs∧x≠y∧∀H',Same H H'→Q (.bl true) H'
theorem Y6 (T:Txt K mg a):bV P w K mg base mj 2 a.pH a.zW ["thing", "points"] Y5:=by
  exists T.JT.tY,YW
  ·obtain⟨t,p,x,y,xs,rfl,_⟩:=h;rfl
  · obtain⟨t,p,x,y,xs,rfl,ht,hp,hx,hxm,hym,hne,q⟩:=h;refine⟨_,(aC (eX (PW.pt (xq (fO (dg (PE.eqv (aL (sZ T) hr.d rfl T.n_ T.jF.kp T.nZ .nil aY (aj (aH 0) aq)) (aF _ _ _)))) (qm (bI Et (aV (cW (K:=K) rfl) rfl T.nm.len PySem.boot_len (aj (aH 0) aq)) aN (cD _))))) (aJ (bw mz)) cu)
      (aC (eX (fO (dg (aV (nW rfl) rfl T.nm.all nQ (aj (cF rfl rfl (show aR (aD Dh) _ ["thing", "points"] ["end"] [1] ["end", "points"] from⟨rfl,by symm,by symm,rfl,by symm,by symm⟩) rfl (PI.eqv (vX (K:=K) rfl (aH 0)) (su _ _)) (fun C s H fp pn=>(aP (i:=0) (show(["end", "points"]:List Str).Nodup by symm) rfl (Or.inl rfl))) (fun C s H fp pn=>cO) (fun C s H fp pn=>(CZ (PE.eqv (aL (Bv T) hr.d rfl T.z8 T.vJ.kp T.z7 .nil aY (aj (aH 0) aq)) (aF _ _ _)) (Ie (oN (YB (K:=K) rfl) (aH 0) (aH 1) rfl))))) aq)))) (aJ (bw mz)) cu)
      (aJ (bw (oN Et (cV (dw (K:=K) rfl) (aH 0) aN (fun _ _=>rfl)) (cV (dw (K:=K) rfl) (aH 0) aN (fun _ _=>rfl)) (cD _)))))),?_⟩
    have h60:60<sizeLine:=by decide
    left;refine⟨t,_,rfl,ht,fun H1 s1=>?_⟩;left;refine⟨_,(ht.same s1).q,false,rfl,iu.neg rfl ?_⟩;obtain⟨b,hb⟩:=ht.b;left;refine⟨b,⟨_,hb K H1 s1⟩,fun D hD=>cmQ [.str x,.str y] (fun i σ' H'=>(∃o,σ'=[o,some (.ref p)])∧Same H1 H'∧H' D=some (.lst (List.replicate i (.bl true)))) ⟨⟨none,rfl⟩,au hD,ak⟩ (fun i σ' H' _ h=>hb K H' (s1.trans h.2.1)) ?_ ?_⟩
    · rintro i v σ' H' hi ⟨⟨o,rfl⟩,sm,Lw⟩;obtain⟨z,hz,rfl⟩:∃z,z∈xs∧v = .str z:=by
        match i,hi with
        | 0,hi=>exact⟨x,hxm,(Option.some.inj hi).symm⟩
        | 1,hi=>exact⟨y,hym,(Option.some.inj hi).symm⟩
      have hi2:i<2:=(List.getElem?_eq_some_iff.mp hi).1;left;refine⟨z,rfl,Bw (hx.nm z hz),fun H2 s2=>?_⟩;rw[hx.nm z hz];left;refine⟨_,(hp.same (s1.trans (sm.trans s2))).q,rfl,List.all_eq_true.mp (qb0 xs),_,s2 _ _ Lw,by simp;omega,aZ (sm.trans s2) hD,?_⟩;rw[ak,qdz hz,← List.replicate_succ']
    ·rintro σ' H' ⟨⟨o,rfl⟩,sm,Lw⟩;have HN:=ht.same (s1.trans sm);left;refine⟨_,Lw,_,rK _,?_⟩;rw[show(List.replicate [V.str x,V.str y].length true).all id=true by simp];left;refine⟨_,HN.q,_,bM (j:=0) rfl,_,HN.q,_,bM (j:=1) rfl,?_⟩;left;refine⟨true,by simp[hne],?_⟩;exact q _ (s1.trans sm)
def Kl (H:Hp) (v:V) (e:Str×Str):Prop:=∃t,v = .ref t∧Sq H t [.str e.1,.str e.2]
theorem Kl.same {H H':Hp} {v:V} {e:Str×Str} (h:Kl H v e) (s:Same H H'):Kl H' v e:=by
  obtain⟨t,rfl,h⟩:=h;exact⟨t,rfl,h.same s⟩
def uI (H:Hp) (vs:List V) (ps:List (Str×Str)):Prop:=vs.length=ps.length∧∀(i:Nat) v e,vs[i]? = some v→ps[i]? = some e→Kl H v e
theorem uI.same {H H':Hp} {vs:List V} {ps:List (Str×Str)} (h:uI H vs ps) (s:Same H H'):uI H' vs ps:=⟨h.1,fun i v e h1 h2=>(h.2 i v e h1 h2).same s⟩
theorem uI.at {H:Hp} {vs:List V} {ps:List (Str×Str)} (h:uI H vs ps) {i:Nat} {v:V} (hv:vs[i]? = some v):∃e,ps[i]? = some e∧Kl H v e:=by
  have hi:i<ps.length:=by rw[← h.1];exact(List.getElem?_eq_some_iff.mp hv).1
  exact⟨ps[i],by simp[hi],h.2 i v _ hv (by simp[hi])⟩
structure Ae (xs:List Str) (ps:List (Str×Str)):Prop where
  len:ps.length≤20
  ok:∀e∈ps,e.1∈xs∧e.2∈xs∧e.1≠e.2
def Tj:Sp:=fun vs H Q _=>∃t p tv xs ps,vs=[.ref t,.ref p]∧Sq H t tv∧uI H tv ps∧Sq H p (xs.map V.str)∧Oa xs∧Ae xs ps∧∀H',Same H H'→Q (.bl true) H'
theorem Tn (T:Txt K mg a):bV P w K mg base mj 3 a.jd a.ug ["thing", "points"] Tj:=by
  exists T.Bp.tY,Ss
  ·obtain⟨t,p,tv,xs,ps,rfl,_⟩:=h;rfl
  · obtain⟨t,p,tv,xs,ps,rfl,ht,hpr,hp,hx,hts,q⟩:=h;refine⟨_,(aC (eX (PW.pt (xq (fO (dg (PE.eqv (aL (sZ T) hr.d rfl T.n_ T.jF.kp T.nZ .nil aY (aj (aH 0) aq)) (aF _ _ _)))) (qm (bI PL (aV (cW (K:=K) rfl) rfl T.nm.len PySem.boot_len (aj (aH 0) aq)) (bL rfl T.GC T.GF) (cD _))))) (aJ (bw mz)) cu)
      (aJ (bw (aV (nW rfl) rfl T.nm.all nQ (aj (cF rfl rfl (show aR (aD wC) _ ["thing", "points"] ["one"] [1] ["one", "points"] from⟨rfl,by symm,by symm,rfl,by symm,by symm⟩) rfl (PI.eqv (vX (K:=K) rfl (aH 0)) (su _ _)) (fun C s H fp pn=>(aP (i:=0) (show(["one", "points"]:List Str).Nodup by symm) rfl (Or.inl rfl))) (fun C s H fp pn=>cO) (fun C s H fp pn=>(PE.eqv (aL (Y6 T) hr.d rfl T.SM T.JT.kp T.SJ .nil aY (aj (aH 0) (aj (aH 1) aq))) (aF _ _ _)))) aq))))),?_⟩
    have hlen:=hpr.1;have nO:=hts.len;have h60:60<sizeLine:=by decide
    left;refine⟨t,_,rfl,ht,fun H1 s1=>?_⟩;left;refine⟨_,(ht.same s1).q,iu.neg (by simp;omega) ?_⟩;obtain⟨b,hb⟩:=ht.b;left;refine⟨b,⟨_,hb K H1 s1⟩,fun D hD=>cmQ tv (fun i σ' H'=>(∃o,σ'=[o,some (.ref p)])∧Same H1 H'∧H' D=some (.lst (List.replicate i (.bl true)))) ⟨⟨none,rfl⟩,au hD,ak⟩ (fun i σ' H' _ h=>hb K H' (s1.trans h.2.1)) ?_ ?_⟩
    ·rintro i v σ' H' hi ⟨⟨o,rfl⟩,sm,Lw⟩;obtain⟨e,he,t2,rfl,HN⟩:=hpr.at hi;have hi2:i<tv.length:=(List.getElem?_eq_some_iff.mp hi).1;obtain⟨h1,h2,h3⟩:=hts.ok e (List.mem_of_getElem? he);have s2:=s1.trans sm;left;refine⟨t2,p,e.1,e.2,xs,rfl,HN.same s2,hp.same s2,hx,h1,h2,h3,fun H2 s3=>?_⟩;left;refine⟨_,s3 _ _ Lw,by simp;omega,aZ (sm.trans s3) hD,?_⟩;rw[ak,← List.replicate_succ']
    ·rintro σ' H' ⟨⟨o,rfl⟩,sm,Lw⟩;left;refine⟨_,Lw,_,rK _,?_⟩;rw[show(List.replicate tv.length true).all id=true by simp];exact q _ (s1.trans sm)
def bQ (H:Hp) (vs:List V) (ps:List (Str×Str)):Prop:=vs.length=ps.length∧∀(i:Nat) v e,vs[i]? = some v→ps[i]? = some e→∃t,v = .ref t∧H t=some (.tup [.str e.1,.str e.2])
def cI (H H':Hp):Prop:=∀b xs,H b=some (.tup xs)→H' b=some (.tup xs)
theorem bQ.keep {H H':Hp} {vs:List V} {ps:List (Str×Str)} (h:bQ H vs ps) (s:cI H H'):bQ H' vs ps:=⟨h.1,fun i v e h1 h2=>by
  obtain⟨t,rfl,e⟩:=h.2 i v e h1 h2;exact⟨t,rfl,s _ _ e⟩⟩
theorem bQ.snoc {H:Hp} {vs:List V} {ps:List (Str×Str)} {t:Addr} {e:Str×Str} (h:bQ H vs ps) (ht:H t=some (.tup [.str e.1,.str e.2])):bQ H (vs++[.ref t]) (ps++[e]):=by
  refine⟨by simp[h.1],fun i v d h1 h2=>?_⟩
  by_cases hi:i<vs.length
  ·rw[List.getElem?_append_left hi] at h1;rw[List.getElem?_append_left (by rw[← h.1];exact hi)] at h2;exact h.2 i v d h1 h2
  · rw[List.getElem?_append_right (by omega)] at h1;rw[List.getElem?_append_right (by rw[← h.1];omega),← h.1] at h2;cases hk:i - vs.length with
    | zero=>
      rw[hk] at h1 h2;cases h1;cases h2;exact⟨t,rfl,ht⟩
    | succ j=>
      rw[hk] at h1;simp at h1
structure dW (C:Addr) (H:Hp) (o:Addr) (xs:List Str) (ps:List (Str×Str)):Prop where
  ex:∃dx n m tv,H o=some (.ins C dx [("names",V.ref n),("pairs",V.ref m)])∧H n=some (.tup (xs.map V.str))∧H m=some (.tup tv)∧bQ H tv ps∧ps.length≤20
def qdA (C:Addr):Sp:=fun vs H Q _=>∃o dx p t tv xs ps,vs=[.ref o,.ref p,.ref t]∧H o=some (.ins C dx [])∧Sq H t tv∧uI H tv ps∧Sq H p (xs.map V.str)∧Oa xs∧Ae xs ps∧
  ∀H',dW C H' o xs ps→But o H H'→Q .non H'
theorem Tp (T:Txt K mg a):bV P w K mg base mj 4 a.gK a.um ["self", "points", "ties"] (qdA a.bO):=by
  exists T.JX.tY,Sv
  ·obtain⟨o,dx,p,t,tv,xs,ps,rfl,_⟩:=h;rfl
  · obtain⟨o,dx,p,t,tv,xs,ps,rfl,ho,ht,hpr,hp,hx,hts,q⟩:=h;refine⟨_,(aC (eX (fO (dg (PE.eqv (aL (Ly T) hr.d rfl T.Dv T.wN.kp T.Du .nil aY (aj (aH 1) aq)) (aF _ _ _)))) (aJ pD) cu)
      (aC (eX (fO (dg (PE.eqv (aL (Tn T) hr.d rfl T.JW T.Bp.kp T.JV .nil aY (aj (aH 2) (aj (aH 1) aq))) (aF _ _ _)))) (aJ pD) cu)
      (aC (WK (K:=K) rfl (aH 0) (dz Nk rfl T.nm.tuple boot_tuple (aj (aH 1) aq)) rfl)
      (aJ (WK (K:=K) rfl (aH 0) (dz Nk rfl T.nm.tuple boot_tuple (aj (cF rfl rfl (show aR (aD wD) _ ["self", "points", "ties"] ["pair"] [] ["pair"] from⟨rfl,by symm,by symm,rfl,by symm,by symm⟩) rfl (PI.eqv (vX (K:=K) rfl (aH 2)) (su _ _)) (fun C s H fp pn=>(aP (i:=0) (show(["pair"]:List Str).Nodup by symm) rfl (Or.inl rfl))) (fun C s H fp pn=>cO) (fun C s H fp pn=>(fP (aj (cV (dw (K:=K) rfl) (aH 0) aN (fun _ _=>rfl)) (aj (cV (dw (K:=K) rfl) (aH 0) aN (fun _ _=>rfl)) aq))))) aq)) rfl))))),?_⟩
    left;refine⟨p,xs,rfl,hp,hx,fun H1 s1=>?_⟩;left;refine⟨t,p,tv,xs,ps,rfl,ht.same s1,hpr.same s1,hp.same s1,hx,hts,fun H2 s2'=>?_⟩;have s2:=s1.trans s2';left;refine⟨_,hp.same s2,fun n H3 hn s3'=>?_⟩;have s3:=s2.trans s3';have nno:n≠o:=HY hn (s3 _ _ ho) (by intro z;cases z);refine⟨_,_,_,s3 _ _ ho,T.qK,T.QB,by simp,?_⟩;have hto:t≠o:=by rcases ht with z | z <;> exact HY z ho (by intro y;cases y)
    have qh2:∀{ob:HO} {b:Addr} {u:HO},b≠o→H b=some u→upd H3 o ob b=some u:=fun hb e=>by rw[aM hb];exact s3 _ _ e
    obtain⟨b,hb⟩:∃b,∀H',(∀c u,c≠o→H c=some u→H' c=some u)→Ru b K H' t tv:=by
      rcases ht with z | z
      ·exact⟨true,fun H' k=>bC.of (k _ _ hto z)⟩
      ·exact⟨false,fun H' k=>gq.of (k _ _ hto z)⟩
    have e1:vp "names" (V.ref n) []=([("names",V.ref n)]:List (Str×V)):=rfl;rw[e1];have st4:∀(c:Addr) (u:HO),c≠o→H c=some u→upd H3 o (.ins a.bO dx [("names",V.ref n)]) c=some u:=fun c u hc e=>qh2 hc e;generalize h4:upd H3 o (.ins a.bO dx [("names",V.ref n)])=H4 at st4 ⊢;have ho4:H4 o=some (.ins a.bO dx [("names",V.ref n)]):=by rw[← h4];exact ak
    have hn4:H4 n=some (.tup (xs.map V.str)):=by rw[← h4,aM nno];exact hn
    refine⟨b,⟨_,hb H4 st4⟩,fun D hD=>cmQ tv (fun i σ' H'=>(∃o',σ'=[o'])∧Same H4 H'∧∃tvs,H' D=some (.lst tvs)∧bQ H' tvs (ps.take i)) ⟨⟨none,rfl⟩,au hD,[],ak,by simp[bQ]⟩ (fun i σ' H' _ h=>hb H' fun c u hc e=>h.2.1 _ _ (st4 c u hc e)) ?_ ?_⟩
    · rintro i v σ' H' hi ⟨⟨o',rfl⟩,sm,tvs,Lw,htv⟩;have hi2:i<tv.length:=(List.getElem?_eq_some_iff.mp hi).1;have hlen:=hpr.1;have nO:=hts.len;obtain⟨e,he,t2,rfl,HN⟩:=hpr.at hi;have t2o:t2≠o:=by rcases HN with z | z <;> exact HY z ho (by intro y;cases y)
      have ht3:Sq H' t2 [.str e.1,.str e.2]:=by
        rcases HN with z | z
        ·exact .inl (sm _ _ (st4 _ _ t2o z))
        ·exact .inr (sm _ _ (st4 _ _ t2o z))
      left;refine⟨_,ht3.q,_,bM (j:=0) rfl,_,ht3.q,_,bM (j:=1) rfl,fun pt hpt=>?_⟩;have hDp:D≠pt:=aQ Lw hpt;refine⟨tvs,by rw[aM hDp];exact Lw,?_,aZ (sm.trans (au hpt)) hD,_,ak,?_⟩
      · have h4':20<sizeLine:=by decide
        have:=htv.1;simp at this;omega
      · rw[take_one he];refine(htv.keep ?_).snoc ?_
        ·intro c zs ec;rw[aM (HY ec Lw (by intro y;cases y)),aM (aQ ec hpt)];exact ec
        ·rw[aM (Ne.symm hDp)];exact ak
    · rintro σ' H' ⟨⟨o',rfl⟩,sm,tvs,Lw,htv⟩;left;refine⟨tvs,.inl Lw,fun m H5 hm s5=>⟨_,_,_,s5 _ _ (sm _ _ ho4),T.qK,T.HJ,by simp,?_⟩⟩;have ho5:=s5 _ _ (sm _ _ ho4);have mno:m≠o:=HY hm ho5 (by intro z;cases z);have e2:vp "pairs" (V.ref m) ([("names",V.ref n)]:List (Str×V))=([("names",V.ref n),("pairs",V.ref m)]:List (Str×V)):=by
        show(if ("names" : Str) = "pairs" then _ else (("names" : Str),V.ref n)::vp "pairs" (V.ref m) [])=_
        rw[if_neg (by symm)];rfl
      rw[e2];refine q _ ⟨dx,n,m,tvs,ak,?_,?_,?_,hts.len⟩ fun c u hc e=>?_
      ·rw[aM nno];exact s5 _ _ (sm _ _ hn4)
      ·rw[aM mno];exact hm
      ·have hl:=hpr.1;rw[hl,List.take_length] at htv;refine htv.keep fun c zs ec=>?_;rw[aM (HY (s5 _ _ ec) ho5 (by intro z;cases z))];exact s5 _ _ ec
      ·rw[aM hc];exact s5 _ _ (sm _ _ (st4 c u hc e))
def Y7 (C:Addr):Sp:=fun vs H Q _=>∃o xs ps,vs=[.ref o]∧dW C H o xs ps∧∀l,H l=none→Q (.ref l) (upd H l (.lst (xs.map V.str)))
theorem iy (T:Txt K mg a):bV P w K mg base mj 1 a.dZ a.oZ ["self"] (Y7 a.bO):=by
  exists T.Dw.tY,Ls
  ·obtain⟨o,xs,ps,rfl,_⟩:=h;rfl
  ·obtain⟨o,xs,ps,rfl,⟨dx,n,m,tv,h1,h2,h3,h4,h5⟩,q⟩:=h;refine⟨_,(aJ (bw (dz (Jv (K:=K) rfl) rfl T.nm.list boot_list (aj (PE.eqv (O9 (K:=K) rfl (aH 0) rfl) (Qc _ _ _)) aq)))),?_⟩;left;refine⟨_,_,_,h1,T.qK,T.QB,_,rfl,_,.inr (gq.of h2),q⟩
def qdB (C:Addr):Sp:=fun vs H Q _=>∃o xs ps,vs=[.ref o]∧dW C H o xs ps∧∀l tv,H l=none→bQ H tv ps→Q (.ref l) (upd H l (.lst tv))
theorem GJ (T:Txt K mg a):bV P w K mg base mj 1 a.gM a.uo ["self"] (qdB a.bO):=by
  exists T.J0.tY,Sw
  ·obtain⟨o,xs,ps,rfl,_⟩:=h;rfl
  ·obtain⟨o,xs,ps,rfl,⟨dx,n,m,tv,h1,h2,h3,h4,h5⟩,q⟩:=h;refine⟨_,(aJ (bw (dz (Jv (K:=K) rfl) rfl T.nm.list boot_list (aj (PE.eqv (O9 (K:=K) rfl (aH 0) rfl) (Qc _ _ _)) aq)))),?_⟩;left;refine⟨_,_,_,h1,T.qK,T.HJ,_,rfl,_,.inr (gq.of h3),fun l hl=>q l tv hl h4⟩
theorem p7.upd {p q:Addr} {H:Hp} {u:HO} (x:p7 H p) (h:p≠q):p7 (L2.upd H q u) p:=by
  obtain⟨a,b,e,r⟩:=x;exact⟨a,b,by rw[aM h];exact e,r⟩
theorem p7.ne {p q:Addr} {H:Hp} (x:p7 H p) (h:H q=none):p≠q:=by
  obtain⟨a,b,e,r⟩:=x;exact aQ e h
theorem p7.none {p b:Addr} {H H':Hp} (x:But p H H') (hp:p7 H' p) (h:H' b = .none):H b = .none:=by
  obtain⟨a,b,e,r⟩:=hp;exact x.none e h
def qb1:Sp:=fun vs H Q _=>∃p l xs,vs=[.ref p,.ref l]∧p7 H p∧l≠p∧H l=some (.lst xs)∧xs.length≤100∧∀r ys H',H r=none→H' r=some (.lst ys)→ys.Perm xs→p7 H' p→But p H H'→Q (.ref r) H'
theorem Tq (T:Txt K mg a):bV P w K mg base mj 2 a.ux a.Dm ["_law_pot_here", "_law_things"] qb1:=by
  exists T.HD.tY,JR
  ·obtain⟨p,l,xs,rfl,_⟩:=h;rfl
  · obtain⟨p,l,xs,rfl,hp,hlp,hl,h100,q⟩:=h;refine⟨_,(aC (bx (i:=2) JR.nd rfl (Or.inl rfl) (bA aq))
      (aC (qt PassesOwn.never rfl (PI.eqv (cQ (K:=K) rfl (aH 1)) (cA _ _)) (aP (i:=3) JR.nd rfl (Or.inl rfl))
      (aJ (fu (mD (K:=K) rfl PySem.F.plainAttrs_list PySem.F.slot_list_insert PySem.F.type_list_insert Vg (aH 2) (aj (PE.eqv (aL (jK T) hr.d rfl T.mX T.lg.kp T.mW .nil aY (aj (aH 0) (aj (bG gH (aV (cW (K:=K) rfl) rfl T.nm.len PySem.boot_len (aj (aH 2) aq)) aN) aq))) (aF _ _ _)) (aj (aH 3) aq))))))
      (aJ (bw (aH 2))))),?_⟩
    have h4':100<sizeLine:=by decide
    left;intro r hr0;have hpr:p≠r:=hp.ne hr0;refine⟨⟨_,bC.of (bY hl hr0)⟩,frL xs (fun i σ H'=>∃v ys,σ=[some (.ref p),some (.ref l),some (.ref r),v]∧H' r=some (.lst ys)∧ys.Perm (xs.take i)∧p7 H' p∧But p H H') ⟨none,[],rfl,ak,by simp,hp.upd hpr,(But.refl _ _).new hr0⟩ (fun i σ H' _ ⟨_,_,_,_,_,_,hb⟩=>bC.of (hb _ _ hlp hl)) ?_ ?_⟩
    · rintro i x σ H' hi ⟨v,ys,rfl,hr',hperm,hP,hB⟩;have hi2:i<xs.length:=(List.getElem?_eq_some_iff.mp hi).1;have hly:ys.length=i:=by
        have:=hperm.length_eq;simp at this;omega
      left;refine⟨⟨_,bC.of hr'⟩,ys,.inl (bC.of hr'),p,_,rfl,hP,by omega,by omega,fun d H1 hd0 hd1 hP1 hB1=>?_⟩;have hr1:H1 r=some (.lst ys):=hB1 _ _ (Ne.symm hpr) hr';left;refine⟨ys,hr1,hd0,by omega,by omega,_,ak,?_,hP1.upd hpr,(hB.trans hB1).new hr0⟩
      · rw[take_one hi];have e:(ys.take d.toNat++x::ys.drop d.toNat).Perm (x::ys):=by
          refine List.perm_middle.trans ?_;rw[List.take_append_drop]
        exact e.trans ((List.Perm.cons x hperm).trans (List.perm_append_singleton x _).symm)
    ·rintro σ H' ⟨v,ys,rfl,hr',hperm,hP,hB⟩;rw[List.take_length] at hperm;left;exact q r ys H' hr0 hr' hperm hP hB
def qga:Sp:=fun vs H Q _=>∃(p l:Addr) (xs:List Str),vs=[.ref p,.ref l]∧p7 H p∧l≠p∧H l=some (.lst (xs.map V.str))∧2≤xs.length∧xs.length≤9∧xs.Nodup∧∀t x y H',H t=none→H' t=some (.tup [.str x,.str y])→x∈xs→y∈xs→x≠y→p7 H' p→But p H H'→Q (.ref t) H'
theorem qgb (T:Txt K mg a):bV P w K mg base mj 2 a.Gp a.Qs ["_law_pot_here", "_law_names_here"] qga:=by
  exists T.qbU.tY,Vs
  ·obtain⟨p,l,xs,rfl,_⟩:=h;rfl
  · obtain⟨p,l,xs,rfl,hp,hlp,hl,h2,h9,hnd,q⟩:=h;refine⟨_,(aC (bx (i:=2) Vs.nd rfl (Or.inl rfl) (PE.eqv (aL (jK T) hr.d rfl T.mX T.lg.kp T.mW .nil aY (aj (aH 0) (aj (aV (cW (K:=K) rfl) rfl T.nm.len PySem.boot_len (aj (aH 1) aq)) aq))) (aF _ _ _)))
      (aC (bx (i:=3) Vs.nd rfl (Or.inl rfl) (bG zP (bG gH (bG gH (aH 2) aN) (PE.eqv (aL (jK T) hr.d rfl T.mX T.lg.kp T.mW .nil aY (aj (aH 0) (aj (bG vZ (aV (cW (K:=K) rfl) rfl T.nm.len PySem.boot_len (aj (aH 1) aq)) aN) aq))) (aF _ _ _))) (aV (cW (K:=K) rfl) rfl T.nm.len PySem.boot_len (aj (aH 1) aq))))
      (aJ (bw (fP (aj (cV (dw (K:=K) rfl) (aH 1) (aH 2) (fun _ _=>rfl)) (aj (cV (dw (K:=K) rfl) (aH 1) (aH 3) (fun _ _=>rfl)) aq))))))),?_⟩
    left;refine⟨_,.inl (bC.of hl),p,_,rfl,hp,by simp;omega,by simp;omega,fun d H1 hd0 hd1 hP1 hB1=>?_⟩;have hl1:=hB1 _ _ hlp hl;left;refine⟨_,.inl (bC.of hl1),p,_,rfl,hP1,by simp;omega,by simp;omega,fun e H2 he0 he1 hP2 hB2=>?_⟩;have hl2:=hB2 _ _ hlp hl1;simp only[List.length_map] at hd1 he1;obtain⟨m0,m1,m2⟩:=qft hd0 hd1 he0 he1;obtain⟨vx,ex,ax⟩:=Wx (xs:=xs.map V.str) hd0 (by simpa using hd1);obtain⟨vy,ey,ay⟩:=Wx (xs:=xs.map V.str) m0 (by simpa using m1);obtain⟨x,ex',rfl⟩:=vY ex;obtain⟨y,ey',rfl⟩:=vY ey;have sl:=bC.of (K:=K) hl2;left;refine⟨_,.inl sl,by simp;omega,_,.inl sl,_,ax,_,.inl sl,_,(by simpa using ay),fun t ht=>?_⟩;refine q t x y _ (p7.none (hB1.trans hB2) hP2 ht) ak (List.mem_of_getElem? ex') (List.mem_of_getElem? ey') (fun z=>?_) (hP2.upd (hP2.ne ht)) ((hB1.trans hB2).same (au ht));subst z;have:=Iu hnd ex' ey';omega
def qb2:Sp:=fun vs H Q _=>∃(p:Addr) (m:Nat),vs=[.ref p,.int m]∧p7 H p∧1≤m∧m≤9∧∀(r:Addr) (xs:List Str) (H':Hp),H r=none→H' r=some (.lst (xs.map V.str))→Oa xs→xs.length=m→p7 H' p→But p H H'→Q (.ref r) H'
theorem qb3 (T:Txt K mg a):bV P w K mg base mj 2 a.uw a.Dl ["_law_pot_here", "_law_many"] qb2:=by
  exists T.Qv.tY,pG
  ·obtain⟨p,m,rfl,_⟩:=h;rfl
  · obtain⟨p,m,rfl,hp,h1,h9,q⟩:=h;refine⟨_,(aC (bx (i:=2) pG.nd rfl (Or.inl rfl) bH)
      (aC (bx (i:=3) pG.nd rfl (Or.inl rfl) (PE.eqv (aL (jK T) hr.d rfl T.mX T.lg.kp T.mW .nil aY (aj (aH 0) (aj aN aq))) (aF _ _ _)))
      (aC (bx (i:=4) pG.nd rfl (Or.inl rfl) (bA aq))
      (aC (qt PassesOwn.never rfl (PI.eqv (rF rfl T.nm.range (aj (aH 1) aq)) (rG _)) (aP (i:=5) pG.nd rfl (Or.inl rfl))
      (aC (bx (i:=6) pG.nd rfl (Or.inl rfl) (cV WR (aH 2) (bG zP (bG gH (aH 3) (bG Hj aN (aH 5))) aN) (fun _ _=>rfl)))
      (aC (qt PassesOwn.never rfl (PI.eqv (rF rfl T.nm.range (aj (PE.eqv (aL (jK T) hr.d rfl T.mX T.lg.kp T.mW .nil aY (aj (aH 0) (aj aN aq))) (aF _ _ _)) aq)) (rG _)) (aP (i:=7) pG.nd rfl (Or.inl rfl))
      (aJ (bx (i:=6) pG.nd rfl (Or.inl rfl) (bG RV (aH 6) (cV WR (aH 2) (PE.eqv (aL (jK T) hr.d rfl T.mX T.lg.kp T.mW .nil aY (aj (aH 0) (aj aN aq))) (aF _ _ _)) (fun _ _=>rfl))))))
      (aJ (fu (mD (K:=K) rfl PySem.F.plainAttrs_list PySem.F.slot_list_append PySem.F.type_list_append gJ (aH 4) (aj (aH 6) aq)))))))
      (aJ (bw (aH 4))))))),?_⟩
    left;refine⟨p,_,rfl,hp,by decide,by decide,fun d H1 hd0 hd1 hP1 hB1=>?_⟩;obtain⟨b,rfl,ql8,hbl⟩:=yg hd0 hd1;have hP2:=hP1;have hB2:=hB1;left;intro r hr0;refine⟨by omega,frR (fun i σ H'=>∃v8 v9 v10 ws,σ=[some (.ref p),some (.int m),some (.str (Str.ofString "abcdefghijklmnopqrstuvwxyz")),some (.int b),some (.ref r),v8,v9,v10]∧H' r=some (.lst (ws.map V.str))∧ws.length=i∧(∀(j:Nat) x,ws[j]? = some x→∃k,1≤k∧k≤4∧uM (97+(b+5 * j) % 26) k x)∧p7 H' p∧But p H H') ⟨none,none,none,[],rfl,ak,rfl,fun j x e=>by simp at e,hP2.upd (hP2.ne hr0),hB2.same (au hr0)⟩ ?_ ?_⟩
    · rintro i σ H' hi ⟨v8,v9,v10,ws,rfl,hr',hl,hw,hP,hB⟩;left;obtain⟨c,hc,qk9,hcl⟩:=yg (i:=((b:Int)+5 * i) % 26) (by omega) (by omega);have hc':c=(b+5 * i) % 26:=by omega
      have pr:r≠p:=fun z=>by subst z;obtain⟨_,_,u,_⟩:=hP2;rw[hr0] at u;cases u
      refine⟨Gf,_,hcl,p,_,rfl,hP,by decide,by decide,fun e H3 he0 he1 hP3 hB3=>?_⟩;left;refine⟨by omega,by omega,frR (fun j σ H'=>∃v10 x,σ=[some (.ref p),some (.int m),some (.str (Str.ofString "abcdefghijklmnopqrstuvwxyz")),some (.int b),some (.ref r),some (.int i),some (.str x),v10]∧H' r=some (.lst (ws.map V.str))∧uM (97+c) (j+1) x∧p7 H' p∧But p H H') ⟨v10,_,rfl,hB3 _ _ pr hr',uM.one qk9,hP3,hB.trans hB3⟩ ?_ ?_⟩
      ·rintro j σ H4 hj ⟨v10,x,rfl,hr4,hx,hP4,hB4⟩;left;refine⟨p,_,rfl,hP4,by decide,by decide,fun f H5 hf0 hf1 hP5 hB5=>?_⟩;obtain⟨n,rfl,qk_,hnl⟩:=yg hf0 hf1;simp -dsimp[aA,stC,-Bool.exists_bool,-List.map_take,-Prod.forall,-Prod.exists,Gf,hnl];have hx1:=hx.len;have s20:=of_eq_true qaI;refine⟨?_,_,_,⟨rfl,rfl⟩,hB5 _ _ pr hr4,hx.snoc (by omega) qk_,hP5,hB4.trans hB5⟩;show x.length+1≤sizeLine;omega
      · rintro σ H4 ⟨v10,x,rfl,hr4,hx,hP4,hB4⟩;left;have s20:=of_eq_true qaI;refine⟨⟨_,bC.of hr4⟩,_,hr4,by simp;omega,ws++[x],by rw[ak];simp,by simp[hl],fun j y e=>?_,hP4.upd pr.symm,hB4.new (p7.none hB2 hP2 hr0)⟩
        by_cases hj:j<ws.length
        ·rw[List.getElem?_append_left hj] at e;exact hw j y e
        · rw[List.getElem?_append_right (by omega)] at e;cases hk:j - ws.length with
          | zero=>
            rw[hk] at e;simp at e;subst e;have ej:j=i:=by omega
            subst ej;exact⟨_,by omega,by omega,hc'▸hx⟩
          | succ k=>
            rw[hk] at e;simp at e
    · rintro σ H' ⟨v8,v9,v10,ws,rfl,hr',hl,hw,hP,hB⟩;left;have nd:ws.Nodup:=by
        unfold List.Nodup;rw[List.pairwise_iff_getElem];intro i j hi hj hij e;obtain⟨k1,_,_,w1⟩:=hw i _ (by simp[hi]:ws[i]? = some ws[i]);obtain⟨k2,_,_,w2⟩:=hw j _ (by simp[hj]:ws[j]? = some ws[j]);have z:=w1.fst;rw[e,w2.fst] at z;simp at z;omega
      refine q r ws H' (p7.none hB2 hP2 hr0) hr' ⟨by omega,fun x hx=>?_,nd⟩ hl hP hB;obtain⟨j,hj,e⟩:=List.mem_iff_getElem.mp hx;obtain⟨k,k1,k4,w⟩:=hw j x (by simp[hj,e]);exact w.name k1 k4
theorem bQ.perm {H:Hp} {vs ys:List V} {ps:List (Str×Str)} (h:bQ H vs ps) (hp:ys.Perm vs):∃qs:List (Str×Str),bQ H ys qs∧qs.Perm ps:=by
  have e1:vs=(vs.zip ps).map (·.1):=by rw[List.map_fst_zip (by rw[h.1];exact Nat.le_refl _)]
  have e2:ps=(vs.zip ps).map (·.2):=by rw[List.map_snd_zip (by rw[h.1];exact Nat.le_refl _)]
  obtain⟨l',pl,e⟩:=Cz hp _ e1;refine⟨l'.map (·.2),⟨by rw[e];simp,fun i v d h1 h2=>?_⟩,by rw[e2];exact pl.map _⟩;rw[e,List.getElem?_map] at h1;rw[List.getElem?_map] at h2;cases hz:l'[i]? with
  | none=>rw[hz] at h1;cases h1
  | some z=>
    rw[hz] at h1 h2;cases h1;cases h2;have hm:z∈vs.zip ps:=pl.mem_iff.mp (List.mem_of_getElem? hz);obtain⟨j,hj,ez⟩:=List.mem_iff_getElem.mp hm;have hj':j<vs.length∧j<ps.length:=by
      simp at hj;omega
    simp at ez;subst ez;exact h.2 j _ _ (by simp[hj'.1]) (by simp[hj'.2])
theorem bQ.at {H:Hp} {vs:List V} {ps:List (Str×Str)} (h:bQ H vs ps) {i:Nat} {v:V} (hv:vs[i]? = some v):∃e,ps[i]? = some e∧∃t,v = .ref t∧H t=some (.tup [.str e.1,.str e.2]):=by
  have hi:i<ps.length:=by rw[← h.1];exact(List.getElem?_eq_some_iff.mp hv).1
  exact⟨ps[i],by simp[hi],h.2 i v _ hv (by simp[hi])⟩
theorem bQ.but {p:Addr} {H H':Hp} {vs:List V} {ps:List (Str×Str)} (h:bQ H vs ps) (hp:p7 H p) (b:But p H H'):bQ H' vs ps:=h.keep fun c xs e=>b c _ (fun z=>by
  subst z;obtain⟨_,_,u,_⟩:=hp;rw[e] at u;cases u) e
theorem bQ.same {H H':Hp} {vs:List V} {ps:List (Str×Str)} (h:bQ H vs ps) (b:Same H H'):bQ H' vs ps:=h.keep fun c xs e=>b c _ e
theorem p7.nl {p q:Addr} {H:Hp} (x:p7 H p) (h:H q = .none):q≠p:=fun z=>(x.ne h) z.symm
theorem qh3 {m:Str} {u v:V} (h1:¬m = "names") (h2:¬m = "pairs"):∀p∈([("names",u),("pairs",v)]:List (Str×V)),¬m=p.1:=fun p hp=>by
  simp at hp
  rcases hp with rfl | rfl
  ·exact h1
  ·exact h2
theorem dW.same {C:Addr} {H H':Hp} {o:Addr} {xs:List Str} {ps:List (Str×Str)} (h:dW C H o xs ps) (s:Same H H'):dW C H' o xs ps:=by
  obtain⟨dx,n,m,tv,h1,h2,h3,h4,h5⟩:=h.ex;exact⟨⟨dx,n,m,tv,s _ _ h1,s _ _ h2,s _ _ h3,bQ.same h4 s,h5⟩⟩
theorem dW.ins {C:Addr} {H:Hp} {o:Addr} {xs:List Str} {ps:List (Str×Str)} (h:dW C H o xs ps) {m:Str} (h1:¬m = "names") (h2:¬m = "pairs"):∃dx fs,H o=some (.ins C dx fs)∧∀p∈fs,¬m=p.1:=by
  obtain⟨dx,n,mm,tv,e,_⟩:=h.ex;exact⟨dx,_,e,qh3 h1 h2⟩
theorem HS:¬(("ties" : Str) = "names")∧¬(("ties" : Str) = "pairs"):=by symm
theorem iz:¬(("points" : Str) = "names")∧¬(("points" : Str) = "pairs"):=by symm
theorem HW:¬(("many" : Str) = "names")∧¬(("many" : Str) = "pairs"):=by symm
def Km (C:Addr):Sp:=fun vs H Q _=>∃o d xs ps fx,vs=[.ref o,.ref d]∧dW C H o xs ps∧qhn H d fx∧∀l tv H',H l=none→H' l=some (.lst tv)→cP H' tv (gG fx ps 0)→tv.length≤40→Same H H'→Q (.ref l) H'
theorem zf (T:Txt K mg a):bV P w K mg base mj 2 a.eG a.mQ ["web", "fixed"] (Km a.bO):=by
  exists T.pB.tY,iZ
  ·obtain⟨o,d,xs,ps,fx,rfl,_⟩:=h;rfl
  · obtain⟨o,d,xs,ps,fx,rfl,hw,hfx,q⟩:=h;refine⟨_,(aC (bx (i:=2) iZ.nd rfl (Or.inl rfl) (bA aq))
      (aC (qt PassesOwn.never rfl (PI.eqv (Hh (K:=K) rfl rfl T.Y4.enumerate (aj (PE.eqv (jX (aH 0) T.qK T.Bt (GJ T) hr.d T.Bq .nil aY) (jZ _ _ _ _ _ _)) aq)) (zO _ _)) (PG.eqv (c7 (K:=K) (n:=2) rfl rfl (fB.eqv (aU (aP (i:=3) iZ.nd rfl (Or.inl rfl)) (fB.eqv (aU (PG.eqv (c7 (K:=K) (n:=2) rfl rfl (fB.eqv (aU (aP (i:=4) iZ.nd rfl (Or.inl rfl)) (fB.eqv (aU (aP (i:=5) iZ.nd rfl (Or.inl rfl)) (fB.mono cM dJ)) (aW _ _))) (aW _ _))) (dh _ _ _)) (fB.mono cM dJ)) (aW _ _))) (aW _ _))) (dh _ _ _))
      (aC (eX (bI uN (PE.eqv (Rz (Mx hr) (aH 1) (aH 3) aN ⟨rfl,rfl,rfl,rfl⟩) (Ni _ _ _)) aN (cD _)) (aJ (fu (mD (K:=K) rfl PySem.F.plainAttrs_list PySem.F.slot_list_append PySem.F.type_list_append gJ (aH 2) (aj (fP (aj (aH 3) (aj (aH 4) (aj (aH 5) aq)))) aq)))) cu)
      (aJ (eX (bI uN (PE.eqv (Rz (Mx hr) (aH 1) (aH 3) aN ⟨rfl,rfl,rfl,rfl⟩) (Ni _ _ _)) aN (cD _)) (aJ (fu (mD (K:=K) rfl PySem.F.plainAttrs_list PySem.F.slot_list_append PySem.F.type_list_append gJ (aH 2) (aj (fP (aj (aH 3) (aj (aH 5) (aj (aH 4) aq)))) aq)))) cu))))
      (aJ (bw (aH 2))))),?_⟩
    obtain⟨dx,fs,hi,hno⟩:=hw.ins HS.1 HS.2;obtain⟨_,_,_,_,_,_,_,_,nO⟩:=hw.ex;left;intro L hL;refine⟨_,_,bY hi hL,hno,o,xs,ps,rfl,hw.same (au hL),fun l2 La hl2 qgc=>?_⟩;have sa:Same H (upd (upd H L (.lst [])) l2 (.lst La)):=(au hL).trans (au hl2);have eL:upd (upd H L (.lst [])) l2 (.lst La) L=some (.lst []):=bY ak hl2;have e2:upd (upd H L (.lst [])) l2 (.lst La) l2=some (.lst La):=ak;have Lz:=bQ.same qgc (au (o:=HO.lst La) hl2);have L2n:L≠l2:=fun z=>by subst z;rw[ak] at hl2;cases hl2
    generalize upd (upd H L (.lst [])) l2 (.lst La)=H1 at sa eL e2 Lz ⊢;obtain⟨kvs,hd,hv⟩:=hfx;have dL:d≠L:=aQ hd hL;left;refine⟨⟨_,bC.of e2⟩,frE La (fun i σ H'=>(∃v3 v4 v5 sv,σ=[some (.ref o),some (.ref d),some (.ref L),v3,v4,v5]∧H' L=some (.lst sv)∧cP H' sv (gG fx (ps.take i) 0)∧sv.length≤2 * i)∧H' l2=some (.lst La)∧bQ H' La ps∧Same H H') ⟨⟨_,_,_,[],rfl,eL,cR.nil,by simp⟩,e2,Lz,sa⟩ (fun i σ H' _ h=>bC.of h.2.1) ?_ ?_⟩
    · rintro i x t σ H2 hi ht ⟨⟨v3,v4,v5,sv,rfl,hL2,hsv,hsl⟩,qh4,htv,s2⟩;have hi2:i<La.length:=(List.getElem?_eq_some_iff.mp hi).1;have tl:=htv.1;obtain⟨e,he,tt,rfl,htt⟩:=htv.at hi;rw[Pu fx he];unfold Pr;left;have st:Same H2 (upd H2 t (.tup [.int i,.ref tt])):=au ht;refine⟨_,gq.of ak,rfl,_,gq.of (st _ _ htt),rfl,isD (st _ _ (s2 _ _ hd)),_,qhl i (st _ _ (s2 _ _ hd)),?_⟩;have tL:L≠t:=aQ hL2 ht;have hL3:=st _ _ hL2;have qgd:=st _ _ qh4;have Lz:=bQ.same htv st;have s3:=s2.trans st;have qge:=cP.keep hsv (L2.cI.of st);generalize upd H2 t (.tup [.int i,.ref tt])=H3 at hL3 qgd Lz s3 qge ⊢;have s60:60≤sizeLine:=by decide
      have add:∀(H3:Hp) (sv:List V) (S:List iB) (n:Nat) (x y:Str) (b:Addr),H3 L=some (.lst sv)→cP H3 sv S→H3 b=none→H3 l2=some (.lst La)→bQ H3 La ps→Same H H3→
          (upd (upd H3 b (.tup [.int n,.str x,.str y])) L (.lst (sv++[.ref b])) L=some (.lst (sv++[.ref b]))∧cP (upd (upd H3 b (.tup [.int n,.str x,.str y])) L (.lst (sv++[.ref b]))) (sv++[.ref b]) (S++[(n,x,y)]))∧upd (upd H3 b (.tup [.int n,.str x,.str y])) L (.lst (sv++[.ref b])) l2=some (.lst La)∧bQ (upd (upd H3 b (.tup [.int n,.str x,.str y])) L (.lst (sv++[.ref b]))) La ps∧Same H (upd (upd H3 b (.tup [.int n,.str x,.str y])) L (.lst (sv++[.ref b]))):=by
        intro H3 sv S n x y b hL3 hsv hb hl2 htv s3;have sb:Same H3 (upd H3 b (.tup [.int n,.str x,.str y])):=au hb;have kp:L2.cI (upd H3 b (.tup [.int n,.str x,.str y])) (upd (upd H3 b (.tup [.int n,.str x,.str y])) L (.lst (sv++[.ref b]))):=L2.cI.set (sb _ _ hL3) (by intro z e;cases e);refine⟨⟨ak,cR.snoc (cP.keep (cP.keep hsv (L2.cI.of sb)) kp) ⟨b,rfl,kp _ _ ak⟩⟩,by rw[aM L2n.symm];exact sb _ _ hl2,(bQ.same htv sb).keep kp,aZ (s3.trans sb) hL⟩
      rw[hv i,RK];left;refine qaJ (fun σ H4=>(∃sv,σ=[some (.ref o),some (.ref d),some (.ref L),some (.int i),some (.str e.1),some (.str e.2)]∧H4 L=some (.lst sv)∧cP H4 sv (gG fx (ps.take i) 0++if (fx i).getD 0=0 then [(i,e.1,e.2)] else [])∧sv.length≤2 * i+1)∧H4 l2=some (.lst La)∧bQ H4 La ps∧Same H H4) ?_ ?_
      · rintro σ H4 ⟨⟨sv,rfl,hL4,qh5,qgf⟩,qh6,qh7,s4⟩;left;refine⟨isD (s4 _ _ hd),_,qhl i (s4 _ _ hd),?_⟩;rw[hv i,RK];left;refine iu.of (fun h=>?_) (fun h=>?_)
        · have h':(fx i).getD 1=1:=by simpa using h
          left;refine⟨⟨_,bC.of hL4⟩,fun b hb=>?_⟩;refine⟨_,bY hL4 hb,zs1 qgf hi2 tl nO,?_⟩;obtain⟨⟨k1,k2⟩,k3,k4,k5⟩:=add H4 sv _ i e.2 e.1 b hL4 qh5 hb qh6 qh7 s4;refine⟨⟨_,k1,?_,by rw[List.length_append];exact zs2 qgf⟩,k3,k4,k5⟩;rw[if_pos h',← List.append_assoc];exact k2
        · have h':¬(fx i).getD 1=1:=by simpa using h
          left;refine⟨⟨_,hL4,?_,Nat.le_of_succ_le (zs2 qgf)⟩,qh6,qh7,s4⟩;rw[if_neg h',List.append_nil];exact qh5
      · intro N hN;refine iu.of (fun h=>?_) (fun h=>?_)
        · have h':(fx i).getD 0=0:=by simpa using h
          left;refine⟨⟨_,bC.of hL3⟩,fun b hb=>?_⟩;refine⟨_,bY hL3 hb,zs1 (Nat.le_succ_of_le hsl) hi2 tl nO,?_⟩;obtain⟨⟨k1,k2⟩,k3,k4,k5⟩:=add H3 sv _ i e.1 e.2 b hL3 qge hb qgd Lz s3;refine hN _ _ ⟨⟨_,rfl,k1,?_,by rw[List.length_append];exact Nat.succ_le_succ hsl⟩,k3,k4,k5⟩;rw[if_pos h'];exact k2
        · have h':¬(fx i).getD 0=0:=by simpa using h
          left;refine hN _ _ ⟨⟨_,rfl,hL3,?_,Nat.le_succ_of_le hsl⟩,qgd,Lz,s3⟩;rw[if_neg h',List.append_nil];exact qge
    ·rintro σ H2 ⟨⟨v3,v4,v5,sv,rfl,hL2,hsv,hsl⟩,qh4,htv,s2⟩;left;rw[htv.1,List.take_length] at hsv;have tl:=htv.1;exact q L sv H2 hL hL2 hsv (zs3 hsl tl nO) s2
def LC:Sp:=fun vs H Q _=>∃(start:Str) (l:Addr) (tv:List V) (S:List iB) (xs:List Str),vs=[.str start,.ref l]∧H l=some (.lst tv)∧cP H tv S∧start∈xs∧(∀s∈S,s.2.2∈xs)∧xs.length≤9∧
  ∀(d:Addr) (kvs:List (Key×V)) (R:BR) (H':Hp),H d=none→H' d=some (.dK kvs)→fX H' kvs R→RL S start R.length R→qhI S start R→wg H kvs→Same H H'→Q (.ref d) H'
theorem LK (T:Txt K mg a):bV P w K mg base mj 1 a.fK a.o_ ["start", "steps"] LC:=by
  exists T.wO.tY,dH
  ·obtain⟨start,l,tv,S,xs,rfl,_⟩:=h;rfl
  · obtain⟨start,l,tv,S,xs,rfl,hl,hS,hsx,hSx,h9,q⟩:=h;refine⟨_,(aC (bx (i:=2) dH.nd rfl (Or.inl rfl) (qc4 (qaF (aH 0) (bA aq) qc3) rfl rfl (by simp) (by decide)))
      (aC (bx (i:=3) dH.nd rfl (Or.inl rfl) (bA (aj (aH 0) aq)))
      (aC (bx (i:=4) dH.nd rfl (Or.inl rfl) aN)
      (aC (Ii PassesOwn.never (bI PK (aH 4) (aV (cW (K:=K) rfl) rfl T.nm.len PySem.boot_len (aj (aH 3) aq)) (cD _))
      (aC (bx (i:=5) dH.nd rfl (Or.inl rfl) (cV (dw (K:=K) rfl) (aH 3) (aH 4) (fun _ _=>rfl)))
      (aC (qt PassesOwn.never rfl (PI.eqv (cQ (K:=K) rfl (aH 1)) (cA _ _)) (PG.eqv (c7 (K:=K) (n:=3) rfl rfl (fB.eqv (aU (aP (i:=6) dH.nd rfl (Or.inl rfl)) (fB.eqv (aU (aP (i:=7) dH.nd rfl (Or.inl rfl)) (fB.eqv (aU (aP (i:=8) dH.nd rfl (Or.inl rfl)) (fB.mono cM dJ)) (aW _ _))) (aW _ _))) (aW _ _))) (dh _ _ _))
      (aJ (eX (PW.pt (Uc (bI uN (aH 7) (aH 5) (cD _)) (Oo (qc_ (PC.eqv (Yn (Mx hr) (aH 8) (aH 2)) (Vc _ _)))))) (aC (PS.eqv (qc2 (Mx hr) (aH 2) (aH 8) (bG bZ (PE.eqv (Wy (Mx hr) (aH 2) (aH 5) (fun _ _=>rfl)) (R0 _ _)) (bA (aj (aH 6) aq))) rfl) (qbg _ _ _))
      (aJ (fu (mD (K:=K) rfl PySem.F.plainAttrs_list PySem.F.slot_list_append PySem.F.type_list_append gJ (aH 3) (aj (aH 8) aq))))) cu)))
      (aJ (PS.mono (qeV (i:=4) dH.nd rfl (Or.inl rfl) aN qdm) qfU)))))
      (aJ (bw (aH 2))))))),?_⟩
    left;intro d hd p1 hp1;refine⟨bY ak hp1,[(Sum.inr start,.ref p1)],rfl,by simp,fun rl hrl=>?_⟩;have em:Bd [] [((Sum.inr start:Key),V.ref p1)]=[(Sum.inr start,.ref p1)]:=rfl;rw[em] at hrl ⊢;have dp1:d≠p1:=fun z=>by subst z;rw[ak] at hp1;cases hp1
    have qla:H p1=none:=cg (au hd) hp1;have sa:Same H (upd (upd (upd H d (.dK [])) p1 (.lst [])) d (.dK [(Sum.inr start,.ref p1)])):=aZ ((au hd).trans (au hp1)) hd;have qlb:H rl=none:=cg sa hrl;have e1:upd (upd (upd H d (.dK [])) p1 (.lst [])) d (.dK [(Sum.inr start,.ref p1)]) d=some (.dK [(Sum.inr start,.ref p1)]):=ak;have e2:upd (upd (upd H d (.dK [])) p1 (.lst [])) d (.dK [(Sum.inr start,.ref p1)]) p1=some (.lst []):=by rw[aM dp1.symm];exact ak
    generalize upd (upd (upd H d (.dK [])) p1 (.lst [])) d (.dK [(Sum.inr start,.ref p1)])=H1 at sa hrl e1 e2 ⊢;have sb:=sa.trans (au (o:=.lst [.str start]) hrl);have dr:d≠rl:=aQ e1 hrl;have qh8:wg H [((Sum.inr start:Key),V.ref p1)]:=by
      intro kv hkv q hq;simp at hkv;subst hkv;cases hq;exact qla
    refine whB (fun σ H'=>∃(n:Nat) (R:BR) (kvs:List (Key×V)) (o5 o6 o7 o8:Option V),σ=[some (.str start),some (.ref l),some (.ref d),some (.ref rl),some (.int n),o5,o6,o7,o8]∧H' d=some (.dK kvs)∧fX H' kvs R∧H' rl=some (.lst (R.map fun yw=>.str yw.1))∧RL S start n R∧vC S start n=R∧wg H kvs∧n≤R.length∧Same H H')
      (fun σ _=>qhp 4 σ)
      ⟨0,[(start,[])],[(Sum.inr start,.ref p1)],none,none,none,none,rfl,bY e1 hrl,⟨rfl,?_⟩,ak,RL.begin S start,rfl,qh8,by simp,sb⟩ ?_ R3
    · intro i kv yw h1 h2;have hi:i=0:=by have:=(List.getElem?_eq_some_iff.mp h1).1;simp at this;omega
      subst hi;simp at h1 h2;subst h1 h2;exact⟨rfl,p1,rfl,bY e2 hrl⟩
    · rintro σ H2 ⟨n,R,kvs,o5,o6,o7,o8,rfl,hd2,hW2,hr2,hB,hF,hN,hnR,s2⟩;have hR9:R.length≤9:=by
        have h1:=nR hB.nd (hB.sub hsx hSx);simp at h1;omega
      left;refine⟨_,.inl (bC.of hr2),iu.of (fun hlt=>?_) (fun hlt=>?_)⟩
      · have hlt':n<R.length:=by simpa using hlt
        left;obtain⟨⟨hh,wh⟩,hR⟩:∃x,R[n]? = some x:=⟨R[n],by simp[hlt']⟩;refine⟨_,.inl (bC.of hr2),.str hh,bM (by rw[List.getElem?_map,hR];rfl),⟨_,bC.of (s2 _ _ hl)⟩,frL tv (fun j σ H'=>∃(R:BR) (kvs:List (Key×V)) (o6 o7 o8:Option V),σ=[some (.str start),some (.ref l),some (.ref d),some (.ref rl),some (.int n),some (.str hh),o6,o7,o8]∧H' d=some (.dK kvs)∧fX H' kvs R∧H' rl=some (.lst (R.map fun yw=>.str yw.1))∧qy S (S.take j) start n hh wh R∧Ak (S.take j) hh wh (vC S start n)=R∧wg H kvs∧Same H H') ⟨R,kvs,o6,o7,o8,rfl,hd2,hW2,hr2,qy.enter hB hR,hF,hN,s2⟩ (fun j σ H' _ h=>by
          obtain⟨_,_,_,_,_,_,_,_,_,_,_,_,z⟩:=h;exact bC.of (z _ _ hl)) ?_ ?_⟩
        · rintro j x σ H3 hj ⟨R,kvs,o6,o7,o8,rfl,hd3,hW3,hr3,hM,hF3,hN3,s3⟩;obtain⟨⟨sn,so,sg⟩,hs,t,rfl,ht⟩:=hS.at hj;have hR9:R.length≤9:=by
            have h1:=nR hM.bf.nd (hM.bf.sub hsx hSx);simp at h1;omega
          have hFs:=Vh (S.take j) (sn,so,sg) hh wh (vC S start n);rw[hF3] at hFs;rw[take_one hs];left;refine⟨_,gq.of (s3 _ _ ht),rfl,?_⟩;left
          by_cases hoh:so=hh
          · subst hoh;refine iu.pos (by simp) ?_;left;refine⟨_,qhm sg hd3,?_⟩;rw[hW3.qkF hM.bf.nd];refine iu.of (fun hg=>?_) (fun hg=>?_)
            · have hg':¬sg∈R.map (·.1):=by simpa using hg
              obtain⟨pw,hpw,qlc⟩:=hW3.some hM.bf.nd (List.mem_of_getElem? hM.hr);have hwl:=hM.bf.qho (List.mem_of_getElem? hM.hr);have s20:=of_eq_true qaI;left;refine⟨.ref pw,?_,fun b hb=>?_⟩
              ·have:=qhm so hd3;rw[hpw] at this;exact this
              refine⟨_,bY qlc hb,_,ak,by simp;omega,fun c hc=>?_⟩;have s4:Same H3 (upd (upd H3 b (.lst [.int sn])) c (.lst (wh.map (fun n:Nat=>V.int n)++[.int sn]))):=(au hb).trans (au hc);have ec:upd (upd H3 b (.lst [.int sn])) c (.lst (wh.map (fun n:Nat=>V.int n)++[.int sn])) c=some (.lst (wh.map (fun n:Nat=>V.int n)++[.int sn])):=ak;generalize upd (upd H3 b (.lst [.int sn])) c (.lst (wh.map (fun n:Nat=>V.int n)++[.int sn]))=H4 at s4 ec ⊢;have hd4:=s4 _ _ hd3;have hr4:=s4 _ _ hr3;have hkl:=hW3.len;have epk:putK kvs (Sum.inr sg) (.ref c)=kvs++[(Sum.inr sg,.ref c)]:=qaB _ (hW3.none hg');refine⟨_,qkD sg hd4 (by omega),?_⟩;rw[epk];have hr5:upd H4 d (.dK (kvs++[(Sum.inr sg,.ref c)])) rl=some (.lst (R.map fun yw=>.str yw.1)):=by rw[aM dr.symm];exact hr4
              have ne0:∀w:List Nat,R.map (fun yw=>V.str yw.1)≠w.map (fun n:Nat=>V.int n):=fun w e=>by
                have hst:=hM.bf.st;cases R with
                | nil=>simp at hst
                | cons r R=>
                  cases w with
                  | nil=>simp at e
                  | cons n w=>simp at e
              have kp:∀(p:Addr) (w:List Nat),H4 p=some (.lst (w.map fun n:Nat=>V.int n))→upd (upd H4 d (.dK (kvs++[(Sum.inr sg,.ref c)]))) rl (.lst (R.map (fun yw=>V.str yw.1)++[.str sg])) p=some (.lst (w.map fun n:Nat=>V.int n)):=fun p w e=>by
                have h1:p≠d:=fun z=>by subst z;rw[hd4] at e;cases e
                have h2:p≠rl:=fun z=>by subst z;rw[hr4] at e;exact ne0 w (HO.lst.inj (Option.some.inj e))
                rw[aM h2,aM h1];exact e
              have ec':H4 c=some (.lst ((wh++[sn]).map fun n:Nat=>V.int n)):=by rw[ec];simp
              refine⟨⟨_,bC.of hr5⟩,_,hr5,by simp;omega,R++[(sg,wh++[sn])],_,by rw[aM dr];exact ak,?_,by rw[ak];simp,hM.add (List.mem_of_getElem? hs) hg',hFs.trans (if_pos ⟨rfl,hg'⟩),hN3.snoc (cg (s3.trans (au hb)) hc),aZ (aZ (s3.trans s4) hd) qlb⟩;refine fX.snoc (fX.keep (H:=H4) (fX.keep hW3 fun p w e=>s4 _ _ e) kp) (kp _ _ ec')
            · have hg':sg∈R.map (·.1):=by simpa using hg
              left;exact⟨R,kvs,hd3,hW3,hr3,hM.skip fun _=>hg',hFs.trans (if_neg (fun z=>z.2 hg')),hN3,s3⟩
          ·refine iu.neg (by simp[hoh]) ?_;left;exact⟨R,kvs,hd3,hW3,hr3,hM.skip fun z=>absurd z hoh,hFs.trans (if_neg (fun z=>hoh z.1)),hN3,s3⟩
        · rintro σ H3 ⟨R,kvs,o6,o7,o8,rfl,hd3,hW3,hr3,hM,hF3,hN3,s3⟩;have hl3:S.take tv.length=S:=by rw[hS.1,List.take_length]
          rw[hl3] at hM hF3;left;have hlen:=(List.getElem?_eq_some_iff.mp hM.hr).1;refine⟨⟨n+1,by omega,R,kvs,hd3,hW3,hr3,hM.leave,(YF (by rw[hF];exact hR)).trans hF3,hN3,hlen,s3⟩,?_⟩;simp[qhp];omega
      · have hlt':¬n<R.length:=by simpa using hlt
        have en:n=R.length:=by omega
        subst en;left;exact q d kvs R H2 hd hd2 hW2 hB hF hN s2
def tyD:PyData→String
  | .none=> "NoneType"
  | .bool _=> "bool"
  | .int _=> "int"
  | .str _=> "str"
  | .list _=> "list"
  | .tuple _=> "tuple"
  | .dict _=> "dict"
def QC:PyData→Bool
  | .list _=>true
  | .tuple _=>true
  | _=>false
def intD:PyData→Bool
  | .int _=>true
  | .bool _=>true
  | _=>false
def qeC:PyData→Bool
  | .bool _=>true
  | _=>false
def Fg:PyData→Bool
  | .int _=>true
  | _=>false
def Xf:PyData→Bool
  | .int i=>decide (0≤i) && decide (i≤1)
  | _=>false
def kids:PyData→List PyData
  | .list ds=>ds
  | .tuple ds=>ds
  | _=>[]
def mq (n:Nat) (d:PyData):Bool:=QC d && (decide ((kids d).length=n) && (kids d).all Xf)
theorem Vw {H:Hp} {d:PyData} {v:V} (h:cC H d v):qw K H v (.type (tyD d)):=by
  cases d with
  | none=>simp only[cC] at h;subst h;exact .non
  | bool b=>simp only[cC] at h;subst h;exact .bl b
  | int i=>simp only[cC] at h;subst h;exact .int i
  | str x=>simp only[cC] at h;subst h;exact .str x
  | list ds=>simp only[cC] at h;obtain⟨a,xs,rfl,h1,_⟩:=h;exact .lst h1
  | tuple ds=>simp only[cC] at h;obtain⟨a,xs,rfl,h1,_⟩:=h;exact .tup h1
  | dict ds=>simp only[cC] at h;obtain⟨_,a,rfl,h1⟩:=h;exact .dK h1
theorem qdC (d:PyData):W.kitAny K (.type (tyD d)) [.type "list",.type "tuple"]=some (QC d):=by
  cases d <;> simp[W.kitAny,W.kitOne,tyD,QC] <;> rfl
theorem qb4 (d:PyData):W.kitOne K (.type (tyD d)) (.type "int")=some (intD d):=by
  cases d with
  | none=>exact Er K
  | bool b=>exact Pn K
  | int i=>exact RG K
  | str x=>exact RD K
  | list ds=>exact Pg K
  | tuple ds=>exact Lj K
  | dict ds=>exact Pq K
theorem Y8 (d:PyData):W.kitOne K (.type (tyD d)) (.type "bool")=some (qeC d):=by
  cases d with
  | none=>exact CG K
  | bool b=>exact Lk K
  | int i=>exact Pj K
  | str x=>exact Ph K
  | list ds=>exact Li K
  | tuple ds=>exact IK K
  | dict ds=>exact Ln K
theorem qgg {H:Hp} {t:Addr} {ns:List Int} (h:Sq H t (ns.map V.int)):∃d,cC H d (.ref t)∧QC d=true∧kids d=ns.map PyData.int:=by
  rcases h with h | h
  ·exact⟨.list (ns.map PyData.int),by simp only[cC];exact⟨t,_,rfl,h,aX.ints H ns⟩,rfl,rfl⟩
  ·exact⟨.tuple (ns.map PyData.int),by simp only[cC];exact⟨t,_,rfl,h,aX.ints H ns⟩,rfl,rfl⟩
theorem qb5 {H:Hp} {d:PyData} {v:V} (h:cC H d v) (hs:QC d=true):∃t xs,v = .ref t∧Sq H t xs∧aX H (kids d) xs:=by
  cases d with
  | list ds=>simp only[cC] at h;obtain⟨a,xs,rfl,h1,h2⟩:=h;exact⟨a,xs,rfl,.inl h1,h2⟩
  | tuple ds=>simp only[cC] at h;obtain⟨a,xs,rfl,h1,h2⟩:=h;exact⟨a,xs,rfl,.inr h1,h2⟩
  | _=>cases hs
def qdD (C:Addr):Sp:=fun vs H Q _=>∃o xs ps,vs=[.ref o]∧dW C H o xs ps∧Q (.int ps.length) H
theorem GK (T:Txt K mg a):bV P w K mg base mj 1 a.gO a.uq ["self"] (qdD a.bO):=by
  exists T.J_.tY,Sx
  ·obtain⟨o,xs,ps,rfl,_⟩:=h;rfl
  ·obtain⟨o,xs,ps,rfl,⟨dx,n,m,tv,h1,h2,h3,h4,h5⟩,q⟩:=h;refine⟨_,(aJ (bw (aV (cW (K:=K) rfl) rfl T.nm.len PySem.boot_len (aj (PE.eqv (O9 (K:=K) rfl (aH 0) rfl) (Qc _ _ _)) aq)))),?_⟩;left;refine⟨_,_,_,h1,T.qK,T.HJ,_,rfl,_,.inr (gq.of h3),?_⟩;rw[h4.1];exact q
def Tr:Sp:=fun vs H Q _=>∃(d:PyData) (v:V),vs=[v]∧cC H d v∧∀H',Same H H'→Q (.bl (QC d)) H'
theorem Tt (T:Txt K mg a):bV P w K mg base mj 1 a.jC a.sH ["thing"] Tr:=by
  exists T.jF.tY,JL
  ·obtain⟨d,v,rfl,_⟩:=h;rfl
  ·obtain⟨d,v,rfl,hd,q⟩:=h;refine⟨_,(aJ (bw (aV (qbi (K:=K) rfl) rfl T.nm.isinstance boot_isinstance (aj (aH 0) (aj (fP (aj (mC (v:=.ty "list") rfl T.nm.list boot_list rfl) (aj (mC (v:=.ty "tuple") rfl T.nm.tuple boot_tuple rfl) aq))) aq))))),?_⟩;left;refine fun t ht=>⟨_,_,ak,_,Vw (cC.same (au ht) d v hd),_,qdC d,q _ (au ht)⟩
def Tv:Sp:=fun vs H Q _=>∃(d:PyData) (v:V),vs=[v]∧cC H d v∧Q (.bl (Fg d)) H
theorem zj (T:Txt K mg a):bV P w K mg base mj 1 a.jc a.t_ ["thing"] Tv:=by
  exists T.sI.tY,Sh
  ·obtain⟨d,v,rfl,_⟩:=h;rfl
  · obtain⟨d,v,rfl,hd,q⟩:=h;refine⟨_,(aJ (bw (CZ (aV (Vd (K:=K) rfl) rfl T.nm.isinstance boot_isinstance (aj (aH 0) (aj (mC (v:=.ty "int") rfl T.nm.int jB rfl) aq))) (Ie (CW (aV (Vd (K:=K) rfl) rfl T.nm.isinstance boot_isinstance (aj (aH 0) (aj (mC (v:=.ty "bool") rfl T.Y4.bool Uv rfl) aq)))))))),?_⟩;left;refine⟨_,Vw hd,_,qb4 d,?_⟩;cases hi:intD d with
    | false=>
      refine iu.neg rfl ?_;left;rw[show Fg d=false by cases d <;> first | rfl | cases hi] at q
      exact q
    | true=>
      refine iu.pos rfl ?_;left;refine⟨_,Vw hd,_,Y8 d,?_⟩;rw[show Fg d = !qeC d by cases d <;> first | rfl | cases hi] at q
      exact q
def Vx:Sp:=fun vs H Q _=>∃(d:PyData) (v:V),vs=[v]∧cC H d v∧Q (.bl (Xf d)) H
theorem Vy (T:Txt K mg a):bV P w K mg base mj 2 a.lU a.wJ ["thing"] Vx:=by
  exists T.Fe.tY,Vr
  ·obtain⟨d,v,rfl,_⟩:=h;rfl
  · obtain⟨d,v,rfl,hd,q⟩:=h;refine⟨_,(aJ (bw (CZ (PE.eqv (aL (zj T) hr.d rfl T.wM T.sI.kp T.wL .nil aY (aj (aH 0) aq)) (aF _ _ _)) (Ie (Ng v7 v7 aN (aH 0) aN))))),?_⟩;left;refine⟨d,v,rfl,hd,?_⟩;cases hw:Fg d with
    | false=>
      rw[show Xf d=false by cases d <;> first | rfl | cases hw] at q
      left;exact q
    | true=>
      obtain⟨i,rfl⟩:∃i,d = .int i:=by cases d <;> first | exact⟨_,rfl⟩ | cases hw
      simp only[cC] at hd;subst hd;left;simp only[Xf] at q;refine iu.of (fun h=>?_) (fun h=>?_)
      ·rw[h] at q;left;exact q
      ·rw[h] at q;left;exact q
theorem vq:∀l:List Bool,yd (l.map V.bl) l
  | []=>rfl
  | b::l=>⟨b,_,rfl,rfl,vq l⟩
def Ko (C:Addr):Sp:=fun vs H Q _=>∃(o:Addr) (v:V) (d:PyData) (xs:List Str) (ps:List (Str×Str)),vs=[.ref o,v]∧dW C H o xs ps∧cC H d v∧ps.length≤20∧
  ∀H',Same H H'→Q (.bl (mq ps.length d)) H'
theorem zm (T:Txt K mg a):bV P w K mg base mj 3 a.eN a.mR ["web", "thing"] (Ko a.bO):=by
  exists T.pC.tY,JQ
  ·obtain⟨o,v,d,xs,ps,rfl,_⟩:=h;rfl
  · obtain⟨o,v,d,xs,ps,rfl,hw,hd,nO,q⟩:=h;refine⟨_,(aC (eX (PW.pt (xq (fO (dg (PE.eqv (aL (Tt T) hr.d rfl T.n_ T.jF.kp T.nZ .nil aY (aj (aH 1) aq)) (aF _ _ _)))) (qm (bI Et (aV (cW (K:=K) rfl) rfl T.nm.len PySem.boot_len (aj (aH 1) aq)) (PE.eqv (jX (aH 0) T.qK T.Bu (GK T) hr.d T.Br .nil aY) (jZ _ _ _ _ _ _)) (cD _))))) (aJ (bw mz)) cu)
      (aJ (bw (aV (nW rfl) rfl T.nm.all nQ (aj (cF rfl rfl (show aR (aD oW) _ ["web", "thing"] ["one"] [] ["one"] from⟨rfl,by symm,by symm,rfl,by symm,by symm⟩) rfl (PI.eqv (vX (K:=K) rfl (aH 1)) (su _ _)) (fun C s H fp pn=>(aP (i:=0) (show(["one"]:List Str).Nodup by symm) rfl (Or.inl rfl))) (fun C s H fp pn=>cO) (fun C s H fp pn=>(PE.eqv (aL (Vy T) hr.d rfl T.N7 T.Fe.kp T.N6 .nil aY (aj (aH 0) aq)) (aF _ _ _)))) aq))))),?_⟩
    left;refine⟨d,v,rfl,hd,fun H1 s1=>?_⟩;cases hs:QC d with
    | false=>
      left;have e:mq ps.length d=false:=by unfold mq;rw[hs];rfl
      rw[e] at q;exact q _ s1
    | true=>
      obtain⟨t,ys,rfl,hq,hall⟩:=qb5 hd hs;obtain⟨dx,fs,hi,hno⟩:=(hw.same s1).ins HW.1 HW.2;have hq1:=hq.same s1;have hlen:=hall.length;left;refine⟨_,hq1.q,_,_,hi,hno,o,xs,ps,rfl,hw.same s1,?_⟩;left
      by_cases hn:ys.length=ps.length
      · refine⟨false,by simp[hn],iu.neg rfl ?_⟩;obtain⟨b,hb⟩:=hq1.b;left;refine⟨b,⟨_,hb K H1 (Same.refl _)⟩,fun D hD=>cmQ ys (fun i σ H'=>(∃o',σ=[o'])∧H' D=some (.lst ((((kids d).take i).map Xf).map V.bl))∧Same H1 H') ⟨⟨_,rfl⟩,ak,au hD⟩ (fun i σ H' _ h=>hb K H' h.2.2) ?_ ?_⟩
        ·rintro i x σ H2 hi ⟨⟨o',rfl⟩,hD2,s2⟩;have hi2:i<ys.length:=(List.getElem?_eq_some_iff.mp hi).1;obtain⟨c,hc,hx⟩:=hall.at hi;left;refine⟨c,x,rfl,cC.same (s1.trans s2) c x hx,?_⟩;left;refine⟨_,hD2,by rw[List.length_map,List.length_map];exact zsz (Nat.lt_of_le_of_lt (List.length_take_le ..) hi2) (by rw[hn];exact nO),?_,aZ s2 hD⟩;rw[ak,List.take_add_one,hc];simp
        · rintro σ H2 ⟨⟨o',rfl⟩,hD2,s2⟩;left;refine⟨_,hD2,_,vq _,?_⟩;have e:mq ps.length d=(((kids d).take ys.length).map Xf).all id:=by
            unfold mq;rw[hs,← hlen,List.take_length,decide_eq_true (by rw[hlen];exact hn),List.all_map];rfl
          rw[← e];exact q _ (s1.trans s2)
      · refine⟨true,by simp;exact fun z=>hn (Int.ofNat.inj z),iu.pos rfl ?_⟩;left;have e:mq ps.length d=false:=by unfold mq;rw[decide_eq_false (by rw[hlen];exact hn)];simp
        rw[e] at q;exact q _ s1
theorem Xg:∀{ns:List Int},(∀n∈ns,0≤n∧n≤1)→(ns.map PyData.int).all Xf=true
  | [],_=>rfl
  | n::ns,h=>by
    have h1:=h n List.mem_cons_self;rw[List.map_cons,List.all_cons,Xg fun m hm=>h m (List.mem_cons_of_mem _ hm)];simp[Xf,h1]
theorem Tw {d:PyData} {ns:List Int} (h1:QC d=true) (h2:kids d=ns.map PyData.int) (h01:∀n∈ns,0≤n∧n≤1):mq ns.length d=true:=by
  unfold mq;rw[h1,h2,Xg h01];simp
def qe (C:Addr) (H:Hp) (o t:Addr) (xs:List Str) (ps:List (Str×Str)) (ns:List Int):Prop:=dW C H o xs ps∧Sq H t (ns.map V.int)∧(∀n∈ns,0≤n∧n≤1)∧ns.length=ps.length∧ps.length≤20
def Af (C:Addr):Sp:=fun vs H Q _=>∃(o t:Addr) (xs:List Str) (ps:List (Str×Str)) (ns:List Int),vs=[.ref o,.ref t]∧qe C H o t xs ps ns∧∀H',Same H H'→Q .non H'
theorem qU (T:Txt K mg a):bV P w K mg base mj 4 a.b_ a.dY ["web", "thing"] (Af a.bO):=by
  exists T.cH.tY,qJ
  ·obtain⟨o,t,xs,ps,ns,rfl,_⟩:=h;rfl
  ·obtain⟨o,t,xs,ps,ns,rfl,⟨hw,ht,h01,hl,nO⟩,q⟩:=h;refine⟨_,(aJ (eX (fO (dg (PE.eqv (aL (zm T) hr.d rfl T.uW T.pC.kp T.uV .nil aY (aj (aH 0) (aj (aH 1) aq))) (aF _ _ _)))) (aJ pD) cu)),?_⟩;obtain⟨d,hd,hs,hk⟩:=qgg ht;left;refine⟨o,.ref t,d,xs,ps,rfl,hw,hd,nO,fun H1 s1=>?_⟩;rw[← hl,Tw hs hk h01];left;exact q _ s1
def QD (C:Addr):Sp:=fun vs H Q _=>∃(o:Addr) (xs:List Str) (ps:List (Str×Str)) (k:Int),vs=[.ref o,.int k]∧dW C H o xs ps∧0≤k∧k<ps.length∧Q (.bl true) H
theorem QF (T:Txt K mg a):bV P w K mg base mj 2 a.gB a.rA ["web", "thing"] (QD a.bO):=by
  exists T.yM.tY,Qo
  ·obtain⟨o,xs,ps,k,rfl,_⟩:=h;rfl
  ·obtain⟨o,xs,ps,k,rfl,hw,h0,h1,q⟩:=h;refine⟨_,(aJ (bw (CZ (PE.eqv (aL (zj T) hr.d rfl T.wM T.sI.kp T.wL .nil aY (aj (aH 1) aq)) (aF _ _ _)) (Ie (Ng v7 PK aN (aH 1) (PE.eqv (jX (aH 0) T.qK T.Bu (GK T) hr.d T.Br .nil aY) (jZ _ _ _ _ _ _))))))),?_⟩;obtain⟨dx,fs,hi,hno⟩:=hw.ins HW.1 HW.2;left;refine⟨.int k,_,rfl,by simp[cC],?_⟩;simp only[Fg];left;refine iu.pos (decide_eq_true h0) ?_;left;refine⟨_,_,hi,hno,o,xs,ps,rfl,hw,?_⟩;left;rw[decide_eq_true h1];exact q
theorem Kp:∀xs:List Int,keysOf (xs.map V.int)=xs.map Sum.inl
  | []=>rfl
  | x::xs=>by
    show Sum.inl x::keysOf (xs.map V.int)=_;rw[Kp xs];rfl
theorem qgh {xs:List Int} (h:xs.Nodup):(K_ (fun i=>(keysOf (xs.map V.int))[i]?.getD (Sum.inl 0)) (xs.map V.int).length).length=xs.length:=by
  rw[Kp,List.length_map];refine(Ux _ xs.length fun i j hi hj e=>?_).1;simp[hi,hj] at e;exact(List.getElem_inj h).mp e
theorem Tz {xs:List Int} {i:Nat} {x:V} (h:(xs.map V.int)[i]? = some x):∃z,xs[i]? = some z∧x = .int z:=by
  rw[List.getElem?_map] at h;cases e:xs[i]? with
  | none=>rw[e] at h;cases h
  | some z=>
    rw[e] at h;exact⟨z,rfl,(Option.some.inj h).symm⟩
structure Nrs (n:Nat) (ks:List Int):Prop where
  ok:∀k∈ks,0≤k∧k<n
  nd:ks.Nodup
  len:ks.length≤20
def Kq (C:Addr):Sp:=fun vs H Q _=>∃(o t:Addr) (xs:List Str) (ps:List (Str×Str)) (ks:List Int),vs=[.ref o,.ref t]∧dW C H o xs ps∧Sq H t (ks.map V.int)∧Nrs ps.length ks∧∀H',Same H H'→Q (.bl true) H'
theorem Kr (T:Txt K mg a):bV P w K mg base mj 3 a.eE a.mL ["web", "thing"] (Kq a.bO):=by
  exists T.uQ.tY,JM
  ·obtain⟨o,t,xs,ps,ks,rfl,_⟩:=h;rfl
  · obtain⟨o,t,xs,ps,ks,rfl,hw,ht,hk,q⟩:=h;refine⟨_,(aC (eX (PW.pt (xq (fO (dg (PE.eqv (aL (sZ T) hr.d rfl T.n_ T.jF.kp T.nZ .nil aY (aj (aH 1) aq)) (aF _ _ _)))) (qm (fO (dg (aV (nW rfl) rfl T.nm.all nQ (aj (cF rfl rfl (show aR (aD oU) _ ["web", "thing"] ["one"] [0] ["one", "web"] from⟨rfl,by symm,by symm,rfl,by symm,by symm⟩) rfl (PI.eqv (vX (K:=K) rfl (aH 1)) (su _ _)) (fun C s H fp pn=>(aP (i:=0) (show(["one", "web"]:List Str).Nodup by symm) rfl (Or.inl rfl))) (fun C s H fp pn=>cO) (fun C s H fp pn=>(PE.eqv (aL (QF T) hr.d rfl T.Gv T.yM.kp T.Gu .nil aY (aj (aH 1) (aj (aH 0) aq))) (aF _ _ _)))) aq))))))) (aJ (bw mz)) cu)
      (aJ (bw (oN uN (aV MP rfl T.nm.len PySem.boot_len (aj (dz (MN rfl) rfl T.nm.set MJ (aj (aH 1) aq)) aq)) (aV (cW (K:=K) rfl) rfl T.nm.len PySem.boot_len (aj (aH 1) aq)) (cD _))))),?_⟩
    left;refine⟨t,_,rfl,ht,fun H1 s1=>?_⟩;have ht1:=ht.same s1;obtain⟨b,hb⟩:=ht1.b;left;refine⟨b,⟨_,hb K H1 (Same.refl _)⟩,fun D hD=>cmQ (ks.map V.int) (fun i σ H'=>(∃o',σ=[o',some (.ref o)])∧Same H1 H'∧H' D=some (.lst (List.replicate i (.bl true)))) ⟨⟨none,rfl⟩,au hD,ak⟩ (fun i σ' H' _ h=>hb K H' h.2.1) ?_ ?_⟩
    ·rintro i x σ H2 hi ⟨⟨o',rfl⟩,s2,hD2⟩;obtain⟨k,hki,rfl⟩:=Tz hi;have hi2:i<ks.length:=(List.getElem?_eq_some_iff.mp hki).1;have hk2:=hk.ok k (List.mem_of_getElem? hki);left;refine⟨o,xs,ps,k,rfl,hw.same (s1.trans s2),hk2.1,hk2.2,?_⟩;left;refine⟨_,hD2,by rw[List.length_replicate];exact zsz hi2 hk.len,aZ s2 hD,?_⟩;rw[ak,← List.replicate_succ']
    ·rintro σ H2 ⟨⟨o',rfl⟩,s2,hD2⟩;have HN:=ht1.same s2;left;refine⟨_,hD2,_,rK _,?_⟩;rw[show(List.replicate (ks.map V.int).length true).all id=true by simp];left;have QG:=hk.len;refine⟨_,HN.q,by simp[isKey],by simp;unfold scanBound;omega,fun t3 ht3=>⟨_,ak,_,(HN.same (au ht3)).q,?_⟩⟩;rw[decide_eq_true (by rw[qgh hk.nd];simp)];exact q _ (s1.trans (s2.trans (au ht3)))
def trn (ks ns:List Int):List Int:=ns.mapIdx fun i n=>if ((i:Nat):Int)∈ks then 1 - n else n
theorem qdE (ks ns:List Int):(trn ks ns).length=ns.length:=by unfold trn;simp
theorem qgi {ks ns:List Int} {i:Nat} {n:Int} (h:ns[i]? = some n):(trn ks ns)[i]? = some (if (i:Int)∈ks then 1 - n else n):=by
  unfold trn;rw[List.getElem?_mapIdx,h];rfl
theorem Xh (k:Int) (ks:List Int):inV (.int k) (ks.map V.int)=decide (k∈ks):=by
  unfold inV;rw[List.any_map]
  induction ks with
  | nil=>rfl
  | cons a ks ih=>
    rw[List.any_cons,ih]
    by_cases e:a=k
    ·subst e;simp[X_]
    ·simp[X_,e,Ne.symm e]
theorem Y9 (ks:List Int):∀z∈ks.map V.int,lO z=true:=by
  intro z hz;obtain⟨k,_,rfl⟩:=List.mem_map.mp hz;rfl
def Y_ (C:Addr):Sp:=fun vs H Q _=>∃(o t u:Addr) (xs:List Str) (ps:List (Str×Str)) (ns ks:List Int),vs=[.ref o,.ref t,.ref u]∧qe C H o t xs ps ns∧Sq H u (ks.map V.int)∧Nrs ps.length ks∧
  ∀r H',H r=none→H' r=some (.lst ((trn ks ns).map V.int))→Same H H'→Q (.ref r) H'
theorem Za (T:Txt K mg a):bV P w K mg base mj 5 a.pK a.zZ ["web", "pointing", "numbers"] (Y_ a.bO):=by
  exists T.Kf.tY,YZ
  ·obtain⟨o,t,u,xs,ps,ns,ks,rfl,_⟩:=h;rfl
  · obtain⟨o,t,u,xs,ps,ns,ks,rfl,hp,hu,hk,q⟩:=h;refine⟨_,(aC (fu (PE.eqv (aL (qU T) hr.d rfl T.dF T.cH.kp T.dD .nil aY (aj (aH 0) (aj (aH 1) aq))) (aF _ _ _)))
      (aC (eX (fO (dg (PE.eqv (aL (Kr T) hr.d rfl T.Ao T.uQ.kp T.Am .nil aY (aj (aH 0) (aj (aH 2) aq))) (aF _ _ _)))) (aJ pD) cu)
      (aJ (bw (cF rfl rfl (show aR (aD Di) _ ["web", "pointing", "numbers"] ["number", "lead"] [2] ["number", "lead", "numbers"] from⟨rfl,by symm,by symm,rfl,by symm,by symm⟩) rfl (qbm (K:=K) rfl rfl T.Y4.enumerate (aj (aH 1) aq)) (fun C s H fp pn=>(PG.eqv (c7 (K:=K) (n:=2) rfl rfl (fB.eqv (aU (aP (i:=0) (show(["number", "lead", "numbers"]:List Str).Nodup by symm) rfl (Or.inl rfl)) (fB.eqv (aU (aP (i:=1) (show(["number", "lead", "numbers"]:List Str).Nodup by symm) rfl (Or.inl rfl)) (fB.mono cM dJ)) (aW _ _))) (aW _ _))) (dh _ _ _))) (fun C s H fp pn=>cO) (fun C s H fp pn=>(Rb (bI (YB (K:=K) rfl) (aH 0) (aH 2) rfl) (bG vZ aN (aH 1)) (aH 1)))))))),?_⟩
    left;refine⟨o,t,xs,ps,ns,rfl,hp,fun H1 s1=>?_⟩;obtain⟨hw,ht,h01,hl,nO⟩:=hp;left;refine⟨o,u,xs,ps,ks,rfl,hw.same s1,hu.same s1,hk,fun H2 s2'=>?_⟩;have s2:=s1.trans s2';have hu2:=hu.same s2;obtain⟨b,hb⟩:=(ht.same s2).b;left;refine⟨b,⟨_,hb K H2 (Same.refl _)⟩,fun D hD=>qk1 (ns.map V.int) (fun i σ H'=>(∃o1 o2,σ=[o1,o2,some (.ref u)])∧H' D=some (.lst (((trn ks ns).take i).map V.int))∧Same H2 H') ⟨⟨_,_,rfl⟩,ak,au hD⟩ (fun i σ H' _ h=>hb K H' h.2.2) ?_ ?_⟩
    · rintro i x e σ H3 hi he ⟨⟨o1,o2,rfl⟩,M_,s3⟩;obtain⟨n,hn,rfl⟩:=Tz hi;have hi2:i<ns.length:=(List.getElem?_eq_some_iff.mp hn).1;have s4:Same H3 (upd H3 e (.tup [.int i,.int n])):=au he;have hu4:=hu2.same (s3.trans s4);have hDe:D≠e:=aQ M_ he;have xU:upd H3 e (.tup [.int i,.int n]) D=some (.lst (((trn ks ns).take i).map V.int)):=s4 _ _ M_;refine⟨_,gq.of ak,rfl,?_⟩;left;refine⟨_,hu4.q,rfl,Y9 ks,?_⟩;rw[Xh];have fin:∀y:Int,(trn ks ns)[i]? = some y→∃ys,upd H3 e (.tup [.int i,.int n]) D=some (HO.lst ys)∧ys.length<sizeLine∧((∃o1 o2,[some (V.int i),some (V.int n),some (V.ref u)]=[o1,o2,some (V.ref u)])∧
          upd (upd H3 e (.tup [.int i,.int n])) D (.lst (ys++[V.int y])) D=some (.lst (((trn ks ns).take (i+1)).map V.int))∧Same H2 (upd (upd H3 e (.tup [.int i,.int n])) D (.lst (ys++[V.int y])))):=fun y hy=>
        ⟨_,xU,by rw[List.length_map];exact zsz (Nat.lt_of_le_of_lt (List.length_take_le ..) hi2) (by rw[hl];exact nO),⟨_,_,rfl⟩,by rw[ak,List.take_add_one,hy];simp,aZ (s3.trans s4) hD⟩
      have ht:=qgi (ks:=ks) hn;refine iu.of (fun h=>?_) (fun h=>?_)
      ·rw[if_pos (of_decide_eq_true h)] at ht;left;obtain⟨ys,f1,f2,_,f4,f5⟩:=fin _ ht;exact⟨ys,f1,f2,f4,f5⟩
      ·rw[if_neg (of_decide_eq_false h)] at ht;left;obtain⟨ys,f1,f2,_,f4,f5⟩:=fin _ ht;exact⟨ys,f1,f2,f4,f5⟩
    ·rintro σ H3 ⟨⟨o1,o2,rfl⟩,M_,s3⟩;left;rw[List.length_map,← qdE ks ns,List.take_length] at M_;exact q D H3 (cg s2 hD) M_ (s2.trans s3)
theorem Fi:∀(xs:List V) (n k:Nat),qW (nums n xs) (Sum.inl ((n+k:Nat):Int):Key)=xs[k]?
  | [],n,k=>by simp[nums,qW]
  | x::xs,n,0=>by rw[nums,Cv (by simp)];rfl
  | x::xs,n,k+1=>by
    rw[nums,Cw (by intro z;injection z with z;omega)];have:=Fi xs (n+1) k;rw[show n+1+k=n+(k+1) by omega] at this;rw[this];simp
def QH (ns:List Int) (ps:List (Str×Str)):List iB:=gG (fun k=>ns[k]?) ps 0
def Zb (C:Addr):Sp:=fun vs H Q _=>∃(o t:Addr) (xs:List Str) (ps:List (Str×Str)) (ns:List Int),vs=[.ref o,.ref t]∧qe C H o t xs ps ns∧
  ∀l tv H',H l=none→H' l=some (.lst tv)→cP H' tv (QH ns ps)→tv.length≤40→Same H H'→Q (.ref l) H'
theorem Ob (T:Txt K mg a):bV P w K mg base mj 5 a.mU a.vH ["web", "pointing"] (Zb a.bO):=by
  exists T.vK.tY,N5
  ·obtain⟨o,t,xs,ps,ns,rfl,_⟩:=h;rfl
  · obtain⟨o,t,xs,ps,ns,rfl,hp,q⟩:=h;refine⟨_,(aC (fu (PE.eqv (aL (qU T) hr.d rfl T.dF T.cH.kp T.dD .nil aY (aj (aH 0) (aj (aH 1) aq))) (aF _ _ _)))
      (aJ (bw (PE.eqv (aL (zf T) hr.d rfl T.uU T.pB.kp T.uT .nil aY (aj (aH 0) (aj (Gh (K:=K) rfl rfl rfl T.Y4.dict rfl T.Y4.enumerate (aj (aH 1) aq)) aq))) (aF _ _ _))))),?_⟩
    left;refine⟨o,t,xs,ps,ns,rfl,hp,fun H1 s1=>?_⟩;obtain⟨hw,ht,h01,hl,nO⟩:=hp;left;refine⟨_,(ht.same s1).q,fun d hd=>⟨o,d,xs,ps,(fun k=>ns[k]?),rfl,hw.same (s1.trans (au hd)),⟨_,ak,fun k=>?_⟩,fun l tv H2 hl hl2 hst h40 s2=>q l tv H2 (cg (s1.trans (au hd)) hl) hl2 hst h40 ((s1.trans (au hd)).trans s2)⟩⟩;have:=Fi (ns.map V.int) 0 k;rw[Nat.zero_add,List.getElem?_map] at this;exact this
theorem qeD {ps:List (Str×Str)} {ns:List Int} (hlen:ns.length=ps.length) (h01:∀n∈ns,0≤n∧n≤1):QH ns ps=mF ns ps 0:=qaR (fun k=>ns[k]?) ps ns 0 (fun i=>by rw[Nat.zero_add]) hlen h01
def zp (C N:Addr):Sp:=fun vs H Q E=>∃(o:Addr) (v:V) (d:PyData) (xs:List Str) (ps:List (Str×Str)),vs=[.ref o,v]∧dW C H o xs ps∧cC H d v∧ps.length≤20∧
  ∀H',Same H H'→(mq ps.length d=true→Q .non H')∧(mq ps.length d=false→E (.ref N) none H')
theorem ji (T:Txt K mg a):bV P w K mg base (Qf P w) 4 a.b_ a.dY ["web", "thing"] (zp a.bO a.aB):=by
  exists T.cH.Vl,qJ
  ·obtain⟨o,v,d,xs,ps,rfl,_⟩:=h;rfl
  · obtain⟨o,v,d,xs,ps,rfl,hw,hd,nO,q⟩:=h;refine⟨_,(aJ (eX (fO (dg (PE.eqv (aL (zm T) hr.d rfl T.uW T.pC.kp T.uV .nil aY (aj (aH 0) (aj (aH 1) aq))) (aF _ _ _)))) (aJ (yC (E:=E) kj rfl rfl T.gU rfl T.jG (aj bH aq))) cu)),?_⟩;left;refine⟨o,v,d,xs,ps,rfl,hw,hd,nO,fun H1 s1=>?_⟩;cases hb:mq ps.length d with
    | true=>
      left;exact(q _ s1).1 hb
    | false=>
      left;exact(q _ s1).2 hb
theorem z_ {H:Hp} {d:PyData} {v:V} {n:Nat} (h:cC H d v) (hp:mq n d=true):∃(t:Addr) (ns:List Int),v = .ref t∧Sq H t (ns.map V.int)∧(∀m∈ns,0≤m∧m≤1)∧ns.length=n:=by
  unfold mq at hp;rw[Bool.and_eq_true,Bool.and_eq_true] at hp;obtain⟨h1,h2,h3⟩:=hp;obtain⟨t,ys,rfl,hq,hall⟩:=qb5 h h1;have key:∀(ds:List PyData) (ys:List V),aX H ds ys→ds.all Xf=true→∃ns:List Int,ys=ns.map V.int∧(∀m∈ns,0≤m∧m≤1)∧ns.length=ds.length:=by
    intro ds
    induction ds with
    | nil=>intro ys h _;exact⟨[],by simpa [aX] using h,by simp,rfl⟩
    | cons c ds ih=>
      intro ys h hl;rw[List.all_cons,Bool.and_eq_true] at hl;simp only[aX] at h;obtain⟨x,r,rfl,hx,hr⟩:=h;obtain⟨ns,rfl,e2,e3⟩:=ih r hr hl.2;cases c with
      | int i=>
        simp only[cC] at hx;subst hx;have hi:0≤i∧i≤1:=by simpa [Xf] using hl.1
        refine⟨i::ns,rfl,fun m hm=>?_,by simp[e3]⟩
        rcases List.mem_cons.mp hm with rfl | hm
        ·exact hi
        ·exact e2 m hm
      | _=>exact absurd hl.1 (by simp[Xf])
  obtain⟨ns,rfl,e2,e3⟩:=key _ _ hall h3;exact⟨t,ns,rfl,hq,e2,by rw[e3];exact of_decide_eq_true h2⟩
def Vz (C N:Addr):Sp:=fun vs H Q E=>∃(o:Addr) (v:V) (d:PyData) (xs:List Str) (ps:List (Str×Str)),vs=[.ref o,v]∧dW C H o xs ps∧cC H d v∧ps.length≤20∧
  (mq ps.length d=false→∀H',Same H H'→E (.ref N) none H')∧
  ∀t ns,mq ps.length d=true→v = .ref t→qe C H o t xs ps ns→∀l tv H',H l=none→H' l=some (.lst tv)→cP H' tv (QH ns ps)→tv.length≤40→Same H H'→Q (.ref l) H'
theorem VB (T:Txt K mg a):bV P w K mg base (Qf P w) 5 a.mU a.vH ["web", "pointing"] (Vz a.bO a.aB):=by
  exists T.vK.Vl,N5
  ·obtain⟨o,v,d,xs,ps,rfl,_⟩:=h;rfl
  · obtain⟨o,v,d,xs,ps,rfl,hw,hd,nO,q1,q2⟩:=h;refine⟨_,(aC (fu (PE.eqv (aL (ji T) hr.d rfl T.dF T.cH.kp T.dD .nil (kj.passes rfl) (aj (aH 0) (aj (aH 1) aq))) (aF _ _ _)))
      (aJ (bw (PE.eqv (aL (zf T) hr.d rfl T.uU T.pB.kp T.uT .nil aY (aj (aH 0) (aj (Gh (K:=K) rfl rfl rfl T.Y4.dict rfl T.Y4.enumerate (aj (aH 1) aq)) aq))) (aF _ _ _))))),?_⟩
    left;refine⟨o,v,d,xs,ps,rfl,hw,hd,nO,fun H1 s1=>⟨fun hb=>?_,fun hb=>q1 hb _ s1⟩⟩;obtain⟨t,ns,rfl,ht,h01,hl⟩:=z_ hd hb;have q:=q2 t ns hb rfl ⟨hw,ht,h01,hl,nO⟩;left;refine⟨_,(ht.same s1).q,fun d hd=>⟨o,d,xs,ps,(fun k=>ns[k]?),rfl,hw.same (s1.trans (au hd)),⟨_,ak,fun k=>?_⟩,fun l tv H2 hl hl2 hst h40 s2=>q l tv H2 (cg (s1.trans (au hd)) hl) hl2 hst h40 ((s1.trans (au hd)).trans s2)⟩⟩;have:=Fi (ns.map V.int) 0 k;rw[Nat.zero_add,List.getElem?_map] at this;exact this
def Zc (C:Addr):Sp:=fun vs H Q _=>∃(o t:Addr) (xs:List Str) (ps:List (Str×Str)) (ns:List Int),vs=[.ref o,.ref t]∧qe C H o t xs ps ns∧xs.length≤9∧
  ∀(r:Addr) (H':Hp),H r=none→H' r=some (.lst ((xs.map fun x=>(((QH ns ps).map (·.2.2)).count x:Int)).map V.int))→Same H H'→Q (.ref r) H'
theorem jL (T:Txt K mg a):bV P w K mg base mj 6 a.j6 a.rH ["web", "pointing"] (Zc a.bO):=by
  exists T.f9.tY,zV
  ·obtain⟨o,t,xs,ps,ns,rfl,_⟩:=h;rfl
  · obtain⟨o,t,xs,ps,ns,rfl,hp,h9,q⟩:=h;refine⟨_,(aC (bx (i:=2) zV.nd rfl (Or.inr rfl) (cF rfl rfl (show aR (aD sE) _ ["web", "pointing", "goals"] ["number", "origin", "goal"] [] ["number", "origin", "goal"] from⟨rfl,by symm,by symm,rfl,by symm,by symm⟩) rfl (PI.eqv (cQ (K:=K) rfl (PE.eqv (aL (Ob T) hr.d rfl T.DK T.vK.kp T.DG .nil aY (aj (aH 0) (aj (aH 1) aq))) (aF _ _ _))) (cA _ _)) (fun C s H fp pn=>(PG.eqv (c7 (K:=K) (n:=3) rfl rfl (fB.eqv (aU (aP (i:=0) (show(["number", "origin", "goal"]:List Str).Nodup by symm) rfl (Or.inl rfl)) (fB.eqv (aU (aP (i:=1) (show(["number", "origin", "goal"]:List Str).Nodup by symm) rfl (Or.inl rfl)) (fB.eqv (aU (aP (i:=2) (show(["number", "origin", "goal"]:List Str).Nodup by symm) rfl (Or.inl rfl)) (fB.mono cM dJ)) (aW _ _))) (aW _ _))) (aW _ _))) (dh _ _ _))) (fun C s H fp pn=>cO) (fun C s H fp pn=>(aH 2))))
      (aJ (bw (cF rfl rfl (show aR (aD sE) _ ["web", "pointing", "goals"] ["point"] [2] ["point", "goals"] from⟨rfl,by symm,by symm,rfl,by symm,by symm⟩) rfl (PI.eqv (cQ (K:=K) rfl (PE.eqv (jX (aH 0) T.qK T.gR (iy T) hr.d T.gQ .nil aY) (jZ _ _ _ _ _ _))) (cA _ _)) (fun C s H fp pn=>(aP (i:=0) (show(["point", "goals"]:List Str).Nodup by symm) rfl (Or.inl rfl))) (fun C s H fp pn=>cO) (fun C s H fp pn=>(mD (K:=K) rfl PySem.F.plainAttrs_list PySem.F.slot_list_count PySem.F.type_list_count (Ew (K:=K) rfl) (aH 1) (aj (aH 0) aq))))))),?_⟩
    have s60:60≤sizeLine:=by decide
    have hw:=hp.1;left;refine⟨o,t,xs,ps,ns,rfl,hp,fun l tv H1 hl0 hl1 hS h40 s1=>?_⟩;left;refine⟨⟨_,bC.of hl1⟩,fun D hD=>U0 tv (fun i σ H'=>(∃o1 o2 o3,σ=[o1,o2,o3])∧H' D=some (.lst ((((QH ns ps).take i).map (·.2.2)).map V.str))∧Same H1 H') ⟨⟨_,_,_,rfl⟩,ak,au hD⟩ (fun i σ H' _ h=>bC.of (h.2.2 _ _ hl1)) ?_ ?_⟩
    ·rintro i x σ H2 hi ⟨⟨o1,o2,o3,rfl⟩,hD2,s2⟩;obtain⟨st,hst,t,rfl,ht⟩:=hS.at hi;have hi2:i<(QH ns ps).length:=(List.getElem?_eq_some_iff.mp hst).1;have HN:=s2 _ _ ht;have hlS:=hS.1;rw[take_one hst,List.map_append,List.map_append];left;refine⟨_,gq.of HN,rfl,_,hD2,by simp;omega,by rw[ak];simp,aZ s2 hD⟩
    · rintro σ H2 ⟨⟨o1,o2,o3,rfl⟩,hD2,s2⟩;rw[hS.1,List.take_length] at hD2;have sH2:=s1.trans s2;obtain⟨dx,fs,hi,hno⟩:=(hw.same sH2).ins iz.1 iz.2;left;refine⟨_,_,hi,hno,o,xs,ps,rfl,hw.same sH2,fun l2 hl2=>?_⟩;have s3:Same H2 (upd H2 l2 (.lst (xs.map V.str))):=au hl2;have e2:upd H2 l2 (.lst (xs.map V.str)) l2=some (.lst (xs.map V.str)):=ak;have M_:=s3 _ _ hD2;generalize upd H2 l2 (.lst (xs.map V.str))=H3 at s3 e2 M_ ⊢;have sH3:=sH2.trans s3;left;refine⟨⟨_,bC.of e2⟩,fun D2 VD=>U0 (xs.map V.str) (fun i σ H'=>(∃o',σ=[o',some (.ref D)])∧H' D2=some (.lst (((xs.take i).map fun x=>(((QH ns ps).map (·.2.2)).count x:Int)).map V.int))∧Same H3 H') ⟨⟨_,rfl⟩,ak,au VD⟩ (fun i σ H' _ h=>bC.of (h.2.2 _ _ e2)) ?_ ?_⟩
      ·rintro i x σ H4 hi ⟨⟨o',rfl⟩,xU,s4⟩;obtain⟨y,hy,rfl⟩:=vY hi;have hi2:i<xs.length:=(List.getElem?_eq_some_iff.mp hy).1;have VF:=s4 _ _ M_;rw[take_one hy,List.map_append,List.map_append];left;refine⟨⟨_,bC.of VF⟩,_,bC.of VF,_,xU,by simp;omega,by rw[ak];simp,aZ s4 VD⟩
      ·rintro σ H4 ⟨⟨o',rfl⟩,xU,s4⟩;rw[List.length_map,List.take_length] at xU;left;exact q D2 H4 (cg sH3 VD) xU (sH3.trans s4)
def inN (ns:List Int) (ps:List (Str×Str)) (x:Str):Nat:=(nC ns ps).count x
def uJ (c:List Str):List (Str×Str)→Nat
  | []=>0
  | e::ps=>(if e.1∈c∧e.2∈c then 1 else 0)+uJ c ps
theorem CT {xs:List Str}:∀{ns:List Int} {ps:List (Str×Str)},(∀e∈ps,e.1∈xs∧e.2∈xs)→∀g∈nC ns ps,g∈xs
  | [],_,_,g,h=>by simp[nC] at h
  | _::_,[],_,g,h=>by simp[nC] at h
  | n::ns,e::ps,hp,g,h=>by
    simp only[nC,List.mem_cons] at h
    rcases h with rfl | h
    · have:=hp e List.mem_cons_self;unfold vA;split
      ·exact this.2
      ·exact this.1
    ·exact CT (fun d hd=>hp d (List.mem_cons_of_mem _ hd)) g h
theorem TF (c:List Str):∀{ns:List Int} {ps:List (Str×Str)},ns.length=ps.length→((nC ns ps).filter fun x=>decide (x∈c)).length=nF c ns ps+uJ c ps
  | [],[],_=>rfl
  | [],_::_,h=>by simp at h
  | _::_,[],h=>by simp at h
  | n::ns,e::ps,h=>by
    have ih:=TF c (ns:=ns) (ps:=ps) (by simpa using h);simp only[nC,nF,uJ];unfold Bf vA
    by_cases h0:n=0 <;> by_cases h1:e.1∈c <;> by_cases h2:e.2∈c <;> simp[h0,h1,h2] <;> omega
theorem sum_map_add {α:Type} (f g:α→Nat):∀l:List α,(l.map fun x=>f x+g x).sum=(l.map f).sum+(l.map g).sum
  | []=>rfl
  | a::l=>by simp only[List.map_cons,List.sum_cons];rw[sum_map_add f g l];omega
theorem Xi {α:Type} [DecidableEq α] (y:α):∀{l:List α},l.Nodup→(l.map fun x=>if y=x then 1 else 0).sum=if y∈l then 1 else 0
  | [],_=>rfl
  | a::l,h=>by
    have ih:=Xi y (List.nodup_cons.mp h).2;have na:=(List.nodup_cons.mp h).1;simp only[List.map_cons,List.sum_cons];rw[ih]
    by_cases e:y=a
    ·subst e;simp[na]
    ·simp[e]
theorem Xj {xs:List Str} (nd:xs.Nodup) (p:Str→Bool):∀{L:List Str},(∀y∈L,y∈xs)→(L.filter p).length=((xs.filter p).map fun x=>L.count x).sum
  | [],_=>by
    induction xs.filter p with
    | nil=>rfl
    | cons a l ih=>simpa using ih
  | y::L,h=>by
    have ih:=Xj nd p (L:=L) fun z hz=>h z (List.mem_cons_of_mem _ hz);have hy:=h y List.mem_cons_self;have e:((xs.filter p).map fun x=>(y::L).count x).sum=((xs.filter p).map fun x=>L.count x).sum+((xs.filter p).map fun x=>if y=x then 1 else 0).sum:=by
      rw[← sum_map_add];congr 1;refine List.map_congr_left fun x _=>?_;rw[List.count_cons]
      by_cases hyx:y=x <;> simp[hyx]
    rw[e,Xi y (List.Pairwise.filter _ nd),← ih];simp only[List.filter_cons,List.mem_filter]
    by_cases hp:p y=true
    ·simp[hp,hy]
    ·simp[hp]
theorem qdF {X:Cx}:iU X (binaryOp .BitAnd) (U5 fun i j=>.int (Builtin.bitAnd i j)):=qe7.mono Nb
def m5 (m k:Nat):Bool:=decide (m / 2 ^ k % 2=1)
theorem qdG:∀i:Nat,i<512→Builtin.bitAnd (i:Int) 1=((i % 2:Nat):Int):=by symm
theorem qdH:∀n:Nat,n≤9→∀m:Nat,m<512→1≤m→m+1<2 ^ n→(List.range n).any (m5 m)=true∧(List.range n).all (m5 m)=false:=by symm
theorem qb6 {n m:Nat} (h9:n≤9) (h5:m<512) (h1:1≤m) (h2:m+1<2 ^ n):(∃k,k<n∧m5 m k=true)∧∃k,k<n∧m5 m k=false:=by
  obtain⟨a,b⟩:=qdH n h9 m h5 h1 h2;rw[List.any_eq_true] at a;rw[List.all_eq_false] at b;obtain⟨k,hk,e⟩:=a;obtain⟨j,hj,f⟩:=b;exact⟨⟨k,List.mem_range.mp hk,e⟩,⟨j,List.mem_range.mp hj,by simpa using f⟩⟩
def jj (b:Nat→Bool) (xs:List Str):List Str:=(xs.zipIdx.filter fun e=>b e.2).map (·.1)
theorem bits_sub (b:Nat→Bool) (xs:List Str):(jj b xs).Sublist xs:=by
  have h:=List.Sublist.map (fun e:Str×Nat=>e.1) (List.filter_sublist (p:=fun e:Str×Nat=>b e.2) (l:=xs.zipIdx));rw[List.zipIdx_map_fst] at h;exact h
theorem qb7 {b:Nat→Bool} {xs:List Str} {k:Nat} (hk:k<xs.length) (hb:b k=true):0<(jj b xs).length:=by
  refine List.length_pos_of_mem (a:=xs[k]) ?_;unfold jj;rw[List.mem_map];refine⟨(xs[k],k),?_,rfl⟩;rw[List.mem_filter];refine⟨?_,hb⟩;rw[List.mem_zipIdx_iff_getElem?];simp[hk]
theorem qdI {b:Nat→Bool} {xs:List Str} {k:Nat} (hk:k<xs.length) (hb:b k=false):(jj b xs).length<xs.length:=by
  unfold jj;rw[List.length_map];have:(xs.zipIdx.filter fun e=>b e.2).length<xs.zipIdx.length:=by
    rw[List.length_filter_lt_length_iff_exists];refine⟨(xs[k],k),?_,by simp[hb]⟩;rw[List.mem_zipIdx_iff_getElem?];simp[hk]
  rwa [List.length_zipIdx] at this
theorem Fj {b:Nat→Bool} {l:List Str} {x:Str}:jj b (l++[x])=jj b l++if b l.length=true then [x] else []:=by
  unfold jj;rw[List.zipIdx_append,List.filter_append,List.map_append]
  by_cases h:b l.length=true <;> simp[h]
theorem qgj {k i:Nat} (h:1+k<512):decide (Builtin.bitAnd ((1+(k:Int)) / 2 ^ i) 1=1)=m5 (1+k) i:=by
  have e:(1+(k:Int)) / 2 ^ i=(((1+k) / 2 ^ i:Nat):Int):=by
    rw[Int.natCast_ediv];simp
  have hd:(1+k) / 2 ^ i≤1+k:=Nat.div_le_self _ _;rw[e,qdG _ (by omega)];unfold m5;rw[Bool.eq_iff_iff,decide_eq_true_eq,decide_eq_true_eq];omega
theorem qdJ {m n:Nat} (h:m<2 ^ n):m5 m n=false:=by
  unfold m5;rw[Nat.div_eq_of_lt h];rfl
theorem qdK {m n:Nat} (h:m<2 ^ n):m5 (2 ^ n+m) n=true:=by
  unfold m5;rw[Nat.add_div_left _ (Nat.two_pow_pos n),Nat.div_eq_of_lt h];rfl
theorem VG {m n k:Nat} (h:k<n):m5 (2 ^ n+m) k=m5 m k:=by
  unfold m5;have e:2 ^ n=2 ^ k * (2 * 2 ^ (n - k - 1)):=by
    rw[← Nat.mul_assoc,← Nat.pow_succ,← Nat.pow_add];congr 1;omega
  rw[e,Nat.mul_add_div (Nat.two_pow_pos k),Nat.mul_add_mod]
theorem Zd {b b':Nat→Bool} {xs:List Str} (h:∀k,k<xs.length→b k=b' k):jj b xs=jj b' xs:=by
  unfold jj;congr 1;refine List.filter_congr fun e he=>?_;obtain⟨x,k⟩:=e;rw[List.mem_zipIdx_iff_getElem?] at he;exact h k (List.getElem?_eq_some_iff.mp he).1
def oA (xs:List Str):List (List Str):=(List.range (2 ^ xs.length)).map fun m=>jj (m5 m) xs
theorem parts_nil:oA []=[[]]:=rfl
theorem VH (l:List Str) (x:Str):oA (l++[x])=oA l++(oA l).map (·++[x]):=by
  unfold oA;rw[List.length_append,List.length_singleton,Nat.pow_succ,Nat.mul_two,List.range_add,List.map_append,List.map_map,List.map_map];congr 1
  ·refine List.map_congr_left fun m hm=>?_;rw[Fj,qdJ (List.mem_range.mp hm)];simp
  ·refine List.map_congr_left fun m hm=>?_;show jj (m5 (2 ^ l.length+m)) (l++[x])=jj (m5 m) l++[x];rw[Fj,qdK (List.mem_range.mp hm),Zd (b':=m5 m) fun k hk=>VG hk];simp
def qg (xs:List Str):List (List Str):=(List.range (2 ^ xs.length - 2)).map fun m=>jj (m5 (1+m)) xs
theorem Fl (xs:List Str):(oA xs).length=2 ^ xs.length:=by simp[oA]
theorem Ks (xs:List Str):(qg xs).length=2 ^ xs.length - 2:=by simp[qg]
theorem qdL {xs:List Str} {i:Nat} (h:i<2 ^ xs.length - 2):(qg xs)[i]? = some (jj (m5 (1+i)) xs):=by
  unfold qg;rw[List.getElem?_map,List.getElem?_range h];rfl
theorem VJ {xs:List Str}:((oA xs).take (2 ^ xs.length - 1)).drop 1=qg xs:=by
  refine List.ext_getElem? fun i=>?_;rw[List.getElem?_drop]
  by_cases h:i<2 ^ xs.length - 2
  ·rw[qdL h,List.getElem?_take_of_lt (by omega)];unfold oA;rw[List.getElem?_map,List.getElem?_range (by omega)];rfl
  ·rw[List.getElem?_eq_none (by rw[List.length_take,Fl];omega),List.getElem?_eq_none (by rw[Ks];omega)]
theorem QJ {xs c:List Str} (h9:xs.length≤9) (h:c∈qg xs):c.Sublist xs∧0<c.length∧c.length<xs.length:=by
  unfold qg at h;obtain⟨m,hm,rfl⟩:=List.mem_map.mp h;have hm:=List.mem_range.mp hm;have p9:2 ^ xs.length≤2 ^ 9:=Nat.pow_le_pow_right (by decide) h9;obtain⟨⟨k1,hk1,hb1⟩,⟨k2,hk2,hb2⟩⟩:=qb6 (n:=xs.length) (m:=1+m) h9 (by omega) (by omega) (by omega);exact⟨bits_sub _ _,qb7 hk1 hb1,qdI hk2 hb2⟩
def qld (G H:Hp) (v:V) (c:List Str):Prop:=∃t,v = .ref t∧G t=none∧H t=some (.lst (c.map V.str))
def qgk (G H:Hp) (tv:List V) (cs:List (List Str)):Prop:=cR (qld G) H tv cs
def QK:Sp:=fun vs H Q _=>∃(n:Addr) (xs:List Str),vs=[.ref n]∧H n=some (.lst (xs.map V.str))∧xs.length≤9∧
  ∀(r:Addr) (tv:List V) (H':Hp),H r=none→H' r=some (.lst tv)→qgk H H' tv (oA xs)→Same H H'→Q (.ref r) H'
theorem QL (T:Txt K mg a):bV P w K mg base mj 1 a.gC a.rB ["points"] QK:=by
  exists T.yN.tY,rm
  ·obtain⟨n,xs,rfl,_⟩:=h;rfl
  · obtain⟨n,xs,rfl,hn,h9,q⟩:=h;refine⟨_,(aC (bx (i:=1) rm.nd rfl (Or.inl rfl) (bA (aj (bA aq) aq)))
      (aC (qt PassesOwn.never rfl (PI.eqv (cQ (K:=K) rfl (aH 0)) (cA _ _)) (aP (i:=2) rm.nd rfl (Or.inr rfl))
      (aJ (bx (i:=1) rm.nd rfl (Or.inl rfl) (bG bZ (aH 1) (cF rfl rfl (show aR (aD tZ) _ ["points", "parts", "point"] ["part"] [2] ["part", "point"] from⟨rfl,by symm,by symm,rfl,by symm,by symm⟩) rfl (PI.eqv (cQ (K:=K) rfl (aH 1)) (cA _ _)) (fun C s H fp pn=>(aP (i:=0) (show(["part", "point"]:List Str).Nodup by symm) rfl (Or.inl rfl))) (fun C s H fp pn=>cO) (fun C s H fp pn=>(bG bZ (aH 0) (bA (aj (aH 1) aq)))))))))
      (aJ (bw (aH 1))))),?_⟩
    have QM:600<sizeLine:=by decide
    left;intro p hp;exists H,p,(.lst []),s1,e1,H1,hp;intro r hr;exists H1,r,(.lst [.ref p]),s2,e2,H2,hr;have S2:=s1.trans s2;refine⟨⟨_,bC.of (S2 _ _ hn)⟩,frL (xs.map V.str) (fun i σ H'=>(∃rp o2,σ=[some (.ref n),some (.ref rp),o2]∧H rp=none∧∃tv,H' rp=some (.lst tv)∧qgk H H' tv (oA (xs.take i)))∧Same H H') ⟨⟨r,none,rfl,s1.free hr,_,e2,?_⟩,S2⟩ (fun i σ H' _ h=>bC.of (h.2 _ _ hn)) ?_ ?_⟩
    · exact⟨rfl,fun i v c h1 h2=>by
        cases i with
        | succ i=>simp at h1
        | zero=>
          simp at h1;rw[List.take_zero,parts_nil] at h2;simp at h2;subst h1 h2;exact⟨p,rfl,hp,s2 _ _ e1⟩⟩
    · rintro i v σ H3 hi ⟨⟨rp,o2,rfl,qh9,tv,Ze,hN⟩,s3⟩;obtain⟨y,hy,rfl⟩:=vY hi;have hi9:i<xs.length:=(List.getElem?_eq_some_iff.mp hy).1;have hlt:tv.length=2 ^ i:=by
        have:=hN.1;rw[Fl,List.length_take,Nat.min_eq_left (by omega)] at this;exact this
      have p8:2 ^ i≤2 ^ 8:=Nat.pow_le_pow_right (by decide) (by omega);rw[take_one hy,VH];have h9c:∀c∈oA (xs.take i),c.length≤9:=fun c hc=>by
        obtain⟨m,_,rfl⟩:=List.mem_map.mp hc;have:=(bits_sub (m5 m) (xs.take i)).length_le;rw[List.length_take] at this;omega
      generalize hC:oA (xs.take i)=cs at hN h9c ⊢;left;refine⟨⟨_,bC.of Ze⟩,fun D hD=>U0 tv (fun j σ H'=>(∃o1,σ=[o1,some (.str y)])∧(∃uv,H' D=some (.lst uv)∧cR (fun H' v c=>∃t,v = .ref t∧H t=none∧t≠D∧H' t=some (.lst (c.map V.str))) H' uv ((cs.take j).map (·++[y])))∧Same H3 H') ⟨⟨_,rfl⟩,⟨[],ak,cR.nil⟩,au hD⟩ (fun i σ H' _ h=>bC.of (h.2.2 _ _ Ze)) ?_ ?_⟩
      · rintro j v σ H4 hj ⟨⟨o1,rfl⟩,⟨uv,xU,hA⟩,s4⟩;have hj2:j<tv.length:=(List.getElem?_eq_some_iff.mp hj).1;obtain⟨c,hc,t,rfl,ht0,ht⟩:=cR.at hN hj;have T_:uv.length=j:=by
          have:=hA.1;have hcl:=hN.1;rw[List.length_map,List.length_take] at this;omega
        have ht4:=s4 _ _ ht;left;intro p5 hp5;exists H4,p5,(.lst [.str y]),s5,e5,H5,hp5;have hc9:=h9c c (List.mem_of_getElem? hc);refine⟨_,s5 _ _ ht4,_,e5,by simp;omega,fun p6 Zf=>?_⟩;exists H5,p6,(.lst (c.map V.str++[.str y])),s6,e6,H6,Zf;have hD6:=(s5.trans s6) _ _ xU;have p6D:p6≠D:=fun z=>by rw[z,s5 _ _ xU] at Zf;cases Zf
        refine⟨uv,hD6,by omega,⟨_,ak,?_⟩,aZ (s4.trans (s5.trans s6)) hD⟩;rw[take_one hc,List.map_append];refine cR.snoc (cR.keep hA ?_) ⟨p6,rfl,(s3.trans (s4.trans s5)).free Zf,p6D,by rw[aM p6D,e6];simp⟩;rintro v b ⟨t,rfl,h0,hne,ht⟩;exact⟨t,rfl,h0,hne,by rw[aM hne];exact(s5.trans s6) _ _ ht⟩
      · rintro σ H4 ⟨⟨o1,rfl⟩,⟨uv,xU,hA⟩,s4⟩;rw[hN.1,List.take_length] at hA;have T_:uv.length=cs.length:=by rw[hA.1,List.length_map]
        have hcl:=hN.1;left;refine⟨_,s4 _ _ Ze,_,xU,by omega,fun p5 hp5=>⟨⟨(s3.trans s4).free hp5,_,ak,?_⟩,(s3.trans s4).trans (au hp5)⟩⟩;have s5:Same H4 (upd H4 p5 (.lst (tv++uv))):=au hp5;generalize upd H4 p5 (.lst (tv++uv))=H5 at s5 ⊢;refine⟨by simp[hN.1,hA.1],fun k v c h1 h2=>?_⟩
        by_cases hk:k<tv.length
        ·rw[List.getElem?_append_left hk] at h1;rw[List.getElem?_append_left (by omega)] at h2;obtain⟨t,rfl,h0,ht⟩:=hN.2 k v c h1 h2;exact⟨t,rfl,h0,(s4.trans s5) _ _ ht⟩
        ·rw[List.getElem?_append_right (by omega)] at h1;rw[List.getElem?_append_right (by omega),← hcl] at h2;obtain⟨t,rfl,h0,_,ht⟩:=hA.2 _ v c h1 h2;exact⟨t,rfl,h0,s5 _ _ ht⟩
    ·rintro σ H3 ⟨⟨rp,o2,rfl,qh9,tv,Ze,hN⟩,s3⟩;rw[List.length_map,List.take_length] at hN;left;exact q rp tv H3 qh9 Ze hN s3
theorem qgl {xs:List V}:xY xs (some 1) (some (-1))=(xs.take (xs.length - 1)).drop 1:=by
  unfold xY;have e1:HT.Ik xs.length 0 (some 1)=min 1 xs.length:=by
    unfold HT.Ik;simp
    try omega
  have e2:HT.Ik xs.length xs.length (some (-1))=xs.length - 1:=by
    unfold HT.Ik;simp
    try omega
  rw[e1,e2,List.drop_take];cases xs with
  | nil=>rfl
  | cons x xs=>
    rw[Nat.min_eq_left (by simp)]
def TJ (C:Addr):Sp:=fun vs H Q _=>∃(o:Addr) (xs:List Str) (ps:List (Str×Str)),vs=[.ref o]∧dW C H o xs ps∧xs.length≤9∧
  ∀(r:Addr) (tv:List V) (H':Hp),H r=none→H' r=some (.lst tv)→qgk H H' tv (qg xs)→Same H H'→Q (.ref r) H'
theorem TQ (T:Txt K mg a):bV P w K mg base mj 2 a.je a.ur ["web"] (TJ a.bO):=by
  exists T.Bs.tY,Sy
  ·obtain⟨o,xs,ps,rfl,_⟩:=h;rfl
  · obtain⟨o,xs,ps,rfl,hw,h9,q⟩:=h;refine⟨_,(aJ (bw (fH (tX (K:=K) rfl) (PE.eqv (aL (QL T) hr.d rfl T.Gx T.yN.kp T.Gw .nil aY (aj (PE.eqv (jX (aH 0) T.qK T.gR (iy T) hr.d T.gQ .nil aY) (jZ _ _ _ _ _ _)) aq)) (aF _ _ _)) (PO.eqv (gF aN) (eY _)) (PO.eqv (gF (Wj Hi aN)) (eY _))))),?_⟩;have QM:600<sizeLine:=by decide
    obtain⟨dx,fs,hin,hno⟩:=hw.ins iz.1 iz.2;left;refine⟨dx,fs,hin,hno,o,xs,ps,rfl,hw,fun n hn=>?_⟩;exists H,n,(.lst (xs.map V.str)),s1,e1,H1,hn;left;refine⟨n,xs,rfl,e1,h9,fun r tv H2 hr e2 hN s2=>?_⟩;left;have tl:tv.length=2 ^ xs.length:=by rw[hN.1,Fl]
    refine⟨_,bC.of e2,fun p3 hp3=>?_⟩;exists H2,p3,(.lst (xY tv (some 1) (some (-1)))),s3,e3,H3,hp3;refine q p3 _ H3 ((s1.trans s2).free hp3) e3 ?_ (s1.trans (s2.trans s3));rw[qgl,tl,← VJ];refine⟨by rw[List.length_drop,List.length_take,List.length_drop,List.length_take,hN.1],fun k v c h1 h2=>?_⟩;rw[List.getElem?_drop] at h1 h2;have hk:1+k<2 ^ xs.length - 1:=by
      have:=(List.getElem?_eq_some_iff.mp h1).1;rw[List.length_take] at this;omega
    rw[List.getElem?_take_of_lt hk] at h1 h2;obtain⟨t,rfl,h0,ht⟩:=hN.2 _ v c h1 h2;exact⟨t,rfl,s1.free h0,s3 _ _ ht⟩
def Zg (C:Addr):Sp:=fun vs H Q _=>∃(o p:Addr) (xs c:List Str) (ps:List (Str×Str)),vs=[.ref o,.ref p]∧dW C H o xs ps∧Oa xs∧Sq H p (c.map V.str)∧c.Nodup∧(∀x∈c,x∈xs)∧0<c.length∧c.length<xs.length∧
  ∀(r:Addr) (H':Hp),H r=none→H' r=some (.lst ((xs.filter fun y=>decide (y∈c)).map V.str))→Same H H'→Q (.ref r) H'
theorem Zh (T:Txt K mg a):bV P w K mg base mj 2 a.pI a.zX ["web", "points"] (Zg a.bO):=by
  exists T.Ka.tY,NZ
  ·obtain⟨o,p,xs,c,ps,rfl,_⟩:=h;rfl
  · obtain⟨o,p,xs,c,ps,rfl,hw,hX,hp,hcn,hcx,hc0,hc9,q⟩:=h;refine⟨_,(aC (eX (PW.pt (xq (fO (dg (PE.eqv (aL (sZ T) hr.d rfl T.n_ T.jF.kp T.nZ .nil aY (aj (aH 1) aq)) (aF _ _ _)))) (qm (fO (dg (aV (nW rfl) rfl T.nm.all nQ (aj (cF rfl rfl (show aR (aD yI) _ ["web", "points", "lot"] ["point"] [] ["point"] from⟨rfl,by symm,by symm,rfl,by symm,by symm⟩) rfl (PI.eqv (vX (K:=K) rfl (aH 1)) (su _ _)) (fun C s H fp pn=>(aP (i:=0) (show(["point"]:List Str).Nodup by symm) rfl (Or.inl rfl))) (fun C s H fp pn=>cO) (fun C s H fp pn=>(PE.eqv (aL (Bv T) hr.d rfl T.z8 T.vJ.kp T.z7 .nil aY (aj (aH 0) aq)) (aF _ _ _)))) aq))))))) (aJ pD) cu)
      (aC (vW (i:=2) NZ.nd rfl rfl rfl rfl (show aR (aD yI) _ ["web", "points", "lot"] ["point"] [1] ["point", "points"] from⟨rfl,by symm,by symm,rfl,by symm,by symm⟩) rfl (PI.eqv (cQ (K:=K) rfl (PE.eqv (jX (aH 0) T.qK T.gR (iy T) hr.d T.gQ .nil aY) (jZ _ _ _ _ _ _))) (cA _ _)) (fun C s H fp pn=>(aP (i:=0) (show(["point", "points"]:List Str).Nodup by symm) rfl (Or.inl rfl))) (fun C s H fp pn=>(oO (bI (YB (K:=K) rfl) (aH 0) (aH 1) rfl))) (fun C s H fp pn=>(aH 0)))
      (aC (eX (bI Et (aV (cW (K:=K) rfl) rfl T.nm.len PySem.boot_len (aj (aH 2) aq)) (aV (cW (K:=K) rfl) rfl T.nm.len PySem.boot_len (aj (aH 1) aq)) (cD _)) (aJ pD) cu)
      (aC (eX (PW.pt (xq (bI uN (aV (cW (K:=K) rfl) rfl T.nm.len PySem.boot_len (aj (aH 2) aq)) aN (cD _)) (qm (bI uN (aV (cW (K:=K) rfl) rfl T.nm.len PySem.boot_len (aj (aH 2) aq)) (aV (cW (K:=K) rfl) rfl T.nm.len PySem.boot_len (aj (PE.eqv (jX (aH 0) T.qK T.gR (iy T) hr.d T.gQ .nil aY) (jZ _ _ _ _ _ _)) aq)) (cD _))))) (aJ pD) cu)
      (aJ (bw (aH 2))))))),?_⟩
    have s20:=of_eq_true qaI;have l9:=hX.len;have hfl:=U3 hX.nd hcn hcx;left;refine⟨p,_,rfl,hp,fun H1 s1=>?_⟩;left;obtain⟨b,hb⟩:=(hp.same s1).b;refine⟨b,⟨_,hb K H1 (Same.refl _)⟩,fun D hD=>cmQ (c.map V.str) (fun i σ H'=>(∃o',σ=[o'])∧H' D=some (.lst (List.replicate i (.bl true)))∧Same H1 H') ⟨⟨_,rfl⟩,ak,au hD⟩ (fun i σ H' _ h=>hb K H' h.2.2) ?_ ?_⟩
    ·rintro i x σ H2 hi ⟨⟨o',rfl⟩,hD2,s2⟩;obtain⟨y,hy,rfl⟩:=vY hi;have hi2:i<c.length:=(List.getElem?_eq_some_iff.mp hy).1;have hn:=hX.nm y (hcx y (List.mem_of_getElem? hy));left;refine⟨y,rfl,Bw hn,fun H3 s3=>?_⟩;rw[hn];left;refine⟨_,s3 _ _ hD2,by simp;omega,?_,aZ (s2.trans s3) hD⟩;rw[ak,List.replicate_succ']
    · rintro σ H2 ⟨⟨o',rfl⟩,hD2,s2⟩;have sH2:=s1.trans s2;left;refine⟨_,hD2,_,rK _,?_⟩;rw[show(List.replicate (c.map V.str).length true).all id=true by simp];obtain⟨dx,fs,hi,hno⟩:=(hw.same sH2).ins iz.1 iz.2;left;refine⟨_,_,hi,hno,o,xs,ps,rfl,hw.same sH2,fun l2 hl2=>?_⟩;exists H2,l2,(.lst (xs.map V.str)),s3,e2,H3,hl2;have sH3:=sH2.trans s3;left;refine⟨⟨_,bC.of e2⟩,fun D2 hD2=>U0 (xs.map V.str) (fun i σ H'=>(∃o',σ=[o',some (.ref p)])∧H' D2=some (.lst (((xs.take i).filter fun y=>decide (y∈c)).map V.str))∧Same H3 H') ⟨⟨_,rfl⟩,ak,au hD2⟩ (fun i σ H' _ h=>bC.of (h.2.2 _ _ e2)) ?_ ?_⟩
      · rintro i x σ H4 hi ⟨⟨o',rfl⟩,xU,s4⟩;obtain⟨y,hy,rfl⟩:=vY hi;have hi2:i<xs.length:=(List.getElem?_eq_some_iff.mp hy).1;left;refine⟨_,(hp.same (sH3.trans s4)).q,rfl,List.all_eq_true.mp (zN _),?_⟩;rw[lQ,take_one hy,List.filter_append];have qle:((xs.take i).filter fun y=>decide (y∈c)).length≤(xs.take i).length:=List.length_filter_le _ _;rw[List.length_take] at qle;refine iu.of (fun h=>?_) (fun h=>?_)
        ·have h':y∈c:=of_decide_eq_true h;left;refine⟨_,xU,by simp;omega,?_,aZ s4 hD2⟩;rw[ak];simp[h']
        ·have h':¬y∈c:=of_decide_eq_false h;left;refine⟨?_,s4⟩;rw[xU];simp[h']
      · rintro σ H4 ⟨⟨o',rfl⟩,xU,s4⟩;rw[List.length_map,List.take_length] at xU;have sH4:=sH3.trans s4;left;refine⟨_,.inl (bC.of xU),_,(hp.same sH4).q,false,by simp[hfl],iu.neg rfl ?_⟩;left;refine⟨_,.inl (bC.of xU),iu.neg (decide_eq_false fun z=>?_) ?_⟩
        ·have z2:=congrArg List.length z;rw[List.length_map,hfl,List.length_nil] at z2;omega
        obtain⟨dx,fs,hi,hno⟩:=(hw.same sH4).ins iz.1 iz.2;left;refine⟨_,.inl (bC.of xU),_,_,hi,hno,o,xs,ps,rfl,hw.same sH4,fun l5 hl5=>?_⟩;have s5:Same H4 (upd H4 l5 (.lst (xs.map V.str))):=au hl5;left;refine⟨_,.inl (bC.of ak),iu.neg (by simp only[List.length_map,hfl];exact decide_eq_false (by omega)) ?_⟩;left;exact q D2 _ (cg sH3 hD2) (s5 _ _ xU) (sH4.trans s5)
def Bx (c:List Str) (e:Str×Str) (i:Nat):List Nat:=if e.1∈c∧e.2∈c then [i] else []
theorem qb8 (c:List Str) (e:Str×Str) (i:Nat):(Bx c e i).length≤1:=by
  unfold Bx;split <;> simp
def qgm (c:List Str) (ps:List (Str×Str)):List Nat:=yp (Bx c) ps 0
def Ku (C:Addr):Sp:=fun vs H Q _=>∃(o p:Addr) (xs c:List Str) (ps:List (Str×Str)),vs=[.ref o,.ref p]∧dW C H o xs ps∧Sq H p (c.map V.str)∧
  ∀(r:Addr) (H':Hp),H r=none→H' r=some (.lst ((qgm c ps).map fun n:Nat=>V.int n))→Same H H'→Q (.ref r) H'
theorem Kv (T:Txt K mg a):bV P w K mg base mj 2 a.eF a.mO ["web", "part"] (Ku a.bO):=by
  exists T.uR.tY,JN
  ·obtain⟨o,p,xs,c,ps,rfl,_⟩:=h;rfl
  · obtain⟨o,p,xs,c,ps,rfl,hw,hp,q⟩:=h;refine⟨_,(aJ (bw (cF rfl rfl (show aR (aD oV) _ ["web", "part"] ["number", "first", "second"] [1] ["number", "first", "second", "part"] from⟨rfl,by symm,by symm,rfl,by symm,by symm⟩) rfl (PI.eqv (Hh (K:=K) rfl rfl T.Y4.enumerate (aj (PE.eqv (jX (aH 0) T.qK T.Bt (GJ T) hr.d T.Bq .nil aY) (jZ _ _ _ _ _ _)) aq)) (zO _ _)) (fun C s H fp pn=>(PG.eqv (c7 (K:=K) (n:=2) rfl rfl (fB.eqv (aU (aP (i:=0) (show(["number", "first", "second", "part"]:List Str).Nodup by symm) rfl (Or.inl rfl)) (fB.eqv (aU (PG.eqv (c7 (K:=K) (n:=2) rfl rfl (fB.eqv (aU (aP (i:=1) (show(["number", "first", "second", "part"]:List Str).Nodup by symm) rfl (Or.inl rfl)) (fB.eqv (aU (aP (i:=2) (show(["number", "first", "second", "part"]:List Str).Nodup by symm) rfl (Or.inl rfl)) (fB.mono cM dJ)) (aW _ _))) (aW _ _))) (dh _ _ _)) (fB.mono cM dJ)) (aW _ _))) (aW _ _))) (dh _ _ _))) (fun C s H fp pn=>(oO (PW.pt (Uc (bI (YB (K:=K) rfl) (aH 1) (aH 3) rfl) (Oo (bI (YB (K:=K) rfl) (aH 2) (aH 3) rfl)))))) (fun C s H fp pn=>(aH 0))))),?_⟩;have s50:50≤sizeLine:=by decide
    have nO:ps.length≤20:=by
      obtain⟨_,_,_,_,_,_,_,_,z⟩:=hw.ex;exact z
    obtain⟨dx,fs,hi,hno⟩:=hw.ins HS.1 HS.2;left;refine⟨_,_,hi,hno,o,xs,ps,rfl,hw,fun l2 La hl2 qgc=>?_⟩;have s2:Same H (upd H l2 (.lst La)):=au hl2;have e2:upd H l2 (.lst La) l2=some (.lst La):=ak;have Lz:=bQ.same qgc s2;have hp2:=hp.same s2;generalize upd H l2 (.lst La)=H2 at s2 e2 Lz hp2 ⊢;left;refine⟨⟨_,bC.of e2⟩,fun D hD=>cmE La (fun i σ H'=>(∃o1 o2 o3,σ=[o1,o2,o3,some (.ref p)])∧H' D=some (.lst ((yp (Bx c) (ps.take i) 0).map fun n:Nat=>V.int n))∧Same H2 H') ⟨⟨_,_,_,rfl⟩,ak,au hD⟩ (fun i σ H' _ h=>bC.of (h.2.2 _ _ e2)) ?_ ?_⟩
    · rintro i x t σ H3 hi ht ⟨⟨o1,o2,o3,rfl⟩,M_,s3⟩;obtain⟨e,he,tt,rfl,htt⟩:=Lz.at hi;have hi2:i<ps.length:=(List.getElem?_eq_some_iff.mp he).1;have hcl:(yp (Bx c) (ps.take i) 0).length≤20:=by
        have h1:=RM (qb8 c) (ps.take i) 0;rw[List.length_take] at h1;omega
      have st:Same H3 (upd H3 t (.tup [.int i,.ref tt])):=au ht;rw[Yq _ he];left;refine⟨_,gq.of ak,rfl,_,gq.of (st _ _ (s3 _ _ htt)),rfl,?_⟩;have xU:=st _ _ M_;have s4:=s3.trans st;have hp4:=hp2.same s4;generalize upd H3 t (.tup [.int i,.ref tt])=H4 at xU s4 hp4 ⊢;left;refine⟨_,hp4.q,rfl,List.all_eq_true.mp (zN _),?_⟩;rw[lQ]
      by_cases h1:e.1∈c
      · rw[decide_eq_true h1];left;refine⟨_,hp4.q,rfl,List.all_eq_true.mp (zN _),?_⟩;rw[lQ]
        by_cases h2:e.2∈c
        · have ef:Bx c e i=[i]:=by unfold Bx;rw[if_pos ⟨h1,h2⟩]
          rw[decide_eq_true h2,ef];refine iu.pos rfl ?_;left;refine⟨_,xU,by simp;omega,?_,aZ s4 hD⟩;rw[ak]
        · have ef:Bx c e i=[]:=by unfold Bx;rw[if_neg fun z=>h2 z.2]
          rw[decide_eq_false h2,ef,List.append_nil];refine iu.neg rfl ?_;left;exact⟨xU,s4⟩
      · have ef:Bx c e i=[]:=by unfold Bx;rw[if_neg fun z=>h1 z.1]
        rw[decide_eq_false h1,ef,List.append_nil];left;exact⟨xU,s4⟩
    ·rintro σ H3 ⟨⟨o1,o2,o3,rfl⟩,M_,s3⟩;rw[Lz.1,List.take_length] at M_;left;exact q D H3 (cg s2 hD) M_ (s2.trans s3)
def Zi (C:Addr):Sp:=fun vs H Q _=>∃(o p:Addr) (xs c:List Str) (ps:List (Str×Str)),vs=[.ref o,.ref p]∧dW C H o xs ps∧Oa xs∧Ae xs ps∧Sq H p (c.map V.str)∧c.Nodup∧(∀x∈c,x∈xs)∧0<c.length∧c.length<xs.length∧
  ∀(r:Addr) (H':Hp),H r=none→H' r=some (.lst ((qgm (xs.filter fun y=>decide (y∈c)) ps).map fun n:Nat=>V.int n))→Same H H'→Q (.ref r) H'
theorem Zj (T:Txt K mg a):bV P w K mg base mj 3 a.pJ a.zY ["web", "lot"] (Zi a.bO):=by
  exists T.Ke.tY,YX
  ·obtain⟨o,p,xs,c,ps,rfl,_⟩:=h;rfl
  ·obtain⟨o,p,xs,c,ps,rfl,hw,hX,hTs,hp,hcn,hcx,hc0,hc9,q⟩:=h;refine⟨_,(aJ (bw (PE.eqv (aL (Kv T) hr.d rfl T.Ar T.uR.kp T.Aq .nil aY (aj (aH 0) (aj (PE.eqv (aL (Zh T) hr.d rfl T.SQ T.Ka.kp T.SN .nil aY (aj (aH 0) (aj (aH 1) aq))) (aF _ _ _)) aq))) (aF _ _ _)))),?_⟩;left;refine⟨o,p,xs,c,ps,rfl,hw,hX,hp,hcn,hcx,hc0,hc9,fun r H1 hr0 hr1 s1=>?_⟩;left;refine⟨o,r,xs,_,ps,rfl,hw.same s1,.inl hr1,fun r2 H2 h2 h3 s2=>?_⟩;left;exact q r2 H2 (cg s1 h2) h3 (s1.trans s2)
theorem TV (c:List Str):∀(ps:List (Str×Str)) (i:Nat),(yp (Bx c) ps i).length=uJ c ps
  | [],_=>rfl
  | e::ps,i=>by
    have ih:=TV c ps (i+1);show(Bx c e i++yp (Bx c) ps (i+1)).length=_;rw[List.length_append,ih];simp only[Bx,uJ];split <;> simp
theorem Kw {xs c:List Str} (nd:xs.Nodup) (h:c.Sublist xs):(xs.filter fun y=>decide (y∈c))=c:=by
  induction h with
  | slnil=>rfl
  | cons a h ih=>
    rename_i l1 l2;have ha:a∉l1:=fun z=>(List.nodup_cons.mp nd).1 (h.subset z);rw[List.filter_cons_of_neg (by simpa using ha)];exact ih (List.nodup_cons.mp nd).2
  | cons_cons a h ih=>
    rename_i l1 l2;have ha:=(List.nodup_cons.mp nd).1;rw[List.filter_cons_of_pos (by simp)];congr 1;have e:(l2.filter fun y=>decide (y∈a::l1))=l2.filter fun y=>decide (y∈l1):=List.filter_congr fun y hy=>by
      have:y≠a:=fun z=>ha (z▸hy);simp[this]
    rw[e];exact ih (List.nodup_cons.mp nd).2
def WgS (xs:List Str) (ps:List (Str×Str)) (H:Hp) (v:V) (c:List Str):Prop:=∃t pl,v = .ref t∧H t=some (.tup [.ref pl,.int ((uJ c ps:Nat):Int)])∧H pl=some (.lst (c.map fun y=>V.int ((xs.idxOf y:Nat):Int)))
def qb9 (xs:List Str) (ps:List (Str×Str)) (H:Hp) (tv:List V):Prop:=cR (WgS xs ps) H tv (qg xs)
theorem qb9.same {xs:List Str} {ps:List (Str×Str)} {H H':Hp} {tv:List V} (h:qb9 xs ps H tv) (s:Same H H'):qb9 xs ps H' tv:=cR.keep h fun v c ⟨t,pl,e,h1,h2⟩=>⟨t,pl,e,s _ _ h1,s _ _ h2⟩
def GZ (C:Addr):Sp:=fun vs H Q _=>∃(o:Addr) (xs:List Str) (ps:List (Str×Str)),vs=[.ref o]∧dW C H o xs ps∧Oa xs∧Ae xs ps∧
  ∀(r:Addr) (tv:List V) (H':Hp),H r=none→H' r=some (.lst tv)→qb9 xs ps H' tv→Same H H'→Q (.ref r) H'
theorem G5 (T:Txt K mg a):bV P w K mg base mj 4 a.dO a.kO ["web"] (GZ a.bO):=by
  exists T.sO.tY,xr
  ·obtain⟨o,xs,ps,rfl,_⟩:=h;rfl
  · obtain⟨o,xs,ps,rfl,hw,hX,hTs,q⟩:=h;refine⟨_,(aC (bx (i:=1) xr.nd rfl (Or.inr rfl) (PE.eqv (jX (aH 0) T.qK T.gR (iy T) hr.d T.gQ .nil aY) (jZ _ _ _ _ _ _)))
      (aJ (bw (cF rfl rfl (show aR (aD mH) _ ["web", "points"] ["lot"] [0,1] ["lot", "web", "points"] from⟨rfl,by symm,by symm,rfl,by symm,by symm⟩) rfl (PI.eqv (cQ (K:=K) rfl (PE.eqv (aL (TQ T) hr.d rfl T.Kd T.Bs.kp T.Kc .nil aY (aj (aH 0) aq)) (aF _ _ _))) (cA _ _)) (fun C s H fp pn=>(aP (i:=0) (show(["lot", "web", "points"]:List Str).Nodup by symm) rfl (Or.inl rfl))) (fun C s H fp pn=>cO) (fun C s H fp pn=>(fP (aj (qaQ (show aR (_) _ ["lot", "web", "points"] ["point"] [2] ["point", "points"] from⟨rfl,by symm,by symm,rfl,by symm,by symm⟩) rfl (PI.eqv (cQ (K:=K) rfl (aH 0)) (cA _ _)) (fun C s H fp pn=>(aP (i:=0) (show(["point", "points"]:List Str).Nodup by symm) rfl (Or.inl rfl))) (fun C s H fp pn=>cO) (fun C s H fp pn=>(mD (K:=K) rfl PySem.F.plainAttrs_list PySem.F.slot_list_index PySem.F.type_list_index (YD (K:=K) rfl) (aH 1) (aj (aH 0) aq)))) (aj (aV (cW (K:=K) rfl) rfl T.nm.len PySem.boot_len (aj (PE.eqv (aL (Zj T) hr.d rfl T.S_ T.Ke.kp T.SX .nil aY (aj (aH 1) (aj (aH 0) aq))) (aF _ _ _)) aq)) aq)))))))),?_⟩
    have QM:600<sizeLine:=by decide
    have l9:=hX.len;have nO:=hTs.len;have p9:2 ^ xs.length≤2 ^ 9:=Nat.pow_le_pow_right (by decide) l9.2;obtain⟨dx,fs,hin,hno⟩:=hw.ins iz.1 iz.2;left;refine⟨dx,fs,hin,hno,o,xs,ps,rfl,hw,fun n hn=>?_⟩;exists H,n,(.lst (xs.map V.str)),s1,e1,H1,hn;left;refine⟨o,xs,ps,rfl,hw.same s1,l9.2,fun r2 tv H2 hr2 e2 hN s2=>?_⟩;have S2:=s1.trans s2;have e12:=s2 _ _ e1;have tl:tv.length=2 ^ xs.length - 2:=by rw[hN.1,Ks]
    left;refine⟨⟨_,bC.of e2⟩,fun D hD=>U0 tv (fun j σ H'=>(∃o1,σ=[o1,some (.ref o),some (.ref n)])∧(∃uv,H' D=some (.lst uv)∧cR (fun H' v c=>WgS xs ps H' v c∧∀t,v = .ref t→t≠D∧∀pl z,H' t=some (.tup [.ref pl,z])→pl≠D) H' uv ((qg xs).take j))∧Same H2 H') ⟨⟨_,rfl⟩,⟨[],ak,cR.nil⟩,au hD⟩ (fun i σ H' _ h=>bC.of (h.2.2 _ _ e2)) ?_ ?_⟩
    · rintro j v σ H3 hj ⟨⟨o1,rfl⟩,⟨uv,M_,hA⟩,s3⟩;have hj2:j<tv.length:=(List.getElem?_eq_some_iff.mp hj).1;obtain⟨c,hc,t4,rfl,ht0,ht4⟩:=cR.at hN hj;have T_:uv.length=j:=by
        have:=hA.1;rw[List.length_take,Ks] at this;omega
      obtain⟨csub,c0,cl⟩:=QJ l9.2 (List.mem_of_getElem? hc);have qgn:=s3 _ _ ht4;have e13:=s3 _ _ e12;have S3:=S2.trans s3;left;refine⟨⟨_,bC.of qgn⟩,fun F hF=>U0 (c.map V.str) (fun i σ H'=>(∃o',σ=[o',some (.ref n)])∧H' F=some (.lst ((c.take i).map fun y=>V.int ((xs.idxOf y:Nat):Int)))∧Same H3 H') ⟨⟨_,rfl⟩,ak,au hF⟩ (fun i σ H' _ h=>bC.of (h.2.2 _ _ qgn)) ?_ ?_⟩
      ·rintro i x σ H4 hi ⟨⟨o',rfl⟩,hF4,s4⟩;obtain⟨y,hy,rfl⟩:=vY hi;have hi2:i<c.length:=(List.getElem?_eq_some_iff.mp hy).1;have hyx:y∈xs:=csub.subset (List.mem_of_getElem? hy);have e14:=s4 _ _ e13;rw[take_one hy,List.map_append];left;refine⟨⟨_,bC.of e14⟩,_,bC.of e14,hyx,_,hF4,by simp;omega,by rw[ak],aZ s4 hF⟩
      · rintro σ H4 ⟨⟨o',rfl⟩,hF4,s4⟩;rw[List.length_map,List.take_length] at hF4;have S4:=S3.trans s4;left;refine⟨o,t4,xs,c,ps,rfl,hw.same S4,hX,hTs,.inl (s4 _ _ qgn),csub.nodup hX.nd,fun x hx=>csub.subset hx,c0,cl,fun r5 H5 hr5 e5 s5=>?_⟩;rw[Kw hX.nd csub] at e5;left;refine⟨_,.inl (bC.of e5),?_⟩;rw[List.length_map,show(qgm c ps).length=uJ c ps from TV c ps 0];intro p6 Zf;exists H5,p6,(.tup [.ref F,.int ((uJ c ps:Nat):Int)]),s6,e6,H6,Zf;have VF:=s5 _ _ (s4 _ _ M_);have FD:F≠D:=fun z=>by rw[z,M_] at hF;cases hF
        have p6D:p6≠D:=fun z=>by rw[z,VF] at Zf;cases Zf
        refine⟨uv,s6 _ _ VF,by omega,⟨_,ak,?_⟩,aZ (s3.trans (s4.trans (s5.trans s6))) hD⟩;rw[take_one hc];refine cR.snoc (cR.keep hA ?_) ⟨⟨p6,F,rfl,by rw[aM p6D];exact e6,by rw[aM FD];exact s6 _ _ (s5 _ _ hF4)⟩,fun t et=>?_⟩
        ·rintro v b ⟨⟨t,pl,rfl,h1,h2⟩,h3⟩;obtain⟨g1,g2⟩:=h3 t rfl;have g3:=g2 pl _ h1;have S:=s4.trans (s5.trans s6);refine⟨⟨t,pl,rfl,by rw[aM g1];exact S _ _ h1,by rw[aM g3];exact S _ _ h2⟩,fun t' et=>?_⟩;cases et;refine⟨g1,fun Rp z hz=>?_⟩;rw[aM g1,S _ _ h1] at hz;cases hz;exact g3
        ·cases et;refine⟨p6D,fun Rp z hz=>?_⟩;rw[aM p6D,e6] at hz;cases hz;exact FD
    ·rintro σ H3 ⟨⟨o1,rfl⟩,⟨uv,M_,hA⟩,s3⟩;rw[hN.1,List.take_length] at hA;left;exact q D uv H3 (S2.free hD) M_ ⟨hA.1,fun i v c h1 h2=>(hA.2 i v c h1 h2).1⟩ (S2.trans s3)
def Zk (g:Str→Int) (c:List Str):Int:=(c.map g).sum
def DR (xs:List Str) (ps:List (Str×Str)) (g:Str→Int) (k:Int):Bool:=(qg xs).all fun c=>decide (k≤Zk g c - ((uJ c ps:Nat):Int))
theorem idx_map {g:Str→Int} {xs:List Str} {y:Str} (h:y∈xs):((xs.map g).map V.int)[xs.idxOf y]? = some (.int (g y)):=by
  have hl:=List.idxOf_lt_length_iff.mpr h;rw[List.getElem?_map,List.getElem?_map,List.getElem?_eq_getElem hl,List.getElem_idxOf hl];rfl
def LQ:Sp:=fun vs H Q _=>∃(r i:Addr) (tv:List V) (xs:List Str) (ps:List (Str×Str)) (g:Str→Int) (k:Int),vs=[.ref r,.ref i,.int k]∧H r=some (.lst tv)∧qb9 xs ps H tv∧xs.length≤9∧Sq H i ((xs.map g).map V.int)∧
  ∀H',Same H H'→Q (.bl (DR xs ps g k)) H'
theorem Az (T:Txt K mg a):bV P w K mg base mj 1 a.fL a.pq ["weighed", "ins", "k"] LQ:=by
  exists T.rD.tY,uP
  ·obtain⟨r,i,tv,xs,ps,g,k,rfl,_⟩:=h;rfl
  · obtain⟨r,i,tv,xs,ps,g,k,rfl,hr,hW,h9,hi,q⟩:=h;refine⟨_,(aC (qt PassesOwn.never rfl (PI.eqv (cQ (K:=K) rfl (aH 0)) (cA _ _)) (PG.eqv (c7 (K:=K) (n:=2) rfl rfl (fB.eqv (aU (aP (i:=3) uP.nd rfl (Or.inl rfl)) (fB.eqv (aU (aP (i:=4) uP.nd rfl (Or.inl rfl)) (fB.mono cM dJ)) (aW _ _))) (aW _ _))) (dh _ _ _))
      (aJ (eX (bI PK (bG vZ (aV (YC (K:=K) rfl rfl) rfl T.nm3.sum boot_sum (aj (cF rfl rfl (show aR (aD q_) _ ["weighed", "ins", "k", "places", "many"] ["place"] [1] ["place", "ins"] from⟨rfl,by symm,by symm,rfl,by symm,by symm⟩) rfl (PI.eqv (cQ (K:=K) rfl (aH 3)) (cA _ _)) (fun C s H fp pn=>(aP (i:=0) (show(["place", "ins"]:List Str).Nodup by symm) rfl (Or.inl rfl))) (fun C s H fp pn=>cO) (fun C s H fp pn=>(cV (dw (K:=K) rfl) (aH 1) (aH 0) (fun _ _=>rfl)))) aq)) (aH 4)) (aH 2) (cD _)) (aJ (bw mz)) cu)))
      (aJ (bw mz))),?_⟩
    have QM:600<sizeLine:=by decide
    left;refine⟨⟨_,bC.of hr⟩,frL tv (fun j σ H'=>(∃o3 o4,σ=[some (.ref r),some (.ref i),some (.int k),o3,o4])∧(∀c∈(qg xs).take j,k≤Zk g c - ((uJ c ps:Nat):Int))∧Same H H') ⟨⟨_,_,rfl⟩,by simp,Same.refl _⟩ (fun j σ H' _ h=>bC.of (h.2.2 _ _ hr)) ?_ ?_⟩
    · rintro j v σ H1 hj ⟨⟨o3,o4,rfl⟩,hall,s1⟩;obtain⟨c,hc,t,pl,rfl,ht,hpl⟩:=cR.at (hW.same s1) hj;obtain⟨csub,c0,cl⟩:=QJ h9 (List.mem_of_getElem? hc);left;refine⟨_,gq.of ht,rfl,?_⟩;left;refine⟨⟨_,bC.of hpl⟩,fun D hD=>U0 (c.map fun y=>V.int ((xs.idxOf y:Nat):Int)) (fun n σ H'=>(∃o',σ=[o',some (.ref i)])∧H' D=some (.lst (((c.take n).map g).map V.int))∧Same H1 H') ⟨⟨_,rfl⟩,ak,au hD⟩ (fun n σ H' _ h=>bC.of (h.2.2 _ _ hpl)) ?_ ?_⟩
      · rintro n x σ H2 hn ⟨⟨o',rfl⟩,hD2,s2⟩;obtain⟨y,hy,rfl⟩:∃y,c[n]? = some y∧V.int ((xs.idxOf y:Nat):Int)=x:=by
          rw[List.getElem?_map] at hn;cases hy:c[n]? with
          | none=>rw[hy] at hn;cases hn
          | some y=>rw[hy] at hn;cases hn;exact⟨y,rfl,rfl⟩
        have hn2:n<c.length:=(List.getElem?_eq_some_iff.mp hy).1;have hyx:y∈xs:=csub.subset (List.mem_of_getElem? hy);rw[take_one hy,List.map_append,List.map_append];left;refine⟨_,(hi.same (s1.trans s2)).q,.int (g y),bM (idx_map hyx),_,hD2,by simp;omega,by rw[ak];simp,aZ s2 hD⟩
      · rintro σ H2 ⟨⟨o',rfl⟩,hD2,s2⟩;rw[List.length_map,List.take_length] at hD2;left;refine⟨c.map g,bC.of hD2,iu.of (fun hb=>?_) (fun hb=>?_)⟩
        · have hb':=of_decide_eq_true hb;left;have:DR xs ps g k=false:=by
            unfold DR;rw[List.all_eq_false];refine⟨c,List.mem_of_getElem? hc,?_⟩;rw[decide_eq_true_eq];unfold Zk;omega
          rw[← this];exact q H2 (s1.trans s2)
        · have hb':=of_decide_eq_false hb;left;refine⟨fun d hd=>?_,s1.trans s2⟩;rw[take_one hc] at hd
          rcases List.mem_append.mp hd with hd | hd
          ·exact hall d hd
          ·rw[List.mem_singleton] at hd;subst hd;unfold Zk;omega
    · rintro σ H1 ⟨⟨o3,o4,rfl⟩,hall,s1⟩;rw[hW.1,List.take_length] at hall;left;have:DR xs ps g k=true:=by
        unfold DR;rw[List.all_eq_true];intro c hc;rw[decide_eq_true_eq];exact hall c hc
      rw[← this];exact q H1 s1
def inC (L:List iB):List Str:=L.map fun s=>s.2.2
def Ag (L:List iB):List Str:=L.map fun s=>s.2.1
def Bal (L:List iB):Prop:=(inC L).Perm (Ag L)
def zq (L:List iB):Prop:=(L.map fun s=>s.1).Nodup
theorem Xk {p:Str→Bool}:∀{L:List iB},(∀s∈L,p s.2.1=true→p s.2.2=true)→((Ag L).filter p).length≤((inC L).filter p).length
  | [],_=>Nat.le_refl _
  | s::L,h=>by
    have ih:=Xk (p:=p) (L:=L) fun t ht=>h t (List.mem_cons_of_mem _ ht);have h0:=h s List.mem_cons_self;simp only[inC,Ag,List.map_cons,List.filter_cons] at ih ⊢
    by_cases a:p s.2.1=true
    ·rw[if_pos a,if_pos (h0 a)];simp only[List.length_cons];omega
    · rw[if_neg a];split
      ·simp only[List.length_cons];omega
      ·exact ih
theorem qdM {s:iB} {L:List iB} (hb:Bal (s::L)):RT (IV (s::L)) s.2.2 s.2.1:=by
  apply Classical.byContradiction;intro hno;have hd:∀x,∃b:Bool,b=true↔RT (IV (s::L)) s.2.2 x:=fun x=>by
    by_cases h:RT (IV (s::L)) s.2.2 x
    ·exact⟨true,by simp[h]⟩
    ·exact⟨false,by simp[h]⟩
  obtain⟨p,hp⟩:=Classical.axiomOfChoice hd;have cl:∀t∈s::L,p t.2.1=true→p t.2.2=true:=fun t ht h=>(hp _).mpr (.tail ((hp _).mp h) ⟨t.1,ht⟩);have e:=(hb.filter p).length_eq;have le:=Xk (p:=p) (L:=L) fun t ht=>cl t (List.mem_cons_of_mem _ ht);have h1:p s.2.2=true:=(hp _).mpr (.refl _);have h2:¬p s.2.1=true:=fun z=>hno ((hp _).mp z);simp only[inC,Ag,List.map_cons,List.filter_cons,if_pos h1,if_neg h2,List.length_cons] at e le;omega
theorem Zm {S:List iB} {a:Str} {w:List Nat} {vs:List Str} {b:Str} (h:Ai S a w vs b):∃ss:List iB,(ss.map fun s=>s.1)=w∧(∀s∈ss,s∈S)∧vs=Ag ss++[b]∧vs=a::inC ss:=by
  induction h with
  | nil=>exact⟨[],rfl,by simp,rfl,rfl⟩
  | @snoc w vs b c n hp hq ih=>
    obtain⟨ss,h1,h2,h3,h4⟩:=ih;refine⟨ss++[(n,b,c)],by simp[h1],fun s hs=>?_,?_,?_⟩
    · rcases List.mem_append.mp hs with hs | hs
      ·exact h2 s hs
      ·rw[List.mem_singleton] at hs;subst hs;exact hq
    ·rw[h3];simp[Ag]
    ·rw[h4];simp[inC]
structure Ring (L:List iB) (s:iB) (w:List Nat) (vs:List Str):Prop where
  pth:Ai L s.2.2 w vs s.2.1
  nd:vs.Nodup
theorem rE {α β:Type} {f:α→β}:∀{l:List α},(l.map f).Nodup→l.Nodup
  | [],_=>List.nodup_nil
  | a::l,h=>by
    rw[List.map_cons,List.nodup_cons] at h;rw[List.nodup_cons];exact⟨fun z=>h.1 (List.mem_map_of_mem z),rE h.2⟩
theorem Ky {L:List iB} (hn:zq L) {s t:iB} (hs:s∈L) (ht:t∈L) (e:s.1=t.1):s=t:=by
  unfold zq at hn
  induction L with
  | nil=>cases hs
  | cons a L ih=>
    rw[List.map_cons,List.nodup_cons] at hn
    rcases List.mem_cons.mp hs with h1 | h1 <;> rcases List.mem_cons.mp ht with h2 | h2
    ·rw[h1,h2]
    ·rw[h1] at e;exact(hn.1 (List.mem_map.mpr ⟨t,h2,e.symm⟩)).elim
    ·rw[h2] at e;exact(hn.1 (List.mem_map.mpr ⟨s,h1,e⟩)).elim
    ·exact ih hn.2 h1 h2
theorem Ring.steps {L:List iB} {s:iB} {w:List Nat} {vs:List Str} (r:Ring L s w vs) (hs:s∈L) (hn:zq L) :
    ∃ss:List iB,(ss.map fun t=>t.1)=s.1::w∧(∀t∈ss,t∈L)∧(s.1::w).Nodup∧(inC ss).Perm vs∧(Ag ss).Perm vs∧ss=s::ss.tail∧Ag ss.tail++[s.2.1]=vs∧vs=s.2.2::inC ss.tail:=by
  obtain⟨ss,h1,h2,h3,h4⟩:=Zm r.pth;have nw:s.1∉w:=fun hm=>by
    rw[← h1,List.mem_map] at hm;obtain⟨t,ht,e⟩:=hm;obtain rfl:=Ky hn (h2 t ht) hs e;have hv:=r.nd;rw[h4,List.nodup_cons] at hv;exact hv.1 (List.mem_map.mpr ⟨t,ht,rfl⟩)
  have wnd:w.Nodup:=by
    rw[← h1];have hv:=r.nd;rw[h4,List.nodup_cons] at hv;have hss:ss.Nodup:=rE hv.2;clear h1 h3 h4 hv nw
    induction ss with
    | nil=>exact List.nodup_nil
    | cons a l ih=>
      rw[List.nodup_cons] at hss;rw[List.map_cons,List.nodup_cons];refine⟨fun z=>?_,ih (fun t ht=>h2 t (List.mem_cons_of_mem _ ht)) hss.2⟩;obtain⟨t,ht,e⟩:=List.mem_map.mp z;obtain rfl:=Ky hn (h2 t (List.mem_cons_of_mem _ ht)) (h2 a List.mem_cons_self) e;exact hss.1 ht
  refine⟨s::ss,by simp[h1],fun t ht=>?_,List.nodup_cons.mpr ⟨nw,wnd⟩,?_,?_,rfl,h3.symm,h4⟩
  · rcases List.mem_cons.mp ht with rfl | ht
    ·exact hs
    ·exact h2 t ht
  ·rw[h4];exact .refl _
  ·rw[h3];show(s.2.1::Ag ss).Perm (Ag ss++[s.2.1]);exact(List.perm_append_singleton _ _).symm
theorem qb_ {L:List iB} {s:iB} {w:List Nat} {vs:List Str} (hb:Bal L) (hn:zq L) (r:Ring L s w vs) (hs:s∈L):Bal (L.filter fun t=>!decide (t.1∈s.1::w)):=by
  obtain⟨ss,h1,h2,h3,h4,h5,_⟩:=r.steps hs hn;have ssn:ss.Nodup:=rE (f:=fun t:iB=>t.1) (by rw[h1];exact h3);have hp:(L.filter fun t=>decide (t.1∈s.1::w)).Perm ss:=by
    rw[List.perm_ext_iff_of_nodup ((rE hn).filter _) ssn];intro t;rw[List.mem_filter,decide_eq_true_eq];constructor
    ·rintro⟨a1,a2⟩;rw[← h1,List.mem_map] at a2;obtain⟨u,hu,e⟩:=a2;obtain rfl:=Ky hn (h2 u hu) a1 e;exact hu
    ·intro ht;exact⟨h2 t ht,by rw[← h1];exact List.mem_map.mpr ⟨t,ht,rfl⟩⟩
  have spl:(L.filter (fun t=>decide (t.1∈s.1::w))++L.filter fun t=>!decide (t.1∈s.1::w)).Perm L:=List.filter_append_perm _ _;have a1:(inC (L.filter fun t=>decide (t.1∈s.1::w))).Perm vs:=(hp.map _).trans h4;have a2:(Ag (L.filter fun t=>decide (t.1∈s.1::w))).Perm vs:=(hp.map _).trans h5;have b1:(inC (L.filter fun t=>decide (t.1∈s.1::w))++inC (L.filter fun t=>!decide (t.1∈s.1::w))).Perm (inC L):=by
    have:=spl.map fun s:iB=>s.2.2;rw[List.map_append] at this;exact this
  have b2:(Ag (L.filter fun t=>decide (t.1∈s.1::w))++Ag (L.filter fun t=>!decide (t.1∈s.1::w))).Perm (Ag L):=by
    have:=spl.map fun s:iB=>s.2.1;rw[List.map_append] at this;exact this
  have c1:=(b1.trans hb).trans b2.symm;have c2:=(a1.append_right (inC (L.filter fun t=>!decide (t.1∈s.1::w)))).symm.trans (c1.trans (a2.append_right _));exact(List.perm_append_left_iff _).mp c2
def Lb:List Int→List Int→List (Str×Str)→Nat→List iB
  | n::ns,m::ms,e::ps,k=>if n=m then Lb ns ms ps (k+1) else (k,Bf n e,vA n e)::Lb ns ms ps (k+1)
  | _,_,_,_=>[]
theorem QS:∀{ns ms:List Int} {ps:List (Str×Str)} {k:Nat},∀s∈Lb ns ms ps k,k≤s.1
  | n::ns,m::ms,e::ps,k,s,h=>by
    rw[Lb] at h;split at h
    ·have:=QS s h;omega
    · rcases List.mem_cons.mp h with rfl | h
      ·exact Nat.le_refl _
      ·have:=QS s h;omega
  | [],_,_,_,s,h=>by simp[Lb] at h
  | _::_,[],_,_,s,h=>by simp[Lb] at h
  | _::_,_::_,[],_,s,h=>by simp[Lb] at h
theorem VL:∀(ns ms:List Int) (ps:List (Str×Str)) (k:Nat),zq (Lb ns ms ps k)
  | n::ns,m::ms,e::ps,k=>by
    rw[Lb];split
    ·exact VL ns ms ps (k+1)
    ·unfold zq;rw[List.map_cons,List.nodup_cons];refine⟨fun z=>?_,VL ns ms ps (k+1)⟩;obtain⟨s,hs,e⟩:=List.mem_map.mp z;have:=QS s hs;simp only at e;omega
  | [],_,_,_=>List.nodup_nil
  | _::_,[],_,_=>List.nodup_nil
  | _::_,_::_,[],_=>List.nodup_nil
theorem Xl (x:Str):∀{ns ms:List Int} {ps:List (Str×Str)} (k:Nat),ns.length=ps.length→ms.length=ps.length→(∀n∈ns,0≤n∧n≤1)→(∀n∈ms,0≤n∧n≤1)→
    inN ns ps x+(Ag (Lb ns ms ps k)).count x=inN ms ps x+(inC (Lb ns ms ps k)).count x
  | [],[],[],_,_,_,_,_=>rfl
  | [],_,_::_,_,h,_,_,_=>by simp at h
  | _::_,_,[],_,h,_,_,_=>by simp at h
  | _,[],_::_,_,_,h,_,_=>by simp at h
  | [],_::_,[],_,_,h,_,_=>by simp at h
  | n::ns,m::ms,e::ps,k,h1,h2,hn,hm=>by
    have ih:=Xl x (ns:=ns) (ms:=ms) (ps:=ps) (k+1) (by simpa using h1) (by simpa using h2) (fun a ha=>hn a (List.mem_cons_of_mem _ ha)) fun a ha=>hm a (List.mem_cons_of_mem _ ha);have n01:=hn n List.mem_cons_self;have m01:=hm m List.mem_cons_self;rw[Lb];simp only[inN,nC,List.count_cons] at ih ⊢
    by_cases e1:n=m
    ·subst e1;rw[if_pos rfl];omega
    · rw[if_neg e1];simp only[inC,Ag,List.map_cons,List.count_cons] at ih ⊢;have eo:vA m e=Bf n e:=by
        unfold vA Bf;obtain⟨rfl,rfl⟩ | ⟨rfl,rfl⟩:(n=0∧m=1)∨(n=1∧m=0):=by omega
        ·simp
        ·simp
      rw[eo];omega
theorem qdN {xs:List Str} {ns ms:List Int} {ps:List (Str×Str)} (hp:∀e∈ps,e.1∈xs∧e.2∈xs) (h1:ns.length=ps.length) (h2:ms.length=ps.length) (hn:∀n∈ns,0≤n∧n≤1) (hm:∀n∈ms,0≤n∧n≤1) (he:∀x∈xs,inN ns ps x=inN ms ps x):Bal (Lb ns ms ps 0):=by
  unfold Bal;rw[List.perm_iff_count];intro x;have h:=Xl x 0 h1 h2 hn hm
  by_cases hx:x∈xs
  ·have:=he x hx;omega
  · have g0:∀ks:List Int,inN ks ps x=0:=fun ks=>by
      unfold inN;refine List.count_eq_zero.mpr fun z=>hx ?_;exact CT hp x z
    have a:=g0 ns;have b:=g0 ms;omega
theorem QT:∀(ns ms:List Int) (ps:List (Str×Str)) (k:Nat),ns.length=ps.length→ms.length=ps.length→(mF ns ps k).filter (fun s=>!decide (ns[s.1 - k]? = ms[s.1 - k]?))=Lb ns ms ps k
  | [],_,_,_,_,_=>by simp[mF,Lb]
  | n::ns,m::ms,e::ps,k,h1,h2=>by
    have ih:=QT ns ms ps (k+1) (by simpa using h1) (by simpa using h2);rw[mF,Lb,List.filter_cons];have t:(mF ns ps (k+1)).filter (fun s=>!decide ((n::ns)[s.1 - k]? = (m::ms)[s.1 - k]?))=(mF ns ps (k+1)).filter (fun s=>!decide (ns[s.1 - (k+1)]? = ms[s.1 - (k+1)]?)):=by
      refine List.filter_congr fun s hs=>?_;obtain⟨j,hj⟩:=List.getElem?_of_mem hs;rw[zQ] at hj;obtain⟨a,b,_,_,rfl⟩:=hj;simp only;rw[show k+1+j - k=j+1 by omega,show k+1+j - (k+1)=j by omega,List.getElem?_cons_succ,List.getElem?_cons_succ]
    rw[t,ih];simp only[Nat.sub_self,List.getElem?_cons_zero,Option.some.injEq]
    by_cases e1:n=m
    ·subst e1;simp
    ·simp[e1]
  | _::_,[],_::_,_,_,h=>by simp at h
  | _::_,_,[],_,h,_=>by simp at h
theorem qdO (k:Nat) (ks:List Nat):inV (.int k) (ks.map fun n:Nat=>V.int n)=decide (k∈ks):=by
  have h:=Xh k (ks.map fun n:Nat=>(n:Int));rw[List.map_map] at h;refine h.trans (decide_eq_decide.mpr ⟨fun z=>?_,fun z=>List.mem_map.mpr ⟨k,z,rfl⟩⟩);obtain⟨a,ha,e⟩:=List.mem_map.mp z;have:a=k:=by omega
  exact this▸ha
def Zn (r:List Nat) (t:iB):Bool:=!decide (t.1∈r)
def VN (L:List iB) (a b:Str):List Nat:=(((vC L a 20).find? fun e=>decide (e.1=b)).map fun e=>e.2).getD []
theorem Xm {b:Str} {w:List Nat}:∀{R:BR},(R.map fun e=>e.1).Nodup→(b,w)∈R→(R.find? fun e=>decide (e.1=b))=some (b,w)
  | e::R,hn,hm=>by
    rw[List.map_cons,List.nodup_cons] at hn;rw[List.find?_cons]
    by_cases h:e.1=b
    · rcases List.mem_cons.mp hm with rfl | hm
      ·simp
      ·exact(hn.1 (by rw[h];exact List.mem_map.mpr ⟨_,hm,rfl⟩)).elim
    · rcases List.mem_cons.mp hm with rfl | hm
      ·exact absurd rfl h
      ·simp only[decide_eq_false h];exact Xm hn.2 hm
theorem qdP {L:List iB} {a b:Str} {R:BR} {w:List Nat} (hF:qhI L a R) (hB:RL L a R.length R) (hl:R.length≤20) (hm:(b,w)∈R):VN L a b=w:=by
  have e:vC L a 20=R:=by
    have:=Nr hF (Nat.le_refl _) (20 - R.length)
    rwa [show R.length+(20 - R.length)=20 by omega] at this
  unfold VN;rw[e,Xm hB.nd hm];rfl
def zu (s:iB) (L:List iB):List iB:=(s::L).filter fun t=>!decide (t.1∈s.1::VN (s::L) s.2.2 s.2.1)
def zx:Nat→List iB→List (List Nat)
  | 0,_=>[]
  | _+1,[]=>[]
  | f+1,s::L=>(s.1::VN (s::L) s.2.2 s.2.1)::zx f (zu s L)
theorem Zo (s:iB) (L:List iB):(zu s L).length≤L.length:=by
  unfold zu;rw[List.filter_cons,if_neg (by simp)];exact List.length_filter_le _ _
inductive BJ:List iB→List (List Nat)→Prop
  | nil:BJ [] []
  | cons {s:iB} {L:List iB} {vs:List Str} {rs:List (List Nat)}:Ring (s::L) s (VN (s::L) s.2.2 s.2.1) vs→BJ (zu s L) rs→BJ (s::L) ((s.1::VN (s::L) s.2.2 s.2.1)::rs)
def G9 (C:Addr):Sp:=fun vs H Q _=>∃(o t u:Addr) (xs:List Str) (ps:List (Str×Str)) (ns ms:List Int),vs=[.ref o,.ref t,.ref u]∧qe C H o t xs ps ns∧Sq H u (ms.map V.int)∧ms.length=ps.length∧
  ∀(l:Addr) (tv:List V) (H':Hp),H l=none→H' l=some (.lst tv)→cP H' tv (Lb ns ms ps 0)→Same H H'→Q (.ref l) H'
theorem G_ (T:Txt K mg a):bV P w K mg base mj 6 a.dN a.kJ ["web", "one", "other"] (G9 a.bO):=by
  exists T.sJ.tY,GX
  ·obtain⟨o,t,u,xs,ps,ns,ms,rfl,_⟩:=h;rfl
  · obtain⟨o,t,u,xs,ps,ns,ms,rfl,hp,hu,hml,q⟩:=h;refine⟨_,(aJ (bw (cF rfl rfl (show aR (aD mG) _ ["web", "one", "other"] ["step"] [1,2] ["step", "one", "other"] from⟨rfl,by symm,by symm,rfl,by symm,by symm⟩) rfl (PI.eqv (cQ (K:=K) rfl (PE.eqv (aL (Ob T) hr.d rfl T.DK T.vK.kp T.DG .nil aY (aj (aH 0) (aj (aH 1) aq))) (aF _ _ _))) (cA _ _)) (fun C s H fp pn=>(aP (i:=0) (show(["step", "one", "other"]:List Str).Nodup by symm) rfl (Or.inl rfl))) (fun C s H fp pn=>(oO (bI Et (cV (dw (K:=K) rfl) (aH 1) (cV (dw (K:=K) rfl) (aH 0) aN (fun _ _=>rfl)) (fun _ _=>rfl)) (cV (dw (K:=K) rfl) (aH 2) (cV (dw (K:=K) rfl) (aH 0) aN (fun _ _=>rfl)) (fun _ _=>rfl)) (cD _)))) (fun C s H fp pn=>(aH 0))))),?_⟩;have QM:600<sizeLine:=by decide
    left;refine⟨o,t,xs,ps,ns,rfl,hp,fun l tv H1 hl0 hl1 hst h40 s1=>?_⟩;obtain⟨hw,ht,h01,hl,nO⟩:=hp;rw[qeD hl h01] at hst;left;refine⟨⟨_,bC.of hl1⟩,fun D hD=>U0 tv (fun i σ H'=>(∃o0,σ=[o0,some (.ref t),some (.ref u)])∧(∃us,H' D=some (.lst us)∧cP H' us (((mF ns ps 0).take i).filter fun s=>!decide (ns[s.1]? = ms[s.1]?))∧us.length≤i)∧Same H1 H') ⟨⟨_,rfl⟩,⟨[],ak,cR.nil,Nat.zero_le _⟩,au hD⟩ (fun i σ H' _ h=>bC.of (h.2.2 _ _ hl1)) ?_ ?_⟩
    · rintro i v σ H2 hi ⟨⟨o0,rfl⟩,⟨us,hD2,hus,T_⟩,s2⟩;obtain⟨st,qdQ,t1,rfl,ht1⟩:=hst.at hi;obtain⟨n,e,a1,a2,a3⟩:=(zQ ns ps 0 i st).mp qdQ;rw[Nat.zero_add] at a3;subst a3;have hi2:i<ns.length:=(List.getElem?_eq_some_iff.mp a1).1;obtain⟨m,hm⟩:∃m,ms[i]? = some m:=⟨_,List.getElem?_eq_getElem (show i<ms.length by omega)⟩;have HN:=s2 _ _ ht1;rw[take_one qdQ,List.filter_append];have S2:=s1.trans s2;left;refine⟨_,.inr (gq.of HN),_,bM (j:=0) rfl,?_⟩;left;refine⟨_,(ht.same S2).q,.int n,bM (by rw[List.getElem?_map,a1];rfl),_,.inr (gq.of HN),_,bM (j:=0) rfl,?_⟩;left;refine⟨_,(hu.same S2).q,.int m,bM (by rw[List.getElem?_map,hm];rfl),?_⟩;left
      by_cases hnm:n=m
      ·subst hnm;refine⟨false,by simp,iu.neg rfl ?_⟩;left;refine⟨⟨us,hD2,?_,by omega⟩,s2⟩;simpa [a1,hm] using hus
      · refine⟨true,by simp[hnm],iu.pos rfl ?_⟩;left;refine⟨us,hD2,by omega,⟨us++[.ref t1],ak,?_,by simp;omega⟩,aZ s2 hD⟩;have e1:(List.filter (fun s:iB=>!decide (ns[s.1]? = ms[s.1]?)) [(i,Bf n e,vA n e)])=[(i,Bf n e,vA n e)]:=by simp[a1,hm,hnm]
        rw[e1];refine cR.snoc (cP.keep hus (cI.set hD2 (by intro xs z;cases z))) ⟨t1,rfl,?_⟩;rw[aM (aQ ht1 hD)];exact HN
    ·rintro σ H2 ⟨⟨o0,rfl⟩,⟨us,hD2,hus,T_⟩,s2⟩;rw[hst.1,List.take_length] at hus;have:=QT ns ms ps 0 hl hml;simp only[Nat.sub_zero] at this;rw[this] at hus;left;exact q D us H2 (cg s1 hD) hD2 hus (s1.trans s2)
def Kz (G H:Hp) (v:V) (w:List Nat):Prop:=∃t,v = .ref t∧G t=none∧H t=some (.lst (w.map fun n:Nat=>V.int n))
theorem Oc {G H H':Hp} {tv:List V} {rs:List (List Nat)} (h:cR (Kz G) H tv rs) (s:Same H H'):cR (Kz G) H' tv rs:=h.keep fun v b ⟨t,e,y,z⟩=>⟨t,e,y,s _ _ z⟩
theorem qca {G H:Hp} {r:Addr} {tv us:List V} {rs:List (List Nat)} (hr:H r=some (.lst tv)) (h:cR (Kz G) H tv rs):cR (Kz G) (upd H r (.lst us)) tv rs:=by
  refine⟨h.1,fun i v c hv hcc=>?_⟩;obtain⟨t,rfl,t0,ht⟩:=h.2 i v c hv hcc;refine⟨t,rfl,t0,?_⟩;rw[aM]
  ·exact ht
  · intro z;subst z;rw[hr] at ht;have e:tv=c.map fun n:Nat=>V.int n:=by injection ht with ht;injection ht
    rw[e,List.getElem?_map] at hv;cases hx:c[i]? with
    | none=>rw[hx] at hv;cases hv
    | some x=>rw[hx] at hv;cases hv
def VP (σ:List (Option V)) (H:Hp):Nat:=match σ[3]? with
  | some (some (V.ref t))=>(match H t with
    | some (.lst vs)=>vs.length
    | _=>0)
  | _=>0
theorem Od {o0 o1 o2:Option V} {t:Addr} {r:List (Option V)} {H:Hp} {vs:List V} (h:H t=some (.lst vs)):VP (o0::o1::o2::some (.ref t)::r) H=vs.length:=by
  unfold VP;simp only[List.getElem?_cons_succ,List.getElem?_cons_zero,h]
theorem BK {ns:List Int} {ps:List (Str×Str)} (hl:ns.length=ps.length) (h01:∀n∈ns,0≤n∧n≤1):((QH ns ps).map fun s=>s.2.2)=nC ns ps:=by
  rw[qeD hl h01,PB]
theorem qcb {K:W.Frag} {g:Int→Int→V} {i:Nat} {x:V}:∀(σ:St) (H:Hp) (Q Q':Bool→Hp→Prop),(∀(b:Bool) (H1:Hp),Q b H1→Q' b H1)→
    yu (Ld (U5 g) (tCB (Gi K) (iW (fVar i) xQ)) (tC x)) σ H Q→yu (Ld (U5 g) (tCB (Gi K) (iW (fVar i) xQ)) (tC x)) σ H Q':=by
  intro σ H Q Q' f h;refine getSt.imp (fun v h=>isRef.imp (fun p h=>?_) h) h;obtain⟨ys,h1,h2⟩:=h;refine⟨ys,h1,?_⟩;obtain⟨n,rfl,h3⟩:=isInt.out (x:=x) h2;exact xR.imp (fun b h=>f _ _ h) h3
def tu (xs:List Str) (ps:List (Str×Str)) (ns ms:List Int):Bool:=decide ((xs.map fun x=>(inN ns ps x:Int))=xs.map fun x=>(inN ms ps x:Int))
theorem Xn {k:Nat} {f:Addr} {fd:FuncData} {ps:List Str} {sp:Sp} (F:bV P w K mg base mj k f fd ps sp):bV P w K mg base (Qf P w) k f fd ps sp:=
  ⟨F.len,fun A outer s H args us vs Q E hr h0 hb hv h=>codeAny_mono (F.run A outer s H args us vs Q E hr h0 hb hv h) fun r s' q=>by
    cases r with
    | ok fl=>cases fl <;> exact q
    | error e=>exact False.elim q⟩
def DW (C:Addr):Sp:=fun vs H Q _=>∃(o t u:Addr) (xs:List Str) (ps:List (Str×Str)) (ns ms:List Int),vs=[.ref o,.ref t,.ref u]∧qe C H o t xs ps ns∧qe C H o u xs ps ms∧Oa xs∧Ae xs ps∧tu xs ps ns ms=true∧
  ∀(r:Addr) (tv:List V) (rs:List (List Nat)) (H':Hp),H r=none→H' r=some (.lst tv)→cR (Kz H) H' tv rs→BJ (Lb ns ms ps 0) rs→rs=zx 20 (Lb ns ms ps 0)→Same H H'→Q (.ref r) H'
def DX (C U:Addr):Sp:=fun vs H _ E=>∃(o t u:Addr) (xs:List Str) (ps:List (Str×Str)) (ns ms:List Int),vs=[.ref o,.ref t,.ref u]∧qe C H o t xs ps ns∧qe C H o u xs ps ms∧Oa xs∧Ae xs ps∧tu xs ps ns ms=false∧∀H',Same H H'→E (.ref U) none H'
theorem DY (T:Txt K mg a):bV P w K mg base (Qf P w) 7 a.cj a.dB ["web", "one", "other"] (DX a.bO a.aO):=by
  exists T.fC.Vl,cB
  ·obtain⟨o,t,u,xs,ps,ns,ms,rfl,_⟩:=h;rfl
  · obtain⟨o,t,u,xs,ps,ns,ms,rfl,hp,hp',hX,hT,hlk,q2⟩:=h;refine⟨_,(aC (eX (bI (qz (K:=K) rfl hr.units) (PE.eqv (aL (jL T) hr.d rfl T.jh T.f9.kp T.jg .nil aY (aj (aH 0) (aj (aH 1) aq))) (aF _ _ _)) (PE.eqv (aL (jL T) hr.d rfl T.jh T.f9.kp T.jg .nil aY (aj (aH 0) (aj (aH 2) aq))) (aF _ _ _)) (cD _)) (aJ (yC (E:=E) kj rfl rfl T.pQ rfl T.sS (aj bH aq))) cu)
      Mi),?_⟩
    have l9:=hX.len;left;refine⟨o,t,xs,ps,ns,rfl,hp,l9.2,fun r1 H1 hr1 e1 s1=>?_⟩;obtain⟨hw,ht,h01,hl,nO⟩:=hp;obtain⟨_,hu,Zq,hml,_⟩:=hp';rw[BK hl h01] at e1;left;refine⟨o,u,xs,ps,ms,rfl,⟨hw.same s1,hu.same s1,Zq,hml,nO⟩,l9.2,fun r2 H2 hr2 e2 s2=>?_⟩;rw[BK hml Zq] at e2;have S2:=s1.trans s2;have lay:∀zs:List Int,PyData.canLay0 (.list (fY zs))=true:=fun zs=>by simp[PyData.canLay0,lay_ints]
    have dep:∀zs:List Int,(PyData.list (fY zs)).depth≤64:=fun zs=>by
      have:=yr zs;simp[PyData.depth];omega
    have isI:∀{H:Hp} {r:Addr} {zs:List Int},H r=some (.lst (zs.map V.int))→Is K H (.list (fY zs)) (.ref r):=fun e=>⟨_,_,rfl,bC.of e,CQ _⟩;have e1':H2 r1=some (.lst ((xs.map fun x=>(inN ns ps x:Int)).map V.int)):=s2 _ _ e1;have e2':H2 r2=some (.lst ((xs.map fun x=>(inN ms ps x:Int)).map V.int)):=e2;left;refine⟨_,isI e1',_,isI e2',lay _,lay _,dep _,true,?_,iu.pos rfl ?_⟩
    ·simp only[PyData.eqv,yt];exact hlk
    ·left;exact q2 _ S2
theorem uK (T:Txt K mg a):bV P w K mg base mj 7 a.cj a.dB ["web", "one", "other"] (DW a.bO):=by
  exists T.fC.tY,cB
  ·obtain⟨o,t,u,xs,ps,ns,ms,rfl,_⟩:=h;rfl
  · obtain⟨o,t,u,xs,ps,ns,ms,rfl,hp,hp',hX,hT,hlk,q1⟩:=h;refine⟨_,(aC (eX (bI (qz (K:=K) rfl hr.units) (PE.eqv (aL (jL T) hr.d rfl T.jh T.f9.kp T.jg .nil aY (aj (aH 0) (aj (aH 1) aq))) (aF _ _ _)) (PE.eqv (aL (jL T) hr.d rfl T.jh T.f9.kp T.jg .nil aY (aj (aH 0) (aj (aH 2) aq))) (aF _ _ _)) (cD _)) (aJ pD) cu)
      (aC (bx (i:=3) cB.nd rfl (Or.inl rfl) (PE.eqv (aL (G_ T) hr.d rfl T.yP T.sJ.kp T.yO .nil aY (aj (aH 0) (aj (aH 1) (aj (aH 2) aq)))) (aF _ _ _)))
      (aC (bx (i:=4) cB.nd rfl (Or.inl rfl) (bA aq))
      (aC (Ii PassesOwn.never (bI PL (aV (cW (K:=K) rfl) rfl T.nm.len PySem.boot_len (aj (aH 3) aq)) aN (cD _))
      (aC (Ig (cV (dw (K:=K) rfl) (aH 3) aN (fun _ _=>rfl)) (PG.eqv (c7 (K:=K) (n:=3) rfl rfl (fB.eqv (aU (aP (i:=5) cB.nd rfl (Or.inl rfl)) (fB.eqv (aU (aP (i:=6) cB.nd rfl (Or.inl rfl)) (fB.eqv (aU (aP (i:=7) cB.nd rfl (Or.inl rfl)) (fB.mono cM dJ)) (aW _ _))) (aW _ _))) (aW _ _))) (dh _ _ _)))
      (aC (bx (i:=8) cB.nd rfl (Or.inr rfl) (bG bZ (bA (aj (aH 5) aq)) (PE.eqv (Wy (Mx hr) (PE.eqv (aL (LK T) hr.d rfl T.Dz T.wO.kp T.Dy .nil aY (aj (aH 7) (aj (aH 3) aq))) (aF _ _ _)) (aH 6) (fun _ _=>rfl)) (R0 _ _))))
      (aC (fu (mD (K:=K) rfl PySem.F.plainAttrs_list PySem.F.slot_list_append PySem.F.type_list_append gJ (aH 4) (aj (aH 8) aq)))
      (aJ (vW (i:=3) cB.nd rfl rfl rfl rfl (show aR (aD kE) _ ["web", "one", "other", "left", "rings", "number", "origin", "goal", "ring"] ["step"] [8] ["step", "ring"] from⟨rfl,by symm,by symm,rfl,by symm,by symm⟩) rfl (PI.eqv (cQ (K:=K) rfl (aH 3)) (cA _ _)) (fun C s H fp pn=>(aP (i:=0) (show(["step", "ring"]:List Str).Nodup by symm) rfl (Or.inl rfl))) (fun C s H fp pn=>(oO (bI (WT (K:=K) rfl) (cV (dw (K:=K) rfl) (aH 0) aN (fun _ _=>rfl)) (aH 1) rfl))) (fun C s H fp pn=>(aH 0))))))))
      (aJ (bw (aH 4))))))),?_⟩
    have QM:600<sizeLine:=by decide
    have l9:=hX.len;have QG:=hT.len;left;refine⟨o,t,xs,ps,ns,rfl,hp,l9.2,fun r1 H1 hr1 e1 s1=>?_⟩;have hp0:=hp;obtain⟨hw,ht,h01,hl,nO⟩:=hp;obtain⟨_,hu,Zq,hml,_⟩:=hp';rw[BK hl h01] at e1;left;refine⟨o,u,xs,ps,ms,rfl,⟨hw.same s1,hu.same s1,Zq,hml,nO⟩,l9.2,fun r2 H2 hr2 e2 s2=>?_⟩;rw[BK hml Zq] at e2;have S2:=s1.trans s2;have lay:∀zs:List Int,PyData.canLay0 (.list (fY zs))=true:=fun zs=>by simp[PyData.canLay0,lay_ints]
    have dep:∀zs:List Int,(PyData.list (fY zs)).depth≤64:=fun zs=>by
      have:=yr zs;simp[PyData.depth];omega
    have isI:∀{H:Hp} {r:Addr} {zs:List Int},H r=some (.lst (zs.map V.int))→Is K H (.list (fY zs)) (.ref r):=fun e=>⟨_,_,rfl,bC.of e,CQ _⟩;have e1':H2 r1=some (.lst ((xs.map fun x=>(inN ns ps x:Int)).map V.int)):=s2 _ _ e1;have e2':H2 r2=some (.lst ((xs.map fun x=>(inN ms ps x:Int)).map V.int)):=e2;have qh_:∀x∈xs,inN ns ps x=inN ms ps x:=fun x hx=>by
      have h:=of_decide_eq_true hlk;have:=List.map_inj_left.mp h x hx;omega
    have g2:∀e∈ps,e.1∈xs∧e.2∈xs:=fun e he=>⟨(hT.ok e he).1,(hT.ok e he).2.1⟩;left;refine⟨_,isI e1',_,isI e2',lay _,lay _,dep _,false,?_,iu.neg rfl ?_⟩
    ·simp only[PyData.eqv,yt];exact hlk
    left;refine⟨o,t,u,xs,ps,ns,ms,rfl,⟨hw.same S2,ht.same S2,h01,hl,nO⟩,hu.same S2,hml,fun l3 tv3 H3 hl3 e3 qia s3=>?_⟩;have qib:=qdN g2 hl hml h01 Zq qh_;have nd0:=VL ns ms ps 0;have in0:∀s∈Lb ns ms ps 0,s.2.2∈xs:=fun s hs=>by
      have h:=QT ns ms ps 0 hl hml;rw[← h] at hs;obtain⟨j,m,e,a1,a2,rfl⟩:=qbj.mp (List.mem_filter.mp hs).1;have he:=g2 e (List.mem_of_getElem? a2);show vA m e∈xs;unfold vA;split
      ·exact he.2
      ·exact he.1
    have len0:(Lb ns ms ps 0).length≤20:=by
      have h:=QT ns ms ps 0 hl hml;rw[← h];have h2:((mF ns ps 0).filter fun s=>!decide (ns[s.1 - 0]? = ms[s.1 - 0]?)).length≤(mF ns ps 0).length:=List.length_filter_le _ _;rw[Jx ns ps 0 hl] at h2;omega
    generalize Lb ns ms ps 0=L0 at qia qib nd0 in0 len0 q1;have S3:=S2.trans s3;left;intro rl hrl;have s4:Same H3 (upd H3 rl (.lst [])):=au hrl;have e4:upd H3 rl (.lst []) rl=some (.lst []):=ak;have qic:cP (upd H3 rl (.lst [])) tv3 L0:=cP.keep qia (L2.cI.of s4);have e34:=s4 _ _ e3;generalize upd H3 rl (.lst [])=H4 at s4 e4 qic e34 ⊢;have S4:=S3.trans s4;have rl0:H rl=none:=cg S3 hrl;refine whB (fun σ H'=>∃(l:Addr) (tv tr:List V) (L:List iB) (rs:List (List Nat)) (f:Nat) (o5 o6 o7 o8:Option V),σ=[some (.ref o),some (.ref t),some (.ref u),some (.ref l),some (.ref rl),o5,o6,o7,o8]∧l≠rl∧H' l=some (.lst tv)∧cP H' tv L∧Bal L∧zq L∧(∀s∈L,s.2.2∈xs)∧L.length≤f∧f≤20∧
        H' rl=some (.lst tr)∧cR (Kz H) H' tr rs∧rs.length+f≤20∧zx 20 L0=rs++zx f L∧(∀rest,BJ L rest→BJ L0 (rs++rest))∧Same H H') VP
      ⟨l3,tv3,[],L0,[],20,none,none,none,none,rfl,aQ e3 hrl,e34,qic,qib,nd0,in0,len0,Nat.le_refl _,e4,cR.nil,by simp,rfl,fun rest h=>h,S4⟩ ?_ qcb
    rintro σ H5 ⟨l,tv,tr,L,rs,f,o5,o6,o7,o8,rfl,lrl,e5,qcc,bal,nds,inx,hLf,hf,er5,hrs,hrf,qcd,Ze,S5⟩;rw[Od e5];left;refine⟨_,.inl (bC.of e5),iu.of (fun h=>?_) (fun h=>?_)⟩
    · have hpos:=of_decide_eq_true h;have tl5:=qcc.1;obtain⟨v0,hv0⟩:∃v,tv[0]? = some v:=⟨_,List.getElem?_eq_getElem (show 0<tv.length by omega)⟩;obtain⟨sp,hsp,t0,rfl,ht0⟩:=cR.at qcc hv0;cases L with
      | nil=>simp at hsp
      | cons tO L'=>
      simp only[List.getElem?_cons_zero,Option.some.injEq] at hsp;subst hsp;obtain⟨f',rfl⟩:∃f',f=f'+1:=⟨f - 1,by simp at hLf;omega⟩;left;refine⟨_,.inl (bC.of e5),_,bM hv0,?_⟩;left;refine⟨_,gq.of ht0,rfl,?_⟩;left;intro p6 Zf;exists H5,p6,(.lst [V.int tO.1]),s6,e6,H6,Zf;refine⟨tO.2.2,l,tv,tO::L',xs,rfl,s6 _ _ e5,cP.keep qcc (L2.cI.of s6),inx _ List.mem_cons_self,inx,l9.2,fun d kvs R H7 hd0 hd7 hwy hB hF hnew s7=>?_⟩;have hR9:R.length≤9:=by
        have h1:=nR hB.nd (hB.sub (inx _ List.mem_cons_self) inx);rw[List.length_map] at h1;omega
      have qgo:=(hB.iff tO.2.1).mpr (qdM bal);obtain⟨⟨y',w'⟩,hm,hy'⟩:=List.mem_map.mp qgo;simp only at hy';subst hy';obtain⟨pw,hp1,hp2⟩:=hwy.some hB.nd hm;obtain⟨vs,qid,qlf,_⟩:=hB.pth _ _ hm;have qdR:=qdP hF hB (by omega) hm;have rg:Ring (tO::L') tO (VN (tO::L') tO.2.2 tO.2.1) vs:=⟨by rw[qdR];exact qid,qlf⟩;have qlg:=qb_ bal nds rg List.mem_cons_self;left;refine⟨.ref pw,?_,?_⟩
      ·rw[← hp1];exact rY.k (k:=Sum.inr tO.2.1) hd7
      have e67:=s7 _ _ e6;left;refine⟨_,e67,_,hp2,by have:=hB.qho hm;simp;omega,fun p8 hp8=>?_⟩;have qie : [V.int tO.1]++w'.map (fun n:Nat=>V.int n)=(tO.1::w').map fun n:Nat=>V.int n:=rfl;rw[qie];exists H7,p8,(.lst ((tO.1::w').map fun n:Nat=>V.int n)),s8,e8,H8,hp8;have t8:=s6.trans (s7.trans s8);have er8:=t8 _ _ er5;have qif:p8≠rl:=fun z=>by
        rw[z] at hp8;rw[(s6.trans s7) _ _ er5] at hp8;cases hp8
      have trl:=hrs.1;have k9:cI H8 (upd H8 rl (.lst (tr++[.ref p8]))):=cI.set er8 (by intro xs z;cases z);have Zr:cR (Kz H) (upd H8 rl (.lst (tr++[.ref p8]))) (tr++[.ref p8]) (rs++[tO.1::w']):=by
        refine cR.snoc (qca er8 (Oc hrs t8)) ⟨p8,rfl,cg (S5.trans (s6.trans s7)) hp8,?_⟩;rw[aM qif];exact e8
      have S9:Same H (upd H8 rl (.lst (tr++[.ref p8]))):=aZ (S5.trans t8) rl0;have e9l:upd H8 rl (.lst (tr++[.ref p8])) l=some (.lst tv):=by
        rw[aM lrl];exact t8 _ _ e5
      have e9p:upd H8 rl (.lst (tr++[.ref p8])) p8=some (.lst ((tO.1::w').map fun n:Nat=>V.int n)):=by
        rw[aM qif];exact e8
      have e9r:upd H8 rl (.lst (tr++[.ref p8])) rl=some (.lst (tr++[.ref p8])):=ak;have qgp:cP (upd H8 rl (.lst (tr++[.ref p8]))) tv (tO::L'):=cP.keep (cP.keep qcc (L2.cI.of t8)) k9;refine⟨⟨_,bC.of er8⟩,_,er8,by omega,?_⟩;generalize upd H8 rl (.lst (tr++[.ref p8]))=H9 at Zr S9 e9l e9p e9r qgp ⊢;refine⟨⟨_,bC.of e9l⟩,fun D hD=>U0 tv (fun i σ H'=>(∃o0,σ=[o0,some (.ref p8)])∧(∃us,H' D=some (.lst us)∧cP H' us (((tO::L').take i).filter (Zn (tO.1::w')))∧us.length≤i)∧Same H9 H') ⟨⟨_,rfl⟩,⟨[],ak,cR.nil,Nat.zero_le _⟩,au hD⟩ (fun i σ H' _ h=>bC.of (h.2.2 _ _ e9l)) ?_ ?_⟩
      · rintro i v σ H10 hi ⟨⟨o0,rfl⟩,⟨us,Zt,hus,T_⟩,ZP⟩;obtain⟨st,qdQ,t1,rfl,ht1⟩:=qgp.at hi;have qig:=ZP _ _ ht1;have hi2:i<tv.length:=(List.getElem?_eq_some_iff.mp hi).1;rw[take_one qdQ,List.filter_append];left;refine⟨_,.inr (gq.of qig),_,bM (j:=0) rfl,_,.inl (bC.of (ZP _ _ e9p)),rfl,?_,?_⟩
        ·intro z hz;obtain⟨k,_,rfl⟩:=List.mem_map.mp hz;rfl
        have hin:inV (V.int st.1) ((tO.1::w').map fun n:Nat=>V.int n)=decide (st.1∈tO.1::w'):=qdO _ _
        by_cases hm2:st.1∈tO.1::w'
        · refine⟨false,by rw[hin];simp only[decide_eq_true hm2];rfl,iu.neg rfl ?_⟩;left;refine⟨⟨us,Zt,?_,by omega⟩,ZP⟩;have e1:(List.filter (Zn (tO.1::w')) [st])=[]:=by
            rw[List.filter_cons,if_neg (by unfold Zn;rw[decide_eq_true hm2];decide)];rfl
          rw[e1,List.append_nil];exact hus
        · refine⟨true,by rw[hin];simp only[decide_eq_false hm2];rfl,iu.pos rfl ?_⟩;left;refine⟨us,Zt,by omega,⟨us++[.ref t1],ak,?_,by simp;omega⟩,aZ ZP hD⟩;have e1:(List.filter (Zn (tO.1::w')) [st])=[st]:=by
            rw[List.filter_cons,if_pos (by unfold Zn;rw[decide_eq_false hm2];rfl)];rfl
          rw[e1];refine cR.snoc (cP.keep hus (cI.set Zt (by intro xs z;cases z))) ⟨t1,rfl,?_⟩;rw[aM (aQ ht1 hD)];exact qig
      · rintro σ H10 ⟨⟨o0,rfl⟩,⟨us,Zt,hus,T_⟩,ZP⟩;rw[qgp.1,List.take_length] at hus;have qih:((tO::L').filter (Zn (tO.1::w')))=zu tO L':=by
          unfold zu;rw[qdR];rfl
        rw[qih] at hus;have qlh:Bal (zu tO L'):=qlg;have rlen:=Zo tO L';have ql9:=hus.1;have ql_:L'.length≤f':=by simpa using hLf
        have qli:=ZP _ _ e9r;left;rw[Od Zt];refine⟨⟨(aQ e9r hD).symm,us,Zt,tr++[.ref p8],zu tO L',hus,qlh,?_,fun s hs=>inx s ?_,rs++[tO.1::w'],f',by omega,by omega,qli,Oc Zr ZP,by simp;omega,?_,fun rest hr=>?_,S9.trans ZP⟩,by simp at tl5;omega⟩
        ·unfold zq zu;exact(List.filter_sublist.map _).nodup nds
        ·unfold zu at hs;exact(List.mem_filter.mp hs).1
        ·rw[qcd,zx,qdR,List.append_assoc];rfl
        · have:=Ze ((tO.1::w')::rest) (by
            have c:=BJ.cons rg hr
            rwa [qdR] at c)
          rw[List.append_assoc];exact this
    · have h0:=of_decide_eq_false h;have tl5:=qcc.1;cases L with
      | cons a l'=>simp at tl5;omega
      | nil=>
        have e0:zx f []=[]:=by cases f <;> rfl
        rw[e0,List.append_nil] at qcd;have hr:=Ze [] .nil;rw[List.append_nil] at hr;left;exact q1 rl tr rs H5 rl0 er5 hrs hr qcd.symm S5
theorem bV.no {P:Program} {w:World} {K:W.Frag} {mg:Str→Option Value} {base:Heap} {k:Nat} {f:Addr} {fd:FuncData} {ps:List Str}:bV P w K mg base mj k f fd ps (fun _ _ _ _=>False):=⟨fun _ _ _ _ h=>h.elim,fun _ _ _ _ _ _ _ _ _ _ _ _ _ h=>h.elim⟩
def qeE:Sp:=fun _ _ _ _=>False
theorem Hf (T:Txt K mg a):bV P w K mg base mj 1 a.dU a.kW ["web", "ins", "goal", "weighed", "k"] qeE:=bV.no
theorem qgq (T:Txt K mg a):bV P w K mg base mj 1 a.Gm a.Qp ["web", "pointing", "a", "b"] qeE:=bV.no
def VR (C N:Addr):Sp:=fun vs H Q E=>∃(o:Addr) (v:V) (d:PyData) (xs:List Str) (ps:List (Str×Str)),vs=[.ref o,v]∧dW C H o xs ps∧cC H d v∧ps.length≤20∧mq ps.length d=false∧∀H',Same H H'→E (.ref N) none H'
theorem V0 (T:Txt K mg a):bV P w K mg base (Qf P w) 6 a.j6 a.rH ["web", "pointing"] (VR a.bO a.aB):=by
  exists T.f9.Vl,zV
  ·obtain⟨o,v,d,xs,ps,rfl,_⟩:=h;rfl
  · obtain⟨o,v,d,xs,ps,rfl,hw,hd,nO,hb,q⟩:=h;refine⟨_,(aC (bx (i:=2) zV.nd rfl (Or.inr rfl) (cF rfl rfl (show aR (aD sE) _ ["web", "pointing", "goals"] ["number", "origin", "goal"] [] ["number", "origin", "goal"] from⟨rfl,by symm,by symm,rfl,by symm,by symm⟩) rfl (PI.eqv (cQ (K:=K) rfl (PE.eqv (aL (VB T) hr.d rfl T.DK T.vK.kp T.DG .nil (kj.passes rfl) (aj (aH 0) (aj (aH 1) aq))) (aF _ _ _))) (cA _ _)) (fun C s H fp pn=>(PG.eqv (c7 (K:=K) (n:=3) rfl rfl (fB.eqv (aU (aP (i:=0) (show(["number", "origin", "goal"]:List Str).Nodup by symm) rfl (Or.inl rfl)) (fB.eqv (aU (aP (i:=1) (show(["number", "origin", "goal"]:List Str).Nodup by symm) rfl (Or.inl rfl)) (fB.eqv (aU (aP (i:=2) (show(["number", "origin", "goal"]:List Str).Nodup by symm) rfl (Or.inl rfl)) (fB.mono cM dJ)) (aW _ _))) (aW _ _))) (aW _ _))) (dh _ _ _))) (fun C s H fp pn=>cO) (fun C s H fp pn=>(aH 2))))
      (aJ (bw (cF rfl rfl (show aR (aD sE) _ ["web", "pointing", "goals"] ["point"] [2] ["point", "goals"] from⟨rfl,by symm,by symm,rfl,by symm,by symm⟩) rfl (PI.eqv (cQ (K:=K) rfl (PE.eqv (jX (aH 0) T.qK T.gR (iy T) hr.d T.gQ .nil aY) (jZ _ _ _ _ _ _))) (cA _ _)) (fun C s H fp pn=>(aP (i:=0) (show(["point", "goals"]:List Str).Nodup by symm) rfl (Or.inl rfl))) (fun C s H fp pn=>cO) (fun C s H fp pn=>(mD (K:=K) rfl PySem.F.plainAttrs_list PySem.F.slot_list_count PySem.F.type_list_count (Ew (K:=K) rfl) (aH 1) (aj (aH 0) aq))))))),?_⟩
    left;exact⟨o,v,d,xs,ps,rfl,hw,hd,nO,fun _=>q,fun t ns hb'=>by rw[hb] at hb';cases hb'⟩
def V1 (C N:Addr):Sp:=fun vs H Q E=>∃(o:Addr) (v:V) (d:PyData) (xs:List Str) (ps:List (Str×Str)),vs=[.ref o,v]∧dW C H o xs ps∧cC H d v∧ps.length≤20∧xs.length≤9∧(mq ps.length d=false→∀H',Same H H'→E (.ref N) none H')∧
  ∀t ns,mq ps.length d=true→v = .ref t→qe C H o t xs ps ns→∀(r:Addr) (H':Hp),H r=none→H' r=some (.lst ((xs.map fun x=>(((QH ns ps).map (·.2.2)).count x:Int)).map V.int))→Same H H'→Q (.ref r) H'
theorem KC (T:Txt K mg a):bV P w K mg base (Qf P w) 6 a.j6 a.rH ["web", "pointing"] (V1 a.bO a.aB):=by
  refine((Xn (jL T)).or (V0 T)).imp fun vs H Q E h=>?_;obtain⟨o,v,d,xs,ps,rfl,hw,hd,nO,h9,q1,q2⟩:=h;cases hb:mq ps.length d with
  | false=>exact .inr ⟨o,v,d,xs,ps,rfl,hw,hd,nO,hb,q1 hb⟩
  | true=>
    obtain⟨t,ns,rfl,ht,h01,hl⟩:=z_ hd hb;have hp:qe a.bO H o t xs ps ns:=⟨hw,ht,h01,hl,nO⟩;exact .inl ⟨o,t,xs,ps,ns,rfl,hp,h9,q2 t ns hb rfl hp⟩
def D_ (C N:Addr):Sp:=fun vs H _ E=>∃(o:Addr) (v u:V) (d e:PyData) (xs:List Str) (ps:List (Str×Str)),vs=[.ref o,v,u]∧dW C H o xs ps∧cC H d v∧cC H e u∧ps.length≤20∧xs.length≤9∧(mq ps.length d && mq ps.length e)=false∧∀H',Same H H'→E (.ref N) none H'
theorem Ea (T:Txt K mg a):bV P w K mg base (Qf P w) 7 a.cj a.dB ["web", "one", "other"] (D_ a.bO a.aB):=by
  exists T.fC.Vl,cB
  ·obtain⟨o,v,u,d,e,xs,ps,rfl,_⟩:=h;rfl
  · obtain⟨o,v,u,d,e,xs,ps,rfl,hw,hd,he,nO,h9,hb,q⟩:=h;refine⟨_,(aC (eX (bI (qz (K:=K) rfl hr.units) (PE.eqv (aL (KC T) hr.d rfl T.jh T.f9.kp T.jg .nil (kj.passes rfl) (aj (aH 0) (aj (aH 1) aq))) (aF _ _ _)) (PE.eqv (aL (KC T) hr.d rfl T.jh T.f9.kp T.jg .nil (kj.passes rfl) (aj (aH 0) (aj (aH 2) aq))) (aF _ _ _)) (cD _)) (aJ (yC (E:=E) kj rfl rfl T.pQ rfl T.sS (aj bH aq))) cu)
      Mi),?_⟩
    left;refine⟨o,v,d,xs,ps,rfl,hw,hd,nO,h9,fun _=>q,fun t ns hb' _ _ r H1 hr e1 s1=>?_⟩;rw[hb',Bool.true_and] at hb;left;exact⟨o,u,e,xs,ps,rfl,hw.same s1,cC.same s1 _ _ he,nO,h9,fun _ H' s'=>q _ (s1.trans s'),fun t ns hb'=>by rw[hb] at hb';cases hb'⟩
def Fo (C N U:Addr):Sp:=fun vs H Q E=>∃(o:Addr) (v u:V) (d e:PyData) (xs:List Str) (ps:List (Str×Str)),vs=[.ref o,v,u]∧dW C H o xs ps∧cC H d v∧cC H e u∧Oa xs∧Ae xs ps∧
  ((mq ps.length d && mq ps.length e)=false→∀H',Same H H'→E (.ref N) none H')∧
  ∀t s ns ms,mq ps.length d=true→mq ps.length e=true→v = .ref t→u = .ref s→qe C H o t xs ps ns→qe C H o s xs ps ms→(tu xs ps ns ms=true→∀r H',Same H H'→Q (.ref r) H')∧(tu xs ps ns ms=false→∀H',Same H H'→E (.ref U) none H')
theorem Fp (T:Txt K mg a):bV P w K mg base (Qf P w) 7 a.cj a.dB ["web", "one", "other"] (Fo a.bO a.aB a.aO):=by
  refine(((Xn (uK T)).or (DY T)).or (Ea T)).imp fun vs H Q E h=>?_;obtain⟨o,v,u,d,e,xs,ps,rfl,hw,hd,he,hX,hT,q1,q2⟩:=h;have nO:=hT.len;have h9:=hX.len;cases hb:mq ps.length d && mq ps.length e with
  | false=>exact .inr ⟨o,v,u,d,e,xs,ps,rfl,hw,hd,he,nO,h9.2,hb,q1 hb⟩
  | true=>
    rw[Bool.and_eq_true] at hb;obtain⟨t,ns,rfl,ht,h01,hl⟩:=z_ hd hb.1;obtain⟨s,ms,rfl,hs,k01,kl⟩:=z_ he hb.2;have q:=q2 t s ns ms hb.1 hb.2 rfl rfl ⟨hw,ht,h01,hl,nO⟩ ⟨hw,hs,k01,kl,nO⟩;cases hlk:tu xs ps ns ms with
    | false=>exact .inl (.inr ⟨o,t,s,xs,ps,ns,ms,rfl,⟨hw,ht,h01,hl,nO⟩,⟨hw,hs,k01,kl,nO⟩,hX,hT,hlk,q.2 hlk⟩)
    | true=>exact .inl (.inl ⟨o,t,s,xs,ps,ns,ms,rfl,⟨hw,ht,h01,hl,nO⟩,⟨hw,hs,k01,kl,nO⟩,hX,hT,hlk,fun r tv rs H' _ _ _ _ _ s'=>q.1 hlk r H' s'⟩)
def tmD:PyData→Bool
  | .int k=>decide (1≤k) && decide (k≤9)
  | _=>false
theorem fsL:(Str.ofString "so many times over is a whole number from ").length≤sizeLine:=by symm
theorem fs0:(Str.empty++Str.ofString "so many times over is a whole number from ").length≤sizeLine:=by symm
theorem fs1:Nat.log2 1<1920:=by symm
theorem fs2:(Str.ofString (Int.repr 1)).length≤sizeLine:=by symm
theorem fs3:(Str.empty++Str.ofString "so many times over is a whole number from " ++Str.ofString (Int.repr 1)).length≤sizeLine:=by symm
theorem fs4:(Str.ofString " to ").length≤sizeLine:=by symm
theorem fs5:(Str.empty++Str.ofString "so many times over is a whole number from " ++Str.ofString (Int.repr 1)++Str.ofString " to ").length≤sizeLine:=by symm
theorem fs6:Nat.log2 9<1920:=by symm
theorem fs7:(Str.ofString (Int.repr 9)).length≤sizeLine:=by symm
theorem fs8:(Str.empty++Str.ofString "so many times over is a whole number from " ++Str.ofString (Int.repr 1)++Str.ofString " to " ++Str.ofString (Int.repr 9)).length≤sizeLine:=by symm
def Eb (N:Addr):Sp:=fun vs H Q E=>∃(v:V) (d:PyData),vs=[v,.int 1]∧cC H d v∧(tmD d=true→Q .non H)∧(tmD d=false→∀H',Same H H'→E (.ref N) none H')
theorem Ec (T:Txt K mg a):bV P w K mg base (Qf P w) 2 a.cX a.jD ["thing", "least"] (Eb a.aG):=by
  exists T.qD.Vl,Fd
  ·obtain⟨v,d,rfl,_⟩:=h;rfl
  · obtain⟨v,d,rfl,hd,q1,q2⟩:=h;refine⟨_,(aJ (eX (PW.pt (xq (fO (dg (PE.eqv (aL (zj T) hr.d rfl T.wM T.sI.kp T.wL .nil aY (aj (aH 0) aq)) (aF _ _ _)))) (qm (fO (Eu v7 v7 (aH 1) (aH 0) (bL rfl T.wV T.wW)))))) (aJ (yC (E:=E) kj rfl rfl T.lq rfl T.oh (aj (YQ (.cons (qbG bH) (.cons (qbN (aH 1)) (.cons (qbG bH) (.cons (qbN (bL rfl T.wV T.wW)) .nil))))) aq))) cu)),?_⟩;left;refine⟨d,v,rfl,hd,?_⟩;cases hwh:Fg d with
    | false=>
      have:=q2 (by cases d <;> first | rfl | cases hwh) _ (Same.refl _)
      left;exact⟨fsL,fs0,fs1,fs2,fs3,fs4,fs5,fs6,fs7,fs8,this⟩
    | true=>
      obtain⟨k,rfl⟩:∃i,d = .int i:=by cases d <;> first | exact⟨_,rfl⟩ | cases hwh
      simp only[cC] at hd;subst hd;left;refine iu.of (fun h1=>?_) (fun h1=>?_)
      · left;refine iu.of (fun h2=>?_) (fun h2=>?_)
        ·have:=q2 (by show(decide (1≤k) && decide (k≤9))=false;rw[h1,show decide (k≤9)=false by simpa using h2];rfl) _ (Same.refl _);left;exact⟨fsL,fs0,fs1,fs2,fs3,fs4,fs5,fs6,fs7,fs8,this⟩
        ·left;exact q1 (by show(decide (1≤k) && decide (k≤9))=true;rw[h1,show decide (k≤9)=true by simpa using h2];rfl)
      ·have:=q2 (by show(decide (1≤k) && decide (k≤9))=false;rw[h1];rfl) _ (Same.refl _);left;exact⟨fsL,fs0,fs1,fs2,fs3,fs4,fs5,fs6,fs7,fs8,this⟩
theorem KD:∀(f:Nat) (L:List iB),(zx f L).length≤f
  | 0,_=>Nat.le_refl _
  | f+1,[]=>Nat.zero_le _
  | f+1,s::L=>by
    have:=KD f (zu s L);simp only[zx,List.length_cons];omega
theorem qe.same {C:Addr} {H H':Hp} {o t:Addr} {xs:List Str} {ps:List (Str×Str)} {ns:List Int} (h:qe C H o t xs ps ns) (s:Same H H'):qe C H' o t xs ps ns:=⟨h.1.same s,h.2.1.same s,h.2.2⟩
def Eh (xs:List Str) (ps:List (Str×Str)) (ns:List Int) (k:Int):Bool:=DR xs ps (fun x=>(inN ns ps x:Int)) k
def Fq (C N M O:Addr):Sp:=fun vs H Q E=>∃(o:Addr) (v u w:V) (d e f:PyData) (xs:List Str) (ps:List (Str×Str)),vs=[.ref o,v,u,w]∧dW C H o xs ps∧cC H d v∧cC H e u∧cC H f w∧Oa xs∧Ae xs ps∧
  ((mq ps.length d && mq ps.length e)=false→∀H',Same H H'→E (.ref N) none H')∧
  (mq ps.length d=true→mq ps.length e=true→tmD f=false→∀H',Same H H'→E (.ref M) none H')∧
  ∀t s ns ms k,mq ps.length d=true→mq ps.length e=true→v = .ref t→u = .ref s→w = .int k→f = .int k→tmD f=true→qe C H o t xs ps ns→qe C H o s xs ps ms→((Eh xs ps ns k && Eh xs ps ms k)=false→∀H',Same H H'→E (.ref O) none H')∧((Eh xs ps ns k && Eh xs ps ms k)=true→ns=ms∧∀r H',Same H H'→Q (.ref r) H')
theorem Ft (T:Txt K mg a):bV P w K mg base (Qf P w) 9 a.cY a.jE ["web", "one", "other", "k"] (Fq a.bO a.aB a.aG a.aK):=by
  exists T.qH.Vl,cL
  ·obtain⟨o,v,u,w,d,e,f,xs,ps,rfl,_⟩:=h;rfl
  · obtain⟨o,v,u,w,d,e,f,xs,ps,rfl,hw,hd,he,hf,hX,hT,q1,q2,q3⟩:=h;refine⟨_,(aC (fu (PE.eqv (aL (ji T) hr.d rfl T.dF T.cH.kp T.dD .nil (kj.passes rfl) (aj (aH 0) (aj (aH 1) aq))) (aF _ _ _)))
      (aC (fu (PE.eqv (aL (ji T) hr.d rfl T.dF T.cH.kp T.dD .nil (kj.passes rfl) (aj (aH 0) (aj (aH 2) aq))) (aF _ _ _)))
      (aC (fu (PE.eqv (aL (Ec T) hr.d rfl T.xG T.qD.kp T.xu .nil (kj.passes rfl) (aj (aH 3) (aj aN aq))) (aF _ _ _)))
      (aC (bx (i:=4) cL.nd rfl (Or.inl rfl) (PE.eqv (aL (G5 T) hr.d rfl T.yR T.sO.kp T.yQ .nil aY (aj (aH 0) aq)) (aF _ _ _)))
      (aC (bx (i:=5) cL.nd rfl (Or.inl rfl) (PE.eqv (aL (jL T) hr.d rfl T.jh T.f9.kp T.jg .nil aY (aj (aH 0) (aj (aH 2) aq))) (aF _ _ _)))
      (aC (eX (PW.pt (xq (fO (dg (PE.eqv (aL (Az T) hr.d rfl T.wR T.rD.kp T.wQ .nil aY (aj (aH 4) (aj (PE.eqv (aL (jL T) hr.d rfl T.jh T.f9.kp T.jg .nil aY (aj (aH 0) (aj (aH 1) aq))) (aF _ _ _)) (aj (aH 3) aq)))) (aF _ _ _)))) (qm (fO (dg (PE.eqv (aL (Az T) hr.d rfl T.wR T.rD.kp T.wQ .nil aY (aj (aH 4) (aj (aH 5) (aj (aH 3) aq)))) (aF _ _ _))))))) (aJ (yC (E:=E) kj rfl rfl T.ou rfl T.rJ (aj bH aq))) cu)
      (aC (bx (i:=6) cL.nd rfl (Or.inl rfl) (dz (Jv (K:=K) rfl) rfl T.nm.list boot_list (aj (aH 1) aq)))
      (aC (bx (i:=7) cL.nd rfl (Or.inl rfl) (bA aq))
      (aC (Ii PassesOwn.leaving (bI (qz (K:=K) rfl hr.units) (PE.eqv (aL (jL T) hr.d rfl T.jh T.f9.kp T.jg .nil aY (aj (aH 0) (aj (aH 6) aq))) (aF _ _ _)) (aH 5) (cD _))
      (aC (Ig (PE.eqv (aL (Hf T) hr.d rfl T.yV T.yS.kp T.yU .nil aY (aj (aH 0) (aj (PE.eqv (aL (jL T) hr.d rfl T.jh T.f9.kp T.jg .nil aY (aj (aH 0) (aj (aH 6) aq))) (aF _ _ _)) (aj (aH 5) (aj (aH 4) (aj (aH 3) aq)))))) (aF _ _ _)) (PG.eqv (c7 (K:=K) (n:=2) rfl rfl (fB.eqv (aU (aP (i:=8) cL.nd rfl (Or.inl rfl)) (fB.eqv (aU (aP (i:=9) cL.nd rfl (Or.inl rfl)) (fB.mono cM dJ)) (aW _ _))) (aW _ _))) (dh _ _ _)))
      (aC (bx (i:=10) cL.nd rfl (Or.inl rfl) (PE.eqv (aL (qgq T) hr.d rfl T.qeu T.qes.kp T.qet .nil aY (aj (aH 0) (aj (aH 6) (aj (aH 8) (aj (aH 9) aq))))) (aF _ _ _)))
      (aC (fu (mD (K:=K) rfl PySem.F.plainAttrs_list PySem.F.slot_list_append PySem.F.type_list_append gJ (aH 7) (aj (fP (aj bH (aj (aH 10) aq))) aq)))
      (aJ (bx (i:=6) cL.nd rfl (Or.inl rfl) (PE.eqv (aL (Za T) hr.d rfl T.Td T.Kf.kp T.Tc .nil aY (aj (aH 0) (aj (aH 6) (aj (aH 10) aq)))) (aF _ _ _))))))))
      (aJ (bw (bG bZ (aH 7) (cF rfl rfl (show aR (aD kI) _ ["web", "one", "other", "k", "weighed", "goal", "here", "steps", "start", "end", "numbers"] ["ring"] [] ["ring"] from⟨rfl,by symm,by symm,rfl,by symm,by symm⟩) rfl (PI.eqv (cQ (K:=K) rfl (PE.eqv (aL (uK T) hr.d rfl T.qG T.fC.kp T.qF .nil aY (aj (aH 0) (aj (aH 6) (aj (aH 2) aq)))) (aF _ _ _))) (cA _ _)) (fun C s H fp pn=>(aP (i:=0) (show(["ring"]:List Str).Nodup by symm) rfl (Or.inl rfl))) (fun C s H fp pn=>cO) (fun C s H fp pn=>(fP (aj bH (aj (aH 0) aq))))))))))))))))),?_⟩
    have nO:=hT.len;have h9:=hX.len;have QM:600<sizeLine:=by decide
    left;refine⟨o,v,d,xs,ps,rfl,hw,hd,nO,fun H1 s1=>⟨fun hb=>?_,fun hb=>q1 (by rw[hb];rfl) _ s1⟩⟩;rw[hb,Bool.true_and] at q1;left;refine⟨o,u,e,xs,ps,rfl,hw.same s1,cC.same s1 _ _ he,nO,fun H2 s2=>⟨fun hb2=>?_,fun hb2=>q1 hb2 _ (s1.trans s2)⟩⟩;have s2:=s1.trans s2;left;refine⟨w,f,rfl,cC.same s2 _ _ hf,fun ht=>?_,fun ht H3 s3=>q2 hb hb2 ht _ (s2.trans s3)⟩;obtain⟨t,ns,rfl,hq,h01,hl⟩:=z_ hd hb;obtain⟨z,ms,rfl,hz,k01,kl⟩:=z_ he hb2;obtain⟨k,rfl⟩:∃k,f = .int k:=by cases f <;> first | exact⟨_,rfl⟩ | cases ht
    simp only[cC] at hf;subst hf;have p1:qe a.bO H o t xs ps ns:=⟨hw,hq,h01,hl,nO⟩;have p2:qe a.bO H o z xs ps ms:=⟨hw,hz,k01,kl,nO⟩;obtain⟨q3,q4⟩:=q3 t z ns ms k hb hb2 rfl rfl rfl rfl ht p1 p2;left;refine⟨o,xs,ps,rfl,hw.same s2,hX,hT,fun r tv H3 hr0 e3 hWg s3=>?_⟩;have S3:=s2.trans s3;left;refine⟨o,z,xs,ps,ms,rfl,p2.same S3,h9.2,fun r2 H4 _ e4 s4=>?_⟩;rw[BK kl k01] at e4;have S4:=S3.trans s4;left;refine⟨o,t,xs,ps,ns,rfl,p1.same S4,h9.2,fun r3 H5 _ e5 s5=>?_⟩;rw[BK hl h01] at e5;have S5:=S4.trans s5;left;refine⟨r,r3,tv,xs,ps,fun x=>(inN ns ps x:Int),k,rfl,s5 _ _ (s4 _ _ e3),hWg.same (s4.trans s5),h9.2,.inl e5,fun H6 s6=>?_⟩;have S6:=S5.trans s6;have e6:=s6 _ _ (s5 _ _ e4);change (Eh xs ps ns k && Eh xs ps ms k)=false→_ at q3;change (Eh xs ps ns k && Eh xs ps ms k)=true→_ at q4;rw[show DR xs ps (fun x=>(inN ns ps x:Int)) k=Eh xs ps ns k from rfl];cases hb1:Eh xs ps ns k with
    | false=>
      rw[hb1,Bool.false_and] at q3;left;exact q3 rfl _ S6
    | true=>
      rw[hb1,Bool.true_and] at q3 q4;left;refine⟨r,r2,tv,xs,ps,fun x=>(inN ms ps x:Int),k,rfl,s6 _ _ (s5 _ _ (s4 _ _ e3)),hWg.same (s4.trans (s5.trans s6)),h9.2,.inl e6,fun H7 s7=>?_⟩;have S7:=S6.trans s7;rw[show DR xs ps (fun x=>(inN ms ps x:Int)) k=Eh xs ps ms k from rfl];cases hb2:Eh xs ps ms k with
      | false=>
        left;exact q3 hb2 _ S7
      | true=>
        obtain⟨rfl,q⟩:=q4 hb2;left;refine⟨_,(hq.same S7).q,fun l hl0 p hp=>?_⟩;have s8:Same H7 (upd (upd H7 l (.lst (ns.map V.int))) p (.lst [])):=(au hl0).trans (au hp);have e8p:upd (upd H7 l (.lst (ns.map V.int))) p (.lst []) p=some (.lst []):=ak;have e8l:upd (upd H7 l (.lst (ns.map V.int))) p (.lst []) l=some (.lst (ns.map V.int)):=au hp _ _ ak;generalize upd (upd H7 l (.lst (ns.map V.int))) p (.lst [])=H8 at s8 e8p e8l ⊢;have S8:=S7.trans s8;have e8g:=s8 _ _ (s7 _ _ e6);have lay:∀zs:List Int,PyData.canLay0 (.list (fY zs))=true:=fun zs=>by simp[PyData.canLay0,lay_ints]
        have dep:∀zs:List Int,(PyData.list (fY zs)).depth≤64:=fun zs=>by
          have:=yr zs;simp[PyData.depth];omega
        have isI:∀{H:Hp} {r:Addr} {zs:List Int},H r=some (.lst (zs.map V.int))→Is K H (.list (fY zs)) (.ref r):=fun e=>⟨_,_,rfl,bC.of e,CQ _⟩;refine(show Ih _ _ _ _ _ from⟨fun _ σ' H'=>σ'=_∧H'=H8,⟨0,rfl,rfl⟩,?_⟩);rintro m σ' H' ⟨rfl,rfl⟩;left;refine⟨o,l,xs,ps,ns,rfl,⟨hw.same S8,.inl e8l,h01,hl,nO⟩,h9.2,fun r4 H9 _ e9 s9=>?_⟩;rw[BK hl h01] at e9;have S9:=S8.trans s9;left;refine⟨_,isI e9,_,isI (s9 _ _ e8g),lay _,lay _,dep _,false,?_,?_⟩
        ·simp[PyData.eqv,yt]
        left;refine⟨o,l,z,xs,ps,ns,ns,rfl,⟨hw.same S9,.inl (s9 _ _ e8l),h01,hl,nO⟩,⟨hw.same S9,hz.same S9,h01,hl,nO⟩,hX,hT,by simp[tu],fun r5 tv5 rs H10 hr5 e10 qlj _ hrs ZP=>?_⟩;have S10:=S9.trans ZP;have l5:tv5.length≤20:=by
          rw[qlj.1,hrs];exact KD _ _
        left;refine⟨⟨_,bC.of e10⟩,fun D hD=>U0 tv5 (fun i σ H'=>(∃o0,σ=[o0])∧(∃us,H' D=some (.lst us)∧us.length=i)∧Same H10 H') ⟨⟨_,rfl⟩,⟨[],ak,rfl⟩,au hD⟩ (fun i σ H' _ h=>bC.of (h.2.2 _ _ e10)) ?_ ?_⟩
        ·rintro i v σ H11 hi ⟨⟨o0,rfl⟩,⟨us,qgr,T_⟩,s11⟩;have hi2:i<tv5.length:=(List.getElem?_eq_some_iff.mp hi).1;left;intro p12 qdS;refine⟨us,au qdS _ _ qgr,by omega,⟨_,ak,by simp[T_]⟩,aZ (s11.trans (au qdS)) hD⟩
        ·rintro σ H11 ⟨⟨o0,rfl⟩,⟨us,qgr,T_⟩,s11⟩;left;exact⟨_,s11 _ _ (ZP _ _ (s9 _ _ e8p)),us,qgr,by simp;omega,fun p12 qdS=>q _ _ (S10.trans (s11.trans (au qdS)))⟩
def tD (H:Hp) (t n l:Addr) (xs:List Str) (tv:List V) (ps:List (Str×Str)):Prop:=H t=some (.tup [.ref n,.ref l])∧H n=some (.lst (xs.map V.str))∧H l=some (.lst tv)∧bQ H tv ps∧Oa xs∧Ae xs ps
theorem tD.same {H H':Hp} {t n l:Addr} {xs:List Str} {tv:List V} {ps:List (Str×Str)} (h:tD H t n l xs tv ps) (s:Same H H'):tD H' t n l xs tv ps:=⟨s _ _ h.1,s _ _ h.2.1,s _ _ h.2.2.1,bQ.same h.2.2.2.1 s,h.2.2.2.2⟩
theorem int_at {ns:List Int} {i:Nat} {x:V} (h:(ns.map V.int)[i]? = some x):∃m,ns[i]? = some m∧x = .int m:=by
  rw[List.getElem?_map] at h;cases hn:ns[i]? with
  | none=>rw[hn] at h;cases h
  | some n=>rw[hn] at h;cases h;exact⟨n,rfl,rfl⟩
theorem p7.qdT {p b:Addr} {H:Hp} {o:HO} (x:p7 H p) (h:H b=some o) (hn:∀zs,o≠.lst zs):b≠p:=fun z=>by
  subst z;obtain⟨u,v,e,_⟩:=x;rw[h] at e;exact hn _ (Option.some.inj e)
theorem dW.but {C p:Addr} {H H':Hp} {o:Addr} {xs:List Str} {ps:List (Str×Str)} (h:dW C H o xs ps) (hp:p7 H p) (b:But p H H'):dW C H' o xs ps:=by
  obtain⟨dx,n,m,tv,h1,h2,h3,h4,h5⟩:=h.ex;exact⟨⟨dx,n,m,tv,b _ _ (hp.qdT h1 (by intro zs z;cases z)) h1,b _ _ (hp.qdT h2 (by intro zs z;cases z)) h2,b _ _ (hp.qdT h3 (by intro zs z;cases z)) h3,h4.but hp b,h5⟩⟩
theorem tD.but {p:Addr} {H H':Hp} {t n l:Addr} {xs:List Str} {tv:List V} {ps:List (Str×Str)} (h:tD H t n l xs tv ps) (hp:p7 H p) (b:But p H H') (np:n≠p) (lp:l≠p):tD H' t n l xs tv ps:=
  ⟨b _ _ (hp.qdT h.1 (by intro zs z;cases z)) h.1,b _ _ np h.2.1,b _ _ lp h.2.2.1,h.2.2.2.1.but hp b,h.2.2.2.2⟩
def rgN (zs:List Str) (j:Nat):Str:=(zs[j]?).getD (Str.ofString "")
def Q7 (zs:List Str) (j:Nat):Str×Str:=(rgN zs (if j=0 then zs.length - 1 else j - 1),rgN zs j)
theorem qce {zs:List Str} {j:Nat} {x:Str} (h:zs[j]? = some x):rgN zs j=x:=by unfold rgN;rw[h];rfl
theorem Xo {xs:List Str} {k:Nat} (h2:2≤xs.length) (hk:k<xs.length):Il (xs.map V.str) ((k:Int) - 1)=some (.str (Q7 xs k).1)∧Il (xs.map V.str) (k:Int)=some (.str (Q7 xs k).2)∧(Q7 xs k).1∈xs∧(Q7 xs k).2∈xs∧(xs.Nodup→(Q7 xs k).1≠(Q7 xs k).2):=by
  have e2:xs[k]? = some (xs[k]'hk):=by simp[hk]
  obtain⟨x,hx,hj,ha⟩:∃x,xs[if k=0 then xs.length - 1 else k - 1]? = some x∧(if k=0 then xs.length - 1 else k - 1)≠k∧Il (xs.map V.str) ((k:Int) - 1)=some (.str x):=by
    cases k with
    | zero=>
      have hj:xs.length - 1<xs.length:=by omega
      refine⟨xs[xs.length - 1],by simp[hj],by simp;omega,?_⟩;unfold Il ixN;rw[if_neg (by omega),if_pos (by simp;omega)];have e:(((0:Nat):Int) - 1+(xs.map V.str).length).toNat=xs.length - 1:=by simp;omega
      show(xs.map V.str)[(((0:Nat):Int) - 1+(xs.map V.str).length).toNat]? = _;rw[e];simp[hj]
    | succ k=>
      have hj:k<xs.length:=by omega
      have e:((k+1:Nat):Int) - 1=(k:Int):=by omega
      rw[e];exact⟨xs[k],by simp[hj],by simp,bM (by simp[hj])⟩
  have r1:(Q7 xs k).1=x:=qce hx;have r2:(Q7 xs k).2=xs[k]'hk:=qce e2;rw[r1,r2];refine⟨ha,bM (by rw[List.getElem?_map,e2];rfl),List.mem_of_getElem? hx,List.mem_of_getElem? e2,fun nd z=>hj ?_⟩;rw[z] at hx;exact Iu nd hx e2
theorem bQ.app {H:Hp} {vs us:List V} {ps qs:List (Str×Str)} (h:bQ H vs ps) (g:bQ H us qs):bQ H (vs++us) (ps++qs):=by
  refine⟨by simp[h.1,g.1],fun i v e h1 h2=>?_⟩
  by_cases hi:i<vs.length
  ·rw[List.getElem?_append_left hi] at h1;rw[List.getElem?_append_left (by rw[← h.1];exact hi)] at h2;exact h.2 i v e h1 h2
  ·rw[List.getElem?_append_right (by omega)] at h1;rw[List.getElem?_append_right (by rw[← h.1];omega),← h.1] at h2;exact g.2 _ v e h1 h2
theorem p7.keep {p:Addr} {H H':Hp} (x:p7 H p) (s:Same H H'):p7 H' p:=by
  obtain⟨u1,u2,u3,u4⟩:=x;exact⟨u1,u2,s _ _ u3,u4⟩
def Oe (xs:List Str) (ps:List (Str×Str)):Prop:=∀e∈ps,e.1∈xs∧e.2∈xs∧e.1≠e.2
def RdS (p n:Addr) (xs:List Str) (H:Hp) (i:Nat) (σ:St) (H':Hp):Prop:=∃(o4 o5:Option V) (L:Addr) (tv:List V) (ps:List (Str×Str)),σ=[some (.ref p),some (.int 1),some (.ref n),some (.ref L),o4,o5,none,none]∧L≠p∧H L=none∧H' L=some (.lst tv)∧bQ H' tv ps∧Oe xs ps∧ps.length=i * xs.length∧H' n=some (.lst (xs.map V.str))∧p7 H' p∧But p H H'
def RdM (p n L:Addr) (xs:List Str) (f:Nat) (H:Hp) (i:Nat) (σ:St) (H':Hp):Prop:=∃(o4 o5:Option V) (tv:List V) (ps:List (Str×Str)),σ=[some (.ref p),some (.int 1),some (.ref n),some (.ref L),o4,o5,none,none]∧H' L=some (.lst tv)∧bQ H' tv ps∧Oe xs ps∧1≤ps.length∧ps.length+f≤20+i∧H' n=some (.lst (xs.map V.str))∧p7 H' p∧But p H H'
def Zu:Sp:=fun vs H Q _=>∃(p:Addr),vs=[.ref p,.int 1]∧p7 H p∧∀(r t n l g:Addr) (xs:List Str) (tv:List V) (ps:List (Str×Str)) (ns:List Int) (H':Hp),
  H' r=some (.tup [.ref t,.ref g])→tD H' t n l xs tv ps→H' g=some (.lst (ns.map V.int))→ns.length=ps.length→(∀n∈ns,0≤n∧n≤1)→2≤xs.length→xs.length≤6→1≤ps.length→n≠p→l≠p→g≠p→p7 H' p→But p H H'→Q (.ref r) H'
theorem Zv (T:Txt K mg a):bV P w K mg base mj 3 a.pL a.z6 ["_law_pot_here", "_law_times"] Zu:=by
  exists T.Kg.tY,iw
  ·obtain⟨p,rfl,_⟩:=h;rfl
  · obtain⟨p,rfl,hp,q⟩:=h;refine⟨_,(aC (bx (i:=2) iw.nd rfl (Or.inl rfl) (PE.eqv (aL (qb3 T) hr.d rfl T.Xb T.Qv.kp T.Xa .nil aY (aj (aH 0) (aj (bG gH aN (PE.eqv (aL (jK T) hr.d rfl T.mX T.lg.kp T.mW .nil aY (aj (aH 0) (aj aN aq))) (aF _ _ _))) aq))) (aF _ _ _)))
      (aC (bx (i:=3) iw.nd rfl (Or.inl rfl) (bA aq))
      (aC (qt PassesOwn.never rfl (PI.eqv (rF rfl T.nm.range (aj (aH 1) aq)) (rG _)) (aP (i:=4) iw.nd rfl (Or.inl rfl))
      (aC (bx (i:=5) iw.nd rfl (Or.inr rfl) (PE.eqv (aL (Tq T) hr.d rfl T.Qx T.HD.kp T.Qw .nil aY (aj (aH 0) (aj (aH 2) aq))) (aF _ _ _)))
      (aJ (bx (i:=3) iw.nd rfl (Or.inl rfl) (bG bZ (aH 3) (cF rfl rfl (show aR (aD vG) _ ["_law_pot_here", "_law_times", "_law_names_here", "_law_leads_here", "_law_turn", "_law_row", "_law_pointing", "_law_ties"] ["_law_k"] [5] ["_law_k", "_law_row"] from⟨rfl,by symm,by symm,rfl,by symm,by symm⟩) rfl (PI.eqv (rF rfl T.nm.range (aj (aV (cW (K:=K) rfl) rfl T.nm.len PySem.boot_len (aj (aH 5) aq)) aq)) (rG _)) (fun C s H fp pn=>(aP (i:=0) (show(["_law_k", "_law_row"]:List Str).Nodup by symm) rfl (Or.inl rfl))) (fun C s H fp pn=>cO) (fun C s H fp pn=>(fP (aj (cV (dw (K:=K) rfl) (aH 1) (bG vZ (aH 0) aN) (fun _ _=>rfl)) (aj (cV (dw (K:=K) rfl) (aH 1) (aH 0) (fun _ _=>rfl)) aq))))))))))
      (aC (qt PassesOwn.never rfl (PI.eqv (rF rfl T.nm.range (aj (PE.eqv (aL (jK T) hr.d rfl T.mX T.lg.kp T.mW .nil aY (aj (aH 0) (aj (bG vZ aN (aV (cW (K:=K) rfl) rfl T.nm.len PySem.boot_len (aj (aH 3) aq))) aq))) (aF _ _ _)) aq)) (rG _)) (aP (i:=4) iw.nd rfl (Or.inl rfl))
      (aJ (fu (mD (K:=K) rfl PySem.F.plainAttrs_list PySem.F.slot_list_append PySem.F.type_list_append gJ (aH 3) (aj (PE.eqv (aL (qgb T) hr.d rfl T.qey T.qbU.kp T.qex .nil aY (aj (aH 0) (aj (aH 2) aq))) (aF _ _ _)) aq)))))
      (aC (bx (i:=3) iw.nd rfl (Or.inl rfl) (PE.eqv (aL (Tq T) hr.d rfl T.Qx T.HD.kp T.Qw .nil aY (aj (aH 0) (aj (aH 3) aq))) (aF _ _ _)))
      (aC (vW (i:=6) iw.nd rfl rfl rfl rfl (show aR (aD vG) _ ["_law_pot_here", "_law_times", "_law_names_here", "_law_leads_here", "_law_turn", "_law_row", "_law_pointing", "_law_ties"] ["_law_lead"] [0] ["_law_lead", "_law_pot_here"] from⟨rfl,by symm,by symm,rfl,by symm,by symm⟩) rfl (PI.eqv (cQ (K:=K) rfl (aH 3)) (cA _ _)) (fun C s H fp pn=>(aP (i:=0) (show(["_law_lead", "_law_pot_here"]:List Str).Nodup by symm) rfl (Or.inl rfl))) (fun C s H fp pn=>cO) (fun C s H fp pn=>(PE.eqv (aL (jK T) hr.d rfl T.mX T.lg.kp T.mW .nil aY (aj (aH 1) (aj aN aq))) (aF _ _ _))))
      (aC (vW (i:=7) iw.nd rfl rfl rfl rfl (show aR (aD vG) _ ["_law_pot_here", "_law_times", "_law_names_here", "_law_leads_here", "_law_turn", "_law_row", "_law_pointing", "_law_ties"] ["_law_turn", "_law_a", "_law_b"] [] ["_law_turn", "_law_a", "_law_b"] from⟨rfl,by symm,by symm,rfl,by symm,by symm⟩) rfl (PI.eqv (WD (K:=K) rfl rfl T.nm.zip (aj (aH 3) (aj (aH 6) aq))) (RZ _ _)) (fun C s H fp pn=>(PG.eqv (c7 (K:=K) (n:=2) rfl rfl (fB.eqv (aU (PG.eqv (c7 (K:=K) (n:=2) rfl rfl (fB.eqv (aU (aP (i:=1) (show(["_law_turn", "_law_a", "_law_b"]:List Str).Nodup by symm) rfl (Or.inl rfl)) (fB.eqv (aU (aP (i:=2) (show(["_law_turn", "_law_a", "_law_b"]:List Str).Nodup by symm) rfl (Or.inl rfl)) (fB.mono cM dJ)) (aW _ _))) (aW _ _))) (dh _ _ _)) (fB.eqv (aU (aP (i:=0) (show(["_law_turn", "_law_a", "_law_b"]:List Str).Nodup by symm) rfl (Or.inl rfl)) (fB.mono cM dJ)) (aW _ _))) (aW _ _))) (dh _ _ _))) (fun C s H fp pn=>cO) (fun C s H fp pn=>(cV (dw (K:=K) rfl) (bA (aj (fP (aj (aH 1) (aj (aH 2) aq))) (aj (fP (aj (aH 2) (aj (aH 1) aq))) aq))) (aH 0) (fun _ _=>rfl))))
      (aJ (bw (fP (aj (fP (aj (aH 2) (aj (aH 7) aq))) (aj (aH 6) aq)))))))))))),?_⟩
    have QM:600<sizeLine:=by decide
    left;refine⟨p,_,rfl,hp,by omega,by omega,fun y H1 y0 y1 P1 B1=>?_⟩;left;refine⟨p,y.toNat+2,by simp;omega,P1,by omega,by omega,fun n xs H2 hn hn2 hX hxl P2 B2'=>?_⟩;have B2:=B1.trans B2';have np:n≠p:=fun z=>by subst z;obtain⟨_,_,u,_⟩:=P1;rw[hn] at u;cases u
    have x2:2≤xs.length:=by omega
    have x6:xs.length≤6:=by omega
    left;intro L0 hL0;have L0p:L0≠p:=P2.nl hL0;exists H2,L0,(.lst []),s3,e3,H3,hL0;have n3:=s3 _ _ hn2;have P3:=P2.keep s3;have B3:=B2.same s3;refine frR (RdS p n xs H) ⟨none,none,L0,[],[],rfl,L0p,p7.none B2 P2 hL0,e3,⟨rfl,by simp⟩,by simp[Oe],by simp,n3,P3,B3⟩ ?_ ?_
    · rintro i σ H4 hi ⟨o4,o5,L,tv,ps,rfl,Lp,hL,L4,T4,G4,l4,n4,P4,B4⟩;left;refine⟨p,n,xs.map V.str,rfl,P4,np,n4,by simp;omega,fun rw ys H5 hrw qgs hperm P5 ZQ=>?_⟩;obtain⟨zs,hzp,rfl⟩:=Cz hperm xs rfl;have hzl:zs.length=xs.length:=hzp.length_eq;have qlk:zs.Nodup:=hzp.nodup_iff.mpr hX.nd;have n5:=ZQ _ _ np n4;have L5:=ZQ _ _ Lp L4;have T5:=T4.but P4 ZQ;have B5:=B4.trans ZQ;have tl:=T4.1;have i0:i=0:=by simp at hi;omega
      subst i0;rw[Nat.zero_mul] at l4;left;refine⟨_,.inl (bC.of qgs),by rw[List.length_map];omega,fun D hD=>cmR (fun i σ H6=>(∃o,σ=[o,some (.ref rw)])∧∃tvs,H6 D=some (.lst tvs)∧bQ H6 tvs ((List.range i).map (Q7 zs))∧Same H5 H6) ⟨⟨_,rfl⟩,[],ak,⟨rfl,by simp⟩,au hD⟩ ?_ ?_⟩
      · rintro i σ H6 hi ⟨⟨o,rfl⟩,tvs,hD6,KH,s6⟩;rw[List.length_map] at hi;have hk:i<zs.length:=by omega
        obtain⟨ax,ay,_⟩:=Xo (xs:=zs) (by omega) hk;have hl6:=KH.1;rw[List.length_map,List.length_range] at hl6;left;refine⟨_,.inl (bC.of (s6 _ _ qgs)),_,ax,_,.inl (bC.of (s6 _ _ qgs)),_,ay,fun pt hpt=>?_⟩;exists H6,pt,(.tup [.str (Q7 zs i).1,.str (Q7 zs i).2]),s7,e7,H7,hpt;have GP:=s7 _ _ hD6;have kp:cI H7 (upd H7 D (.lst (tvs++[.ref pt]))):=cI.set GP (by intro z e;cases z <;> cases e);refine⟨_,GP,by omega,_,ak,?_,aZ (s6.trans s7) hD⟩;rw[List.range_succ,List.map_append];exact((KH.same s7).keep kp).snoc (kp _ _ e7)
      · rintro σ H6 ⟨⟨o,rfl⟩,tvs,hD6,KH,s6⟩;rw[List.length_map,hzl] at KH;have hl6:=KH.1;rw[List.length_map,List.length_range] at hl6;have D0:H D=none:=p7.none B5 P5 hD;left;refine⟨tv,s6 _ _ L5,tvs,hD6,by omega,fun r hr=>?_⟩;have s7:Same H6 (upd H6 r (.lst (tv++tvs))):=au hr;have S7:=s6.trans s7;refine⟨_,_,r,tv++tvs,ps++(List.range xs.length).map (Q7 zs),rfl,P5.nl (cg s6 hr),p7.none B5 P5 (cg s6 hr),ak,((T5.same s6).same s7).app (KH.same s7),?_,by simp[l4],S7 _ _ n5,P5.keep S7,B5.same S7⟩;intro e he
        rcases List.mem_append.mp he with he | he
        ·exact G4 e he
        ·obtain⟨k,hk,rfl⟩:=List.mem_map.mp he;obtain⟨_,_,m1,m2,m3⟩:=Xo (xs:=zs) (by omega) (show k<zs.length by rw[hzl];exact List.mem_range.mp hk);exact⟨hzp.mem_iff.mp m1,hzp.mem_iff.mp m2,m3 qlk⟩
    · rintro σ H4 ⟨o4,o5,L,tv,ps,rfl,Lp,hL,L4,T4,G4,l4,n4,P4,B4⟩;have l4:ps.length=xs.length:=by simpa using l4
      have tl:=T4.1;left;refine⟨tv,.inl (bC.of L4),p,21 - tv.length,by simp <;> omega,P4,by omega,by omega,fun f H5 f0 f1 P5 ZQ=>?_⟩;left;have L5:=ZQ _ _ Lp L4;refine⟨by omega,by omega,frR (RdM p n L xs f.toNat H) ⟨_,_,tv,ps,rfl,L5,T4.but P4 ZQ,G4,by omega,by omega,ZQ _ _ np n4,P5,B4.trans ZQ⟩ ?_ ?_⟩
      · rintro i σ H6 hi ⟨o4,o5,tv,ps,rfl,L6,T6,G6,l6,k6,n6,P6,B6⟩;have tl6:=T6.1;left;refine⟨⟨_,bC.of L6⟩,p,n,xs,rfl,P6,np,n6,x2,by omega,hX.nd,fun t x y H7 ht ht7 hx hy hxy P7 B7=>?_⟩;have L7:=B7 _ _ Lp L6;left;have kp:cI H7 (upd H7 L (.lst (tv++[.ref t]))):=cI.set L7 (by intro z e;cases z <;> cases e);have nL:n≠L:=fun z=>by
          subst z;rw[n6] at L6;have e:tv=xs.map V.str:=by injection L6 with L6;injection L6 with L6;exact L6.symm
          obtain⟨e0,_,u,hu,_⟩:=T6.at (i:=0) (v:=tv[0]'(by omega)) (by simp);subst e;simp at hu
        refine⟨_,L7,by omega,_,_,_,ps++[(x,y)],rfl,ak,((T6.but P6 B7).keep kp).snoc (kp _ _ ht7),?_,by simp,by simp;omega,by rw[aM nL];exact B7 _ _ np n6,P7.upd Lp.symm,(B6.trans B7).new hL⟩;intro e he
        rcases List.mem_append.mp he with z | z
        ·exact G6 e z
        ·simp at z;subst z;exact⟨hx,hy,hxy⟩
      · rintro σ H6 ⟨o4,o5,tv,ps,rfl,L6,T6,G6,l6,k6,n6,P6,B6⟩;have tl6:=T6.1;have p20:ps.length≤20:=by omega
        clear L5 T4 L4;left;refine⟨p,L,_,rfl,P6,Lp,L6,by omega,fun l ys H7 hl0 hl7 hperm P7 B7=>?_⟩;obtain⟨rs,hrs,Ze⟩:=(T6.but P6 B7).perm hperm;have n7:=B7 _ _ np n6;have B7:=B6.trans B7;have lp:l≠p:=P6.nl hl0;have G7:Oe xs rs:=fun e he=>G6 e (Ze.mem_iff.mp he);have r20:rs.length≤20:=by rw[Ze.length_eq];exact p20
        have r1:1≤rs.length:=by rw[Ze.length_eq];exact l6
        have yl:=hrs.1;clear T6 G6 L6 hperm Ze;left;refine⟨⟨_,bC.of hl7⟩,fun D hD=>U0 ys (fun i σ H'=>∃v ds,σ=[v,some (.ref p)]∧H' D=some (.lst (ds.map V.int))∧ds.length=i∧(∀d∈ds,0≤d∧d≤1)∧H' l=some (.lst ys)∧bQ H' ys rs∧H' n=some (.lst (xs.map V.str))∧p7 H' p∧But p H H') ⟨none,[],rfl,ak,rfl,by simp,bY hl7 hD,hrs.same (au hD),bY n7 hD,P7.upd (P7.ne hD),B7.same (au hD)⟩ (fun i σ H' _ h=>by
          obtain⟨_,_,_,_,_,_,z,_⟩:=h;exact bC.of z) ?_ ?_⟩
        · rintro i x σ H8 hi ⟨v,ds,rfl,hD8,hdl,hds,hl8,qgt,n8,P8,B8⟩;have hi2:i<ys.length:=(List.getElem?_eq_some_iff.mp hi).1;left;refine⟨p,_,rfl,P8,by decide,by decide,fun d H9 hd0 hd1 P9 B9=>?_⟩;have Dp:D≠p:=P7.nl hD;have lD:l≠D:=aQ hl7 hD;have nD:n≠D:=aQ n7 hD;have hD9:=B9 _ _ Dp hD8;have D0:=p7.none B7 P7 hD;left;refine⟨_,hD9,by rw[List.length_map];omega,ds++[d],by rw[ak];simp,by simp[hdl],?_,by rw[aM lD];exact B9 _ _ lp hl8,(qgt.but P8 B9).keep (cI.set hD9 (by intro z e;cases z <;> cases e)),by rw[aM nD];exact B9 _ _ np n8,P9.upd Dp.symm,(B8.trans B9).new D0⟩;intro z hz
          rcases List.mem_append.mp hz with y | y
          ·exact hds z y
          ·simp at y;subst y;omega
        · rintro σ H8 ⟨v,ds,rfl,hD8,hdl,hds,hl8,qgt,n8,P8,B8⟩;have D0:=p7.none B7 P7 hD;have Dp:D≠p:=P7.nl hD;have lD:l≠D:=aQ hl7 hD;clear hD;left;refine⟨⟨_,bC.of hl8⟩,⟨_,bC.of hD8⟩,fun D2 hD2=>cmZ ys (ds.map V.int) (fun i σ H'=>(∃o1 o2 o3,σ=[o1,o2,o3])∧∃tvs qs,H' D2=some (.lst tvs)∧bQ H' tvs qs∧qs.length=i∧Oe xs qs∧H' l=some (.lst ys)∧H' D=some (.lst (ds.map V.int))∧bQ H' ys rs∧H' n=some (.lst (xs.map V.str))∧p7 H' p∧But p H H') ⟨⟨_,_,_,rfl⟩,[],[],ak,⟨rfl,by simp⟩,rfl,by simp[Oe],bY hl8 hD2,bY hD8 hD2,qgt.same (au hD2),bY n8 hD2,P8.upd (P8.ne hD2),B8.same (au hD2)⟩ (by simp;omega) (fun i σ H' _ h=>by
            obtain⟨_,_,_,_,_,_,_,z1,z2,_⟩:=h;exact⟨bC.of z1,bC.of z2⟩) ?_ ?_⟩
          · rintro i x y t σ H9 hx hy ht ⟨⟨o1,o2,o3,rfl⟩,tvs,qs,qgu,KH,hql,hqs,hl9,hD9,Zr,n9,P9,B9⟩;left;obtain⟨e,he,tt,rfl,htt⟩:=Zr.at hx;have hi2:i<ys.length:=(List.getElem?_eq_some_iff.mp hx).1;have hem:=List.mem_of_getElem? he;rw[List.getElem?_map] at hy;obtain⟨d,hd,rfl⟩:∃d,ds[i]? = some d∧y = .int d:=by
              cases z:ds[i]? with
              | none=>rw[z] at hy;cases hy
              | some d=>rw[z] at hy;exact⟨d,rfl,(Option.some.inj hy).symm⟩
            have hd2:=hds d (List.mem_of_getElem? hd);refine⟨_,gq.of ak,rfl,_,gq.of (bY htt ht),rfl,?_⟩;left;refine fun p1 h1 p2 h2 p3 h3=>⟨_,.inl (bC.of ak),?_⟩;have hp1:=bY (u:=HO.lst [V.ref p1,V.ref p2]) (bY (u:=HO.tup [.str e.2,.str e.1]) (ak (H:=upd H9 t (HO.tup [V.ref tt,V.int d])) (a:=p1) (o:=HO.tup [.str e.1,.str e.2])) h2) h3;have hp2:=bY (u:=HO.lst [V.ref p1,V.ref p2]) (ak (H:=upd (upd H9 t (HO.tup [V.ref tt,V.int d])) p1 (HO.tup [.str e.1,.str e.2])) (a:=p2) (o:=HO.tup [.str e.2,.str e.1])) h3;have sm:=(((au (o:=HO.tup [V.ref tt,V.int d]) ht).trans (au (o:=HO.tup [.str e.1,.str e.2]) h1)).trans (au (o:=HO.tup [.str e.2,.str e.1]) h2)).trans (au (o:=HO.lst [V.ref p1,V.ref p2]) h3);generalize upd (upd (upd (upd H9 t (HO.tup [V.ref tt,V.int d])) p1 (HO.tup [.str e.1,.str e.2])) p2 (HO.tup [.str e.2,.str e.1])) p3 (HO.lst [V.ref p1,V.ref p2])=Ha at hp1 hp2 sm ⊢;have key:∃(pp:Addr) (e':Str×Str),Il [V.ref p1,V.ref p2] d=some (.ref pp)∧Ha pp=some (.tup [.str e'.1,.str e'.2])∧e'.1∈xs∧e'.2∈xs∧e'.1≠e'.2:=by
              have ⟨q1,q2,q3⟩:=G7 e hem;have:d=0∨d=1:=by omega
              rcases this with rfl | rfl
              ·exact⟨p1,e,rfl,hp1,q1,q2,q3⟩
              ·exact⟨p2,(e.2,e.1),rfl,hp2,q2,q1,Ne.symm q3⟩
            obtain⟨pp,e',a1,hpp,k1,k2,k3⟩:=key;have D2p:D2≠p:=P8.nl hD2;have lD2:l≠D2:=aQ hl8 hD2;have DD2:D≠D2:=aQ hD8 hD2;have nD2:n≠D2:=aQ n8 hD2;have qii:=sm _ _ qgu;have kp:cI Ha (upd Ha D2 (.lst (tvs++[.ref pp]))):=cI.set qii (by intro z e;cases z <;> cases e);refine⟨_,a1,_,qii,?_,_,ak,qs++[e'],((KH.same sm).keep kp).snoc (kp _ _ hpp),by simp[hql],?_,by rw[aM lD2];exact sm _ _ hl9,by rw[aM DD2];exact sm _ _ hD9,(Zr.same sm).keep kp,by rw[aM nD2];exact sm _ _ n9,(P9.keep sm).upd D2p.symm,(B9.same sm).new (p7.none B8 P8 hD2)⟩
            ·rw[KH.1,hql];omega
            · intro z hz
              rcases List.mem_append.mp hz with y | y
              ·exact hqs z y
              ·simp at y;subst y;exact⟨k1,k2,k3⟩
          ·rintro σ H9 ⟨⟨o1,o2,o3,rfl⟩,tvs,qs,qgu,KH,hql,hqs,hl9,hD9,Zr,n9,P9,B9⟩;have D2p:D2≠p:=P8.nl hD2;left;intro t ht r hr;have s1:Same H9 (upd (upd H9 t (.tup [.ref n,.ref D2])) r (.tup [.ref t,.ref D])):=(au ht).trans (au hr);refine q r t n D2 D xs tvs qs ds _ ak ⟨bY ak hr,s1 _ _ n9,s1 _ _ qgu,KH.same s1,hX,⟨by omega,hqs⟩⟩ (s1 _ _ hD9) (by omega) hds x2 x6 (by omega) np D2p Dp (P9.keep s1) (B9.same s1)
def Xp (ns:List Int) (ps:List (Str×Str)):List (Str×Str):=(mF ns ps 0).map fun s=>s.2
theorem qgv {ns:List Int} {ps:List (Str×Str)} {i:Nat} {n:Int} {e:Str×Str} (h1:ns[i]? = some n) (h2:ps[i]? = some e):(Xp ns ps)[i]? = some (Bf n e,vA n e):=by
  unfold Xp;rw[List.getElem?_map,(zQ ns ps 0 i _).mpr ⟨n,e,h1,h2,rfl⟩];rfl
theorem HX {ns:List Int} {ps:List (Str×Str)} (h:ns.length=ps.length):(Xp ns ps).length=ps.length:=by
  unfold Xp;rw[List.length_map,Jx ns ps 0 h]
theorem qcf (ns:List Int) (ps:List (Str×Str)):(Xp ns ps).map (fun e=>e.2)=nC ns ps:=by
  unfold Xp;rw[List.map_map,← PB ns ps 0];rfl
def qcg:Sp:=fun vs H Q _=>∃(t n l g:Addr) (xs:List Str) (tv:List V) (ps:List (Str×Str)) (ns:List Int),vs=[.ref t,.ref g]∧tD H t n l xs tv ps∧H g=some (.lst (ns.map V.int))∧ns.length=ps.length∧(∀n∈ns,0≤n∧n≤1)∧
  ∀(r:Addr) (tw:List V) (H':Hp),H r=none→H' r=some (.lst tw)→bQ H' tw (Xp ns ps)→Same H H'→Q (.ref r) H'
theorem TX (T:Txt K mg a):bV P w K mg base mj 1 a.uy a.Dq ["_law_web", "_law_pointing"] qcg:=by
  exists T.HF.tY,qbR
  ·obtain⟨t,n,l,g,xs,tv,ps,ns,rfl,_⟩:=h;rfl
  · obtain⟨t,n,l,g,xs,tv,ps,ns,rfl,⟨ht,hn,hl,htv,hX,hTs⟩,hg,hlen,h01,q⟩:=h;refine⟨_,(aJ (bw (cF rfl rfl (show aR (aD Hy) _ ["_law_web", "_law_pointing"] ["_law_turn", "_law_a", "_law_b"] [] ["_law_turn", "_law_a", "_law_b"] from⟨rfl,by symm,by symm,rfl,by symm,by symm⟩) rfl (PI.eqv (WD (K:=K) rfl rfl T.nm.zip (aj (cV (dw (K:=K) rfl) (aH 0) aN (fun _ _=>rfl)) (aj (aH 1) aq))) (RZ _ _)) (fun C s H fp pn=>(PG.eqv (c7 (K:=K) (n:=2) rfl rfl (fB.eqv (aU (PG.eqv (c7 (K:=K) (n:=2) rfl rfl (fB.eqv (aU (aP (i:=1) (show(["_law_turn", "_law_a", "_law_b"]:List Str).Nodup by symm) rfl (Or.inl rfl)) (fB.eqv (aU (aP (i:=2) (show(["_law_turn", "_law_a", "_law_b"]:List Str).Nodup by symm) rfl (Or.inl rfl)) (fB.mono cM dJ)) (aW _ _))) (aW _ _))) (dh _ _ _)) (fB.eqv (aU (aP (i:=0) (show(["_law_turn", "_law_a", "_law_b"]:List Str).Nodup by symm) rfl (Or.inl rfl)) (fB.mono cM dJ)) (aW _ _))) (aW _ _))) (dh _ _ _))) (fun C s H fp pn=>cO) (fun C s H fp pn=>(cV (dw (K:=K) rfl) (bA (aj (fP (aj (aH 1) (aj (aH 2) aq))) (aj (fP (aj (aH 2) (aj (aH 1) aq))) aq))) (aH 0) (fun _ _=>rfl)))))),?_⟩;have s60:60≤sizeLine:=by decide
    have nO:=hTs.len;have tl:=htv.1;have pl:=HX hlen;left;refine⟨_,.inr (gq.of ht),_,bM (j:=1) rfl,?_⟩;left;refine⟨⟨_,bC.of hl⟩,⟨_,bC.of hg⟩,fun D hD=>cmZ tv (ns.map V.int) (fun i σ H'=>(∃o1 o2 o3,σ=[o1,o2,o3])∧(∃tw,H' D=some (.lst tw)∧bQ H' tw ((Xp ns ps).take i))∧Same H H') ⟨⟨_,_,_,rfl⟩,⟨[],ak,⟨rfl,by simp⟩⟩,au hD⟩ (by simp;omega) (fun i σ H' _ h=>⟨bC.of (h.2.2 _ _ hl),bC.of (h.2.2 _ _ hg)⟩) ?_ ?_⟩
    · rintro i x y tt σ H2 hi hj htt ⟨⟨o1,o2,o3,rfl⟩,⟨tw,hD2,htw⟩,s2⟩;obtain⟨e,he,t2,rfl,HN⟩:=htv.at hi;obtain⟨m,hm,rfl⟩:=int_at hj;have hm2:=h01 m (List.mem_of_getElem? hm);have hi2:i<ps.length:=(List.getElem?_eq_some_iff.mp he).1;have twl:=htw.1;rw[List.length_take] at twl;have st:Same H2 (upd H2 tt (.tup [.ref t2,.int m])):=au htt;rw[take_one (qgv hm he)];left;refine⟨_,gq.of ak,rfl,_,gq.of (st _ _ (s2 _ _ HN)),rfl,?_⟩;left;refine fun p1 h1 p2 h2 p3 h3=>⟨_,.inl (bC.of ak),?_⟩;have hp1:=bY (u:=HO.lst [V.ref p1,V.ref p2]) (bY (u:=HO.tup [.str e.2,.str e.1]) (ak (H:=upd H2 tt (HO.tup [V.ref t2,V.int m])) (a:=p1) (o:=HO.tup [.str e.1,.str e.2])) h2) h3;have hp2:=bY (u:=HO.lst [V.ref p1,V.ref p2]) (ak (H:=upd (upd H2 tt (HO.tup [V.ref t2,V.int m])) p1 (HO.tup [.str e.1,.str e.2])) (a:=p2) (o:=HO.tup [.str e.2,.str e.1])) h3;have sm:=(((au (o:=HO.tup [V.ref t2,V.int m]) htt).trans (au (o:=HO.tup [.str e.1,.str e.2]) h1)).trans (au (o:=HO.tup [.str e.2,.str e.1]) h2)).trans (au (o:=HO.lst [V.ref p1,V.ref p2]) h3);generalize upd (upd (upd (upd H2 tt (HO.tup [V.ref t2,V.int m])) p1 (HO.tup [.str e.1,.str e.2])) p2 (HO.tup [.str e.2,.str e.1])) p3 (HO.lst [V.ref p1,V.ref p2])=H9 at hp1 hp2 sm ⊢;have key:∃pp:Addr,Il [V.ref p1,V.ref p2] m=some (.ref pp)∧H9 pp=some (.tup [.str (Bf m e),.str (vA m e)]):=by
        have:m=0∨m=1:=z01 hm2.1 (by omega)
        rcases this with rfl | rfl
        ·exact⟨p1,rfl,hp1⟩
        ·exact⟨p2,rfl,hp2⟩
      obtain⟨pp,a1,hpp⟩:=key;have hD9:=sm _ _ hD2;have kp:cI H9 (upd H9 D (.lst (tw++[.ref pp]))):=fun c zs e=>qcZ e hD9 (by intro z;cases z);refine⟨_,a1,_,hD9,by omega,⟨_,ak,((htw.same sm).keep kp).snoc (kp _ _ hpp)⟩,aZ (s2.trans sm) hD⟩
    ·rintro σ H2 ⟨⟨o1,o2,o3,rfl⟩,⟨tw,hD2,htw⟩,s2⟩;rw[tl,← pl,List.take_length] at htw;left;exact q D tw H2 hD hD2 htw s2
def qij (xs:List Str) (ns:List Int) (ps:List (Str×Str)):List Int:=xs.map fun x=>(inN ns ps x:Int)
def qgw:Sp:=fun vs H Q _=>∃(t n l g:Addr) (xs:List Str) (tv:List V) (ps:List (Str×Str)) (ns:List Int),vs=[.ref t,.ref g]∧tD H t n l xs tv ps∧H g=some (.lst (ns.map V.int))∧ns.length=ps.length∧(∀n∈ns,0≤n∧n≤1)∧
  ∀(r:Addr) (H':Hp),H r=none→H' r=some (.lst ((qij xs ns ps).map V.int))→Same H H'→Q (.ref r) H'
theorem qch (T:Txt K mg a):bV P w K mg base mj 2 a.Gq a.Qt ["_law_web", "_law_pointing"] qgw:=by
  exists T.Xc.tY,qbS
  ·obtain⟨t,n,l,g,xs,tv,ps,ns,rfl,_⟩:=h;rfl
  · obtain⟨t,n,l,g,xs,tv,ps,ns,rfl,hG,hg,hlen,h01,q⟩:=h;refine⟨_,(aC (bx (i:=2) qbS.nd rfl (Or.inr rfl) (cF rfl rfl (show aR (aD Sg) _ ["_law_web", "_law_pointing", "_law_goals"] ["_law_start", "_law_goal"] [] ["_law_start", "_law_goal"] from⟨rfl,by symm,by symm,rfl,by symm,by symm⟩) rfl (PI.eqv (cQ (K:=K) rfl (PE.eqv (aL (TX T) hr.d rfl T.Qz T.HF.kp T.Qy .nil aY (aj (aH 0) (aj (aH 1) aq))) (aF _ _ _))) (cA _ _)) (fun C s H fp pn=>(PG.eqv (c7 (K:=K) (n:=2) rfl rfl (fB.eqv (aU (aP (i:=0) (show(["_law_start", "_law_goal"]:List Str).Nodup by symm) rfl (Or.inl rfl)) (fB.eqv (aU (aP (i:=1) (show(["_law_start", "_law_goal"]:List Str).Nodup by symm) rfl (Or.inl rfl)) (fB.mono cM dJ)) (aW _ _))) (aW _ _))) (dh _ _ _))) (fun C s H fp pn=>cO) (fun C s H fp pn=>(aH 1))))
      (aJ (bw (cF rfl rfl (show aR (aD Sg) _ ["_law_web", "_law_pointing", "_law_goals"] ["_law_name"] [2] ["_law_name", "_law_goals"] from⟨rfl,by symm,by symm,rfl,by symm,by symm⟩) rfl (PI.eqv (cQ (K:=K) rfl (cV (dw (K:=K) rfl) (aH 0) aN (fun _ _=>rfl))) (cA _ _)) (fun C s H fp pn=>(aP (i:=0) (show(["_law_name", "_law_goals"]:List Str).Nodup by symm) rfl (Or.inl rfl))) (fun C s H fp pn=>cO) (fun C s H fp pn=>(mD (K:=K) rfl PySem.F.plainAttrs_list PySem.F.slot_list_count PySem.F.type_list_count (Ew (K:=K) rfl) (aH 1) (aj (aH 0) aq))))))),?_⟩
    have s60:60≤sizeLine:=by decide
    have nO:=hG.2.2.2.2.2.len;have l9:=hG.2.2.2.2.1.len;have pl:=HX hlen;left;refine⟨t,n,l,g,xs,tv,ps,ns,rfl,hG,hg,hlen,h01,fun l1 tw H1 hl0 hl1 htw s1=>?_⟩;have twl:=htw.1;left;refine⟨⟨_,bC.of hl1⟩,fun D hD=>U0 tw (fun i σ H'=>(∃o1 o2,σ=[o1,o2])∧H' D=some (.lst ((((Xp ns ps).take i).map (fun e=>e.2)).map V.str))∧Same H1 H') ⟨⟨_,_,rfl⟩,ak,au hD⟩ (fun i σ H' _ h=>bC.of (h.2.2 _ _ hl1)) ?_ ?_⟩
    ·rintro i x σ H2 hi ⟨⟨o1,o2,rfl⟩,hD2,s2⟩;obtain⟨e,he,t2,rfl,HN⟩:=htw.at hi;have hi2:i<(Xp ns ps).length:=(List.getElem?_eq_some_iff.mp he).1;rw[take_one he,List.map_append,List.map_append];left;refine⟨_,gq.of (s2 _ _ HN),rfl,_,hD2,by simp;omega,by rw[ak];simp,aZ s2 hD⟩
    · rintro σ H2 ⟨⟨o1,o2,rfl⟩,hD2,s2⟩;rw[twl,List.take_length,qcf] at hD2;have sH2:=s1.trans s2;have hG2:=hG.same sH2;left;refine⟨_,.inr (gq.of hG2.1),_,bM (j:=0) rfl,?_⟩;left;refine⟨⟨_,bC.of hG2.2.1⟩,fun D2 VD=>U0 (xs.map V.str) (fun i σ H'=>(∃o',σ=[o',some (.ref D)])∧H' D2=some (.lst (((xs.take i).map fun x=>(inN ns ps x:Int)).map V.int))∧Same H2 H') ⟨⟨_,rfl⟩,ak,au VD⟩ (fun i σ H' _ h=>bC.of (h.2.2 _ _ hG2.2.1)) ?_ ?_⟩
      ·rintro i x σ H4 hi ⟨⟨o',rfl⟩,xU,s4⟩;obtain⟨y,hy,rfl⟩:=vY hi;have hi2:i<xs.length:=(List.getElem?_eq_some_iff.mp hy).1;have VF:=s4 _ _ hD2;rw[take_one hy,List.map_append,List.map_append];left;refine⟨⟨_,bC.of VF⟩,_,bC.of VF,_,xU,by simp;omega,by rw[ak];simp[inN],aZ s4 VD⟩
      ·rintro σ H4 ⟨⟨o',rfl⟩,xU,s4⟩;rw[List.length_map,List.take_length] at xU;left;exact q D2 H4 (cg sH2 VD) xU (sH2.trans s4)
def inP (c:List Str) (e:Str×Str):Bool:=decide (¬e.1∈c∧e.2∈c)
theorem qci (c:List Str) (ns:List Int) (ps:List (Str×Str)):((Xp ns ps).filter (inP c)).length=nF c ns ps:=by
  rw[← WL c ns ps 0];unfold Xp;rw[List.filter_map,List.length_map];rfl
def KJ (xs:List Str) (ns:List Int) (ps:List (Str×Str)) (k:Nat):List Int:=(List.range k).map fun m=>((nF (jj (m5 (1+m)) xs) ns ps:Nat):Int)
def LR:Sp:=fun vs H Q _=>∃(t n l g:Addr) (xs:List Str) (tv:List V) (ps:List (Str×Str)) (ns:List Int),vs=[.ref t,.ref g]∧tD H t n l xs tv ps∧H g=some (.lst (ns.map V.int))∧ns.length=ps.length∧(∀n∈ns,0≤n∧n≤1)∧2≤xs.length∧xs.length≤6∧
  ∀(m:Nat) (H':Hp),(∃c∈qg xs,nF c ns ps=m)→(∀c∈qg xs,m≤nF c ns ps)→Same H H'→Q (.int m) H'
theorem L_ (T:Txt K mg a):bV P w K mg base mj 2 a.fM a.pA ["_law_web", "_law_pointing"] LR:=by
  exists T.wU.tY,j4
  ·obtain⟨t,n,l,g,xs,tv,ps,ns,rfl,_⟩:=h;rfl
  · obtain⟨t,n,l,g,xs,tv,ps,ns,rfl,hG,hg,hl,h01,x2,x6,q⟩:=h;refine⟨_,(aC (bx (i:=2) j4.nd rfl (Or.inl rfl) (PE.eqv (aL (TX T) hr.d rfl T.Qz T.HF.kp T.Qy .nil aY (aj (aH 0) (aj (aH 1) aq))) (aF _ _ _)))
      (aC (bx (i:=3) j4.nd rfl (Or.inl rfl) (bA aq))
      (aC (qt PassesOwn.never rfl (PI.eqv (Mq rfl T.nm.range (aj aN (aj (bG vZ (bG qdk aN (aV (cW (K:=K) rfl) rfl T.nm.len PySem.boot_len (aj (cV (dw (K:=K) rfl) (aH 0) aN (fun _ _=>rfl)) aq))) aN) aq))) (Nh _)) (aP (i:=4) j4.nd rfl (Or.inr rfl))
      (aC (bx (i:=5) j4.nd rfl (Or.inr rfl) (cF rfl rfl (show aR (aD mJ) _ ["_law_web", "_law_pointing", "_law_leads_here", "_law_found", "_law_mask", "_law_lot"] ["_law_k", "_law_name"] [4] ["_law_k", "_law_name", "_law_mask"] from⟨rfl,by symm,by symm,rfl,by symm,by symm⟩) rfl (PI.eqv (Hh (K:=K) rfl rfl T.Y4.enumerate (aj (cV (dw (K:=K) rfl) (aH 0) aN (fun _ _=>rfl)) aq)) (zO _ _)) (fun C s H fp pn=>(PG.eqv (c7 (K:=K) (n:=2) rfl rfl (fB.eqv (aU (aP (i:=0) (show(["_law_k", "_law_name", "_law_mask"]:List Str).Nodup by symm) rfl (Or.inl rfl)) (fB.eqv (aU (aP (i:=1) (show(["_law_k", "_law_name", "_law_mask"]:List Str).Nodup by symm) rfl (Or.inl rfl)) (fB.mono cM dJ)) (aW _ _))) (aW _ _))) (dh _ _ _))) (fun C s H fp pn=>(oO (bI uN (bG qdF (bG qdl (aH 2) (aH 0)) aN) aN (cD _)))) (fun C s H fp pn=>(aH 1))))
      (aJ (fu (mD (K:=K) rfl PySem.F.plainAttrs_list PySem.F.slot_list_append PySem.F.type_list_append gJ (aH 3) (aj (aV (cW (K:=K) rfl) rfl T.nm.len PySem.boot_len (aj (cF rfl rfl (show aR (aD mJ) _ ["_law_web", "_law_pointing", "_law_leads_here", "_law_found", "_law_mask", "_law_lot"] ["_law_k", "_law_a", "_law_b"] [5] ["_law_k", "_law_a", "_law_b", "_law_lot"] from⟨rfl,by symm,by symm,rfl,by symm,by symm⟩) rfl (PI.eqv (Hh (K:=K) rfl rfl T.Y4.enumerate (aj (aH 2) aq)) (zO _ _)) (fun C s H fp pn=>(PG.eqv (c7 (K:=K) (n:=2) rfl rfl (fB.eqv (aU (aP (i:=0) (show(["_law_k", "_law_a", "_law_b", "_law_lot"]:List Str).Nodup by symm) rfl (Or.inl rfl)) (fB.eqv (aU (PG.eqv (c7 (K:=K) (n:=2) rfl rfl (fB.eqv (aU (aP (i:=1) (show(["_law_k", "_law_a", "_law_b", "_law_lot"]:List Str).Nodup by symm) rfl (Or.inl rfl)) (fB.eqv (aU (aP (i:=2) (show(["_law_k", "_law_a", "_law_b", "_law_lot"]:List Str).Nodup by symm) rfl (Or.inl rfl)) (fB.mono cM dJ)) (aW _ _))) (aW _ _))) (dh _ _ _)) (fB.mono cM dJ)) (aW _ _))) (aW _ _))) (dh _ _ _))) (fun C s H fp pn=>(oO (PW.pt (Uc (bI (WT (K:=K) rfl) (aH 1) (aH 3) rfl) (Oo (bI (YB (K:=K) rfl) (aH 2) (aH 3) rfl)))))) (fun C s H fp pn=>(aH 0))) aq)) aq))))))
      (aJ (bw (aV (Vf (K:=K) rfl rfl) rfl T.nm.min boot_min (aj (aH 3) aq))))))),?_⟩
    have QM:600<sizeLine:=by decide
    left;refine⟨t,n,l,g,xs,tv,ps,ns,rfl,hG,hg,hl,h01,fun r1 tw H1 hr1 e1 hT1 s1=>?_⟩;have G1:=hG.same s1;have wl:=hT1.1;rw[HX hl] at wl;have nO:=hG.2.2.2.2.2.len;left;intro r hr;exists H1,r,(.lst []),s2,e2,H2,hr;have p9:2 ^ xs.length≤2 ^ 6:=Nat.pow_le_pow_right (by decide) x6;have p1:2 ^ 2≤2 ^ xs.length:=Nat.pow_le_pow_right (by decide) x2;have pc:((2:Int) ^ xs.length)=((2 ^ xs.length:Nat):Int):=by simp
    refine⟨_,.inr (gq.of (s2 _ _ G1.1)),_,bM (j:=0) rfl,?_⟩;left;refine⟨_,.inl (bC.of (s2 _ _ G1.2.1)),?_⟩;rw[List.length_map,pc,Int.toNat_natCast];have qcj:qg xs=(List.range (2 ^ xs.length - 2)).map fun m=>jj (m5 (1+m)) xs:=rfl;generalize hN:2 ^ xs.length=N at p9 p1 qcj ⊢;refine⟨by omega,by omega,frR (fun k σ H'=>(∃o4 o5,σ=[some (.ref t),some (.ref g),some (.ref r1),some (.ref r),o4,o5])∧H' r=some (.lst ((KJ xs ns ps k).map V.int))∧Same H1 H') ⟨⟨_,_,rfl⟩,e2,s2⟩ ?_ ?_⟩
    · rintro k σ H3 hk ⟨⟨o4,o5,rfl⟩,er,s3⟩;have G3:=G1.same s3;have e3:=s3 _ _ e1;have T3:=hT1.same s3;have hkN:1+k<512:=by omega
      left;refine⟨_,.inr (gq.of G3.1),_,bM (j:=0) rfl,?_⟩;left;refine⟨⟨_,bC.of G3.2.1⟩,fun D hD=>cmE (xs.map V.str) (fun i σ H'=>(∃o0 o1,σ=[o0,o1,some (.int (1+k))])∧H' D=some (.lst ((jj (m5 (1+k)) (xs.take i)).map V.str))∧Same H3 H') ⟨⟨_,_,rfl⟩,ak,au hD⟩ (fun i σ H' _ h=>bC.of (h.2.2 _ _ G3.2.1)) ?_ ?_⟩
      · rintro i v tt σ H4 hi ht ⟨⟨o0,o1,rfl⟩,xU,s4⟩;obtain⟨y,hy,rfl⟩:=vY hi;have hi9:i<xs.length:=(List.getElem?_eq_some_iff.mp hy).1;exists H4,tt,(.tup [.int i,.str y]),s5,e5,H5,ht;have VF:=s5 _ _ xU;have hfl:(jj (m5 (1+k)) (xs.take i)).length≤(xs.take i).length:=(bits_sub _ _).length_le;rw[List.length_take] at hfl;rw[take_one hy,Fj,List.length_take,Nat.min_eq_left (by omega)];left;refine⟨_,gq.of e5,rfl,?_⟩;left;rw[qgj hkN];refine iu.of (fun hb=>?_) (fun hb=>?_)
        ·rw[if_pos hb];left;refine⟨_,VF,by simp;omega,?_,aZ (s4.trans s5) hD⟩;rw[ak]
        ·rw[if_neg (by rw[hb];decide),List.append_nil];left;exact⟨VF,s4.trans s5⟩
      · rintro σ H4 ⟨⟨o0,o1,rfl⟩,xU,s4⟩;rw[List.length_map,List.take_length] at xU;have er4:=s4 _ _ er;have e4:=s4 _ _ e3;have T4:=T3.same s4;generalize hc:jj (m5 (1+k)) xs=c at xU;have fl:∀z∈c.map V.str,lO z=true:=List.all_eq_true.mp (zN _);left;refine⟨⟨_,bC.of er4⟩,⟨_,bC.of e4⟩,fun D2 hD2=>cmE tw (fun i σ H'=>(∃o0 o1 o2,σ=[o0,o1,o2,some (.ref D)])∧(∃us,H' D2=some (.lst us)∧us.length=(((Xp ns ps).take i).filter (inP c)).length)∧Same H4 H') ⟨⟨_,_,_,rfl⟩,⟨[],ak,rfl⟩,au hD2⟩ (fun i σ H' _ h=>bC.of (h.2.2 _ _ e4)) ?_ ?_⟩
        · rintro i v tt σ H5 hi ht ⟨⟨o0,o1,o2,rfl⟩,⟨us,VF,T_⟩,s5⟩;obtain⟨e,he,t2,rfl,HN⟩:=T4.at hi;have hi2:i<tw.length:=(List.getElem?_eq_some_iff.mp hi).1;exists H5,tt,(.tup [.int i,.ref t2]),s6,e6,H6,ht;have S6:=s5.trans s6;have c6:=S6 _ _ xU;have hD6:=s6 _ _ VF;have hle:=List.length_filter_le (inP c) ((Xp ns ps).take i);rw[List.length_take] at hle;rw[take_one he,List.filter_append];left;refine⟨_,gq.of e6,rfl,?_⟩;left;refine⟨_,gq.of (S6 _ _ HN),rfl,?_⟩;left;have d1:inV (.str e.1) (c.map V.str) = !decide (¬e.1∈c):=by rw[lQ];simp
          refine⟨_,.inl (bC.of c6),rfl,fl,_,d1,iu.of (fun h=>?_) (fun h=>?_)⟩
          · have h':¬e.1∈c:=of_decide_eq_true h;left;refine⟨_,.inl (bC.of c6),rfl,fl,iu.of (fun h2=>?_) (fun h2=>?_)⟩
            ·rw[lQ] at h2;have h2':=of_decide_eq_true h2;left;refine⟨_,hD6,by omega,⟨_,ak,?_⟩,aZ S6 hD2⟩;rw[List.filter_cons,if_pos (show inP c e=true from decide_eq_true ⟨h',h2'⟩)];simp[T_]
            ·rw[lQ] at h2;have h2':=of_decide_eq_false h2;left;refine⟨⟨_,hD6,?_⟩,S6⟩;rw[List.filter_cons,if_neg (by rw[show inP c e=false from decide_eq_false fun z=>h2' z.2];simp)];simp[T_]
          ·have h':=of_decide_eq_false h;left;refine⟨⟨_,hD6,?_⟩,S6⟩;rw[List.filter_cons,if_neg (by rw[show inP c e=false from decide_eq_false fun z=>h' z.1];simp)];simp[T_]
        · rintro σ H5 ⟨⟨o0,o1,o2,rfl⟩,⟨us,VF,T_⟩,s5⟩;rw[wl,← HX hl,List.take_length,qci] at T_;left;refine⟨_,.inl (bC.of VF),?_⟩;rw[T_];have er5:=s5 _ _ er4;have hcl:(KJ xs ns ps k).length=k:=by simp[KJ]
          have hk6:(KJ xs ns ps k).length<600:=by omega
          refine⟨_,er5,by simp;omega,?_,aZ ((s3.trans s4).trans s5) hr⟩;rw[ak,← hc];simp[KJ,List.range_succ]
    · rintro σ H3 ⟨⟨o4,o5,rfl⟩,er,s3⟩;left;refine⟨_,bC.of er,?_,fun m hm hall=>?_⟩
      ·simp[KJ];omega
      · unfold KJ at hm hall;obtain⟨j,hj,rfl⟩:=List.mem_map.mp hm;refine q _ H3 ⟨jj (m5 (1+j)) xs,?_,rfl⟩ (fun c hc=>?_) (s1.trans s3)
        ·rw[qcj];refine List.mem_map.mpr ⟨j,?_,rfl⟩;rw[List.mem_range] at hj ⊢;omega
        ·rw[qcj] at hc;obtain⟨i,hi,rfl⟩:=List.mem_map.mp hc;have:=hall _ (List.mem_map.mpr ⟨i,by rw[List.mem_range] at hi ⊢;omega,rfl⟩);omega
def lZ (C:Addr) (w:Str):Addr→Sp:=fun e vs H Q _=>vs=[.ref e]∧H e=some (qY e C)∧∀l H',H l=none→H' l=some (.lst [.str w])→Same H H'→Q (.ref l) H'
theorem Zw (T:Txt K mg a):yD P w K mg base 1 a.kY a.pO ["_law_e"] (lZ a.aB "pointing"):=by
  refine T.z9.qdt dX (fun e vs H Q E h=>?_) (fun e cdv A outer s H vs Q hr h=>?_)
  ·obtain⟨rfl,_⟩:=h;rfl
  · obtain⟨rfl,he,q⟩:=h;refine⟨_,(aC (bx (i:=1) dX.nd rfl (Or.inl rfl) (bA (aj (cZ (K:=K) rfl rfl T.nm.isinstance T.d7 T.lX (aj (aH 0) (aj (bL (v:=.ref a.aB) rfl T.jG rfl) aq))) (aj (cZ (K:=K) rfl rfl T.nm.isinstance T.d7 T.nG (aj (aH 0) (aj (bL (v:=.ref a.aG) rfl T.oh rfl) aq))) (aj (cZ (K:=K) rfl rfl T.nm.isinstance T.d7 T.pR (aj (aH 0) (aj (bL (v:=.ref a.aK) rfl T.rJ rfl) aq))) (aj (cZ (K:=K) rfl rfl T.nm.isinstance T.d7 T.qL (aj (aH 0) (aj (bL (v:=.ref a.aO) rfl T.sS rfl) aq))) aq))))))
      (aC (bx (i:=1) dX.nd rfl (Or.inl rfl) (bG bZ (aH 1) (bA (aj (cZ (K:=K) rfl rfl T.nm.isinstance T.d7 T.mY (aj (aH 0) (aj (bL (v:=.ref a.bJ) rfl T.pP rfl) aq))) (aj (cZ (K:=K) rfl rfl T.nm.isinstance T.d7 T.pU (aj (aH 0) (aj (bL (v:=.ref a.bW) rfl T.vL rfl) aq))) (aj (Dd (K:=K) (Ds:=[a.bD,a.bF]) rfl rfl T.nm.isinstance T.d7 (gA T.qM (gA T.qN wB)) (by simp) (t:=(iW (tC (.ref a.bD)) (iW (tC (.ref a.bF)) xQ))) (fun _ _ _=>rfl) (by exact(aj (aH 0) (aj (fP (aj (bL (v:=.ref a.bD) rfl T.za rfl) (aj (bL (v:=.ref a.bF) rfl T.zc rfl) aq))) aq)))) aq))))))
      (aC (bx (i:=2) dX.nd rfl (Or.inl rfl) (bA (aj bH (aj bH (aj bH (aj bH (aj bH (aj bH (aj bH aq)))))))))
      (aJ (bw (bG bZ (Dc rfl rfl (show aR (aD wH) _ ["_law_e", "_law_found", "_law_words"] ["_law_word", "_law_told"] [] ["_law_word", "_law_told"] from⟨rfl,by symm,by symm,rfl,by symm,by symm⟩) rfl (Hq (K:=K) rfl rfl T.nm.zip (aj (aH 2) (aj (aH 1) aq))) (fun C s H fp pn=>(Ho (K:=K) (n:=2) rfl rfl (fB.eqv (aU (aP (i:=0) (show(["_law_word", "_law_told"]:List Str).Nodup by symm) rfl (Or.inl rfl)) (fB.eqv (aU (aP (i:=1) (show(["_law_word", "_law_told"]:List Str).Nodup by symm) rfl (Or.inl rfl)) (fB.mono cM dJ)) (aW _ _))) (aW _ _)))) (fun C s H fp pn=>(oO (dg (aH 1)))) (fun C s H fp pn=>(aH 0))) (bG zT (bA (aj bH aq)) (dz iY rfl T.nm.int jB (aj (CW (cZ (K:=K) rfl rfl T.nm.isinstance T.d7 T.lY (aj (aH 0) (aj (mC (v:=.ty "ValueError") rfl T.d8 Hr rfl) aq)))) aq))))))))),?_⟩
    left;refine⟨he,fun p1 h1=>?_⟩;have e1:upd H p1 (.lst [.bl true,.bl false,.bl false,.bl false]) p1=some (.lst [.bl true,.bl false,.bl false,.bl false]):=ak;have s1:Same H (upd H p1 (.lst [.bl true,.bl false,.bl false,.bl false])):=au h1;generalize upd H p1 (.lst [.bl true,.bl false,.bl false,.bl false])=H1 at e1 s1 ⊢;refine⟨s1 _ _ he,fun p0 h0=>?_⟩;have s0:Same H1 (upd H1 p0 (.tup [V.ref a.bD,V.ref a.bF])):=au h0;have e0:=s0 _ _ e1;have s1:=s1.trans s0;generalize upd H1 p0 (.tup [V.ref a.bD,V.ref a.bF])=H0 at s0 e0 s1 ⊢;intro p2 h2;have e2:upd H0 p2 (.lst [.bl false,.bl false,.bl false]) p2=some (.lst [.bl false,.bl false,.bl false]):=ak;have s2:Same H0 (upd H0 p2 (.lst [.bl false,.bl false,.bl false])):=au h2;generalize upd H0 p2 (.lst [.bl false,.bl false,.bl false])=H2 at e2 s2 ⊢;refine⟨_,s2 _ _ e0,_,e2,by decide,fun p5 h5=>?_⟩;obtain⟨bs,hbs⟩:∃bs:List Bool,bs=[true,false,false,false,false,false,false]:=⟨_,rfl⟩;have eb : [V.bl true,.bl false,.bl false,.bl false]++[.bl false,.bl false,.bl false]=bs.map V.bl:=by rw[hbs];rfl
    rw[eb];have s5:Same H2 (upd H2 p5 (.lst (bs.map V.bl))):=au h5;have e5:upd H2 p5 (.lst (bs.map V.bl)) p5=some (.lst (bs.map V.bl)):=ak;have s5:=(s1.trans s2).trans s5;generalize upd H2 p5 (.lst (bs.map V.bl))=H5 at e5 s5 ⊢;obtain⟨ws,hws⟩:∃ws:List Str,ws=[("pointing" : Str), "number", "over", "unlike", "numbers", "much", "barred"]:=⟨_,rfl⟩;have ew : [V.str "pointing",.str "number",.str "over",.str "unlike",.str "numbers",.str "much",.str "barred"]=ws.map V.str:=by rw[hws];rfl
    rw[ew];intro p6 h6;have s6:Same H5 (upd H5 p6 (.lst (ws.map V.str))):=au h6;have e6:upd H5 p6 (.lst (ws.map V.str)) p6=some (.lst (ws.map V.str)):=ak;generalize upd H5 p6 (.lst (ws.map V.str))=H6 at e6 s6 ⊢;have KN:=s5.trans s6;have l10:ws.length=7:=by rw[hws];rfl
    have lb:bs.length=7:=by rw[hbs];rfl
    refine⟨⟨_,bC.of e6⟩,⟨_,bC.of (s6 _ _ e5)⟩,fun D hD=>qdu (ws.map V.str) (bs.map V.bl) (fun i σ H'=>(∃o1 o2,σ=[o1,o2])∧H' D=some (.lst (((ws.zip bs).take i).filterMap fun c=>if c.2 then some (V.str c.1) else none))∧Same H6 H') ⟨⟨_,_,rfl⟩,ak,au hD⟩ (by simp[l10,lb]) (fun i σ H' _ h=>⟨⟨bC.of (h.2.2 _ _ e6),bC.of (h.2.2 _ _ (s6 _ _ e5))⟩,_,none,h.2.2 _ _ (KN _ _ he)⟩) ?_ ?_⟩
    · rintro i x y t σ H7 hx hy ht ⟨⟨o1,o2,rfl⟩,GP,s7⟩;rw[List.getElem?_map] at hx hy;obtain⟨z,hz,rfl⟩:=Option.map_eq_some_iff.mp hx;obtain⟨b,hb,rfl⟩:=Option.map_eq_some_iff.mp hy;have hi:i<7:=by rw[← l10];exact(List.getElem?_eq_some_iff.mp hz).1
      have hzb:(ws.zip bs)[i]? = some (z,b):=by rw[List.getElem?_zip_eq_some];exact⟨hz,hb⟩
      have s8:Same H7 (upd H7 t (.tup [.str z,.bl b])):=au ht;refine⟨⟨_,none,s8 _ _ (s7 _ _ (KN _ _ he))⟩,?_⟩;refine⟨_,gq.of ak,rfl,?_⟩;left;have hfl:(((ws.zip bs).take i).filterMap fun c=>if c.2 then some (V.str c.1) else none).length≤10:=by
        refine Nat.le_trans (List.length_filterMap_le ..) (Nat.le_trans (List.length_take_le ..) (by omega))
      have h60:60<sizeLine:=by decide
      refine iu.of (fun h=>?_) (fun h=>?_)
      ·subst h;left;refine⟨_,s8 _ _ GP,by omega,?_,aZ (s7.trans s8) hD⟩;rw[ak,take_one hzb,List.filterMap_append];rfl
      ·subst h;refine⟨⟨_,_,rfl⟩,?_,s7.trans s8⟩;rw[s8 _ _ GP,take_one hzb,List.filterMap_append];simp
    · rintro σ H7 ⟨⟨o1,o2,rfl⟩,GP,s7⟩;have e:(((ws.zip bs).take (ws.map V.str).length).filterMap fun c=>if c.2 then some (V.str c.1) else none)=[V.str "pointing"]:=by
        rw[hws,hbs];rfl
      rw[e] at GP;have he7:=s7 _ _ (KN _ _ he);left;intro q1 hq1;have t1:=au (o:=HO.lst [V.str (Str.ofString "none")]) hq1;refine⟨t1 _ _ he7,⟨_,ak⟩,fun q2 hq2=>⟨_,au hq2 _ _ (t1 _ _ GP),_,ak,by decide,fun q3 V2=>?_⟩⟩;have t3:=(t1.trans (au (o:=HO.lst []) hq2)).trans (au (o:=HO.lst ([V.str ("pointing" : Str)]++[])) V2);exact q q3 _ (cg (KN.trans (s7.trans (t1.trans (au hq2)))) V2) ak (KN.trans (s7.trans t3))
theorem Zx (T:Txt K mg a):yD P w K mg base 1 a.kY a.pO ["_law_e"] (lZ a.aG "number"):=by
  refine T.z9.qdt dX (fun e vs H Q E h=>?_) (fun e cdv A outer s H vs Q hr h=>?_)
  ·obtain⟨rfl,_⟩:=h;rfl
  · obtain⟨rfl,he,q⟩:=h;refine⟨_,(aC (bx (i:=1) dX.nd rfl (Or.inl rfl) (bA (aj (cZ (K:=K) rfl rfl T.nm.isinstance T.gV T.nJ (aj (aH 0) (aj (bL (v:=.ref a.aB) rfl T.jG rfl) aq))) (aj (cZ (K:=K) rfl rfl T.nm.isinstance T.gV T.qO (aj (aH 0) (aj (bL (v:=.ref a.aG) rfl T.oh rfl) aq))) (aj (cZ (K:=K) rfl rfl T.nm.isinstance T.gV T.sU (aj (aH 0) (aj (bL (v:=.ref a.aK) rfl T.rJ rfl) aq))) (aj (cZ (K:=K) rfl rfl T.nm.isinstance T.gV T.uz (aj (aH 0) (aj (bL (v:=.ref a.aO) rfl T.sS rfl) aq))) aq))))))
      (aC (bx (i:=1) dX.nd rfl (Or.inl rfl) (bG bZ (aH 1) (bA (aj (cZ (K:=K) rfl rfl T.nm.isinstance T.gV T.pW (aj (aH 0) (aj (bL (v:=.ref a.bJ) rfl T.pP rfl) aq))) (aj (cZ (K:=K) rfl rfl T.nm.isinstance T.gV T.sV (aj (aH 0) (aj (bL (v:=.ref a.bW) rfl T.vL rfl) aq))) (aj (Dd (K:=K) (Ds:=[a.bD,a.bF]) rfl rfl T.nm.isinstance T.gV (gA T.uD (gA T.uE wB)) (by simp) (t:=(iW (tC (.ref a.bD)) (iW (tC (.ref a.bF)) xQ))) (fun _ _ _=>rfl) (by exact(aj (aH 0) (aj (fP (aj (bL (v:=.ref a.bD) rfl T.za rfl) (aj (bL (v:=.ref a.bF) rfl T.zc rfl) aq))) aq)))) aq))))))
      (aC (bx (i:=2) dX.nd rfl (Or.inl rfl) (bA (aj bH (aj bH (aj bH (aj bH (aj bH (aj bH (aj bH aq)))))))))
      (aJ (bw (bG bZ (Dc rfl rfl (show aR (aD wH) _ ["_law_e", "_law_found", "_law_words"] ["_law_word", "_law_told"] [] ["_law_word", "_law_told"] from⟨rfl,by symm,by symm,rfl,by symm,by symm⟩) rfl (Hq (K:=K) rfl rfl T.nm.zip (aj (aH 2) (aj (aH 1) aq))) (fun C s H fp pn=>(Ho (K:=K) (n:=2) rfl rfl (fB.eqv (aU (aP (i:=0) (show(["_law_word", "_law_told"]:List Str).Nodup by symm) rfl (Or.inl rfl)) (fB.eqv (aU (aP (i:=1) (show(["_law_word", "_law_told"]:List Str).Nodup by symm) rfl (Or.inl rfl)) (fB.mono cM dJ)) (aW _ _))) (aW _ _)))) (fun C s H fp pn=>(oO (dg (aH 1)))) (fun C s H fp pn=>(aH 0))) (bG zT (bA (aj bH aq)) (dz iY rfl T.nm.int jB (aj (CW (cZ (K:=K) rfl rfl T.nm.isinstance T.gV T.nM (aj (aH 0) (aj (mC (v:=.ty "ValueError") rfl T.d8 Hr rfl) aq)))) aq))))))))),?_⟩
    left;refine⟨he,fun p1 h1=>?_⟩;have e1:upd H p1 (.lst [.bl false,.bl true,.bl false,.bl false]) p1=some (.lst [.bl false,.bl true,.bl false,.bl false]):=ak;have s1:Same H (upd H p1 (.lst [.bl false,.bl true,.bl false,.bl false])):=au h1;generalize upd H p1 (.lst [.bl false,.bl true,.bl false,.bl false])=H1 at e1 s1 ⊢;refine⟨s1 _ _ he,fun p0 h0=>?_⟩;have s0:Same H1 (upd H1 p0 (.tup [V.ref a.bD,V.ref a.bF])):=au h0;have e0:=s0 _ _ e1;have s1:=s1.trans s0;generalize upd H1 p0 (.tup [V.ref a.bD,V.ref a.bF])=H0 at s0 e0 s1 ⊢;intro p2 h2;have e2:upd H0 p2 (.lst [.bl false,.bl false,.bl false]) p2=some (.lst [.bl false,.bl false,.bl false]):=ak;have s2:Same H0 (upd H0 p2 (.lst [.bl false,.bl false,.bl false])):=au h2;generalize upd H0 p2 (.lst [.bl false,.bl false,.bl false])=H2 at e2 s2 ⊢;refine⟨_,s2 _ _ e0,_,e2,by decide,fun p5 h5=>?_⟩;obtain⟨bs,hbs⟩:∃bs:List Bool,bs=[false,true,false,false,false,false,false]:=⟨_,rfl⟩;have eb : [V.bl false,.bl true,.bl false,.bl false]++[.bl false,.bl false,.bl false]=bs.map V.bl:=by rw[hbs];rfl
    rw[eb];have s5:Same H2 (upd H2 p5 (.lst (bs.map V.bl))):=au h5;have e5:upd H2 p5 (.lst (bs.map V.bl)) p5=some (.lst (bs.map V.bl)):=ak;have s5:=(s1.trans s2).trans s5;generalize upd H2 p5 (.lst (bs.map V.bl))=H5 at e5 s5 ⊢;obtain⟨ws,hws⟩:∃ws:List Str,ws=[("pointing" : Str), "number", "over", "unlike", "numbers", "much", "barred"]:=⟨_,rfl⟩;have ew : [V.str "pointing",.str "number",.str "over",.str "unlike",.str "numbers",.str "much",.str "barred"]=ws.map V.str:=by rw[hws];rfl
    rw[ew];intro p6 h6;have s6:Same H5 (upd H5 p6 (.lst (ws.map V.str))):=au h6;have e6:upd H5 p6 (.lst (ws.map V.str)) p6=some (.lst (ws.map V.str)):=ak;generalize upd H5 p6 (.lst (ws.map V.str))=H6 at e6 s6 ⊢;have KN:=s5.trans s6;have l10:ws.length=7:=by rw[hws];rfl
    have lb:bs.length=7:=by rw[hbs];rfl
    refine⟨⟨_,bC.of e6⟩,⟨_,bC.of (s6 _ _ e5)⟩,fun D hD=>qdu (ws.map V.str) (bs.map V.bl) (fun i σ H'=>(∃o1 o2,σ=[o1,o2])∧H' D=some (.lst (((ws.zip bs).take i).filterMap fun c=>if c.2 then some (V.str c.1) else none))∧Same H6 H') ⟨⟨_,_,rfl⟩,ak,au hD⟩ (by simp[l10,lb]) (fun i σ H' _ h=>⟨⟨bC.of (h.2.2 _ _ e6),bC.of (h.2.2 _ _ (s6 _ _ e5))⟩,_,none,h.2.2 _ _ (KN _ _ he)⟩) ?_ ?_⟩
    · rintro i x y t σ H7 hx hy ht ⟨⟨o1,o2,rfl⟩,GP,s7⟩;rw[List.getElem?_map] at hx hy;obtain⟨z,hz,rfl⟩:=Option.map_eq_some_iff.mp hx;obtain⟨b,hb,rfl⟩:=Option.map_eq_some_iff.mp hy;have hi:i<7:=by rw[← l10];exact(List.getElem?_eq_some_iff.mp hz).1
      have hzb:(ws.zip bs)[i]? = some (z,b):=by rw[List.getElem?_zip_eq_some];exact⟨hz,hb⟩
      have s8:Same H7 (upd H7 t (.tup [.str z,.bl b])):=au ht;refine⟨⟨_,none,s8 _ _ (s7 _ _ (KN _ _ he))⟩,?_⟩;refine⟨_,gq.of ak,rfl,?_⟩;left;have hfl:(((ws.zip bs).take i).filterMap fun c=>if c.2 then some (V.str c.1) else none).length≤10:=by
        refine Nat.le_trans (List.length_filterMap_le ..) (Nat.le_trans (List.length_take_le ..) (by omega))
      have h60:60<sizeLine:=by decide
      refine iu.of (fun h=>?_) (fun h=>?_)
      ·subst h;left;refine⟨_,s8 _ _ GP,by omega,?_,aZ (s7.trans s8) hD⟩;rw[ak,take_one hzb,List.filterMap_append];rfl
      ·subst h;refine⟨⟨_,_,rfl⟩,?_,s7.trans s8⟩;rw[s8 _ _ GP,take_one hzb,List.filterMap_append];simp
    · rintro σ H7 ⟨⟨o1,o2,rfl⟩,GP,s7⟩;have e:(((ws.zip bs).take (ws.map V.str).length).filterMap fun c=>if c.2 then some (V.str c.1) else none)=[V.str "number"]:=by
        rw[hws,hbs];rfl
      rw[e] at GP;have he7:=s7 _ _ (KN _ _ he);left;intro q1 hq1;have t1:=au (o:=HO.lst [V.str (Str.ofString "none")]) hq1;refine⟨t1 _ _ he7,⟨_,ak⟩,fun q2 hq2=>⟨_,au hq2 _ _ (t1 _ _ GP),_,ak,by decide,fun q3 V2=>?_⟩⟩;have t3:=(t1.trans (au (o:=HO.lst []) hq2)).trans (au (o:=HO.lst ([V.str ("number" : Str)]++[])) V2);exact q q3 _ (cg (KN.trans (s7.trans (t1.trans (au hq2)))) V2) ak (KN.trans (s7.trans t3))
theorem Zy (T:Txt K mg a):yD P w K mg base 1 a.kY a.pO ["_law_e"] (lZ a.aK "over"):=by
  refine T.z9.qdt dX (fun e vs H Q E h=>?_) (fun e cdv A outer s H vs Q hr h=>?_)
  ·obtain⟨rfl,_⟩:=h;rfl
  · obtain⟨rfl,he,q⟩:=h;refine⟨_,(aC (bx (i:=1) dX.nd rfl (Or.inl rfl) (bA (aj (cZ (K:=K) rfl rfl T.nm.isinstance T.jJ T.pY (aj (aH 0) (aj (bL (v:=.ref a.aB) rfl T.jG rfl) aq))) (aj (cZ (K:=K) rfl rfl T.nm.isinstance T.jJ T.sX (aj (aH 0) (aj (bL (v:=.ref a.aG) rfl T.oh rfl) aq))) (aj (cZ (K:=K) rfl rfl T.nm.isinstance T.jJ T.uF (aj (aH 0) (aj (bL (v:=.ref a.aK) rfl T.rJ rfl) aq))) (aj (cZ (K:=K) rfl rfl T.nm.isinstance T.jJ T.vM (aj (aH 0) (aj (bL (v:=.ref a.aO) rfl T.sS rfl) aq))) aq))))))
      (aC (bx (i:=1) dX.nd rfl (Or.inl rfl) (bG bZ (aH 1) (bA (aj (cZ (K:=K) rfl rfl T.nm.isinstance T.jJ T.qP (aj (aH 0) (aj (bL (v:=.ref a.bJ) rfl T.pP rfl) aq))) (aj (cZ (K:=K) rfl rfl T.nm.isinstance T.jJ T.uG (aj (aH 0) (aj (bL (v:=.ref a.bW) rfl T.vL rfl) aq))) (aj (Dd (K:=K) (Ds:=[a.bD,a.bF]) rfl rfl T.nm.isinstance T.jJ (gA T.vN (gA T.vO wB)) (by simp) (t:=(iW (tC (.ref a.bD)) (iW (tC (.ref a.bF)) xQ))) (fun _ _ _=>rfl) (by exact(aj (aH 0) (aj (fP (aj (bL (v:=.ref a.bD) rfl T.za rfl) (aj (bL (v:=.ref a.bF) rfl T.zc rfl) aq))) aq)))) aq))))))
      (aC (bx (i:=2) dX.nd rfl (Or.inl rfl) (bA (aj bH (aj bH (aj bH (aj bH (aj bH (aj bH (aj bH aq)))))))))
      (aJ (bw (bG bZ (Dc rfl rfl (show aR (aD wH) _ ["_law_e", "_law_found", "_law_words"] ["_law_word", "_law_told"] [] ["_law_word", "_law_told"] from⟨rfl,by symm,by symm,rfl,by symm,by symm⟩) rfl (Hq (K:=K) rfl rfl T.nm.zip (aj (aH 2) (aj (aH 1) aq))) (fun C s H fp pn=>(Ho (K:=K) (n:=2) rfl rfl (fB.eqv (aU (aP (i:=0) (show(["_law_word", "_law_told"]:List Str).Nodup by symm) rfl (Or.inl rfl)) (fB.eqv (aU (aP (i:=1) (show(["_law_word", "_law_told"]:List Str).Nodup by symm) rfl (Or.inl rfl)) (fB.mono cM dJ)) (aW _ _))) (aW _ _)))) (fun C s H fp pn=>(oO (dg (aH 1)))) (fun C s H fp pn=>(aH 0))) (bG zT (bA (aj bH aq)) (dz iY rfl T.nm.int jB (aj (CW (cZ (K:=K) rfl rfl T.nm.isinstance T.jJ T.pZ (aj (aH 0) (aj (mC (v:=.ty "ValueError") rfl T.d8 Hr rfl) aq)))) aq))))))))),?_⟩
    left;refine⟨he,fun p1 h1=>?_⟩;have e1:upd H p1 (.lst [.bl false,.bl false,.bl true,.bl false]) p1=some (.lst [.bl false,.bl false,.bl true,.bl false]):=ak;have s1:Same H (upd H p1 (.lst [.bl false,.bl false,.bl true,.bl false])):=au h1;generalize upd H p1 (.lst [.bl false,.bl false,.bl true,.bl false])=H1 at e1 s1 ⊢;refine⟨s1 _ _ he,fun p0 h0=>?_⟩;have s0:Same H1 (upd H1 p0 (.tup [V.ref a.bD,V.ref a.bF])):=au h0;have e0:=s0 _ _ e1;have s1:=s1.trans s0;generalize upd H1 p0 (.tup [V.ref a.bD,V.ref a.bF])=H0 at s0 e0 s1 ⊢;intro p2 h2;have e2:upd H0 p2 (.lst [.bl false,.bl false,.bl false]) p2=some (.lst [.bl false,.bl false,.bl false]):=ak;have s2:Same H0 (upd H0 p2 (.lst [.bl false,.bl false,.bl false])):=au h2;generalize upd H0 p2 (.lst [.bl false,.bl false,.bl false])=H2 at e2 s2 ⊢;refine⟨_,s2 _ _ e0,_,e2,by decide,fun p5 h5=>?_⟩;obtain⟨bs,hbs⟩:∃bs:List Bool,bs=[false,false,true,false,false,false,false]:=⟨_,rfl⟩;have eb : [V.bl false,.bl false,.bl true,.bl false]++[.bl false,.bl false,.bl false]=bs.map V.bl:=by rw[hbs];rfl
    rw[eb];have s5:Same H2 (upd H2 p5 (.lst (bs.map V.bl))):=au h5;have e5:upd H2 p5 (.lst (bs.map V.bl)) p5=some (.lst (bs.map V.bl)):=ak;have s5:=(s1.trans s2).trans s5;generalize upd H2 p5 (.lst (bs.map V.bl))=H5 at e5 s5 ⊢;obtain⟨ws,hws⟩:∃ws:List Str,ws=[("pointing" : Str), "number", "over", "unlike", "numbers", "much", "barred"]:=⟨_,rfl⟩;have ew : [V.str "pointing",.str "number",.str "over",.str "unlike",.str "numbers",.str "much",.str "barred"]=ws.map V.str:=by rw[hws];rfl
    rw[ew];intro p6 h6;have s6:Same H5 (upd H5 p6 (.lst (ws.map V.str))):=au h6;have e6:upd H5 p6 (.lst (ws.map V.str)) p6=some (.lst (ws.map V.str)):=ak;generalize upd H5 p6 (.lst (ws.map V.str))=H6 at e6 s6 ⊢;have KN:=s5.trans s6;have l10:ws.length=7:=by rw[hws];rfl
    have lb:bs.length=7:=by rw[hbs];rfl
    refine⟨⟨_,bC.of e6⟩,⟨_,bC.of (s6 _ _ e5)⟩,fun D hD=>qdu (ws.map V.str) (bs.map V.bl) (fun i σ H'=>(∃o1 o2,σ=[o1,o2])∧H' D=some (.lst (((ws.zip bs).take i).filterMap fun c=>if c.2 then some (V.str c.1) else none))∧Same H6 H') ⟨⟨_,_,rfl⟩,ak,au hD⟩ (by simp[l10,lb]) (fun i σ H' _ h=>⟨⟨bC.of (h.2.2 _ _ e6),bC.of (h.2.2 _ _ (s6 _ _ e5))⟩,_,none,h.2.2 _ _ (KN _ _ he)⟩) ?_ ?_⟩
    · rintro i x y t σ H7 hx hy ht ⟨⟨o1,o2,rfl⟩,GP,s7⟩;rw[List.getElem?_map] at hx hy;obtain⟨z,hz,rfl⟩:=Option.map_eq_some_iff.mp hx;obtain⟨b,hb,rfl⟩:=Option.map_eq_some_iff.mp hy;have hi:i<7:=by rw[← l10];exact(List.getElem?_eq_some_iff.mp hz).1
      have hzb:(ws.zip bs)[i]? = some (z,b):=by rw[List.getElem?_zip_eq_some];exact⟨hz,hb⟩
      have s8:Same H7 (upd H7 t (.tup [.str z,.bl b])):=au ht;refine⟨⟨_,none,s8 _ _ (s7 _ _ (KN _ _ he))⟩,?_⟩;refine⟨_,gq.of ak,rfl,?_⟩;left;have hfl:(((ws.zip bs).take i).filterMap fun c=>if c.2 then some (V.str c.1) else none).length≤10:=by
        refine Nat.le_trans (List.length_filterMap_le ..) (Nat.le_trans (List.length_take_le ..) (by omega))
      have h60:60<sizeLine:=by decide
      refine iu.of (fun h=>?_) (fun h=>?_)
      ·subst h;left;refine⟨_,s8 _ _ GP,by omega,?_,aZ (s7.trans s8) hD⟩;rw[ak,take_one hzb,List.filterMap_append];rfl
      ·subst h;refine⟨⟨_,_,rfl⟩,?_,s7.trans s8⟩;rw[s8 _ _ GP,take_one hzb,List.filterMap_append];simp
    · rintro σ H7 ⟨⟨o1,o2,rfl⟩,GP,s7⟩;have e:(((ws.zip bs).take (ws.map V.str).length).filterMap fun c=>if c.2 then some (V.str c.1) else none)=[V.str "over"]:=by
        rw[hws,hbs];rfl
      rw[e] at GP;have he7:=s7 _ _ (KN _ _ he);left;intro q1 hq1;have t1:=au (o:=HO.lst [V.str (Str.ofString "none")]) hq1;refine⟨t1 _ _ he7,⟨_,ak⟩,fun q2 hq2=>⟨_,au hq2 _ _ (t1 _ _ GP),_,ak,by decide,fun q3 V2=>?_⟩⟩;have t3:=(t1.trans (au (o:=HO.lst []) hq2)).trans (au (o:=HO.lst ([V.str ("over" : Str)]++[])) V2);exact q q3 _ (cg (KN.trans (s7.trans (t1.trans (au hq2)))) V2) ak (KN.trans (s7.trans t3))
theorem Zz (T:Txt K mg a):yD P w K mg base 1 a.kY a.pO ["_law_e"] (lZ a.aO "unlike"):=by
  refine T.z9.qdt dX (fun e vs H Q E h=>?_) (fun e cdv A outer s H vs Q hr h=>?_)
  ·obtain⟨rfl,_⟩:=h;rfl
  · obtain⟨rfl,he,q⟩:=h;refine⟨_,(aC (bx (i:=1) dX.nd rfl (Or.inl rfl) (bA (aj (cZ (K:=K) rfl rfl T.nm.isinstance T.mZ T.qR (aj (aH 0) (aj (bL (v:=.ref a.aB) rfl T.jG rfl) aq))) (aj (cZ (K:=K) rfl rfl T.nm.isinstance T.mZ T.uH (aj (aH 0) (aj (bL (v:=.ref a.aG) rfl T.oh rfl) aq))) (aj (cZ (K:=K) rfl rfl T.nm.isinstance T.mZ T.vP (aj (aH 0) (aj (bL (v:=.ref a.aK) rfl T.rJ rfl) aq))) (aj (cZ (K:=K) rfl rfl T.nm.isinstance T.mZ T.xK (aj (aH 0) (aj (bL (v:=.ref a.aO) rfl T.sS rfl) aq))) aq))))))
      (aC (bx (i:=1) dX.nd rfl (Or.inl rfl) (bG bZ (aH 1) (bA (aj (cZ (K:=K) rfl rfl T.nm.isinstance T.mZ T.sY (aj (aH 0) (aj (bL (v:=.ref a.bJ) rfl T.pP rfl) aq))) (aj (cZ (K:=K) rfl rfl T.nm.isinstance T.mZ T.vQ (aj (aH 0) (aj (bL (v:=.ref a.bW) rfl T.vL rfl) aq))) (aj (Dd (K:=K) (Ds:=[a.bD,a.bF]) rfl rfl T.nm.isinstance T.mZ (gA T.xM (gA T.xO wB)) (by simp) (t:=(iW (tC (.ref a.bD)) (iW (tC (.ref a.bF)) xQ))) (fun _ _ _=>rfl) (by exact(aj (aH 0) (aj (fP (aj (bL (v:=.ref a.bD) rfl T.za rfl) (aj (bL (v:=.ref a.bF) rfl T.zc rfl) aq))) aq)))) aq))))))
      (aC (bx (i:=2) dX.nd rfl (Or.inl rfl) (bA (aj bH (aj bH (aj bH (aj bH (aj bH (aj bH (aj bH aq)))))))))
      (aJ (bw (bG bZ (Dc rfl rfl (show aR (aD wH) _ ["_law_e", "_law_found", "_law_words"] ["_law_word", "_law_told"] [] ["_law_word", "_law_told"] from⟨rfl,by symm,by symm,rfl,by symm,by symm⟩) rfl (Hq (K:=K) rfl rfl T.nm.zip (aj (aH 2) (aj (aH 1) aq))) (fun C s H fp pn=>(Ho (K:=K) (n:=2) rfl rfl (fB.eqv (aU (aP (i:=0) (show(["_law_word", "_law_told"]:List Str).Nodup by symm) rfl (Or.inl rfl)) (fB.eqv (aU (aP (i:=1) (show(["_law_word", "_law_told"]:List Str).Nodup by symm) rfl (Or.inl rfl)) (fB.mono cM dJ)) (aW _ _))) (aW _ _)))) (fun C s H fp pn=>(oO (dg (aH 1)))) (fun C s H fp pn=>(aH 0))) (bG zT (bA (aj bH aq)) (dz iY rfl T.nm.int jB (aj (CW (cZ (K:=K) rfl rfl T.nm.isinstance T.mZ T.qT (aj (aH 0) (aj (mC (v:=.ty "ValueError") rfl T.d8 Hr rfl) aq)))) aq))))))))),?_⟩
    left;refine⟨he,fun p1 h1=>?_⟩;have e1:upd H p1 (.lst [.bl false,.bl false,.bl false,.bl true]) p1=some (.lst [.bl false,.bl false,.bl false,.bl true]):=ak;have s1:Same H (upd H p1 (.lst [.bl false,.bl false,.bl false,.bl true])):=au h1;generalize upd H p1 (.lst [.bl false,.bl false,.bl false,.bl true])=H1 at e1 s1 ⊢;refine⟨s1 _ _ he,fun p0 h0=>?_⟩;have s0:Same H1 (upd H1 p0 (.tup [V.ref a.bD,V.ref a.bF])):=au h0;have e0:=s0 _ _ e1;have s1:=s1.trans s0;generalize upd H1 p0 (.tup [V.ref a.bD,V.ref a.bF])=H0 at s0 e0 s1 ⊢;intro p2 h2;have e2:upd H0 p2 (.lst [.bl false,.bl false,.bl false]) p2=some (.lst [.bl false,.bl false,.bl false]):=ak;have s2:Same H0 (upd H0 p2 (.lst [.bl false,.bl false,.bl false])):=au h2;generalize upd H0 p2 (.lst [.bl false,.bl false,.bl false])=H2 at e2 s2 ⊢;refine⟨_,s2 _ _ e0,_,e2,by decide,fun p5 h5=>?_⟩;obtain⟨bs,hbs⟩:∃bs:List Bool,bs=[false,false,false,true,false,false,false]:=⟨_,rfl⟩;have eb : [V.bl false,.bl false,.bl false,.bl true]++[.bl false,.bl false,.bl false]=bs.map V.bl:=by rw[hbs];rfl
    rw[eb];have s5:Same H2 (upd H2 p5 (.lst (bs.map V.bl))):=au h5;have e5:upd H2 p5 (.lst (bs.map V.bl)) p5=some (.lst (bs.map V.bl)):=ak;have s5:=(s1.trans s2).trans s5;generalize upd H2 p5 (.lst (bs.map V.bl))=H5 at e5 s5 ⊢;obtain⟨ws,hws⟩:∃ws:List Str,ws=[("pointing" : Str), "number", "over", "unlike", "numbers", "much", "barred"]:=⟨_,rfl⟩;have ew : [V.str "pointing",.str "number",.str "over",.str "unlike",.str "numbers",.str "much",.str "barred"]=ws.map V.str:=by rw[hws];rfl
    rw[ew];intro p6 h6;have s6:Same H5 (upd H5 p6 (.lst (ws.map V.str))):=au h6;have e6:upd H5 p6 (.lst (ws.map V.str)) p6=some (.lst (ws.map V.str)):=ak;generalize upd H5 p6 (.lst (ws.map V.str))=H6 at e6 s6 ⊢;have KN:=s5.trans s6;have l10:ws.length=7:=by rw[hws];rfl
    have lb:bs.length=7:=by rw[hbs];rfl
    refine⟨⟨_,bC.of e6⟩,⟨_,bC.of (s6 _ _ e5)⟩,fun D hD=>qdu (ws.map V.str) (bs.map V.bl) (fun i σ H'=>(∃o1 o2,σ=[o1,o2])∧H' D=some (.lst (((ws.zip bs).take i).filterMap fun c=>if c.2 then some (V.str c.1) else none))∧Same H6 H') ⟨⟨_,_,rfl⟩,ak,au hD⟩ (by simp[l10,lb]) (fun i σ H' _ h=>⟨⟨bC.of (h.2.2 _ _ e6),bC.of (h.2.2 _ _ (s6 _ _ e5))⟩,_,none,h.2.2 _ _ (KN _ _ he)⟩) ?_ ?_⟩
    · rintro i x y t σ H7 hx hy ht ⟨⟨o1,o2,rfl⟩,GP,s7⟩;rw[List.getElem?_map] at hx hy;obtain⟨z,hz,rfl⟩:=Option.map_eq_some_iff.mp hx;obtain⟨b,hb,rfl⟩:=Option.map_eq_some_iff.mp hy;have hi:i<7:=by rw[← l10];exact(List.getElem?_eq_some_iff.mp hz).1
      have hzb:(ws.zip bs)[i]? = some (z,b):=by rw[List.getElem?_zip_eq_some];exact⟨hz,hb⟩
      have s8:Same H7 (upd H7 t (.tup [.str z,.bl b])):=au ht;refine⟨⟨_,none,s8 _ _ (s7 _ _ (KN _ _ he))⟩,?_⟩;refine⟨_,gq.of ak,rfl,?_⟩;left;have hfl:(((ws.zip bs).take i).filterMap fun c=>if c.2 then some (V.str c.1) else none).length≤10:=by
        refine Nat.le_trans (List.length_filterMap_le ..) (Nat.le_trans (List.length_take_le ..) (by omega))
      have h60:60<sizeLine:=by decide
      refine iu.of (fun h=>?_) (fun h=>?_)
      ·subst h;left;refine⟨_,s8 _ _ GP,by omega,?_,aZ (s7.trans s8) hD⟩;rw[ak,take_one hzb,List.filterMap_append];rfl
      ·subst h;refine⟨⟨_,_,rfl⟩,?_,s7.trans s8⟩;rw[s8 _ _ GP,take_one hzb,List.filterMap_append];simp
    · rintro σ H7 ⟨⟨o1,o2,rfl⟩,GP,s7⟩;have e:(((ws.zip bs).take (ws.map V.str).length).filterMap fun c=>if c.2 then some (V.str c.1) else none)=[V.str "unlike"]:=by
        rw[hws,hbs];rfl
      rw[e] at GP;have he7:=s7 _ _ (KN _ _ he);left;intro q1 hq1;have t1:=au (o:=HO.lst [V.str (Str.ofString "none")]) hq1;refine⟨t1 _ _ he7,⟨_,ak⟩,fun q2 hq2=>⟨_,au hq2 _ _ (t1 _ _ GP),_,ak,by decide,fun q3 V2=>?_⟩⟩;have t3:=(t1.trans (au (o:=HO.lst []) hq2)).trans (au (o:=HO.lst ([V.str ("unlike" : Str)]++[])) V2);exact q q3 _ (cg (KN.trans (s7.trans (t1.trans (au hq2)))) V2) ak (KN.trans (s7.trans t3))
theorem V3 {k:Nat} {f:Addr} {fd:FuncData} {ps:List Str} {sp tO:Addr→Sp} (F:yD P w K mg base k f fd ps sp) (F':yD P w K mg base k f fd ps tO):yD P w K mg base k f fd ps (fun c vs H Q E=>sp c vs H Q E∨tO c vs H Q E):=by
  refine⟨fun c vs H Q E h=>h.elim (F.len c vs H Q E) (F'.len c vs H Q E),?_⟩
  intros
  rename_i h
  rcases h with h | h
  ·apply F.run <;> assumption
  ·apply F'.run <;> assumption
def qck (C1 C2 C3 C4:Addr):Addr→Sp:=fun c vs H Q E=>(lZ C1 "pointing" c vs H Q E∨lZ C2 "number" c vs H Q E)∨(lZ C3 "over" c vs H Q E∨lZ C4 "unlike" c vs H Q E)
theorem qcl (T:Txt K mg a):yD P w K mg base 1 a.kY a.pO ["_law_e"] (qck a.aB a.aG a.aK a.aO):=V3 (V3 (Zw T) (Zx T)) (V3 (Zy T) (Zz T))
theorem qll {d e f:PyData} (hd:vo 30 30000 d) (he:vo 30 30000 e) (hf:vo 30 30000 f):vo 31 100000 (.list [d,e,f]):=vo.list (k:=30) (n:=30000) (fun c hc=>by
  simp only[List.mem_cons,List.not_mem_nil,or_false] at hc
  rcases hc with rfl | rfl | rfl
  ·exact hd
  ·exact he
  ·exact hf) (by simp)
def QV:PyData→Bool
  | .str x=>x == Str.ofString "rings"
  | _=>false
theorem qgx (d:PyData):PyData.eqv d (.str (Str.ofString "rings"))=QV d:=by cases d <;> simp[PyData.eqv,QV]
structure RfA (C:Addr) (H:Hp) (o:Addr) (v u y:V) (d e f:PyData) (xs:List Str) (ps:List (Str×Str)) (z:List Str):Prop where
  no:(mq ps.length d && mq ps.length e)=false→z=[("pointing" : Str)]
  ri:QV f=true→∀t s ns ms,mq ps.length d=true→mq ps.length e=true→v = .ref t→u = .ref s→qe C H o t xs ps ns→qe C H o s xs ps ms→(tu xs ps ns ms=true→z=[])∧(tu xs ps ns ms=false→z=[("unlike" : Str)])
  nr:QV f=false→mq ps.length d=true→mq ps.length e=true→tmD f=false→z=[("number" : Str)]
  st:QV f=false→∀t s ns ms k,mq ps.length d=true→mq ps.length e=true→v = .ref t→u = .ref s→y = .int k→f = .int k→tmD f=true→qe C H o t xs ps ns→qe C H o s xs ps ms→((Eh xs ps ns k && Eh xs ps ms k)=false→z=[("over" : Str)])∧((Eh xs ps ns k && Eh xs ps ms k)=true→ns=ms∧z=[])
def tE (C:Addr):Sp:=fun vs H Q _=>∃(o:Addr) (v u y:V) (d e f:PyData) (xs:List Str) (ps:List (Str×Str)) (z:List Str),vs=[.ref o,v,u,y]∧dW C H o xs ps∧Oa xs∧Ae xs ps∧cC H d v∧cC H e u∧cC H f y∧vo 30 30000 d∧vo 30 30000 e∧vo 30 30000 f∧(f.canLay0=true∨f = .dict [])∧f.depth≤64∧z.length≤1∧(∀H',Same H H'→RfA C H' o v u y d e f xs ps z)∧
  ∀l H',H l=none→H' l=some (.lst (z.map V.str))→Same H H'→Q (.ref l) H'
theorem fj (T:Txt K mg a):bV P w K mg base mj 10 a.lV a.wK ["_law_web", "_law_one", "_law_other", "_law_k"] (tE a.bO):=by
  exists T.eU.tY,sG
  ·obtain⟨o,v,u,y,d,e,f,xs,ps,z,rfl,_⟩:=h;rfl
  · obtain⟨o,v,u,y,d,e,f,xs,ps,z,rfl,hw,hX,hT,hd,he,hf,hsd,hse,hsf,hlay,hdp,hzl,hA,q⟩:=h;refine⟨_,(aC (bx (i:=4) sG.nd rfl (Or.inl rfl) (aV (Gj hr.gd hr.units) rfl T.Y4.repr boot_repr (aj (bA (aj (aH 1) (aj (aH 2) (aj (aH 3) aq)))) aq)))
      (aC (bx (i:=5) sG.nd rfl (Or.inl rfl) (bA aq))
      (aC (qfY (i:=6) rfl rfl rfl sG.nd rfl rfl (fun R pn xe hx=>(aJ (eX (bI (qf7 hr.units) (aH 3) bH (cD _)) (aJ (fu (R5 hx rfl (Fp T) hr.d rfl T.qG T.fC.kp T.qF (aj (aH 0) (aj (aH 1) (aj (aH 2) aq)))))) (aJ (fu (R5 hx rfl (Ft T) hr.d rfl T.xJ T.qH.kp T.xH (aj (aH 0) (aj (aH 1) (aj (aH 2) (aj (aH 3) aq)))))))))) rfl T.DQ T.jH (fun e=>(aJ (bx (i:=5) sG.nd rfl (Or.inl rfl) (qbC (qcl T) hr.d rfl T.Xe T.z9.kp T.Xd (aj (aH 6) aq))))))
      (aJ (bw (bG bZ (aH 5) (bG zT (bA (aj bH aq)) (dz iY rfl T.nm.int jB (aj (oN Et (aV (Gj hr.gd hr.units) rfl T.Y4.repr boot_repr (aj (bA (aj (aH 1) (aj (aH 2) (aj (aH 3) aq)))) aq)) (aH 4) (cD _)) aq))))))))),?_⟩
    have s5:(100000:Nat)≤sizeLine:=by decide
    have hsm:=qll hsd hse hsf;left;intro p1 hp1;exists H,p1,(.lst [v,u,y]),s1,e1,H1,hp1;have lst:∀{H':Hp} {p:Addr},Same H H'→H' p=some (.lst [v,u,y])→iC H' (.list [d,e,f]) (.ref p):=fun s hp=>by
      simp only[iC,cJ];exact⟨_,_,rfl,hp,_,_,rfl,cC.x _ _ (cC.same s d v hd),_,_,rfl,cC.x _ _ (cC.same s e u he),_,_,rfl,cC.x _ _ (cC.same s f y hf),rfl⟩
    refine⟨[d,e,f],lst s1 e1,hsm.sh,Nat.le_trans hsm.dp (by decide),Nat.le_trans hsm.ln s5,?_⟩;intro p2 hp2;exists H1,p2,(.lst []),s2,e2,H2,hp2;have S2:=s1.trans s2;refine⟨f,cC.same S2 f y hf,hlay,by symm,hdp,?_⟩;generalize hR:qbs 6 _ a.bB _ _=R;generalize hNx:qeR (Ld U6 (fVar 5) _) _=Nx;have tail:∀(o6:Option V) (r:Addr) (H':Hp) (ws:List Str),Same H2 H'→H' r=some (.lst (ws.map V.str))→ws=z→Nx [some (.ref o),some v,some u,some y,some (.str (PyData.list [d,e,f]).shown),some (.ref r),o6] H':=by
      rintro o6 r H' ws s' er rfl;subst hNx;left;intro p3 h3 p4 h4;have t4:Same H' (upd (upd H' p3 (.lst [V.str (Str.ofString "changed")])) p4 (.lst [v,u,y])):=(au h3).trans (au h4);refine⟨[d,e,f],lst (S2.trans (s'.trans t4)) ak,hsm.sh,Nat.le_trans hsm.dp (by decide),Nat.le_trans hsm.ln s5,false,by simp,_,bY ak h4,by decide,by decide,by simp,fun p5 h5=>⟨_,bY (t4 _ _ er) h5,_,ak,?_,fun p6 h6=>q p6 _ (cg (S2.trans (s'.trans (t4.trans (au h5)))) h6) (by rw[ak];simp) (S2.trans (s'.trans (t4.trans ((au h5).trans (au h6)))))⟩⟩;simp;omega
    have key:∀(C:Addr) (wd:Str) H',Same H2 H'→z=[wd]→(C=a.aB∧wd = "pointing" ∨C=a.aG∧wd = "number" ∨C=a.aK∧wd = "over" ∨C=a.aO∧wd = "unlike")→R [some (.ref o),some v,some u,some y,some (.str (PyData.list [d,e,f]).shown),some (.ref p2),none] C none H':=by
      rintro C wd H' s' hz hC;subst hR hNx
      rcases hC with⟨rfl,rfl⟩ | ⟨rfl,rfl⟩ | ⟨rfl,rfl⟩ | ⟨rfl,rfl⟩
      ·refine⟨⟨JC.of T.gU,T.lW⟩,fun ex hex=>?_⟩;have se:=au (o:=qY ex a.aB) hex;have ee:upd H' ex (qY ex a.aB) ex=some (qY ex a.aB):=ak;generalize upd H' ex (qY ex a.aB)=H3 at se ee ⊢;left;exact .inl (.inl ⟨rfl,ee,fun l H4 hl4 el4 s4=>tail _ l H4 [("pointing" : Str)] (s'.trans (se.trans s4)) el4 hz.symm⟩)
      ·refine⟨⟨JC.of T.lq,T.nH⟩,fun ex hex=>?_⟩;have se:=au (o:=qY ex a.aG) hex;have ee:upd H' ex (qY ex a.aG) ex=some (qY ex a.aG):=ak;generalize upd H' ex (qY ex a.aG)=H3 at se ee ⊢;left;exact .inl (.inr ⟨rfl,ee,fun l H4 hl4 el4 s4=>tail _ l H4 [("number" : Str)] (s'.trans (se.trans s4)) el4 hz.symm⟩)
      ·refine⟨⟨JC.of T.ou,T.pX⟩,fun ex hex=>?_⟩;have se:=au (o:=qY ex a.aK) hex;have ee:upd H' ex (qY ex a.aK) ex=some (qY ex a.aK):=ak;generalize upd H' ex (qY ex a.aK)=H3 at se ee ⊢;left;exact .inr (.inl ⟨rfl,ee,fun l H4 hl4 el4 s4=>tail _ l H4 [("over" : Str)] (s'.trans (se.trans s4)) el4 hz.symm⟩)
      ·refine⟨⟨JC.of T.pQ,T.qQ⟩,fun ex hex=>?_⟩;have se:=au (o:=qY ex a.aO) hex;have ee:upd H' ex (qY ex a.aO) ex=some (qY ex a.aO):=ak;generalize upd H' ex (qY ex a.aO)=H3 at se ee ⊢;left;exact .inr (.inr ⟨rfl,ee,fun l H4 hl4 el4 s4=>tail _ l H4 [("unlike" : Str)] (s'.trans (se.trans s4)) el4 hz.symm⟩)
    have fin:∀H',Same H2 H'→z=[]→Nx [some (.ref o),some v,some u,some y,some (.str (PyData.list [d,e,f]).shown),some (.ref p2),none] H':=fun H' s' hz=>tail none p2 H' [] s' (s' _ _ e2) hz.symm;have A2:=hA H2 S2;rw[qgx];cases hfr:QV f with
    | true=>
      left;refine⟨o,v,u,d,e,xs,ps,rfl,hw.same S2,cC.same S2 d v hd,cC.same S2 e u he,hX,hT,fun hb H' s'=>?_,fun t s'' ns ms pd pe hv hu p1 p2'=>⟨fun hlk r H' s'=>?_,fun hlk H' s'=>?_⟩⟩
      ·exact⟨_,rfl,key _ _ H' s' (A2.no hb) (.inl ⟨rfl,rfl⟩)⟩
      ·exact fin H' s' ((A2.ri hfr t s'' ns ms pd pe hv hu p1 p2').1 hlk)
      ·exact⟨_,rfl,key _ _ H' s' ((A2.ri hfr t s'' ns ms pd pe hv hu p1 p2').2 hlk) (.inr (.inr (.inr ⟨rfl,rfl⟩)))⟩
    | false=>
      left;refine⟨o,v,u,y,d,e,f,xs,ps,rfl,hw.same S2,cC.same S2 d v hd,cC.same S2 e u he,cC.same S2 f y hf,hX,hT,fun hb H' s'=>⟨_,rfl,key _ _ H' s' (A2.no hb) (.inl ⟨rfl,rfl⟩)⟩,fun h1 h2 h3 H' s'=>⟨_,rfl,key _ _ H' s' (A2.nr hfr h1 h2 h3) (.inr (.inl ⟨rfl,rfl⟩))⟩,fun t s'' ns ms k pd pe hv hu hy hfk ht p1 p2'=>⟨fun ho H' s'=>?_,fun ho=>⟨((A2.st hfr t s'' ns ms k pd pe hv hu hy hfk ht p1 p2').2 ho).1,fun r H' s'=>?_⟩⟩⟩
      ·exact⟨_,rfl,key _ _ H' s' ((A2.st hfr t s'' ns ms k pd pe hv hu hy hfk ht p1 p2').1 ho) (.inr (.inr (.inl ⟨rfl,rfl⟩)))⟩
      ·exact fin H' s' ((A2.st hfr t s'' ns ms k pd pe hv hu hy hfk ht p1 p2').2 ho).2
theorem p7.Xq {H H':Hp} {p:Addr} (h:p7 H p) (s:Same H H'):p7 H' p:=by
  obtain⟨x,y,e,z⟩:=h;exact⟨x,y,s _ _ e,z⟩
theorem p7.ex {H:Hp} {p:Addr} (h:p7 H p):∃o,H p=some o:=by
  obtain⟨x,y,u,_⟩:=h;exact⟨_,u⟩
structure Ma (n:Nat) (d:PyData):Prop where
  no:mq n d=false
  sm:vo 30 30000 d
theorem Aa {n:Nat} {d:PyData} (hs:QC d=false) (hm:vo 30 30000 d):Ma n d:=⟨by unfold mq;rw[hs];rfl,hm⟩
theorem qcm {n:Nat} {d:PyData} (h:(kids d).length≠n) (hm:vo 30 30000 d):Ma n d:=⟨by unfold mq;rw[decide_eq_false h];simp,hm⟩
theorem QW {n:Nat} {d c:PyData} (hc:c∈kids d) (h:Xf c=false) (hm:vo 30 30000 d):Ma n d:=⟨by
  unfold mq;have:(kids d).all Xf=false:=by rw[List.all_eq_false];exact⟨c,hc,by rw[h];simp⟩
  rw[this];simp,hm⟩
theorem Xr {i:Int} (h0:0≤i) (h1:i≤20):vo 0 100 (.int i):=by
  obtain⟨n,rfl⟩:∃n:Nat,i=(n:Int):=⟨i.toNat,by omega⟩;have h:n≤20:=by omega
  have z:∀n,n≤20→(PyData.int (n:Nat)).showable=true∧(PyData.int (n:Nat)).depth≤0∧(PyData.int (n:Nat)).shown.length≤100:=by symm
  exact⟨(z n h).1,(z n h).2.1,(z n h).2.2⟩
theorem smL {ds:List PyData} (h:∀c∈ds,vo 29 300 c) (hl:ds.length≤60):vo 30 30000 (.list ds):=vo.list h (by omega)
theorem Ab {ns:List Int} (h01:∀n∈ns,0≤n∧n≤1):∀c∈ns.map PyData.int,vo 0 100 c:=fun c hc=>by
  obtain⟨i,hi,rfl⟩:=List.mem_map.mp hc;have:=h01 i hi;exact Xr (by omega) (by omega)
theorem lit (d:PyData) (h1:d.showable=true:=by symm) (h2:d.depth≤3:=by symm) (h3:d.shown.length≤100:=by symm):vo 3 100 d:=⟨h1,h2,h3⟩
theorem ZC {d:PyData} {k:Nat} (h:vo k 100 d) (hk:k≤3):vo 29 300 d:=h.mono (by omega) (by decide)
theorem ZD {d:PyData} (h:vo 3 100 d):vo 30 30000 d:=h.mono (by decide) (by decide)
theorem Og {H:Hp} {r:Addr} {ns:List Int} (h:H r=some (.lst (ns.map V.int))):cC H (.list (ns.map PyData.int)) (.ref r):=by
  simp only[cC];exact⟨r,_,rfl,h,aX.ints H ns⟩
theorem Fv {p:Addr} {σ:St} {H:Hp} {ns:List Int} {j:Nat} {tx:TE} {d:PyData} (w1:GD p (fVar 1) σ H (.list (ns.map PyData.int))) (w2:GD p (fVar 2) σ H (.int (j:Nat))) (hx:GD p tx σ H d) (QG:ns.length≤20) :
    GD p (Ld U6 (Ld U6 (tSl (U_ K) (fVar 1) zL (Nj (fVar 2))) (X6 (iW tx xQ))) (tSl (U_ K) (fVar 1) (Nj (Ld (U5 fun i j=>V.int (i+j)) (fVar 2) (tC (V.int 1)))) zL)) σ H (.list (((ns.map PyData.int).take j++[d])++(ns.map PyData.int).drop (j+1))):=by
  have s60:60≤sizeLine:=by decide
  have w5:GD p (Ld (U5 fun i j=>V.int (i+j)) (fVar 2) (tC (V.int 1))) σ H (.int ((j+1:Nat):Int)):=qf4 w2 kZ;exact Vn (Vn (qhY w1 w2) (JD (yE hx zR) (by simp)) (by simp;omega)) (W9 w1 w5) (by simp;omega)
theorem Fw {ns:List Int} {j:Nat} {d:PyData} (h01:∀n∈ns,0≤n∧n≤1) (QG:ns.length≤20) (h:Xf d=false) (hs:vo 3 100 d):Ma ns.length (.list (((ns.map PyData.int).take j++[d])++(ns.map PyData.int).drop (j+1))):=by
  have sl2:∀c∈ns.map PyData.int,vo 29 300 c:=fun c hc=>ZC (Ab h01 c hc) (by decide);refine QW (c:=d) (by simp[kids]) h (smL (fun c hc=>?_) (by simp;omega));simp only[List.mem_append,List.mem_singleton] at hc
  rcases hc with(h | h) | h
  ·exact sl2 c (List.mem_of_mem_take h)
  ·exact h▸ZC hs (by decide)
  ·exact sl2 c (List.mem_of_mem_drop h)
theorem Oh {H:Hp}:∀bs:List Bool,aX H (bs.map PyData.bool) (bs.map V.bl)
  | []=>by simp[aX]
  | b::bs=>by simp only[List.map_cons,aX];exact⟨_,_,rfl,by simp[cC],Oh bs⟩
theorem qcn {p r:Addr} {H:Hp} {ns:List Int} {v2:V} {v3:Option V} (hr:H r=some (.lst (ns.map V.int))) (QG:ns.length≤20) :
    GD p (MF [Str.ofString "_law_turn"] [] (Va K (fVar 1)) (Ml 0) qfj (Ld fEq (fVar 0) (tC (V.int 1)))) [some (V.ref p),some (V.ref r),some v2,v3] H (.list ((ns.map fun n=>decide (n=1)).map PyData.bool)):=fun H1 Q hp s q=>by
  have s60:60≤sizeLine:=by decide
  have r1:=s _ _ hr;left;refine⟨⟨_,bC.of r1⟩,fun D hD=>U0 (ns.map V.int) (fun i σ H'=>(∃o,σ=[o])∧H' D=some (.lst (((ns.take i).map fun n=>decide (n=1)).map V.bl))∧Same H1 H') ⟨⟨_,rfl⟩,ak,au hD⟩ (fun i σ H' _ h=>bC.of (h.2.2 _ _ r1)) ?_ ?_⟩
  ·rintro i x σ H2 hi ⟨⟨o,rfl⟩,hD2,s2⟩;obtain⟨n,hn,rfl⟩:=int_at hi;have hi2:i<ns.length:=(List.getElem?_eq_some_iff.mp hn).1;left;refine⟨_,hD2,by simp;omega,?_,aZ s2 hD⟩;rw[ak,take_one hn];simp
  ·rintro σ H2 ⟨⟨o,rfl⟩,hD2,s2⟩;rw[List.length_map,List.take_length] at hD2;refine q _ _ s2 ?_;simp only[cC];exact⟨D,_,rfl,yx (wA hp s hD) hD2,Oh _⟩
def KQ:Sp:=fun vs H Q _=>∃(p r:Addr) (ns:List Int),vs=[.ref p,.ref r]∧p7 H p∧H r=some (.lst (ns.map V.int))∧r≠p∧1≤ns.length∧ns.length≤20∧(∀n∈ns,0≤n∧n≤1)∧
  ∀(v:V) (d:PyData) (H':Hp),cC (hid p H') d v→Ma ns.length d→p7 H' p→But p H H'→Q v H'
theorem KR (T:Txt K mg a):bV P w K mg base mj 2 a.eO a.mV ["_law_pot_here", "_law_one"] KQ:=by
  exists T.uX.tY,i_
  ·obtain⟨p,r,ns,rfl,_⟩:=h;rfl
  · obtain⟨p,r,ns,rfl,hp,hrx,rp,l1,QG,h01,q⟩:=h;refine⟨_,(@YT.out _ _ _ (vD (PSq.mk (bx (i:=2) i_.nd rfl (Or.inl rfl) (PE.eqv (aL (jK T) hr.d rfl T.mX T.lg.kp T.mW .nil aY (aj (aH 0) (aj (aV (cW (K:=K) rfl) rfl T.nm.len PySem.boot_len (aj (aH 1) aq)) aq))) (aF _ _ _))))
      (vD (Hu (i:=3) i_.nd rfl (Or.inl rfl) (Hv (Ht (bT (fH (tX (K:=K) rfl) (aH 1) (PO.eqv (gF aN) (eY _)) jA) (bT (bG bZ (aH 1) (bA (aj aN aq))) (bT (bG bZ (bG bZ (fH (tX (K:=K) rfl) (aH 1) jA (PO.eqv (gF (aH 2)) (eY _))) (bA (aj aN aq))) (fH (tX (K:=K) rfl) (aH 1) (PO.eqv (gF (bG gH (aH 2) aN)) (eY _)) jA)) (bT (bG bZ (bG bZ (fH (tX (K:=K) rfl) (aH 1) jA (PO.eqv (gF (aH 2)) (eY _))) (bA (aj (Wj Hi aN) aq))) (fH (tX (K:=K) rfl) (aH 1) (PO.eqv (gF (bG gH (aH 2) aN)) (eY _)) jA)) (bT Ub (bT aN (bT mz (bT bH (bT Ry Hs))))))))))))
      (vD (Hu (i:=3) i_.nd rfl (Or.inl rfl) (qbH bZ (PEq.mk (aH 3)) (Hv (Ht (bT (cF rfl rfl (show aR (aD oX) _ ["_law_pot_here", "_law_one", "_law_at", "_law_some"] ["_law_turn"] [] ["_law_turn"] from⟨rfl,by symm,by symm,rfl,by symm,by symm⟩) rfl (PI.eqv (cQ (K:=K) rfl (aH 1)) (cA _ _)) (fun C s H fp pn=>(aP (i:=0) (show(["_law_turn"]:List Str).Nodup by symm) rfl (Or.inl rfl))) (fun C s H fp pn=>cO) (fun C s H fp pn=>(oN uN (aH 0) aN (cD _)))) (bT (bG bZ (bG bZ (fH (tX (K:=K) rfl) (aH 1) jA (PO.eqv (gF (aH 2)) (eY _))) (bA (aj mz aq))) (fH (tX (K:=K) rfl) (aH 1) (PO.eqv (gF (bG gH (aH 2) aN)) (eY _)) jA)) (bT (bG bZ (bG bZ (fH (tX (K:=K) rfl) (aH 1) jA (PO.eqv (gF (aH 2)) (eY _))) (bA (aj bH aq))) (fH (tX (K:=K) rfl) (aH 1) (PO.eqv (gF (bG gH (aH 2) aN)) (eY _)) jA)) Hs)))))))
      (vD (Hu (i:=3) i_.nd rfl (Or.inl rfl) (qbH bZ (PEq.mk (aH 3)) (Hv (Ht (bT (bG bZ (bG bZ (fH (tX (K:=K) rfl) (aH 1) jA (PO.eqv (gF (aH 2)) (eY _))) (bA (aj Ub aq))) (fH (tX (K:=K) rfl) (aH 1) (PO.eqv (gF (bG gH (aH 2) aN)) (eY _)) jA)) (bT (bA (aj (aH 1) aq)) (bT (bG qbJ bH (aV (cW (K:=K) rfl) rfl T.nm.len PySem.boot_len (aj (aH 1) aq))) (bT (bG bZ (bG bZ (fH (tX (K:=K) rfl) (aH 1) jA (PO.eqv (gF (aH 2)) (eY _))) (bA (aj (bA (aj aN aq)) aq))) (fH (tX (K:=K) rfl) (aH 1) (PO.eqv (gF (bG gH (aH 2) aN)) (eY _)) jA)) Hs))))))))
      (YT.mk (aJ (bw (cV (dw (K:=K) rfl) (aH 3) (PE.eqv (aL (jK T) hr.d rfl T.mX T.lg.kp T.mW .nil aY (aj (aH 0) (aj (aV (cW (K:=K) rfl) rfl T.nm.len PySem.boot_len (aj (aH 3) aq)) aq))) (aF _ _ _)) (fun _ _=>rfl)))))))))),?_⟩
    have s60:60≤sizeLine:=by decide
    left;refine⟨_,.inl (bC.of hrx),p,_,rfl,hp,by simp;omega,by simp;omega,fun j0 H1 hj0 hj1 P1 B1=>?_⟩;rw[List.length_map] at hj1;obtain⟨j,rfl⟩:∃j:Nat,j0=(j:Int):=⟨j0.toNat,by omega⟩;have r1:=B1 _ _ rp hrx;have tr:cC (hid p H1) (.list (ns.map PyData.int)) (.ref r):=Og (yx rp r1);left;have sl2:∀c∈ns.map PyData.int,vo 29 300 c:=fun c hc=>ZC (Ab h01 c hc) (by decide);have w1:∀{H':Hp} {o:Option V},Same H1 H'→GD p (fVar 1) [some (V.ref p),some (V.ref r),some (V.int (j:Nat)),o] H' (.list (ns.map PyData.int)):=fun s=>qbD rfl (cC.same (dM s) _ _ tr);have w2:∀{H':Hp} {o:Option V},GD p (fVar 2) [some (V.ref p),some (V.ref r),some (V.int (j:Nat)),o] H' (.int (j:Nat)):=qbD rfl (by simp[cC]);refine Dg (φ:=Ma ns.length) (p:=p) (n:=9) (
      bU (fZ (W9 (j:=1) (w1 (Same.refl _)) kZ) (qcm (by simp[kids];omega) (smL (fun c hc=>sl2 c (List.mem_of_mem_drop hc)) (by simp;omega)))) <|
      bU (fZ (Vn (w1 (Same.refl _)) (JD (yE kZ zR) (by simp)) (by simp;omega)) (qcm (by simp[kids]) (smL (fun c hc=>by
        rcases List.mem_append.mp hc with h | h
        ·exact sl2 c h
        ·rw[List.mem_singleton] at h;subst h;exact ZC (lit (.int 0)) (by decide)) (by simp;omega)))) <|
      bU (fZ (Fv (w1 (Same.refl _)) w2 kZ QG) (Fw h01 QG rfl (lit _))) <|
      bU (fZ (Fv (w1 (Same.refl _)) w2 (Vo kZ) QG) (Fw h01 QG rfl (lit _))) <|
      bU (fZ Vm (Aa rfl (ZD (lit .none)))) <|
      bU (fZ kZ (Aa rfl (ZD (lit (.int 3))))) <|
      bU (fZ W3 (Aa rfl (ZD (lit (.bool true))))) <|
      bU (fZ Qi (Aa rfl (ZD (lit _)))) <|
      bU (fZ R_ (Aa rfl (ZD (lit (.dict []))))) Hx) P1.ex (by decide) fun b vs H2 hb s2 hn e2 a2=>?_
    have r2:=s2 _ _ r1;refine Dg (φ:=Ma ns.length) (p:=p) (n:=3) (
      bU (fZ (qcn r2 QG) (QW (c:=.bool (decide (ns[0]'l1=1))) (by simp only[kids,List.map_map,List.mem_map];exact⟨ns[0]'l1,List.getElem_mem _,rfl⟩) rfl (smL (fun c hc=>by
        obtain⟨x,_,rfl⟩:=List.mem_map.mp hc;cases x
        ·exact ZC (lit (.bool false)) (by decide)
        ·exact ZC (lit (.bool true)) (by decide)) (by simp;omega)))) <|
      bU (fZ (Fv (w1 s2) w2 W3 QG) (Fw h01 QG rfl (lit _))) <|
      bU (fZ (Fv (w1 s2) w2 Qi QG) (Fw h01 QG rfl (lit _))) Hx) (P1.Xq s2).ex (by decide) fun b' vs' H3 hb' s3 hn' e3 a3=>?_
    left;refine⟨vs,s3 _ _ e2,vs',e3,by omega,fun c hc=>?_⟩;have s4:Same H3 (upd H3 c (.lst (vs++vs'))):=au hc;have e4:upd H3 c (.lst (vs++vs')) c=some (.lst (vs++vs')):=ak;have a4:JG (Ma ns.length) (hid p (upd H3 c (.lst (vs++vs')))) (vs++vs'):=((a2.same (dM s3)).app a3).same (dM s4);have l4:(vs++vs').length=12:=by simp;omega
    generalize upd H3 c (.lst (vs++vs'))=H4 at s4 e4 a4 ⊢;generalize vs++vs'=qp at e4 a4 l4 ⊢;have S4:=s2.trans (s3.trans s4);have P4:=P1.Xq S4;refine Dg (φ:=Ma ns.length) (p:=p) (n:=4) (
      bU (fZ (Fv (w1 S4) w2 Vm QG) (Fw h01 QG rfl (lit _))) <|
      bU (fZ (JD (yE (w1 S4) zR) (by simp)) (QW (c:=.list (ns.map PyData.int)) (by simp[kids]) rfl (vo.list (k:=29) (n:=29000) (m:=30000) (fun c hc=>by
        rw[List.mem_singleton] at hc;subst hc;exact(vo.list (k:=0) (n:=100) (m:=29000) (Ab h01) (by rw[List.length_map];omega)).mono (by decide) (by decide)) (by simp)))) <|
      bU (qf6 (k:=ns.length) Qi (by have:=qf5 (K:=K) (w1 (o:=some (.ref c)) S4);rw[List.length_map] at this;exact this) (by omega) (by show 1 * ns.length≤_;omega) (fun z hz=>Aa rfl (by
        have hc:∀c∈z.cps.toList,c=48:=fun c hc=>by
          rw[hz,List.mem_flatten] at hc;obtain⟨l,hl,hc⟩:=hc;obtain rfl:=List.eq_of_mem_replicate hl;rw[show(Str.ofString "0").cps.toList=[48] by symm,List.mem_singleton] at hc;exact hc
        have hl:z.length=ns.length:=by
          have:=congrArg List.length hz;rw[List.length_flatten,List.map_replicate,List.sum_replicate_nat,show(Str.ofString "0").cps.toList.length=1 by symm] at this;show z.cps.size=_;rw[Array.length_toList] at this;omega
        exact(vo.str (n:=300) (fun c h=>by rw[hc c h];decide) (by omega)).mono (by decide) (by decide)))) <|
      bU (fZ (Fv (w1 S4) w2 (JD (yE kZ zR) (by simp)) QG) (Fw h01 QG rfl (lit _))) Hx) P4.ex (by decide) fun b5 vs5 H5 hb5 s5 hn5 e5 a5=>?_
    left;refine⟨qp,s5 _ _ e4,vs5,e5,by omega,fun c6 hc6=>?_⟩;have s6:Same H5 (upd H5 c6 (.lst (qp++vs5))):=au hc6;have e6:upd H5 c6 (.lst (qp++vs5)) c6=some (.lst (qp++vs5)):=ak;have a6:JG (Ma ns.length) (hid p (upd H5 c6 (.lst (qp++vs5)))) (qp++vs5):=((a4.same (dM s5)).app a5).same (dM s6);have l6:(qp++vs5).length=16:=by simp;omega
    have c6p:c6≠p:=wA P4.ex s5 hc6;generalize upd H5 c6 (.lst (qp++vs5))=H6 at s6 e6 a6 ⊢;generalize qp++vs5=U at e6 a6 l6 ⊢;have S6:=S4.trans (s5.trans s6);refine⟨_,.inl (bC.of e6),p,_,rfl,P1.Xq S6,by omega,by omega,fun k H7 hk0 hk1 P7 B7=>?_⟩;obtain⟨v,hv,ha⟩:=W7 (n:=U.length) rfl hk0 hk1;obtain⟨d,hd1,hd2⟩:=a6 v hv;exact⟨_,.inl (bC.of (B7 _ _ c6p e6)),v,ha,q v d H7 (cC.same (Hl B7) d v hd1) hd2 P7 ((B1.same S6).trans B7)⟩
structure qdU (d:PyData):Prop where
  tm:tmD d=false
  rg:QV d=false
  sm:vo 30 30000 d
  ly:d.canLay0=true∨d = .dict []
  dp:d.depth≤64
theorem nn {d:PyData} (h1:tmD d=false) (h2:QV d=false) (hs:vo 3 100 d) (hl:d.canLay0=true∨d = .dict []):qdU d:=⟨h1,h2,ZD hs,hl,Nat.le_trans hs.dp (by decide)⟩
theorem qik:Rg 10 17:=by unfold Rg;decide
def QX:Sp:=fun vs H Q _=>∃(p:Addr),vs=[.ref p]∧p7 H p∧∀(v:V) (d:PyData) (H':Hp),cC (hid p H') d v→qdU d→p7 H' p→But p H H'→Q v H'
theorem QZ (T:Txt K mg a):bV P w K mg base mj 2 a.gD a.rC ["_law_pot_here"] QX:=by
  exists T.yW.tY,Dk
  ·obtain⟨p,rfl,_⟩:=h;rfl
  · obtain⟨p,rfl,hp,q⟩:=h;refine⟨_,(@YT.out _ _ _ (vD (Hu (i:=1) Dk.nd rfl (Or.inl rfl) (Hv (Ht (bT aN (bT (Wj Hi aN) (bT aN (bT (bG Qd aN aN) (bT Ub (bT bH (bT mz (bT mz (bT (bA (aj aN aq)) (bT (fP aq) (bT Ry (bT (Wj Hi (bG Qd aN aN)) Hs)))))))))))))))
      (YT.mk (aJ (bw (cV (dw (K:=K) rfl) (aH 1) (PE.eqv (aL (jK T) hr.d rfl T.mX T.lg.kp T.mW .nil aY (aj (aH 0) (aj (aV (cW (K:=K) rfl) rfl T.nm.len PySem.boot_len (aj (aH 1) aq)) aq))) (aF _ _ _)) (fun _ _=>rfl))))))),?_⟩
    have s60:60≤sizeLine:=by decide
    left;refine Dg (φ:=qdU) (p:=p) (n:=12) (
      bU (fZ kZ (nn rfl rfl (lit _) (.inl rfl))) <| bU (fZ (Vo kZ) (nn rfl rfl (lit _) (.inl rfl))) <| bU (fZ kZ (nn rfl rfl (lit _) (.inl rfl))) <|
      bU (fZ (qbM kZ kZ qik) (nn (by symm) rfl (lit _) (.inl rfl))) <| bU (fZ Vm (nn rfl rfl (lit _) (.inl rfl))) <| bU (fZ Qi (nn rfl (by symm) (lit _) (.inl (by symm)))) <|
      bU (fZ W3 (nn rfl rfl (lit _) (.inl rfl))) <| bU (fZ W3 (nn rfl rfl (lit _) (.inl rfl))) <| bU (fZ (JD (yE kZ zR) (by simp)) (nn rfl rfl (lit _) (.inl rfl))) <|
      bU (fZ (qfZ zR (by simp)) (nn rfl rfl (lit _) (.inl rfl))) <| bU (fZ R_ (nn rfl rfl (lit _) (.inr rfl))) <| bU (fZ (Vo (qbM kZ kZ qik)) (nn (by symm) rfl (lit _) (.inl rfl))) Hx) hp.ex (by decide) fun b vs H2 hb s2 hn e2 a2=>?_
    have bp:b≠p:=wA hp.ex (Same.refl _) hb;left;refine⟨_,.inl (bC.of e2),p,_,rfl,hp.Xq s2,by omega,by omega,fun k H7 hk0 hk1 P7 B7=>?_⟩;obtain⟨v,hv,ha⟩:=W7 (n:=vs.length) rfl hk0 hk1;obtain⟨d,hd1,hd2⟩:=a2 v hv;exact⟨_,.inl (bC.of (B7 _ _ bp e2)),v,ha,q v d H7 (cC.same (Hl B7) d v hd1) hd2 P7 ((But.of s2).trans B7)⟩
def j7 (x0:Str) (ps:List (Str×Str)):List Int:=ps.map fun e=>if e.2=x0 then 1 else 0
def qdV:Sp:=fun vs H Q _=>∃(t n l:Addr) (x0:Str) (xs:List Str) (tv:List V) (ps:List (Str×Str)),vs=[.ref t]∧tD H t n l xs tv ps∧xs[0]? = some x0∧
  ∀r H',H r=none→H' r=some (.lst ((j7 x0 ps).map V.int))→Same H H'→Q (.ref r) H'
theorem qdW (T:Txt K mg a):bV P w K mg base mj 1 a.f_shut a.HB ["_law_web"] qdV:=by
  exists T.Vt.tY,qdv
  ·obtain⟨t,n,l,x0,xs,tv,ps,rfl,_⟩:=h;rfl
  · obtain⟨t,n,l,x0,xs,tv,ps,rfl,hG,h0,q⟩:=h;refine⟨_,(aJ (bw (cF rfl rfl (show aR (aD Qn) _ ["_law_web"] ["_law_a", "_law_b"] [0] ["_law_a", "_law_b", "_law_web"] from⟨rfl,by symm,by symm,rfl,by symm,by symm⟩) rfl (PI.eqv (cQ (K:=K) rfl (cV (dw (K:=K) rfl) (aH 0) aN (fun _ _=>rfl))) (cA _ _)) (fun C s H fp pn=>(PG.eqv (c7 (K:=K) (n:=2) rfl rfl (fB.eqv (aU (aP (i:=0) (show(["_law_a", "_law_b", "_law_web"]:List Str).Nodup by symm) rfl (Or.inl rfl)) (fB.eqv (aU (aP (i:=1) (show(["_law_a", "_law_b", "_law_web"]:List Str).Nodup by symm) rfl (Or.inl rfl)) (fB.mono cM dJ)) (aW _ _))) (aW _ _))) (dh _ _ _))) (fun C s H fp pn=>cO) (fun C s H fp pn=>(dz iY rfl T.nm.int jB (aj (oN uN (aH 1) (cV (dw (K:=K) rfl) (cV (dw (K:=K) rfl) (aH 2) aN (fun _ _=>rfl)) aN (fun _ _=>rfl)) (cD _)) aq)))))),?_⟩;have s60:60≤sizeLine:=by decide
    have nO:=hG.2.2.2.2.2.len;have tl:=hG.2.2.2.1.1;left;refine⟨_,.inr (gq.of hG.1),_,bM (j:=1) rfl,?_⟩;left;refine⟨⟨_,bC.of hG.2.2.1⟩,fun D hD=>U0 tv (fun i σ H'=>(∃o0 o1,σ=[o0,o1,some (.ref t)])∧H' D=some (.lst ((j7 x0 (ps.take i)).map V.int))∧Same H H') ⟨⟨_,_,rfl⟩,ak,au hD⟩ (fun i σ H' _ h=>bC.of (h.2.2 _ _ hG.2.2.1)) ?_ ?_⟩
    · rintro i v σ H2 hi ⟨⟨o0,o1,rfl⟩,hD2,s2⟩;have G2:=hG.same s2;obtain⟨e,he,t2,rfl,HN⟩:=G2.2.2.2.1.at hi;have hi2:i<ps.length:=(List.getElem?_eq_some_iff.mp he).1;have hl:(j7 x0 (ps.take i)).length=i:=by simp[j7];omega
      left;refine⟨_,gq.of HN,rfl,?_⟩;left;refine⟨_,.inr (gq.of G2.1),_,bM (j:=0) rfl,_,.inl (bC.of G2.2.1),_,bM (j:=0) (by rw[List.getElem?_map,h0];rfl),?_⟩;left;refine⟨_,hD2,by simp;omega,?_,aZ s2 hD⟩;rw[ak,take_one he];simp[j7]
    ·rintro σ H2 ⟨⟨o0,o1,rfl⟩,hD2,s2⟩;rw[tl,List.take_length] at hD2;left;exact q D H2 hD hD2 s2
theorem TY {xs c:List Str} (nd:xs.Nodup) (h:c.Sublist xs):(xs.filter fun y=>decide (y∈c))=c:=Kw nd h
theorem T7 {xs c:List Str} {ps:List (Str×Str)} {ns:List Int} (nd:xs.Nodup) (hp:∀e∈ps,e.1∈xs∧e.2∈xs) (hl:ns.length=ps.length) (hc:c.Sublist xs):Zk (fun x=>(inN ns ps x:Int)) c=((nF c ns ps+uJ c ps:Nat):Int):=by
  rw[← TF c hl,Xj nd (fun x=>decide (x∈c)) (CT hp),TY nd hc];unfold Zk inN
  induction c with
  | nil=>rfl
  | cons x c ih=>
    rw[List.map_cons,List.map_cons,List.sum_cons,List.sum_cons,ih ((List.sublist_cons_self x c).trans hc)];omega
theorem Xu {xs:List Str} {ps:List (Str×Str)} {ns:List Int} {k:Int} (hX:Oa xs) (hT:Ae xs ps) (hl:ns.length=ps.length):Eh xs ps ns k=true↔∀c∈qg xs,k≤(nF c ns ps:Int):=by
  have hp:∀e∈ps,e.1∈xs∧e.2∈xs:=fun e he=>⟨(hT.ok e he).1,(hT.ok e he).2.1⟩;unfold Eh DR;rw[List.all_eq_true];refine⟨fun h c hc=>?_,fun h c hc=>decide_eq_true ?_⟩
  ·have:=of_decide_eq_true (h c hc);rw[T7 hX.nd hp hl (QJ hX.len.2 hc).1] at this;omega
  ·have:=h c hc;rw[T7 hX.nd hp hl (QJ hX.len.2 hc).1];omega
theorem qco {x0:Str}:∀{ps:List (Str×Str)},(∀e∈ps,e.1≠e.2)→nF [x0] (j7 x0 ps) ps=0
  | [],_=>rfl
  | e::ps,h=>by
    have ih:=qco (x0:=x0) (ps:=ps) fun e he=>h e (List.mem_cons_of_mem _ he);have hne:=h e List.mem_cons_self;have hc:j7 x0 (e::ps)=(if e.2=x0 then 1 else 0)::j7 x0 ps:=rfl
    rw[hc,nF,ih];rw[if_neg];rintro⟨_,h2⟩;rw[List.mem_singleton] at h2;unfold vA at h2
    by_cases hx:e.2=x0
    ·rw[if_pos hx] at h2;simp at h2;exact hne (h2.trans hx.symm)
    ·rw[if_neg hx] at h2;simp at h2;exact hx h2
theorem qil {x0:Str} {xs:List Str} (h0:xs[0]? = some x0) (h2:2≤xs.length) (h9:xs.length≤9) : [x0]∈qg xs:=by
  obtain⟨r,rfl⟩:∃r,xs=x0::r:=by
    cases xs with
    | nil=>cases h0
    | cons y r=>simp at h0;exact⟨r,by rw[h0]⟩
  have p2:2 ^ 2≤2 ^ (x0::r).length:=Nat.pow_le_pow_right (by decide) h2;refine List.mem_map.mpr ⟨0,List.mem_range.mpr (by omega),?_⟩;unfold jj;have key:∀(l:List Str) (k:Nat),1≤k→k+l.length≤9→((l.zipIdx k).filter fun e=>m5 (1+0) e.2)=[]:=by
    intro l
    induction l with
    | nil=>intros;rfl
    | cons y l ih=>
      intro k h1 h9';simp at h9';rw[List.zipIdx_cons,List.filter_cons,if_neg,ih (k+1) (by omega) (by omega)];have:∀k,k≤9→1≤k→m5 1 k=false:=by decide
      rw[show(1+0:Nat)=1 from rfl,this k (by omega) h1];simp
  rw[List.zipIdx_cons,List.filter_cons,if_pos (show m5 1 0=true by decide),key r _ (by omega) (by simp at h9;omega)];rfl
theorem T8 (x0:Str) (ps:List (Str×Str)):(j7 x0 ps).length=ps.length:=by simp[j7]
theorem qdX (x0:Str) (ps:List (Str×Str)):∀n∈j7 x0 ps,0≤n∧n≤1:=by
  intro n hn;obtain⟨e,_,rfl⟩:=List.mem_map.mp hn;split <;> omega
theorem qdY {x0:Str} {xs:List Str} {ps:List (Str×Str)} {k:Int} (hX:Oa xs) (hT:Ae xs ps) (h0:xs[0]? = some x0) (h2:2≤xs.length) (hk:1≤k):Eh xs ps (j7 x0 ps) k=false:=by
  cases hb:Eh xs ps (j7 x0 ps) k with
  | false=>rfl
  | true=>
    have:=(Xu hX hT (T8 _ _)).mp hb _ (qil h0 h2 hX.len.2);rw[qco fun e he=>(hT.ok e he).2.2] at this;omega
theorem ints_of {ns ms:List Int} (h:ns.map V.int=ms.map V.int):ns=ms:=(List.map_inj_right (fun _ _ h=>by injection h)).mp h
theorem Xv {C:Addr} {H:Hp} {o g:Addr} {xs:List Str} {ps:List (Str×Str)} {ns ms:List Int} (h:qe C H o g xs ps ms) (hg:H g=some (.lst (ns.map V.int))):ms=ns:=by
  rcases h.2.1 with e | e
  ·rw[hg] at e;injection e with e;injection e with e;exact(ints_of e).symm
  ·rw[hg] at e;injection e with e;cases e
structure Ed (H:Hp) (d:PyData) (v:V):Prop where
  th:cC H d v
  sm:vo 30 30000 d
theorem Ed.same {H H':Hp} {d:PyData} {v:V} (h:Ed H d v) (s:Same H H'):Ed H' d v:=⟨cC.same s d v h.th,h.sm⟩
theorem eV {H:Hp} {r:Addr} {ns:List Int} (h:H r=some (.lst (ns.map V.int))) (h01:∀n∈ns,0≤n∧n≤1) (QG:ns.length≤20):Ed H (.list (ns.map PyData.int)) (.ref r):=⟨Og h,(vo.list (k:=0) (n:=100) (m:=29000) (Ab h01) (by rw[List.length_map];omega)).mono (by decide) (by decide)⟩
theorem rM {ns:List Int} {n:Nat} (h01:∀n∈ns,0≤n∧n≤1) (hl:ns.length=n):mq n (.list (ns.map PyData.int))=true:=by
  subst hl;have:=Tw (d:=.list (ns.map PyData.int)) (ns:=ns) rfl rfl h01;exact this
theorem KY {C:Addr} {H:Hp} {o:Addr} {v u y:V} {d e f:PyData} {xs:List Str} {ps:List (Str×Str)} {Q:VK} {E:XK} (hw:dW C H o xs ps) (hX:Oa xs) (hT:Ae xs ps) (hd:Ed H d v) (he:Ed H e u) (hf:Ed H f y) (ly:f.canLay0=true∨f = .dict []) (dp:f.depth≤64)
    (hb:(mq ps.length d && mq ps.length e)=false) (q:∀l H',H l=none→H' l=some (.lst [.str "pointing"])→Same H H'→Q (.ref l) H'):tE C [.ref o,v,u,y] H Q E:=by
  have no:∀{A:Prop},mq ps.length d=true→mq ps.length e=true→A:=fun h1 h2=>by rw[h1,h2] at hb;cases hb
  exact⟨o,v,u,y,d,e,f,xs,ps,[("pointing" : Str)],rfl,hw,hX,hT,hd.th,he.th,hf.th,hd.sm,he.sm,hf.sm,ly,dp,by simp,fun H' _=>⟨fun _=>rfl,fun _ _ _ _ _ h1 h2=>no h1 h2,fun _ h1 h2=>no h1 h2,fun _ _ _ _ _ _ h1 h2=>no h1 h2⟩,q⟩
theorem qcp {C:Addr} {H:Hp} {o:Addr} {v u y:V} {d e f:PyData} {xs:List Str} {ps:List (Str×Str)} {Q:VK} {E:XK} (hw:dW C H o xs ps) (hX:Oa xs) (hT:Ae xs ps) (hd:Ed H d v) (he:Ed H e u) (hf:Ed H f y) (hn:qdU f)
    (h1:mq ps.length d=true) (h2:mq ps.length e=true) (q:∀l H',H l=none→H' l=some (.lst [.str "number"])→Same H H'→Q (.ref l) H'):tE C [.ref o,v,u,y] H Q E:=
  ⟨o,v,u,y,d,e,f,xs,ps,[("number" : Str)],rfl,hw,hX,hT,hd.th,he.th,hf.th,hd.sm,he.sm,hf.sm,hn.ly,hn.dp,by simp,fun H' _=>⟨fun h=>(by rw[h1,h2] at h;cases h),fun h=>(by rw[hn.rg] at h;cases h),fun _ _ _ _=>rfl,fun _ _ _ _ _ _ _ _ _ _ _ _ h=>(by rw[hn.tm] at h;cases h)⟩,q⟩
theorem qcq {C:Addr} {H:Hp} {o g s:Addr} {ns ms:List Int} {xs:List Str} {ps:List (Str×Str)} {Q:VK} {E:XK} (hw:dW C H o xs ps) (hX:Oa xs) (hT:Ae xs ps) (hg:H g=some (.lst (ns.map V.int))) (hs:H s=some (.lst (ms.map V.int))) (n1:∀n∈ns,0≤n∧n≤1) (m1:∀n∈ms,0≤n∧n≤1) (nl:ns.length=ps.length) (ml:ms.length=ps.length)
    (q:∀l H',H l=none→H' l=some (.lst ((if tu xs ps ns ms then [] else [("unlike" : Str)]).map V.str))→Same H H'→Q (.ref l) H'):tE C [.ref o,.ref g,.ref s,.str "rings"] H Q E:=by
  have nO:=hT.len;have a1:=eV hg n1 (by omega);have a2:=eV hs m1 (by omega);have b1:=rM n1 nl;have b2:=rM m1 ml;have sr:vo 30 30000 (.str (Str.ofString "rings")):=(lit _).mono (by decide) (by decide);have rg:QV (.str (Str.ofString "rings"))=true:=by symm
  refine⟨o,.ref g,.ref s,.str "rings",_,_,.str (Str.ofString "rings"),xs,ps,if tu xs ps ns ms then [] else [("unlike" : Str)],rfl,hw,hX,hT,a1.th,a2.th,by simp[cC],a1.sm,a2.sm,sr,.inl (by symm),by symm,by split <;> simp,fun H' s'=>⟨fun h=>(by rw[b1,b2] at h;cases h),fun _ t s ns' ms' _ _ e1 e2 p1 p2=>?_,fun h=>(by rw[rg] at h;cases h),fun h=>(by rw[rg] at h;cases h)⟩,q⟩
  cases e1;cases e2;obtain rfl:=Xv p1 (s' _ _ hg);obtain rfl:=Xv p2 (s' _ _ hs);exact⟨fun h=>by rw[h];rfl,fun h=>by rw[h];rfl⟩
theorem KZ {C:Addr} {H:Hp} {o g s:Addr} {ns ms:List Int} {k:Int} {xs:List Str} {ps:List (Str×Str)} {Q:VK} {E:XK} (hw:dW C H o xs ps) (hX:Oa xs) (hT:Ae xs ps) (hg:H g=some (.lst (ns.map V.int))) (hs:H s=some (.lst (ms.map V.int))) (n1:∀n∈ns,0≤n∧n≤1) (m1:∀n∈ms,0≤n∧n≤1) (nl:ns.length=ps.length) (ml:ms.length=ps.length)
    (k1:1≤k) (k9:k≤9) (hb:(Eh xs ps ns k && Eh xs ps ms k)=true→ns=ms) (q:∀l H',H l=none→H' l=some (.lst ((if Eh xs ps ns k && Eh xs ps ms k then [] else [("over" : Str)]).map V.str))→Same H H'→Q (.ref l) H'):tE C [.ref o,.ref g,.ref s,.int k] H Q E:=by
  have nO:=hT.len;have a1:=eV hg n1 (by omega);have a2:=eV hs m1 (by omega);have b1:=rM n1 nl;have b2:=rM m1 ml;have tm:tmD (.int k)=true:=by
    show(decide (1≤k) && decide (k≤9))=true;rw[decide_eq_true k1,decide_eq_true k9];rfl
  refine⟨o,.ref g,.ref s,.int k,_,_,.int k,xs,ps,if Eh xs ps ns k && Eh xs ps ms k then [] else [("over" : Str)],rfl,hw,hX,hT,a1.th,a2.th,by simp[cC],a1.sm,a2.sm,(Xr (by omega) (by omega)).mono (by decide) (by decide),.inl rfl,by simp[PyData.depth],by split <;> simp,fun H' s'=>⟨fun h=>(by rw[b1,b2] at h;cases h),fun h=>(by cases h),fun _ _ _ h=>(by rw[tm] at h;cases h),fun _ t s ns' ms' k' _ _ e1 e2 e3 _ _ p1 p2=>?_⟩,q⟩
  cases e1;cases e2;cases e3;obtain rfl:=Xv p1 (s' _ _ hg);obtain rfl:=Xv p2 (s' _ _ hs);exact⟨fun h=>by rw[h];rfl,fun h=>⟨hb h,by rw[h];rfl⟩⟩
def Q0 (K:W.Frag):Sp:=fun vs H Q _=>∃(l:Addr) (ns:List Int),vs=[.ref l]∧bC K H l (ns.map V.int)∧ns.length≤63∧∀H',Q (.bl true) H'
theorem qgy (T:Txt K mg a):bV P w K mg base mj 11 a.Gs a.Qu ["_law_script"] (Q0 K):=by
  exists T.qez.tY,mK
  ·obtain⟨l,ns,rfl,_⟩:=h;rfl
  · obtain⟨sl,ns,rfl,hS,hlen,q⟩:=h;refine⟨_,(aC (qt PassesOwn.never rfl (PI.eqv (rF rfl T.nm.range (aj (aV (Jw rfl) rfl T.nm.max boot_max (aj aN (aj (aV (Ve rfl) rfl T.nm.min boot_min (aj (aV (cW (K:=K) rfl) rfl T.nm.len PySem.boot_len (aj (aH 0) aq)) (aj aN aq))) aq))) aq)) (rG _)) (aP (i:=1) mK.nd rfl (Or.inl rfl))
      (aC (bx (i:=2) mK.nd rfl (Or.inl rfl) (PE.eqv (aL (qf9 T) hr.d rfl T.qew T.qbT.kp T.qev .nil aY (aj (aH 0) (aj (aH 1) aq))) (aF _ _ _)))
      (aC (Ig (PE.eqv (aL (Zv T) hr.d rfl T.Tg T.Kg.kp T.Tf .nil aY (aj (aH 2) (aj aN aq))) (aF _ _ _)) (PG.eqv (c7 (K:=K) (n:=2) rfl rfl (fB.eqv (aU (aP (i:=3) mK.nd rfl (Or.inl rfl)) (fB.eqv (aU (aP (i:=4) mK.nd rfl (Or.inl rfl)) (fB.mono cM dJ)) (aW _ _))) (aW _ _))) (dh _ _ _)))
      (aC (bx (i:=5) mK.nd rfl (Or.inl rfl) (PE.eqv (qcN T.qeB (Tp T) hr.d rfl T.qeA T.JZ .nil aY (aj (cV (dw (K:=K) rfl) (aH 3) aN (fun _ _=>rfl)) (aj (cV (dw (K:=K) rfl) (aH 3) aN (fun _ _=>rfl)) aq))) (qbe _ _ _ _)))
      (aC (bx (i:=6) mK.nd rfl (Or.inl rfl) (PE.eqv (aL (KR T) hr.d rfl T.Aw T.uX.kp T.Av .nil aY (aj (aH 2) (aj (aH 4) aq))) (aF _ _ _)))
      (aC (bx (i:=7) mK.nd rfl (Or.inl rfl) (PE.eqv (aL (QZ T) hr.d rfl T.Gz T.yW.kp T.Gy .nil aY (aj (aH 2) aq)) (aF _ _ _)))
      (aC (bx (i:=8) mK.nd rfl (Or.inl rfl) (PE.eqv (aL (qdW T) hr.d rfl T.qbY T.Vt.kp T.qbX .nil aY (aj (aH 3) aq)) (aF _ _ _)))
      (aC (bx (i:=9) mK.nd rfl (Or.inl rfl) (PE.eqv (aL (L_ T) hr.d rfl T.DP T.wU.kp T.DN .nil aY (aj (aH 3) (aj (aH 4) aq))) (aF _ _ _)))
      (aC (bx (i:=10) mK.nd rfl (Or.inl rfl) (bA (aj (PE.eqv (aL (fj T) hr.d rfl T.fG T.eU.kp T.fD .nil aY (aj (aH 5) (aj (aH 6) (aj (aH 4) (aj bH aq))))) (aF _ _ _)) (aj (PE.eqv (aL (fj T) hr.d rfl T.fG T.eU.kp T.fD .nil aY (aj (aH 5) (aj (aH 4) (aj (aH 6) (aj bH aq))))) (aF _ _ _)) aq))))
      (aC (bx (i:=10) mK.nd rfl (Or.inl rfl) (bG bZ (aH 10) (bA (aj (PE.eqv (aL (fj T) hr.d rfl T.fG T.eU.kp T.fD .nil aY (aj (aH 5) (aj (aH 6) (aj (aH 4) (aj (aH 7) aq))))) (aF _ _ _)) (aj (PE.eqv (aL (fj T) hr.d rfl T.fG T.eU.kp T.fD .nil aY (aj (aH 5) (aj (aH 4) (aj (aH 6) (aj aN aq))))) (aF _ _ _)) aq)))))
      (aC (fu (mD (K:=K) rfl PySem.F.plainAttrs_list PySem.F.slot_list_append PySem.F.type_list_append gJ (aH 10) (aj (PE.eqv (aL (fj T) hr.d rfl T.fG T.eU.kp T.fD .nil aY (aj (aH 5) (aj (aH 8) (aj (aH 6) (aj aN aq))))) (aF _ _ _)) aq)))
      (aC (eX (PW.pt (xq (bI (qz (K:=K) rfl hr.units) (aH 10) (bG zT (bA (aj (bA (aj bH aq)) aq)) aN) (cD _)) (qm (bI (qz (K:=K) rfl hr.units) (PE.eqv (aL (fj T) hr.d rfl T.fG T.eU.kp T.fD .nil aY (aj (aH 5) (aj (aH 8) (aj (aH 4) (aj (aH 7) aq))))) (aF _ _ _)) (bA (aj bH aq)) (cD _))))) (aJ (bw mz)) cu)
      (aC (bx (i:=11) mK.nd rfl (Or.inl rfl) (cV (dw (K:=K) rfl) (bA (aj (bA aq) (aj (bA (aj bH aq)) aq))) (dz iY rfl T.nm.int jB (aj (oN (qz (K:=K) rfl hr.units) (PE.eqv (aL (qch T) hr.d rfl T.qbW T.Xc.kp T.qbV .nil aY (aj (aH 3) (aj (aH 4) aq))) (aF _ _ _)) (PE.eqv (aL (qch T) hr.d rfl T.qbW T.Xc.kp T.qbV .nil aY (aj (aH 3) (aj (aH 8) aq))) (aF _ _ _)) (cD _)) aq)) (fun _ _=>rfl)))
      (aC (eX (PW.pt (xq (bI (qz (K:=K) rfl hr.units) (PE.eqv (aL (fj T) hr.d rfl T.fG T.eU.kp T.fD .nil aY (aj (aH 5) (aj (aH 4) (aj (aH 8) (aj bH aq))))) (aF _ _ _)) (aH 11) (cD _)) (qm (bI (qz (K:=K) rfl hr.units) (PE.eqv (aL (fj T) hr.d rfl T.fG T.eU.kp T.fD .nil aY (aj (aH 5) (aj (aH 4) (aj (aH 4) (aj (aH 7) aq))))) (aF _ _ _)) (bA (aj bH aq)) (cD _))))) (aJ (bw mz)) cu)
      (aC (eX (bI (qz (K:=K) rfl hr.units) (PE.eqv (aL (fj T) hr.d rfl T.fG T.eU.kp T.fD .nil aY (aj (aH 5) (aj (aH 4) (aj (aH 8) (aj aN aq))))) (aF _ _ _)) (bA (aj bH aq)) (cD _)) (aJ (bw mz)) cu)
      (aC (eX (bI (qz (K:=K) rfl hr.units) (PE.eqv (aL (fj T) hr.d rfl T.fG T.eU.kp T.fD .nil aY (aj (aH 5) (aj (aH 8) (aj (aH 4) (aj (bG gH aN (PE.eqv (aL (jK T) hr.d rfl T.mX T.lg.kp T.mW .nil aY (aj (aH 2) (aj aN aq))) (aF _ _ _))) aq))))) (aF _ _ _)) (bA (aj bH aq)) (cD _)) (aJ (bw mz)) cu)
      (aJ (qt PassesOwn.never rfl (PI.eqv (Mq rfl T.nm.range (aj aN (aj aN aq))) (Nh _)) (aP (i:=12) mK.nd rfl (Or.inl rfl))
      (aJ (eX (bI (qz (K:=K) rfl hr.units) (PE.eqv (aL (fj T) hr.d rfl T.fG T.eU.kp T.fD .nil aY (aj (aH 5) (aj (aH 4) (aj (aH 4) (aj (aH 12) aq))))) (aF _ _ _)) (cV (dw (K:=K) rfl) (bA (aj (bA aq) (aj (bA (aj bH aq)) aq))) (dz iY rfl T.nm.int jB (aj (oN PL (aH 12) (aH 9) (cD _)) aq)) (fun _ _=>rfl)) (cD _)) (aJ (bw mz)) cu))))))))))))))))))))
      (aJ (bw mz))),?_⟩
    have QM:600<sizeLine:=by decide
    left;refine⟨_,.inl hS,?_⟩;simp only[List.length_map];obtain⟨m,hm,hm6⟩:∃m:Nat,(if 4<if 10<(ns.length:Int) then (10:Int) else ns.length then if 10<(ns.length:Int) then (10:Int) else ns.length else 4)=m∧m≤10:=by
      by_cases h1:10<(ns.length:Int)
      ·rw[if_pos h1];exact⟨10,rfl,by decide⟩
      · rw[if_neg h1]
        by_cases h2:4<(ns.length:Int)
        ·exact⟨ns.length,by rw[if_pos h2],by omega⟩
        ·exact⟨4,by rw[if_neg h2];rfl,by decide⟩
    simp only[hm];refine⟨by omega,by omega,frR (fun i σ H'=>(∃o1 o2 o3 o4 o5 o6 o7 o8 o9 o10 o11 o12,σ=[some (.ref sl),o1,o2,o3,o4,o5,o6,o7,o8,o9,o10,o11,o12])∧Same H H') ⟨⟨_,_,_,_,_,_,_,_,_,_,_,_,rfl⟩,Same.refl _⟩ ?_ ?_⟩
    · rintro i σ H1 hi ⟨⟨o1,o2,o3,o4,o5,o6,o7,o8,o9,o10,o11,o12,rfl⟩,s1⟩;left;refine⟨sl,ns,i,rfl,s1.seq hS,by simp at hi;omega,fun p H2 hp0 P2 B2'=>?_⟩;have B2:But p H H2:=(But.of s1).trans B2';have hpH:H p=none:=cg s1 hp0;left;refine⟨p,rfl,P2,fun r t n l g xs tv ps ks H3 er hG eg hl h01 x2 x6 p1 np lp gp P3 B3'=>?_⟩;have B3:=B2.trans B3';have hX:=hG.2.2.2.2.1;have hTs:=hG.2.2.2.2.2;left;refine⟨_,gq.of er,rfl,?_⟩;left;refine⟨_,.inr (gq.of hG.1),_,bM (j:=0) rfl,_,.inr (gq.of hG.1),_,bM (j:=1) rfl,fun o dx ho hdx qma=>?_⟩;have so:Same H3 (upd (upd H3 dx (.own o)) o (.ins a.bO dx [])):=fun b u e=>by
        rw[aM (aQ e ho),aM (aQ e hdx)];exact e
      have hpr:uI H3 tv ps:=⟨hG.2.2.2.1.1,fun i v e h1 h2=>by
        obtain⟨t,rfl,z⟩:=hG.2.2.2.1.2 i v e h1 h2;exact⟨t,rfl,.inr z⟩⟩
      refine⟨o,dx,n,l,tv,xs,ps,rfl,ak,.inl (so _ _ hG.2.2.1),hpr.same so,.inl (so _ _ hG.2.1),hX,hTs,fun H4 W4 hB4=>⟨rfl,?_⟩⟩;have s4:Same H3 H4:=fun b u e=>hB4 b u (aQ e ho) (so b u e);have P4:=P3.keep s4;have G4:=hG.same s4;have g4:=s4 _ _ eg;have B4:=B3.same s4;left;refine⟨p,g,ks,rfl,P4,g4,gp,by omega,by have:=hTs.len;omega,h01,fun bv bd H5 hbt hbb P5 ZQ=>?_⟩;left;refine⟨p,rfl,P5,fun ov od H6 hot hon P6 B6'=>?_⟩;have B46:=ZQ.trans B6';have W6:=W4.but P4 B46;have G6:=G4.but P4 B46 np lp;have g6:=B46 _ _ gp g4;have B6:=B4.trans B46;have ab:Ed H6 bd bv:=⟨cC.same sy _ _ (cC.same (Hl B6') _ _ hbt),hbb.sm⟩;have ao:Ed H6 od ov:=⟨cC.same sy _ _ hot,hon.sm⟩;have bno:mq ps.length bd=false:=by rw[← hl];exact hbb.no
      have nO:=hTs.len;obtain⟨x0,h0⟩:∃x0,xs[0]? = some x0:=⟨_,List.getElem?_eq_getElem (by omega)⟩;clear B46 B6' ZQ hbt hot hpr so hB4 B3' B2';left;refine⟨t,n,l,x0,xs,tv,ps,rfl,G6,h0,fun sh H7 qlm e7 s7=>?_⟩;have G7:=G6.same s7;have g7:=s7 _ _ g6;left;refine⟨t,n,l,g,xs,tv,ps,ks,rfl,G7,g7,hl,h01,x2,x6,fun le H8 qln qlo s8=>?_⟩;have s68:=s7.trans s8;have W8:=W6.same s68;have G8:=G7.same s8;have g8:=s8 _ _ g7;have sh8:=s8 _ _ e7;have ab8:=ab.same s68;have ao8:=ao.same s68;have P8:=P6.keep s68;have B8:=B6.same s68;have shp:sh≠p:=P6.nl qlm;have sl0:=T8 x0 ps;have sl1:=qdX x0 ps;clear s7 s8 s68 W6 G6 g6 ab ao P6 B6 G7 g7 e7;have ar:∀H',Ed H' (.str (Str.ofString "rings")) (.str "rings"):=fun H'=>⟨by simp[cC],(lit _).mono (by decide) (by decide)⟩;have a1:∀H',Ed H' (.int 1) (.int 1):=fun H'=>⟨by simp[cC],(lit (.int 1)).mono (by decide) (by decide)⟩;have bb1:(mq ps.length bd && mq ps.length (.list (ks.map PyData.int)))=false:=by rw[bno];rfl
      have bb2:(mq ps.length (.list (ks.map PyData.int)) && mq ps.length bd)=false:=by rw[bno,Bool.and_false]
      have bb3:(mq ps.length (.list ((j7 x0 ps).map PyData.int)) && mq ps.length bd)=false:=by rw[bno,Bool.and_false]
      have go:=rM h01 hl;have gs:=rM sl1 sl0;have k20:ks.length≤20:=by omega
      have z20:(j7 x0 ps).length≤20:=by omega
      left;refine KY W8 hX hTs ab8 (eV g8 h01 k20) (ar _) (.inl (by symm)) (by symm) bb1 fun l1 J1 l1n e1 t1=>?_;left;refine KY (W8.same t1) hX hTs (eV (t1 _ _ g8) h01 k20) (ab8.same t1) (ar _) (.inl (by symm)) (by symm) bb2 fun l2 J2 l2n e2 t2=>?_;have e1:=t2 _ _ e1;have t2:=t1.trans t2;left;intro L0 hL0;exists J2,L0,(.lst [.ref l1,.ref l2]),t3,eL0,J3,hL0;have e1:=t3 _ _ e1;have e2:=t3 _ _ e2;have t3:=t2.trans t3;refine KY (W8.same t3) hX hTs (ab8.same t3) (eV (t3 _ _ g8) h01 k20) (ao8.same t3) hon.ly hon.dp bb1 fun l3 J4 l3n e3 t4=>?_;have e1:=t4 _ _ e1;have e2:=t4 _ _ e2;have eL0:=t4 _ _ eL0;have t4:=t3.trans t4;left;refine KY (W8.same t4) hX hTs (eV (t4 _ _ g8) h01 k20) (ab8.same t4) (a1 _) (.inl rfl) (by symm) bb2 fun l4 J5 l4n e4 t5=>?_;have e1:=t5 _ _ e1;have e2:=t5 _ _ e2;have e3:=t5 _ _ e3;have eL0:=t5 _ _ eL0;have t5:=t4.trans t5;left;intro p6 Zf;have t6:Same J5 (upd J5 p6 (.lst [.ref l3,.ref l4])):=au Zf;refine⟨_,t6 _ _ eL0,_,ak,(show 2+2≤sizeLine by omega),fun L hL=>?_⟩;generalize upd J5 p6 (.lst [.ref l3,.ref l4])=J6 at t6 hL ⊢;have LJ5:J5 L=none:=cg t6 hL;have LH8:H8 L=none:=cg t5 LJ5;have t7:Same J5 (upd J6 L (.lst ([.ref l1,.ref l2]++[.ref l3,.ref l4]))):=t6.trans (au hL);have eL:upd J6 L (.lst ([.ref l1,.ref l2]++[.ref l3,.ref l4])) L=some (.lst ([.ref l1,.ref l2]++[.ref l3,.ref l4])):=ak;generalize upd J6 L (.lst ([.ref l1,.ref l2]++[.ref l3,.ref l4]))=J7 at t7 eL ⊢;have u7:=t5.trans t7;refine⟨⟨_,bC.of eL⟩,KY (W8.same u7) hX hTs (eV (u7 _ _ sh8) sl1 z20) (ab8.same u7) (a1 _) (.inl rfl) (by symm) bb3 fun l5 J8 l5n e5 t8=>?_⟩;have l5L:l5≠L:=fun z=>by rw[z,eL] at l5n;cases l5n
      have eL8:=t8 _ _ eL;left;refine⟨_,eL8,(show 4<sizeLine by omega),?_⟩;have t9:Same J5 (upd J8 L (.lst ([.ref l1,.ref l2]++[.ref l3,.ref l4]++[.ref l5]))):=aZ (t7.trans t8) LJ5;have eL9:upd J8 L (.lst ([.ref l1,.ref l2]++[.ref l3,.ref l4]++[.ref l5])) L=some (.lst ([.ref l1,.ref l2]++[.ref l3,.ref l4]++[.ref l5])):=ak;have e59:upd J8 L (.lst ([.ref l1,.ref l2]++[.ref l3,.ref l4]++[.ref l5])) l5=some (.lst [.str "pointing"]):=by rw[aM l5L];exact e5
      generalize upd J8 L (.lst ([.ref l1,.ref l2]++[.ref l3,.ref l4]++[.ref l5]))=J9 at t9 eL9 e59 ⊢;have e19:=t9 _ _ e1;have e29:=t9 _ _ e2;have e39:=t9 _ _ e3;have e49:=t9 _ _ e4;have u9:=t5.trans t9;have sW:(∃xs,bC K J9 L xs):=⟨_,bC.of eL9⟩;clear t1 t2 t3 t4 t5 t6 t7 u7 t8 t9 e1 e2 e3 e4 e5 eL eL8 hL Zf eL0 hL0 l1n l2n l3n l4n l5n;intro q1 hq1 q2 hq2;refine⟨_,ak,(show 1 * 5≤sizeLine by omega),fun q3 V2=>?_⟩;have v10:Same J9 (upd (upd (upd J9 q1 (.lst [.str (Str.ofString "pointing")])) q2 (.lst [.ref q1])) q3 (.lst ([V.ref q1]++([V.ref q1]++([V.ref q1]++([V.ref q1]++[V.ref q1])))))):=((au hq1).trans (au hq2)).trans (au V2);have eq3:upd (upd (upd J9 q1 (.lst [.str (Str.ofString "pointing")])) q2 (.lst [.ref q1])) q3 (.lst ([V.ref q1]++([V.ref q1]++([V.ref q1]++([V.ref q1]++[V.ref q1]))))) q3=some (.lst ([V.ref q1]++([V.ref q1]++([V.ref q1]++([V.ref q1]++[V.ref q1]))))):=ak;have eq1:upd (upd (upd J9 q1 (.lst [.str (Str.ofString "pointing")])) q2 (.lst [.ref q1])) q3 (.lst ([V.ref q1]++([V.ref q1]++([V.ref q1]++([V.ref q1]++[V.ref q1]))))) q1=some (.lst [.str (Str.ofString "pointing")]):=bY (bY ak hq2) V2;have isW:∀{H:Hp} {r:Addr} {z:Str},H r=some (.lst [.str z])→Is K H (.list [.str z]) (.ref r):=fun e=>⟨_,_,rfl,bC.of e,⟨_,_,rfl,rfl,rfl⟩⟩;have isN:∀{H:Hp} {r:Addr},H r=some (.lst [])→Is K H (.list []) (.ref r):=fun e=>⟨_,_,rfl,bC.of e,rfl⟩;refine⟨.list [.list [.str "pointing"],.list [.str "pointing"],.list [.str "pointing"],.list [.str "pointing"],.list [.str "pointing"]],⟨L,_,rfl,bC.of (v10 _ _ eL9),⟨_,_,rfl,isW (v10 _ _ e19),_,_,rfl,isW (v10 _ _ e29),_,_,rfl,isW (v10 _ _ e39),_,_,rfl,isW (v10 _ _ e49),_,_,rfl,isW (v10 _ _ e59),rfl⟩⟩,.list [.list [.str "pointing"],.list [.str "pointing"],.list [.str "pointing"],.list [.str "pointing"],.list [.str "pointing"]],⟨q3,_,rfl,bC.of eq3,⟨_,_,rfl,isW eq1,_,_,rfl,isW eq1,_,_,rfl,isW eq1,_,_,rfl,isW eq1,_,_,rfl,isW eq1,rfl⟩⟩,by symm,by symm,by symm,false,by symm,iu.neg rfl ?_⟩;have u10:Same H8 (upd (upd (upd J9 q1 (.lst [.str (Str.ofString "pointing")])) q2 (.lst [.ref q1])) q3 (.lst [.ref q1,.ref q1,.ref q1,.ref q1,.ref q1])):=u9.trans v10;clear eq3 eq1 v10 u9 e19 e29 e39 e49 e59 eL9 sW hq1 hq2 V2;left;generalize upd (upd (upd J9 q1 (.lst [.str (Str.ofString "pointing")])) q2 (.lst [.ref q1])) q3 (.lst [.ref q1,.ref q1,.ref q1,.ref q1,.ref q1])=Ja at u10 ⊢;refine qcp (W8.same u10) hX hTs (eV (u10 _ _ sh8) sl1 z20) (eV (u10 _ _ g8) h01 k20) (ao8.same u10) hon gs go fun l6 Jb l6n e6 t6=>?_;have u6:=u10.trans t6;left;intro q4 hq4;exists Jb,q4,(.lst [.str (Str.ofString "number")]),t7,e7,Jc,hq4;have u7:=u6.trans t7;refine⟨.list [.str "number"],isW (t7 _ _ e6),.list [.str "number"],isW e7,by symm,by symm,by symm,false,by symm,iu.neg rfl ?_⟩;clear u10 u6 t7 e7 e6 t6 hq4 l6n;left;intro q5 hq5 q6 hq6 q7 hq7;have t8:Same Jc (upd (upd (upd Jc q5 (.lst [])) q6 (.lst [.str (Str.ofString "unlike")])) q7 (.lst [.ref q5,.ref q6])):=((au hq5).trans (au hq6)).trans (au hq7);have e57:upd (upd (upd Jc q5 (.lst [])) q6 (.lst [.str (Str.ofString "unlike")])) q7 (.lst [.ref q5,.ref q6]) q5=some (.lst []):=bY (bY ak hq6) hq7;have e67:upd (upd (upd Jc q5 (.lst [])) q6 (.lst [.str (Str.ofString "unlike")])) q7 (.lst [.ref q5,.ref q6]) q6=some (.lst [.str (Str.ofString "unlike")]):=bY ak hq7;have e77:upd (upd (upd Jc q5 (.lst [])) q6 (.lst [.str (Str.ofString "unlike")])) q7 (.lst [.ref q5,.ref q6]) q7=some (.lst [.ref q5,.ref q6]):=ak;generalize upd (upd (upd Jc q5 (.lst [])) q6 (.lst [.str (Str.ofString "unlike")])) q7 (.lst [.ref q5,.ref q6])=Jd at t8 e57 e67 e77 ⊢;have u8:=u7.trans t8;refine⟨t,n,l,g,xs,tv,ps,ks,rfl,G8.same u8,u8 _ _ g8,hl,h01,fun i1 Je i1n ei1 t9=>?_⟩;have u9:=u8.trans t9;left;refine⟨t,n,l,sh,xs,tv,ps,_,rfl,G8.same u9,u9 _ _ sh8,sl0,sl1,fun i2 Jf i2n ei2 ta=>?_⟩;have ua:=u9.trans ta;have tea:=t9.trans ta;have lay:∀zs:List Int,PyData.canLay0 (.list (fY zs))=true:=fun zs=>by simp[PyData.canLay0,lay_ints]
      have dep:∀zs:List Int,(PyData.list (fY zs)).depth≤64:=fun zs=>by
        have:=yr zs;simp[PyData.depth];omega
      have isI:∀{H:Hp} {r:Addr} {zs:List Int},H r=some (.lst (zs.map V.int))→Is K H (.list (fY zs)) (.ref r):=fun e=>⟨_,_,rfl,bC.of e,CQ _⟩;left;refine⟨_,isI (ta _ _ ei1),_,isI ei2,lay _,lay _,dep _,!tu xs ps ks (j7 x0 ps),?_,?_⟩
      ·rw[Bool.not_not];simp only[PyData.eqv,yt];rfl
      obtain⟨du,hdu,edu⟩:∃du:Addr,Il [V.ref q5,V.ref q6] (if tu xs ps ks (j7 x0 ps)=false then 1 else 0)=some (.ref du)∧Jf du=some (.lst ((if tu xs ps ks (j7 x0 ps) then [] else [("unlike" : Str)]).map V.str)):=by
        cases tu xs ps ks (j7 x0 ps) with
        | true=>exact⟨q5,bM (j:=0) rfl,tea _ _ e57⟩
        | false=>exact⟨q6,bM (j:=1) rfl,tea _ _ e67⟩
      have e7f:=tea _ _ e77;clear t8 e57 e67 e77 u8 ei1 t9 u9 ei2 ta tea hq5 hq6 hq7 i1n i2n u7;left;refine⟨_,.inl (bC.of e7f),_,hdu,qcq (W8.same ua) hX hTs (ua _ _ g8) (ua _ _ sh8) h01 sl1 hl sl0 fun l7 Jg l7n e7' tb=>?_⟩;have ub:=ua.trans tb;have edu:=tb _ _ edu;obtain⟨zd,hz1,hz2,hz3,hz4,hz5⟩:∃zd:PyData,Is K Jg zd (.ref l7)∧Is K Jg zd (.ref du)∧zd.canLay0=true∧zd.depth≤64∧PyData.eqv zd zd=true:=by
        cases hlk:tu xs ps ks (j7 x0 ps) with
        | true=>
          rw[hlk] at e7' edu;exact⟨.list [],isN e7',isN edu,by symm,by symm,by symm⟩
        | false=>
          rw[hlk] at e7' edu;exact⟨.list [.str "unlike"],isW e7',isW edu,by symm,by symm,by symm⟩
      left;refine⟨zd,hz1,zd,hz2,hz3,hz3,hz4,false,by rw[hz5];rfl,iu.neg rfl ?_⟩;clear ua tb edu hz1 hz2 hdu e7f e7';left;refine qcp (W8.same ub) hX hTs (eV (ub _ _ g8) h01 k20) (eV (ub _ _ g8) h01 k20) (ao8.same ub) hon go go fun l8 Jh l8n e8 tc=>?_;have uc:=ub.trans tc;left;intro q8 hq8;exists Jh,q8,(.lst [.str (Str.ofString "number")]),td,e9,Ji,hq8;have ud:=uc.trans td;refine⟨.list [.str "number"],isW (td _ _ e8),.list [.str "number"],isW e9,by symm,by symm,by symm,false,by symm,iu.neg rfl ?_⟩;have nov:∀{k:Int},1≤k→Eh xs ps (j7 x0 ps) k=false:=fun hk=>qdY hX hTs h0 x2 hk;clear ub tc uc td e8 e9 hq8 l8n l7n;left;refine KZ (W8.same ud) hX hTs (ud _ _ g8) (ud _ _ sh8) h01 sl1 hl sl0 (Int.le_refl 1) (by omega) (fun h=>by rw[nov (Int.le_refl 1),Bool.and_false] at h;cases h) fun l9 Jj l9n e9 te=>?_;rw[nov (Int.le_refl 1),Bool.and_false] at e9;have ue:=ud.trans te;left;intro q9 hq9;exists Jj,q9,(.lst [.str (Str.ofString "over")]),tf,ea,Jk,hq9;have uf:=ue.trans tf;refine⟨.list [.str "over"],isW (tf _ _ e9),.list [.str "over"],isW ea,by symm,by symm,by symm,false,by symm,iu.neg rfl ?_⟩;have Pk:=P8.keep uf;have Wk:=W8.same uf;have Gk:=G8.same uf;have gk:=uf _ _ g8;have shk:=uf _ _ sh8;have Bk:=B8.same uf;clear ud te ue tf e9 ea hq9 l9n uf;left;refine⟨p,_,rfl,Pk,by omega,by omega,fun kk Jl kk0 kk1 Pl Bl=>?_⟩;have Wl:=Wk.but Pk Bl;have Gl:=Gk.but Pk Bl np lp;have gl:=Bl _ _ gp gk;have shl:=Bl _ _ shp shk;have Bl:=Bk.trans Bl;have k1:1≤1+kk:=by omega
      clear Wk Gk gk shk Bk Pk Pl;left;refine KZ Wl hX hTs shl gl sl1 h01 sl0 hl k1 (by omega) (fun h=>by rw[nov k1,Bool.false_and] at h;cases h) fun l10 Jm qlp e10 tg=>?_;rw[nov k1,Bool.false_and] at e10;left;intro qa hqa;exists Jm,qa,(.lst [.str (Str.ofString "over")]),th,eb,Jn,hqa;have uh:=tg.trans th;refine⟨.list [.str "over"],isW (th _ _ e10),.list [.str "over"],isW eb,by symm,by symm,by symm,false,by symm,iu.neg rfl ?_⟩;have Wn:=Wl.same uh;have gn:=uh _ _ gl;have Bn:=Bl.same uh;clear Wl Gl gl shl Bl tg th e10 eb uh hqa qlp;left;have ovk:∀k:Int,Eh xs ps ks k=decide (k≤(le:Int)):=fun k=>by
        rw[Bool.eq_iff_iff,decide_eq_true_eq,Xu hX hTs hl];obtain⟨c,hc,hc2⟩:=qln;exact⟨fun h=>by have:=h c hc;omega,fun h c hc=>by have:=qlo c hc;omega⟩
      refine frR (fun j σ H'=>(∃o12,σ=[some (.ref sl),some (.int i),some (.ref p),some (.ref t),some (.ref g),some (.ref o),some bv,some ov,some (.ref sh),some (.int le),some (.ref L),some (.ref du),o12])∧Same Jn H') ⟨⟨_,rfl⟩,Same.refl _⟩ ?_ ?_
      · rintro j σ Jo hj ⟨⟨qlq,rfl⟩,si⟩;left;refine KZ (Wn.same si) hX hTs (si _ _ gn) (si _ _ gn) h01 h01 hl hl (by omega) (by omega) (fun _=>rfl) fun l11 Jp qmb e11 tk=>?_;rw[Bool.and_self,ovk] at e11;left;intro q5 hq5 q6 hq6 q7 hq7;have t8:Same Jp (upd (upd (upd Jp q5 (.lst [])) q6 (.lst [.str (Str.ofString "over")])) q7 (.lst [.ref q5,.ref q6])):=((au hq5).trans (au hq6)).trans (au hq7);have e57:upd (upd (upd Jp q5 (.lst [])) q6 (.lst [.str (Str.ofString "over")])) q7 (.lst [.ref q5,.ref q6]) q5=some (.lst []):=bY (bY ak hq6) hq7;have e67:upd (upd (upd Jp q5 (.lst [])) q6 (.lst [.str (Str.ofString "over")])) q7 (.lst [.ref q5,.ref q6]) q6=some (.lst [.str (Str.ofString "over")]):=bY ak hq7;have e77:upd (upd (upd Jp q5 (.lst [])) q6 (.lst [.str (Str.ofString "over")])) q7 (.lst [.ref q5,.ref q6]) q7=some (.lst [.ref q5,.ref q6]):=ak;have qcr:=t8 _ _ e11;generalize upd (upd (upd Jp q5 (.lst [])) q6 (.lst [.str (Str.ofString "over")])) q7 (.lst [.ref q5,.ref q6])=Jq at t8 e57 e67 e77 qcr ⊢;refine⟨_,.inl (bC.of e77),?_⟩
        by_cases hk:(1:Int)+j≤le
        · rw[decide_eq_true hk] at qcr;have hk2:¬(le:Int)<1+j:=by omega
          rw[if_neg hk2];refine⟨_,bM (j:=0) rfl,.list [],isN qcr,.list [],isN e57,by symm,by symm,by symm,false,by symm,iu.neg rfl ?_⟩;left;exact si.trans (tk.trans t8)
        · rw[decide_eq_false hk] at qcr;have hk2:(le:Int)<1+j:=by omega
          rw[if_pos hk2];refine⟨_,bM (j:=1) rfl,.list [.str "over"],isW qcr,.list [.str "over"],isW e67,by symm,by symm,by symm,false,by symm,iu.neg rfl ?_⟩;left;exact si.trans (tk.trans t8)
      ·rintro σ Jo ⟨⟨qlq,rfl⟩,si⟩;left;exact fun b u e=>si _ _ (Bn b u (aQ e hpH) e)
    ·rintro σ H1 ⟨⟨o1,o2,o3,o4,o5,o6,o7,o8,o9,o10,o11,o12,rfl⟩,s1⟩;left;exact q _
end K83
namespace K83
open PySem L2
theorem V4 {α:Type} {n:Nat} (l:List α) (h:l.length=n+1):∃a r,l=a::r:=by
  cases l with
  | nil=>cases h
  | cons a r=>exact⟨a,r,rfl⟩
theorem lu {fd:FuncData} {ps:List Str} (h:∀v0,bindArgs fd {pos:=[v0]}=pure (ps.zip [v0])):∀us:List Value,us.length=1→bindArgs fd {pos:=us}=pure (ps.zip us):=by
  intro us hl;obtain⟨v0,us,rfl⟩:=V4 us hl;replace hl:=Nat.succ.inj hl;obtain rfl:=List.eq_nil_of_length_eq_zero hl;exact h v0
theorem d9 {fd:FuncData} {ps:List Str} (h:∀v0 v1,bindArgs fd {pos:=[v0,v1]}=pure (ps.zip [v0,v1])):∀us:List Value,us.length=2→bindArgs fd {pos:=us}=pure (ps.zip us):=by
  intro us hl;obtain⟨v0,us,rfl⟩:=V4 us hl;replace hl:=Nat.succ.inj hl;obtain⟨v1,us,rfl⟩:=V4 us hl;replace hl:=Nat.succ.inj hl;obtain rfl:=List.eq_nil_of_length_eq_zero hl;exact h v0 v1
theorem K1 {fd:FuncData} {ps:List Str} (h:∀v0 v1 v2,bindArgs fd {pos:=[v0,v1,v2]}=pure (ps.zip [v0,v1,v2])):∀us:List Value,us.length=3→bindArgs fd {pos:=us}=pure (ps.zip us):=by
  intro us hl;obtain⟨v0,us,rfl⟩:=V4 us hl;replace hl:=Nat.succ.inj hl;obtain⟨v1,us,rfl⟩:=V4 us hl;replace hl:=Nat.succ.inj hl;obtain⟨v2,us,rfl⟩:=V4 us hl;replace hl:=Nat.succ.inj hl;obtain rfl:=List.eq_nil_of_length_eq_zero hl;exact h v0 v1 v2
theorem V5 {fd:FuncData} {ps:List Str} (h:∀v0 v1 v2 v3,bindArgs fd {pos:=[v0,v1,v2,v3]}=pure (ps.zip [v0,v1,v2,v3])):∀us:List Value,us.length=4→bindArgs fd {pos:=us}=pure (ps.zip us):=by
  intro us hl;obtain⟨v0,us,rfl⟩:=V4 us hl;replace hl:=Nat.succ.inj hl;obtain⟨v1,us,rfl⟩:=V4 us hl;replace hl:=Nat.succ.inj hl;obtain⟨v2,us,rfl⟩:=V4 us hl;replace hl:=Nat.succ.inj hl;obtain⟨v3,us,rfl⟩:=V4 us hl;replace hl:=Nat.succ.inj hl;obtain rfl:=List.eq_nil_of_length_eq_zero hl;exact h v0 v1 v2 v3
theorem qgz {fd:FuncData} {ps:List Str} (h:∀v0 v1 v2 v3 v4,bindArgs fd {pos:=[v0,v1,v2,v3,v4]}=pure (ps.zip [v0,v1,v2,v3,v4])):∀us:List Value,us.length=5→bindArgs fd {pos:=us}=pure (ps.zip us):=by
  intro us hl;obtain⟨v0,us,rfl⟩:=V4 us hl;replace hl:=Nat.succ.inj hl;obtain⟨v1,us,rfl⟩:=V4 us hl;replace hl:=Nat.succ.inj hl;obtain⟨v2,us,rfl⟩:=V4 us hl;replace hl:=Nat.succ.inj hl;obtain⟨v3,us,rfl⟩:=V4 us hl;replace hl:=Nat.succ.inj hl;obtain⟨v4,us,rfl⟩:=V4 us hl;replace hl:=Nat.succ.inj hl;obtain rfl:=List.eq_nil_of_length_eq_zero hl;exact h v0 v1 v2 v3 v4
theorem all_mk {l:W.OpenLaw} {w:World} {K:W.Frag} {h:Heap} {mg:Str→Option Value} {fa bO jC jc lR fJ pH jd gK dZ gM gO gB eE pI gC je eF pJ eG fK lU eN b_ mU dN pK j6 dO fL cX Gm cj dU cY Gn yL uw ux Gp pL uy Gq fM kY lV eO gD f_shut Gs bB Dr Dt vI aB aG aK aO bJ bW bD bF:Addr} (X:K.In h) (G:h.Ns mainGlobals mg) (hfa:mg "law" = some (.ref fa))
    {fd1 fd2 fd3 fd4 fd5 fd6 fd7 fd8 fd9 qim qin qio qip qiq qir qis qit qiu qiv qiw qix qiy qiz qiA qiB qiC qiD qiE qiF qiG qiH qiI qiJ qiK qiL qiM qiN qiO qiP qiQ qiR qiS qiT qiU qiV qiW qiX:FuncData}
    {qlr qiY:Option Addr} {qls:Array (Option Value)} {qlt qiZ qi0 qi1 qgA qi2:Value} {BL qI tG wX uY:Tok}
    (V6:W.nsIn K mainGlobals "Web" = some (some (.ref bO)))
    (a1:W.nsIn K mainGlobals "is_list" = some (some (.ref jC)))
    (F1:dG K "is_list" "is_list" EY jC fd1)
    (a2:W.nsIn K mainGlobals "is_whole" = some (some (.ref jc)))
    (F2:dG K "is_whole" "is_whole" Bh jc fd2)
    (a3:W.nsIn K mainGlobals "is_name" = some (some (.ref lR)))
    (F3:dG K "is_name" "is_name" zU lR fd3)
    (a4:W.nsIn K mainGlobals "are_points" = some (some (.ref fJ)))
    (F4:dG K "are_points" "are_points" qZ fJ fd4)
    (a5:W.nsIn K mainGlobals "is_tie" = some (some (.ref pH)))
    (F5:dG K "is_tie" "is_tie" Dh pH fd5)
    (a6:W.nsIn K mainGlobals "are_ties" = some (some (.ref jd)))
    (F6:dG K "are_ties" "are_ties" wC jd fd6)
    (a7:W.findIn K (.ref bO) "__init__" = some (some (.ref gK))) (i7:W.isFn K (.ref gK)=true)
    (F7:dG K "__init__" "Web.__init__" wD gK fd7)
    (a8:W.findIn K (.ref bO) "points" = some (some (.ref dZ))) (i8:W.isFn K (.ref dZ)=true)
    (F8:dG K "points" "Web.points" wF dZ fd8)
    (a9:W.findIn K (.ref bO) "ties" = some (some (.ref gM))) (i9:W.isFn K (.ref gM)=true)
    (F9:dG K "ties" "Web.ties" Bj gM fd9)
    (a10:W.findIn K (.ref bO) "many" = some (some (.ref gO))) (i10:W.isFn K (.ref gO)=true)
    (F10:dG K "many" "Web.many" Bm gO qim)
    (a11:W.nsIn K mainGlobals "is_number" = some (some (.ref gB)))
    (F11:dG K "is_number" "is_number" yH gB qin)
    (a12:W.nsIn K mainGlobals "are_numbers" = some (some (.ref eE)))
    (F12:dG K "are_numbers" "are_numbers" oU eE qio)
    (a13:W.nsIn K mainGlobals "lot_of" = some (some (.ref pI)))
    (F13:dG K "lot_of" "lot_of" yI pI qip)
    (a14:W.nsIn K mainGlobals "all_parts" = some (some (.ref gC)))
    (F14:dG K "all_parts" "all_parts" tZ gC qiq)
    (a15:W.nsIn K mainGlobals "all_lots" = some (some (.ref je)))
    (F15:dG K "all_lots" "all_lots" Bo je qir)
    (a16:W.nsIn K mainGlobals "ties_inside" = some (some (.ref eF)))
    (F16:dG K "ties_inside" "ties_inside" oV eF qis)
    (a17:W.nsIn K mainGlobals "within" = some (some (.ref pJ)))
    (F17:dG K "within" "within" JH pJ qit)
    (a18:W.nsIn K mainGlobals "steps_along" = some (some (.ref eG)))
    (F18:dG K "steps_along" "steps_along" uO eG qiu)
    (a19:W.nsIn K mainGlobals "ways_along" = some (some (.ref fK)))
    (F19:dG K "ways_along" "ways_along" wG fK qiv)
    (a20:W.nsIn K mainGlobals "is_lead" = some (some (.ref lU)))
    (F20:dG K "is_lead" "is_lead" E_ lU qiw)
    (a21:W.nsIn K mainGlobals "is_pointing" = some (some (.ref eN)))
    (F21:dG K "is_pointing" "is_pointing" oW eN qix)
    (a22:W.nsIn K mainGlobals "sure_of_pointing" = some (some (.ref b_)))
    (F22:dG K "sure_of_pointing" "sure_of_pointing" k_ b_ qiy)
    (a23:W.nsIn K mainGlobals "arrows" = some (some (.ref mU)))
    (F23:dG K "arrows" "arrows" JK mU qiz)
    (a24:W.nsIn K mainGlobals "unlike_steps" = some (some (.ref dN)))
    (F24:dG K "unlike_steps" "unlike_steps" mG dN qiA)
    (a25:W.nsIn K mainGlobals "turned" = some (some (.ref pK)))
    (F25:dG K "turned" "turned" Di pK qiB)
    (a26:W.nsIn K mainGlobals "ins_of" = some (some (.ref j6)))
    (F26:dG K "ins_of" "ins_of" sE j6 qiC)
    (a27:W.nsIn K mainGlobals "weighed_lots" = some (some (.ref dO)))
    (F27:dG K "weighed_lots" "weighed_lots" mH dO qiD)
    (a28:W.nsIn K mainGlobals "is_over_by" = some (some (.ref fL)))
    (F28:dG K "is_over_by" "is_over_by" q_ fL qiE)
    (a29:W.nsIn K mainGlobals "sure_of_times" = some (some (.ref cX)))
    (F29:dG K "sure_of_times" "sure_of_times" qC cX qiF)
    (a30:W.nsIn K mainGlobals "way" = some (some (.ref Gm)))
    (F30:dG K "way" "way" qer Gm qiG)
    (a31:W.nsIn K mainGlobals "rings_between" = some (some (.ref cj)))
    (F31:dG K "rings_between" "rings_between" kE cj qiH)
    (a32:W.nsIn K mainGlobals "ends_to_turn" = some (some (.ref dU)))
    (F32:dG K "ends_to_turn" "ends_to_turn" yJ dU qiI)
    (a33:W.nsIn K mainGlobals "steps_between" = some (some (.ref cY)))
    (F33:dG K "steps_between" "steps_between" kI cY qiJ)
    (a34:W.nsIn K mainGlobals "_law_pot" = some (some (.ref Gn)))
    (F34:dG K "_law_pot" "_law_pot" qbO Gn qiK)
    (a35:W.nsIn K mainGlobals "_law_take" = some (some (.ref yL)))
    (F35:dG K "_law_take" "_law_take" Vp yL qiL)
    (a36:W.nsIn K mainGlobals "_law_names" = some (some (.ref uw)))
    (F36:dG K "_law_names" "_law_names" Ql uw qiM)
    (a37:W.nsIn K mainGlobals "_law_mixed" = some (some (.ref ux)))
    (F37:dG K "_law_mixed" "_law_mixed" Qm ux qiN)
    (a38:W.nsIn K mainGlobals "_law_tie" = some (some (.ref Gp)))
    (F38:dG K "_law_tie" "_law_tie" qbP Gp qiO)
    (a39:W.nsIn K mainGlobals "_law_rounds" = some (some (.ref pL)))
    (F39:dG K "_law_rounds" "_law_rounds" vG pL qiP)
    (a40:W.nsIn K mainGlobals "_law_leads" = some (some (.ref uy)))
    (F40:dG K "_law_leads" "_law_leads" Hy uy qiQ)
    (a41:W.nsIn K mainGlobals "_law_ins" = some (some (.ref Gq)))
    (F41:dG K "_law_ins" "_law_ins" Sg Gq qiR)
    (a42:W.nsIn K mainGlobals "_law_least_into" = some (some (.ref fM)))
    (F42:dG K "_law_least_into" "_law_least_into" mJ fM qiS)
    (a43:W.nsIn K mainGlobals "_law_kinds" = some (some (.ref kY)))
    (F43:dG K "_law_kinds" "_law_kinds" wH kY qiT)
    (a44:W.nsIn K mainGlobals "_law_refusal" = some (some (.ref lV)))
    (F44:dG K "_law_refusal" "_law_refusal" Fb lV qiU)
    (a45:W.nsIn K mainGlobals "_law_no_pointing" = some (some (.ref eO)))
    (F45:dG K "_law_no_pointing" "_law_no_pointing" oX eO qiV)
    (a46:W.nsIn K mainGlobals "_law_no_number" = some (some (.ref gD)))
    (F46:dG K "_law_no_number" "_law_no_number" yK gD qiW)
    (a47:W.nsIn K mainGlobals "_law_shut" = some (some (.ref f_shut)))
    (F47:dG K "_law_shut" "_law_shut" Qn f_shut qiX)
    (a48:W.nsIn K mainGlobals "law" = some (some (.ref Gs)))
    (l48:K.lookup Gs=some ⟨qlt,qlr,.func (W.fnOf "law" "law" (zM Dj) (j_ Dj) (aD Dj) .none qiZ qi0 qi1 qiY qgA qi2),qls⟩) (c48:W.codeIn K qgA "law" = true) (k48:W.keepIn K (.ref Gs)=true)
    (nY:W.nsIn K mainGlobals "LETTERS" = some (some (.str "abcdefghijklmnopqrstuvwxyz" BL)))
    (eZ:W.nsIn K mainGlobals "MOST_LETTERS" = some (some (.int 4 qI)))
    (fQ:W.nsIn K mainGlobals "MOST_POINTS" = some (some (.int 9 tG)))
    (jf:W.nsIn K mainGlobals "MOST_TIES" = some (some (.int 20 wX)))
    (gP:W.nsIn K mainGlobals "MOST_TIMES" = some (some (.int 9 uY)))
    (V7:W.plainGet K bO Str.empty=true) (V8:W.hasDictIn K bO=true) (V9:W.plainOver K bO=true) (V_:W.findIn K (.ref bO) "__setattr__" = some (some (.builtin "object.__setattr__"))) (Wa:W.makesIn K bO=true) (Wb:W.keepIn K (.ref bO)=true)
    (K3:W.findIn K (.ref bO) "names" = some none)
    (K4:W.findIn K (.ref bO) "pairs" = some none)
    (qcs:W.nsIn K mainGlobals "len" = some none)
    (qct:W.nsIn K mainGlobals "max" = some none)
    (qcu:W.nsIn K mainGlobals "min" = some none)
    (qcv:W.nsIn K mainGlobals "abs" = some none)
    (K5:W.nsIn K mainGlobals "divmod" = some none)
    (Q5:W.nsIn K mainGlobals "range" = some none)
    (qcw:W.nsIn K mainGlobals "zip" = some none)
    (Wc:W.nsIn K mainGlobals "list" = some none)
    (Q6:W.nsIn K mainGlobals "tuple" = some none)
    (qcx:W.nsIn K mainGlobals "int" = some none)
    (qcy:W.nsIn K mainGlobals "str" = some none)
    (qcz:W.nsIn K mainGlobals "set" = some none)
    (qcA:W.nsIn K mainGlobals "all" = some none)
    (wY:W.nsIn K mainGlobals "isinstance" = some none)
    (zy:W.nsIn K mainGlobals "enumerate" = some none)
    (qcB:W.nsIn K mainGlobals "any" = some none)
    (Wd:W.nsIn K mainGlobals "dict" = some none)
    (K6:W.nsIn K mainGlobals "sorted" = some none)
    (Wf:W.nsIn K mainGlobals "repr" = some none)
    (Wg:W.nsIn K mainGlobals "bool" = some none)
    (qcC:W.nsIn K mainGlobals "sum" = some none)
    (uZ:W.nsIn K mainGlobals "PointError" = some (some (.ref bB)))
    (K7:W.nsIn K mainGlobals "NoWeb" = some (some (.ref Dr)))
    (K8:W.nsIn K mainGlobals "NoLot" = some (some (.ref Dt)))
    (BP:W.nsIn K mainGlobals "NoPoint" = some (some (.ref vI)))
    (u0:W.nsIn K mainGlobals "NoPointing" = some (some (.ref aB)))
    (zA:W.nsIn K mainGlobals "NoNumber" = some (some (.ref aG)))
    (BW:W.nsIn K mainGlobals "NotOver" = some (some (.ref aK)))
    (Fx:W.nsIn K mainGlobals "Unlike" = some (some (.ref aO)))
    (wZ:W.nsIn K mainGlobals "NoNumbers" = some (some (.ref bJ)))
    (BX:W.nsIn K mainGlobals "TooMuch" = some (some (.ref bW)))
    (Fy:W.nsIn K mainGlobals "Parted" = some (some (.ref bD)))
    (Fz:W.nsIn K mainGlobals "Barred" = some (some (.ref bF)))
    (gU:W.excIn K aB Al "ValueError.__new__" = true)
    (lq:W.excIn K aG Al "ValueError.__new__" = true)
    (ou:W.excIn K aK Al "ValueError.__new__" = true)
    (pQ:W.excIn K aO Al "ValueError.__new__" = true)
    (jH:W.excIn K bB Al "ValueError.__new__" = true)
    (Oi:W.specialIn K (.builtin "object.__class__") "__get__" = some (some (.builtin "getset_descriptor.__get__"))) (Oj:W.takesIn K (.builtin "object.__class__")=some true)
    (u5:W.findIn K (.ref aB) "__getattribute__" = some (some (.builtin "BaseException.__getattribute__"))) (u_:W.findIn K (.ref aB) "__getattr__" = some none) (vd:W.findIn K (.ref aB) "__class__" = some (some (.builtin "object.__class__"))) (vf:W.mroIn K aB (.type "object")=some true) (vg:W.mroIn K aB (.type "BaseException")=some true) (vh:W.isClsIn K aB=true)
    (fV:W.mroIn K aB (.ref bB)=some true) (fW:(aB == bB)=false)
    (gW:(aB == aG)=false) (gY:W.subIn K (.ref aB) (.ref aG)=some false)
    (iD:(aB == aK)=false) (iG:W.subIn K (.ref aB) (.ref aK)=some false)
    (jk:(aB == aO)=false) (jl:W.subIn K (.ref aB) (.ref aO)=some false)
    (gb:(aB == bJ)=false) (gj:W.subIn K (.ref aB) (.ref bJ)=some false)
    (iH:(aB == bW)=false) (iI:W.subIn K (.ref aB) (.ref bW)=some false)
    (jm:(aB == bD)=false) (jo:W.subIn K (.ref aB) (.ref bD)=some false)
    (jq:(aB == bF)=false) (jr:W.subIn K (.ref aB) (.ref bF)=some false)
    (oE:W.subIn K (.ref aB) (.type "ValueError")=some true)
    (zB:W.findIn K (.ref aG) "__getattribute__" = some (some (.builtin "BaseException.__getattribute__"))) (zE:W.findIn K (.ref aG) "__getattr__" = some none) (zF:W.findIn K (.ref aG) "__class__" = some (some (.builtin "object.__class__"))) (zG:W.mroIn K aG (.type "object")=some true) (zH:W.mroIn K aG (.type "BaseException")=some true) (zJ:W.isClsIn K aG=true)
    (gZ:W.mroIn K aG (.ref bB)=some true) (g_:(aG == bB)=false)
    (h_:(aG == aB)=false) (ig:W.subIn K (.ref aG) (.ref aB)=some false)
    (jO:(aG == aK)=false) (jP:W.subIn K (.ref aG) (.ref aK)=some false)
    (lA:(aG == aO)=false) (lB:W.subIn K (.ref aG) (.ref aO)=some false)
    (iJ:(aG == bJ)=false) (iK:W.subIn K (.ref aG) (.ref bJ)=some false)
    (jQ:(aG == bW)=false) (jR:W.subIn K (.ref aG) (.ref bW)=some false)
    (lC:(aG == bD)=false) (lE:W.subIn K (.ref aG) (.ref bD)=some false)
    (lF:(aG == bF)=false) (lG:W.subIn K (.ref aG) (.ref bF)=some false)
    (tH:W.subIn K (.ref aG) (.type "ValueError")=some true)
    (BZ:W.findIn K (.ref aK) "__getattribute__" = some (some (.builtin "BaseException.__getattribute__"))) (B_:W.findIn K (.ref aK) "__getattr__" = some none) (Ca:W.findIn K (.ref aK) "__class__" = some (some (.builtin "object.__class__"))) (Cd:W.mroIn K aK (.type "object")=some true) (Ce:W.mroIn K aK (.type "BaseException")=some true) (Cg:W.isClsIn K aK=true)
    (iM:W.mroIn K aK (.ref bB)=some true) (iQ:(aK == bB)=false)
    (iR:(aK == aB)=false) (iT:W.subIn K (.ref aK) (.ref aB)=some false)
    (jT:(aK == aG)=false) (jU:W.subIn K (.ref aK) (.ref aG)=some false)
    (m6:(aK == aO)=false) (m7:W.subIn K (.ref aK) (.ref aO)=some false)
    (jt:(aK == bJ)=false) (ju:W.subIn K (.ref aK) (.ref bJ)=some false)
    (lH:(aK == bW)=false) (lJ:W.subIn K (.ref aK) (.ref bW)=some false)
    (m8:(aK == bD)=false) (m9:W.subIn K (.ref aK) (.ref bD)=some false)
    (m_:(aK == bF)=false) (ni:W.subIn K (.ref aK) (.ref bF)=some false)
    (vm:W.subIn K (.ref aK) (.type "ValueError")=some true)
    (FJ:W.findIn K (.ref aO) "__getattribute__" = some (some (.builtin "BaseException.__getattribute__"))) (FN:W.findIn K (.ref aO) "__getattr__" = some none) (FP:W.findIn K (.ref aO) "__class__" = some (some (.builtin "object.__class__"))) (FQ:W.mroIn K aO (.type "object")=some true) (FT:W.mroIn K aO (.type "BaseException")=some true) (FW:W.isClsIn K aO=true)
    (jw:W.mroIn K aO (.ref bB)=some true) (jx:(aO == bB)=false)
    (jy:(aO == aB)=false) (jz:W.subIn K (.ref aO) (.ref aB)=some false)
    (lK:(aO == aG)=false) (lM:W.subIn K (.ref aO) (.ref aG)=some false)
    (nj:(aO == aK)=false) (nq:W.subIn K (.ref aO) (.ref aK)=some false)
    (jV:(aO == bJ)=false) (jW:W.subIn K (.ref aO) (.ref bJ)=some false)
    (nu:(aO == bW)=false) (nA:W.subIn K (.ref aO) (.ref bW)=some false)
    (oF:(aO == bD)=false) (oG:W.subIn K (.ref aO) (.ref bD)=some false)
    (oH:(aO == bF)=false) (oJ:W.subIn K (.ref aO) (.ref bF)=some false)
    (w6:W.subIn K (.ref aO) (.type "ValueError")=some true)
    (j8:W.isClsIn K aB=true) (j9:W.typeIn K (.ref aB)=some (.type "type"))
    (qj:W.isClsIn K aG=true) (ql:W.typeIn K (.ref aG)=some (.type "type"))
    (tK:W.isClsIn K aK=true) (tM:W.typeIn K (.ref aK)=some (.type "type"))
    (vR:W.isClsIn K aO=true) (vU:W.typeIn K (.ref aO)=some (.type "type"))
    (jM:W.isClsIn K bJ=true) (jN:W.typeIn K (.ref bJ)=some (.type "type"))
    (oK:W.isClsIn K bW=true) (oM:W.typeIn K (.ref bW)=some (.type "type"))
    (rN:W.isClsIn K bD=true) (rO:W.typeIn K (.ref bD)=some (.type "type"))
    (rP:W.isClsIn K bF=true) (rQ:W.typeIn K (.ref bF)=some (.type "type"))
    (d8:W.nsIn K mainGlobals "ValueError" = some none)
    : ∃fd:FuncData,(∀(s:Shared) (v:Value),BindsTo s fd ⟨[v],[]⟩ [("_law_script",v)])∧∀base:Heap,K.In base→base.Ns mainGlobals mg→bV l.prog w K mg base mj 11 fa fd ["_law_script"] (Q0 K):=by
  have e:=hfa.symm.trans (W.mg_of X G a48);cases e;have b1:=F1.binds (ps:=["thing"]) fun _ _ _ _ _ _=>lu fun _=>rfl;have b2:=F2.binds (ps:=["thing"]) fun _ _ _ _ _ _=>lu fun _=>rfl;have b3:=F3.binds (ps:=["thing"]) fun _ _ _ _ _ _=>lu fun _=>rfl;have b4:=F4.binds (ps:=["thing"]) fun _ _ _ _ _ _=>lu fun _=>rfl;have b5:=F5.binds (ps:=["thing", "points"]) fun _ _ _ _ _ _=>d9 fun _ _=>rfl;have b6:=F6.binds (ps:=["thing", "points"]) fun _ _ _ _ _ _=>d9 fun _ _=>rfl;have b7:=F7.binds (ps:=["self", "points", "ties"]) fun _ _ _ _ _ _=>K1 fun _ _ _=>rfl;have b8:=F8.binds (ps:=["self"]) fun _ _ _ _ _ _=>lu fun _=>rfl;have b9:=F9.binds (ps:=["self"]) fun _ _ _ _ _ _=>lu fun _=>rfl;have b10:=F10.binds (ps:=["self"]) fun _ _ _ _ _ _=>lu fun _=>rfl;have b11:=F11.binds (ps:=["web", "thing"]) fun _ _ _ _ _ _=>d9 fun _ _=>rfl;have b12:=F12.binds (ps:=["web", "thing"]) fun _ _ _ _ _ _=>d9 fun _ _=>rfl;have b13:=F13.binds (ps:=["web", "points"]) fun _ _ _ _ _ _=>d9 fun _ _=>rfl;have b14:=F14.binds (ps:=["points"]) fun _ _ _ _ _ _=>lu fun _=>rfl;have b15:=F15.binds (ps:=["web"]) fun _ _ _ _ _ _=>lu fun _=>rfl;have b16:=F16.binds (ps:=["web", "part"]) fun _ _ _ _ _ _=>d9 fun _ _=>rfl;have b17:=F17.binds (ps:=["web", "lot"]) fun _ _ _ _ _ _=>d9 fun _ _=>rfl;have b18:=F18.binds (ps:=["web", "fixed"]) fun _ _ _ _ _ _=>d9 fun _ _=>rfl;have b19:=F19.binds (ps:=["start", "steps"]) fun _ _ _ _ _ _=>d9 fun _ _=>rfl;have b20:=F20.binds (ps:=["thing"]) fun _ _ _ _ _ _=>lu fun _=>rfl;have b21:=F21.binds (ps:=["web", "thing"]) fun _ _ _ _ _ _=>d9 fun _ _=>rfl;have b22:=F22.binds (ps:=["web", "thing"]) fun _ _ _ _ _ _=>d9 fun _ _=>rfl;have b23:=F23.binds (ps:=["web", "pointing"]) fun _ _ _ _ _ _=>d9 fun _ _=>rfl;have b24:=F24.binds (ps:=["web", "one", "other"]) fun _ _ _ _ _ _=>K1 fun _ _ _=>rfl;have b25:=F25.binds (ps:=["web", "pointing", "numbers"]) fun _ _ _ _ _ _=>K1 fun _ _ _=>rfl;have b26:=F26.binds (ps:=["web", "pointing"]) fun _ _ _ _ _ _=>d9 fun _ _=>rfl;have b27:=F27.binds (ps:=["web"]) fun _ _ _ _ _ _=>lu fun _=>rfl;have b28:=F28.binds (ps:=["weighed", "ins", "k"]) fun _ _ _ _ _ _=>K1 fun _ _ _=>rfl;have b29:=F29.binds (ps:=["thing", "least"]) fun _ _ _ _ _ _=>d9 fun _ _=>rfl;have b30:=F30.binds (ps:=["web", "pointing", "a", "b"]) fun _ _ _ _ _ _=>V5 fun _ _ _ _=>rfl;have b31:=F31.binds (ps:=["web", "one", "other"]) fun _ _ _ _ _ _=>K1 fun _ _ _=>rfl;have b32:=F32.binds (ps:=["web", "ins", "goal", "weighed", "k"]) fun _ _ _ _ _ _=>qgz fun _ _ _ _ _=>rfl;have b33:=F33.binds (ps:=["web", "one", "other", "k"]) fun _ _ _ _ _ _=>V5 fun _ _ _ _=>rfl;have b34:=F34.binds (ps:=["_law_script", "_law_k"]) fun _ _ _ _ _ _=>d9 fun _ _=>rfl;have b35:=F35.binds (ps:=["_law_pot_here", "_law_many"]) fun _ _ _ _ _ _=>d9 fun _ _=>rfl;have b36:=F36.binds (ps:=["_law_pot_here", "_law_many"]) fun _ _ _ _ _ _=>d9 fun _ _=>rfl;have b37:=F37.binds (ps:=["_law_pot_here", "_law_things"]) fun _ _ _ _ _ _=>d9 fun _ _=>rfl;have b38:=F38.binds (ps:=["_law_pot_here", "_law_names_here"]) fun _ _ _ _ _ _=>d9 fun _ _=>rfl;have b39:=F39.binds (ps:=["_law_pot_here", "_law_times"]) fun _ _ _ _ _ _=>d9 fun _ _=>rfl;have b40:=F40.binds (ps:=["_law_web", "_law_pointing"]) fun _ _ _ _ _ _=>d9 fun _ _=>rfl;have b41:=F41.binds (ps:=["_law_web", "_law_pointing"]) fun _ _ _ _ _ _=>d9 fun _ _=>rfl;have b42:=F42.binds (ps:=["_law_web", "_law_pointing"]) fun _ _ _ _ _ _=>d9 fun _ _=>rfl;have b43:=F43.binds (ps:=["_law_e"]) fun _ _ _ _ _ _=>lu fun _=>rfl;have b44:=F44.binds (ps:=["_law_web", "_law_one", "_law_other", "_law_k"]) fun _ _ _ _ _ _=>V5 fun _ _ _ _=>rfl;have b45:=F45.binds (ps:=["_law_pot_here", "_law_one"]) fun _ _ _ _ _ _=>d9 fun _ _=>rfl;have b46:=F46.binds (ps:=["_law_pot_here"]) fun _ _ _ _ _ _=>lu fun _=>rfl;have b47:=F47.binds (ps:=["_law_web"]) fun _ _ _ _ _ _=>lu fun _=>rfl;have F48:=qap (st:=Dj) l48 c48 k48;have b48:=F48.binds (ps:=["_law_script"]) fun _ _ _ _ _ _=>lu fun _=>rfl;have T:Txt K mg {jC:=jC,sH:=fd1,jc:=jc,t_:=fd2,lR:=lR,wI:=fd3,fJ:=fJ,oY:=fd4,pH:=pH,zW:=fd5,jd:=jd,ug:=fd6,gK:=gK,um:=fd7,dZ:=dZ,oZ:=fd8,gM:=gM,uo:=fd9,gO:=gO,uq:=qim,gB:=gB,rA:=qin,eE:=eE,mL:=qio,pI:=pI,zX:=qip,gC:=gC,rB:=qiq,je:=je,ur:=qir,eF:=eF,mO:=qis,pJ:=pJ,zY:=qit,eG:=eG,mQ:=qiu,fK:=fK,o_:=qiv,lU:=lU,wJ:=qiw,eN:=eN,mR:=qix,b_:=b_,dY:=qiy,mU:=mU,vH:=qiz,dN:=dN,kJ:=qiA,pK:=pK,zZ:=qiB,j6:=j6,rH:=qiC,dO:=dO,kO:=qiD,fL:=fL,pq:=qiE,cX:=cX,jD:=qiF,Gm:=Gm,Qp:=qiG,cj:=cj,dB:=qiH,dU:=dU,kW:=qiI,cY:=cY,jE:=qiJ,Gn:=Gn,Qq:=qiK,yL:=yL,Hz:=qiL,uw:=uw,Dl:=qiM,ux:=ux,Dm:=qiN,Gp:=Gp,Qs:=qiO,pL:=pL,z6:=qiP,uy:=uy,Dq:=qiQ,Gq:=Gq,Qt:=qiR,fM:=fM,pA:=qiS,kY:=kY,pO:=qiT,lV:=lV,wK:=qiU,eO:=eO,mV:=qiV,gD:=gD,rC:=qiW,f_shut:=f_shut,HB:=qiX,Gs:=fa,Qu:=W.fnOf "law" "law" (zM Dj) (j_ Dj) (aD Dj) .none qiZ qi0 qi1 qiY qgA qi2,nY:=.str "abcdefghijklmnopqrstuvwxyz" BL,eZ:=.int 4 qI,fQ:=.int 9 tG,jf:=.int 20 wX,gP:=.int 9 uY,bO:=bO,bB:=bB,Dr:=Dr,Dt:=Dt,vI:=vI,aB:=aB,aG:=aG,aK:=aK,aO:=aO,bJ:=bJ,bW:=bW,bD:=bD,bF:=bF}:={jF:=F1,nZ:=b1,n_:=W.mg_of X G a1,sI:=F2,wL:=b2,wM:=W.mg_of X G a2,vJ:=F3,z7:=b3,z8:=W.mg_of X G a3,wN:=F4,Du:=b4,Dv:=W.mg_of X G a4,JT:=F5,SJ:=b5,SM:=W.mg_of X G a5,Bp:=F6,JV:=b6,JW:=W.mg_of X G a6,JX:=F7,JZ:=b7,Dw:=F8,gQ:=b8,gR:=⟨a8,i8,F8.kp⟩,J0:=F9,Bq:=b9,Bt:=⟨a9,i9,F9.kp⟩,J_:=F10,Br:=b10,Bu:=⟨a10,i10,F10.kp⟩,yM:=F11,Gu:=b11,Gv:=W.mg_of X G a11,uQ:=F12,Am:=b12,Ao:=W.mg_of X G a12,Ka:=F13,SN:=b13,SQ:=W.mg_of X G a13,yN:=F14,Gw:=b14,Gx:=W.mg_of X G a14,Bs:=F15,Kc:=b15,Kd:=W.mg_of X G a15,uR:=F16,Aq:=b16,Ar:=W.mg_of X G a16,Ke:=F17,SX:=b17,S_:=W.mg_of X G a17,pB:=F18,uT:=b18,uU:=W.mg_of X G a18,wO:=F19,Dy:=b19,Dz:=W.mg_of X G a19,Fe:=F20,N6:=b20,N7:=W.mg_of X G a20,pC:=F21,uV:=b21,uW:=W.mg_of X G a21,cH:=F22,dD:=b22,dF:=W.mg_of X G a22,vK:=F23,DG:=b23,DK:=W.mg_of X G a23,sJ:=F24,yO:=b24,yP:=W.mg_of X G a24,Kf:=F25,Tc:=b25,Td:=W.mg_of X G a25,f9:=F26,jg:=b26,jh:=W.mg_of X G a26,sO:=F27,yQ:=b27,yR:=W.mg_of X G a27,rD:=F28,wQ:=b28,wR:=W.mg_of X G a28,qD:=F29,xu:=b29,xG:=W.mg_of X G a29,qes:=F30,qet:=b30,qeu:=W.mg_of X G a30,fC:=F31,qF:=b31,qG:=W.mg_of X G a31,yS:=F32,yU:=b32,yV:=W.mg_of X G a32,qH:=F33,xH:=b33,xJ:=W.mg_of X G a33,qbT:=F34,qev:=b34,qew:=W.mg_of X G a34,lg:=F35,mW:=b35,mX:=W.mg_of X G a35,Qv:=F36,Xa:=b36,Xb:=W.mg_of X G a36,HD:=F37,Qw:=b37,Qx:=W.mg_of X G a37,qbU:=F38,qex:=b38,qey:=W.mg_of X G a38,Kg:=F39,Tf:=b39,Tg:=W.mg_of X G a39,HF:=F40,Qy:=b40,Qz:=W.mg_of X G a40,Xc:=F41,qbV:=b41,qbW:=W.mg_of X G a41,wU:=F42,DN:=b42,DP:=W.mg_of X G a42,z9:=F43,Xd:=b43,Xe:=W.mg_of X G a43,eU:=F44,fD:=b44,fG:=W.mg_of X G a44,uX:=F45,Av:=b45,Aw:=W.mg_of X G a45,yW:=F46,Gy:=b46,Gz:=W.mg_of X G a46,Vt:=F47,qbX:=b47,qbY:=W.mg_of X G a47,qez:=F48,qh0:=b48,qh1:=W.mg_of X G a48,N8:=W.mg_of X G nY,N_:=⟨BL,rfl⟩,yX:=W.mg_of X G eZ,yZ:=⟨qI,rfl⟩,Ax:=W.mg_of X G fQ,Ay:=⟨tG,rfl⟩,GC:=W.mg_of X G jf,GF:=⟨wX,rfl⟩,wV:=W.mg_of X G gP,wW:=⟨uY,rfl⟩,QB:=K3,HJ:=K4,qeA:=W.mg_of X G V6,qK:=⟨V7,V8,V9,V_⟩,qeB:=⟨Wa,a7,i7,Wb⟩,nm:=⟨W.mg_none_of X G qcs,W.mg_none_of X G qct,W.mg_none_of X G qcu,W.mg_none_of X G qcv,W.mg_none_of X G K5,W.mg_none_of X G Q5,W.mg_none_of X G qcw,W.mg_none_of X G Wc,W.mg_none_of X G Q6,W.mg_none_of X G qcx,W.mg_none_of X G qcy,W.mg_none_of X G qcz,W.mg_none_of X G qcA,W.mg_none_of X G wY⟩,Y4:=⟨W.mg_none_of X G zy,W.mg_none_of X G qcB,W.mg_none_of X G Wd,W.mg_none_of X G K6,W.mg_none_of X G Wf,W.mg_none_of X G Wg⟩,nm3:=⟨W.mg_none_of X G qcC⟩,DQ:=W.mg_of X G uZ,qdw:=W.mg_of X G K7,qdx:=W.mg_of X G K8,Y0:=W.mg_of X G BP,jG:=W.mg_of X G u0,oh:=W.mg_of X G zA,rJ:=W.mg_of X G BW,sS:=W.mg_of X G Fx,pP:=W.mg_of X G wZ,vL:=W.mg_of X G BX,za:=W.mg_of X G Fy,zc:=W.mg_of X G Fz,gU:=gU,lq:=lq,ou:=ou,pQ:=pQ,jH:=jH,d7:=⟨⟨u5,u_,vd,Oi,Oj,vf,vg⟩,Option.isSome_iff_exists.mp (show(W.clsIn K aB).isSome=true from vh)⟩,lW:=⟨fV,Hw fW⟩,lX:=Df,nG:=cG gW qj ql gY,pR:=cG iD tK tM iG,qL:=cG jk vR vU jl,mY:=cG gb jM jN gj,pU:=cG iH oK oM iI,qM:=cG jm rN rO jo,qN:=cG jq rP rQ jr,lY:=Qk Qj oE,gV:=⟨⟨zB,zE,zF,Oi,Oj,zG,zH⟩,Option.isSome_iff_exists.mp (show(W.clsIn K aG).isSome=true from zJ)⟩,nH:=⟨gZ,Hw g_⟩,nJ:=cG h_ j8 j9 ig,qO:=Df,sU:=cG jO tK tM jP,uz:=cG lA vR vU lB,pW:=cG iJ jM jN iK,sV:=cG jQ oK oM jR,uD:=cG lC rN rO lE,uE:=cG lF rP rQ lG,nM:=Qk Qj tH,jJ:=⟨⟨BZ,B_,Ca,Oi,Oj,Cd,Ce⟩,Option.isSome_iff_exists.mp (show(W.clsIn K aK).isSome=true from Cg)⟩,pX:=⟨iM,Hw iQ⟩,pY:=cG iR j8 j9 iT,sX:=cG jT qj ql jU,uF:=Df,vM:=cG m6 vR vU m7,qP:=cG jt jM jN ju,uG:=cG lH oK oM lJ,vN:=cG m8 rN rO m9,vO:=cG m_ rP rQ ni,pZ:=Qk Qj vm,mZ:=⟨⟨FJ,FN,FP,Oi,Oj,FQ,FT⟩,Option.isSome_iff_exists.mp (show(W.clsIn K aO).isSome=true from FW)⟩,qQ:=⟨jw,Hw jx⟩,qR:=cG jy j8 j9 jz,uH:=cG lK qj ql lM,vP:=cG nj tK tM nq,xK:=Df,sY:=cG jV jM jN jW,vQ:=cG nu oK oM nA,xM:=cG oF rN rO oG,xO:=cG oH rP rQ oJ,qT:=Qk Qj w6,d8:=W.mg_none_of X G d8};exact⟨_,fun s v=>.of_eq rfl,fun base _ _=>qgy T⟩
theorem walk {l:W.OpenLaw} {q:Program} {loose:List Str} {XP:(Str→Option Value)→Heap→Prop} {YP:World→Heap→Prop} {d:DefRec} {K:Params→W.Frag} (hn:l.most=some 63) (hdf:d.params.defaults=[])
    (hY:∀(w:World) (h:Heap),YP w h→(K w.params).In h)
    (F:∀(w:World) (mg:Str→Option Value) (fa:Addr) (h:Heap),(K w.params).In h→h.Ns mainGlobals mg→mg d.name=some (.ref fa)→
      ∃fd:FuncData,(∀(s:Shared) (u:Value),BindsTo s fd ⟨[u],[]⟩ [("_law_script",u)])∧∀base:Heap,(K w.params).In base→base.Ns mainGlobals mg→bV l.prog w (K w.params) mg base mj 11 fa fd ["_law_script"] (Q0 (K w.params))) :
    W.WalkO q loose XP YP l.row.toRowW d [] (fun f vs=>PySem.call f vs):=
  L2.qcS (n:=63) (k:=11) (x:= "_law_script") (CX:=fun _=>mj) (sp:=fun w=>Q0 (K w.params)) hn (by decide) hdf ⟨rfl,by decide,by decide,rfl⟩ hY F (fun _ _ a ns hl _ hS=>⟨a,ns,rfl,hS,hl,fun _=>rfl⟩) fun _ _ _ _ _ z=>z
end K83
end
set_option Elab.async false
set_option maxRecDepth 100000
set_option maxHeartbeats 4000000
open PySem PySem.W PyProof.Rows
namespace PySem.W.Fast
def tw5806249102578443963:=0
def tw2062450092253638151:=0
def tw12031286472993414676:=0
def tw3738278210422877667:=0
def tw10814243076181985826:=0
def tw13175712918798138947:=0
def tw2367246333970825611:=0
def tw12064382378957912536:=0
def tw11050441883171985190:=0
def tw13671389448296416659:=0
def tw668092659013801420:=0
def tw1911840509489272253:=0
def tw6047077521102728135:=0
def tw15619408268120442243:=0
def tw5841047934957761325:=0
def tw11513715472524554448:=0
def tw13573824993407925478:=0
def tw5292318738477609172:=0
def tw16863898917216085972:=0
def tw9524039106346498141:=0
def tw13746141332901725574:=0
def tw4792086993936949879:=0
def tw1411979258547480473:=0
def tw16664595593129809361:=0
def tw16666655718619875492:=0
def tw3439322342467665763:=0
def tw2694130348347411489:=0
def tw5160266414606593234:=0
def tw11202020991870030519:=0
def tw11647254706492669291:=0
def tw14944176868933296549:=0
def tw8129418403863440355:=0
def tw10181155365265902701:=0
def tw8859093018651643078:=0
def tw14472665567175836921:=0
def tw11432706852510590841:=0
def tw16575979434806515349:=0
def tw16938650668917647593:=0
def tw15224535528130660315:=0
def tw6520957363735431949:=0
def tw7092919688034536017:=0
def tw1809627197866109743:=0
def tw3511060850661592022:=0
def tw11796523025326153278:=0
def tw466948696317685434:=0
def tw12345062678913035946:=0
def tw4979675944332021255:=0
def tw17588466164649598444:=0
def tw10703863275491654911:=0
def tw7321994463120434192:=0
def tw5681536618062413758:=0
def tw12051623204394445153:=0
def tw12531043161771392007:=0
def tw8814767862168858206:=0
def tw1146571905787420036:=0
def tw17141470047022282843:=0
def tw302737408824415436:=0
def tw13348555558338668897:=0
def tw11216076731113588511:=0
def tw7125901992590871295:=0
def tw9416145930811794510:=0
def tw8779761697097068589:=0
def tw5320102794549474118:=0
def tw16273131847952890023:=0
def tw4797033941297594469:=0
def tw10661545176123773552:=0
def tw16363542602125355882:=0
def tw629581525112345773:=0
def tw13367109747551261575:=0
def tw17798994533029465223:=0
def tw3117317292221369670:=0
def tw13341028939591745834:=0
def tw6275368095368602229:=0
def tw15137198357073978579:=0
def tw16101088647411947752:=0
def tw14454232418296874697:=0
def tw13624633212664784108:=0
def tw2694749131530629183:=0
def tw10870775474718741586:=0
def tw735841213126017237:=0
def tw5800844577087760846:=0
def tw13064466432652890491:=0
def tw4024923702104435350:=0
def tw13893564762997748508:=0
def tw13974895087274274666:=0
def tw17119183566174043623:=0
def tw12285489572189356096:=0
def tw16645495838261372676:=0
def tw3715493270115891226:=0
def tw9287150278015528053:=0
def tw9988315113700287573:=0
def tw6541462462525364222:=0
def tw8940255296964699491:=0
def tw5789917000666372234:=0
def tw14419012983438339609:=0
def tw2372978402144607472:=0
def tw13990825681328036779:=0
def tw9604675637410771659:=0
def tw15336010168091321716:=0
def tw17018790640399928339:=0
def tw5653997068700328454:=0
def tw14402718422981402759:=0
def tw914343592822679780:=0
def tw18059228041995535178:=0
def tw3109222298722282135:=0
def tw9579551227155258959:=0
def tw11202784401951719877:=0
def tw14434059285284919130:=0
def tw13100299982340441132:=0
def tw6173239839345580757:=0
def tw12836300469223540512:=0
def tw8848276707135888918:=0
def tw676791038066702911:=0
def tw15116743749648837630:=0
def tw10619904312234716353:=0
def tw16869829799371892075:=0
def tw11776747131196579244:=0
def tw227876110930882477:=0
def tw13950319348310144243:=0
def tw2803630113152528683:=0
def tw10523381315425227448:=0
def tw10994548067521410309:=0
def tw5106056395925927302:=0
def tw6702660688914714286:=0
def tw3340043387204216656:=0
def tw1050005158990223686:=0
def tw9946195890581623553:=0
def tw6368246384812577361:=0
def tw16500368429920736346:=0
def tw8083326980163091652:=0
def tw4343271942502450944:=0
def tw3208141965024696576:=0
def tw6126346393590617393:=0
def tw16675831409186032709:=0
def tw13274759889173803020:=0
def tw12716690490717144535:=0
def tw12932950783606392805:=0
def tw6961786091067018065:=0
def tw2824668477264883361:=0
def tw12728470127801844045:=0
def tw1896767343898399136:=0
def tw4005738350371479816:=0
def tw6586871006186421282:=0
def tw10387903094864721087:=0
def tw16391932656621699112:=0
def tw2330254657382094552:=0
def tw13115780395701098601:=0
def tw3028781177048642213:=0
def tw14511408978084789148:=0
def tw2374847306293374129:=0
def tw16890644193826080518:=0
def tw4057150206624246944:=0
def tw17234760327939590995:=0
def tw4868334649206836389:=0
def tw570182525991779085:=0
def tw3838877303711751818:=0
def tw8661663940741060849:=0
def tw2518697313647379872:=0
def tw4577653065728091611:=0
def tw15728772465674750844:=0
def tw10707704037875825496:=0
def tw17588221740238563572:=0
def tw5764297574218763531:=0
def tw4205761044920467218:=0
def tw7719643811752521360:=0
def tw2732581674574315322:=0
def tw2701310220408151583:=0
def tw11955846118464505591:=0
def tw13651844413748284441:=0
def tw5218909541683299186:=0
def tw14436353127412979912:=0
def tw13822173910710910327:=0
def tw10426201687727071393:=0
def tw6443719519341760045:=0
def tw17132115001824562458:=0
def tw7390879888191262508:=0
def tw17969544628148066168:=0
def tw14295131839777727084:=0
def tw4755146904478067571:=0
def tw4716781582278499379:=0
def tw9248327444680055223:=0
def tw14478995285756023693:=0
def tw16920786223897835173:=0
def tw13172287887434649874:=0
def tw801394663404355485:=0
def tw15372162216806066766:=0
def tw11559757992431390236:=0
def tw14738958322846176890:=0
def tw13397456533494110616:=0
def tw6024854701304910380:=0
def tw18109262866003932945:=0
def tw1064647012616041630:=0
def tw14701117110526478254:=0
def tw14435969494585124211:=0
def tw6233608216084040210:=0
def tw13360568704230845890:=0
def tw13163126249303377442:=0
def tw4950296567423604425:=0
def tw12718907457935218428:=0
def tw8610846100691412946:=0
end PySem.W.Fast
set_option maxRecDepth 100000 in
set_option maxHeartbeats 0 in
theorem PySem.Challenge.cw_pointways_k83_steps_refused_holds : PySem.Challenge.rw_pointways_k83_steps_refused.Holds := by
  w_on;o_law;k_head;(case hw=>w_witness2)
  k_fill
  refine' K83.walk (l:=PySem.Challenge.rw_pointways_k83_steps_refused) rfl rfl (fun w h Y=>W.kIn_of Y) ?F
  case F=>
    intro w mg fa h KX G hmg;refine' K83.all_mk KX G hmg ?V6 ?a1 ?F1 ?a2 ?F2 ?a3 ?F3 ?a4 ?F4 ?a5 ?F5 ?a6 ?F6 ?a7 ?i7 ?F7 ?a8 ?i8 ?F8 ?a9 ?i9 ?F9 ?a10 ?i10 ?F10 ?a11 ?F11 ?a12 ?F12 ?a13 ?F13 ?a14 ?F14 ?a15 ?F15 ?a16 ?F16 ?a17 ?F17 ?a18 ?F18 ?a19 ?F19 ?a20 ?F20 ?a21 ?F21 ?a22 ?F22 ?a23 ?F23 ?a24 ?F24 ?a25 ?F25 ?a26 ?F26 ?a27 ?F27 ?a28 ?F28 ?a29 ?F29 ?a30 ?F30 ?a31 ?F31 ?a32 ?F32 ?a33 ?F33 ?a34 ?F34 ?a35 ?F35 ?a36 ?F36 ?a37 ?F37 ?a38 ?F38 ?a39 ?F39 ?a40 ?F40 ?a41 ?F41 ?a42 ?F42 ?a43 ?F43 ?a44 ?F44 ?a45 ?F45 ?a46 ?F46 ?a47 ?F47 ?a48 ?l48 ?c48 ?k48 ?nY ?eZ ?fQ ?jf ?gP ?V7 ?V8 ?V9 ?V_ ?Wa ?Wb ?K3 ?K4 ?qcs ?qct ?qcu ?qcv ?K5 ?Q5 ?qcw ?Wc ?Q6 ?qcx ?qcy ?qcz ?qcA ?wY ?zy ?qcB ?Wd ?K6 ?Wf ?Wg ?qcC ?uZ ?K7 ?K8 ?BP ?u0 ?zA ?BW ?Fx ?wZ ?BX ?Fy ?Fz ?gU ?lq ?ou ?pQ ?jH ?Oi ?Oj ?u5 ?u_ ?vd ?vf ?vg ?vh ?fV ?fW ?gW ?gY ?iD ?iG ?jk ?jl ?gb ?gj ?iH ?iI ?jm ?jo ?jq ?jr ?oE ?zB ?zE ?zF ?zG ?zH ?zJ ?gZ ?g_ ?h_ ?ig ?jO ?jP ?lA ?lB ?iJ ?iK ?jQ ?jR ?lC ?lE ?lF ?lG ?tH ?BZ ?B_ ?Ca ?Cd ?Ce ?Cg ?iM ?iQ ?iR ?iT ?jT ?jU ?m6 ?m7 ?jt ?ju ?lH ?lJ ?m8 ?m9 ?m_ ?ni ?vm ?FJ ?FN ?FP ?FQ ?FT ?FW ?jw ?jx ?jy ?jz ?lK ?lM ?nj ?nq ?jV ?jW ?nu ?nA ?oF ?oG ?oH ?oJ ?w6 ?j8 ?j9 ?qj ?ql ?tK ?tM ?vR ?vU ?jM ?jN ?oK ?oM ?rN ?rO ?rP ?rQ ?d8
    case V6 | a1 | a2 | a3 | a4 | a5 | a6 | a7 | i7 | a8 | i8 | a9 | i9 | a10 | i10 | a11 | a12 | a13 | a14 | a15 | a16 | a17 | a18 | a19 | a20 | a21 | a22 | a23 | a24 | a25 | a26 | a27 | a28 | a29 | a30 | a31 | a32 | a33 | a34 | a35 | a36 | a37 | a38 | a39 | a40 | a41 | a42 | a43 | a44 | a45 | a46 | a47 | a48 | l48 | c48 | k48 | nY | eZ | fQ | jf | gP | V7 | V8 | V9 | V_ | Wa | Wb | K3 | K4 | qcs | qct | qcu | qcv | K5 | Q5 | qcw | Wc | Q6 | qcx | qcy | qcz | qcA | wY | zy | qcB | Wd | K6 | Wf | Wg | qcC | uZ | K7 | K8 | BP | u0 | zA | BW | Fx | wZ | BX | Fy | Fz | Oi | Oj | u5 | u_ | vd | vf | vg | vh | fV | gY | iG | jl | gj | iI | jo | jr | oE | zB | zE | zF | zG | zH | zJ | gZ | ig | jP | lB | iK | jR | lE | lG | tH | BZ | B_ | Ca | Cd | Ce | Cg | iM | iT | jU | m7 | ju | lJ | m9 | ni | vm | FJ | FN | FP | FQ | FT | FW | jw | jz | lM | nq | jW | nA | oG | oJ | w6 | j8 | j9 | qj | ql | tK | tM | vR | vU | jM | jN | oK | oM | rN | rO | rP | rQ | d8=>k_is
    case F1 | F2 | F3 | F4 | F5 | F6 | F7 | F8 | F9 | F10 | F11 | F12 | F13 | F14 | F15 | F16 | F17 | F18 | F19 | F20 | F21 | F22 | F23 | F24 | F25 | F26 | F27 | F28 | F29 | F30 | F31 | F32 | F33 | F34 | F35 | F36 | F37 | F38 | F39 | F40 | F41 | F42 | F43 | F44 | F45 | F46 | F47=>refine' L2.qap ?l ?c ?k;(case l=>k_is);(case c=>k_is);(case k=>k_is)
    case gU | lq | ou | pQ | jH=>k_exc
    case fW | gW | iD | jk | gb | iH | jm | jq | g_ | h_ | jO | lA | iJ | jQ | lC | lF | iQ | iR | jT | m6 | jt | lH | m8 | m_ | jx | jy | lK | nj | jV | nu | oF | oH=>decide+kernel


