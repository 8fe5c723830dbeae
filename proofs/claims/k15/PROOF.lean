import PyProof.Rows.All
import Wide.All
import OpenK.AllK
import Wide.FinOn
import Lean
import PyProof.EqAt
import PyProof.EqKinds
import PyProof.TupleCall
import PyProof.NeData
import PyProof.AttrMissHeap
import PyProof.FactsAll.enumerate_1
import KE.KDictOf
import PyProof.EnumMake
import PyProof.Rows.SumAny
import PyProof.Rows.StrJoin2
import PyProof.Rows.CountFlat
import PyProof.Rows.FoldWordsD
import PyProof.Rows.SeqMore2
import PyProof.Rows.MinMaxN
import PyProof.Rows.StrInSeq3
import PyProof.Rows.ReprR
import PyProof.StrLawsRepr
import PyProof.StrOps2
import PyProof.Rows.SeqMore
import PyProof.DictItems
import KE.KPairComp
import PyProof.FactsAll.zip_1
import KE.KItemsList
import PySem.Challenge.RW_pointways_k15_whole_renamed_reordered
set_option genSizeOfSpec false
noncomputable section
set_option Elab.async false
set_option linter.all false
set_option maxRecDepth 100000
namespace L2
open PySem PySem.Spec PyProof.Rows
abbrev Key:=Sum Int Str
def sG:Key→Value→Bool
  | .inl k,v=>Value.isInt k v
  | .inr x,v=>Value.isStrOf x v
def qeQ (w:World):Key→Int
  | .inl k=>hashInt k
  | .inr x=>hashStr w x
theorem cG:∀{k:Key} {v:Value},sG k v=true→(∃i t,k=Sum.inl i∧v=Value.int i t)∨(∃x t,k=Sum.inr x∧v=Value.str x t)
  | .inl i,v,h=>by
    obtain⟨t,e⟩:=Value.isInt_shape (k:=i) (v:=v) h;exact .inl ⟨i,t,rfl,e⟩
  | .inr x,v,h=>by
    obtain⟨t,e⟩:=Value.isStrOf_shape (x:=x) (v:=v) h;exact .inr ⟨x,t,rfl,e⟩
theorem Fe (i:Int) (t:Tok):sG (.inl i) (.int i t)=true:=by simp[sG,Value.isInt]
theorem Fg (x:Str) (t:Tok):sG (.inr x) (.str x t)=true:=by simp[sG,Value.isStrOf]
theorem qai (a b:Int):decide ((Sum.inl a:Key)=Sum.inl b)=(a == b):=by
  by_cases e:a=b
  ·subst e;simp
  ·have h:¬(Sum.inl a:Key)=Sum.inl b:=fun q=>e (Sum.inl.inj q);rw[decide_eq_false h];exact(beq_eq_false_iff_ne.mpr e).symm
theorem qaj (a b:Str):decide ((Sum.inr a:Key)=Sum.inr b)=decide (a=b):=by
  by_cases e:a=b
  ·subst e;simp
  ·have h:¬(Sum.inr a:Key)=Sum.inr b:=fun q=>e (Sum.inr.inj q);rw[decide_eq_false h,decide_eq_false e]
theorem qak (a:Int) (b:Str):decide ((Sum.inl a:Key)=Sum.inr b)=false:=decide_eq_false (fun q=>nomatch q)
theorem qal (a:Str) (b:Int):decide ((Sum.inr a:Key)=Sum.inl b)=false:=decide_eq_false (fun q=>nomatch q)
def bh (prog:Program) (w:World):PySem.KeyKind prog w Key where
  is:=sG
  hash:=qeQ w
  inj:=fun v a b ha hb=>by
    rcases cG ha with⟨i,t,rfl,rfl⟩ | ⟨x,t,rfl,rfl⟩
    · rcases cG hb with⟨j,u,rfl,e⟩ | ⟨y,u,rfl,e⟩
      ·injection e with e1 _;rw[e1]
      ·exact nomatch e
    · rcases cG hb with⟨j,u,rfl,e⟩ | ⟨y,u,rfl,e⟩
      ·exact nomatch e
      ·injection e with e1 _;rw[e1]
  byValue:=fun k v h=>by
    rcases cG h with⟨i,t,rfl,rfl⟩ | ⟨x,t,rfl,rfl⟩ <;> rfl
  pyHash:=fun hv h=>by
    rcases cG hv with⟨i,t,rfl,rfl⟩ | ⟨x,t,rfl,rfl⟩
    ·exact wpAny_pyHash_int h
    ·exact wpAny_pyHash_str h
  eqBool:=fun hu hv h=>by
    rcases cG hu with⟨i,t,rfl,rfl⟩ | ⟨x,t,rfl,rfl⟩
    · rcases cG hv with⟨j,u,rfl,rfl⟩ | ⟨y,u,rfl,rfl⟩
      ·rw[qai] at h;exact wpAny_eqBool_int h
      ·rw[qak] at h;exact SeqAt.EqAt.int_str i t y u _ _ _ _ h
    · rcases cG hv with⟨j,u,rfl,rfl⟩ | ⟨y,u,rfl,rfl⟩
      ·rw[qal] at h;exact SeqAt.EqAt.str_int x t j u _ _ _ _ h
      ·rw[qaj] at h;exact wpAny_eqBool_str h
  «strs»:=fun k x t v h=>by
    rcases cG h with⟨i,u,rfl,e⟩ | ⟨y,u,rfl,e⟩
    ·exact nomatch e
    ·injection e with e1 _;subst e1;cases v <;> rfl
theorem Ba (prog:Program) (w:World) (k:Key) (v:Value):(bh prog w).is k v=sG k v:=rfl
theorem JG (prog:Program) (w:World) (i:Int) (t:Tok):(bh prog w).is (.inl i) (.int i t)=true:=Fe i t
theorem sY (prog:Program) (w:World) (x:Str) (t:Tok):(bh prog w).is (.inr x) (.str x t)=true:=Fg x t
inductive V where
  | non | bl (b:Bool) | int (i:Int) | str (x:Str) | R4 (b:Array UInt8) | flt (b:UInt64) | ref (a:Addr) | ty (n:String)
  deriving DecidableEq
def RelV:V→Value→Prop
  | .non,u=>u=Value.none
  | .bl b,u=>u=Value.bool b
  | .int i,u=>∃t,u=Value.int i t
  | .str x,u=>∃t,u=Value.str x t
  | .R4 b,u=>∃t,u=Value.bytes b t
  | .flt b,u=>∃t,u=Value.float b t
  | .ref a,u=>u=Value.ref a
  | .ty n,u=>u=Value.type n
abbrev Vals:List V→List Value→Prop:=Paired RelV
theorem Vals.length {xs:List V} {us:List Value} (r:Vals xs us):xs.length=us.length:=Paired.length r
theorem Vals.get:∀{xs:List V} {us:List Value} {i:Nat} {x:V},Vals xs us→xs[i]? = some x→∃u,us[i]? = some u∧RelV x u
  | _,_,_,_,.nil,e=>by simp at e
  | _,_,0,_,.cons r _,e=>by simp at e;subst e;exact⟨_,rfl,r⟩
  | _,_,i+1,x,.cons _ t,e=>by
    obtain⟨u,h1,h2⟩:=Vals.get (i:=i) (x:=x) t (by simpa using e);exact⟨u,by simpa using h1,h2⟩
theorem Vals.set {x:V} {u:Value} (r:RelV x u):∀{xs:List V} {us:List Value} (i:Nat),Vals xs us→Vals (xs.set i x) (us.set i u)
  | _,_,_,.nil=>.nil
  | _,_,0,.cons _ t=>.cons r t
  | _,_,i+1,.cons q t=>.cons q (Vals.set r i t)
theorem Vals.append:∀{xs ys:List V} {us ws:List Value},Vals xs us→Vals ys ws→Vals (xs++ys) (us++ws)
  | _,_,_,_,.nil,s=>s
  | _,_,_,_,.cons r t,s=>.cons r (Vals.append t s)
theorem Vals.take:∀{xs:List V} {us:List Value} (n:Nat),Vals xs us→Vals (xs.take n) (us.take n)
  | _,_,0,_=>.nil
  | _,_,_+1,.nil=>.nil
  | _,_,n+1,.cons r t=>.cons r (Vals.take n t)
theorem Vals.drop:∀{xs:List V} {us:List Value} (n:Nat),Vals xs us→Vals (xs.drop n) (us.drop n)
  | _,_,0,r=>r
  | _,_,_+1,.nil=>.nil
  | _,_,n+1,.cons _ t=>Vals.drop n t
def wJ:Option V→Option Value→Prop
  | some v,some u=>RelV v u
  | none,none=>True
  | _,_=>False
def KV {κ:Type}:List (κ×V)→List (κ×Value)→Prop:=Paired fun(p:κ×V) (q:κ×Value)=>p.1=q.1∧RelV p.2 q.2
def kV:Key→V
  | .inl i=>.int i
  | .inr x=>.str x
inductive HO where
  | lst (xs:List V)
  | tup (xs:List V)
  | dK (kvs:List (Key×V)) | dT (kvs:List (List Key×V))
  | set (S:Int→Bool) (n:Nat)
  | ins (C dx:Addr) (fs:List (Str×V))
  | own (x:Addr)
  | xd (fs:List (Str×V))
  | met (f x:Addr)
  | rng (lo hi:Int)
  | jM (o:Obj) (u:HO)
  | Zm (ps:Array Value)
  | ext (φ:Heap→Prop)
abbrev Hp:=Addr→Option HO
def upd (H:Hp) (a:Addr) (o:HO):Hp:=fun b=>if b=a then some o else H b
theorem ao {H:Hp} {a:Addr} {o:HO}:upd H a o a=some o:=by unfold upd;rw[if_pos rfl]
theorem aG {H:Hp} {a b:Addr} {o:HO} (h:b≠a):upd H a o b=H b:=by unfold upd;rw[if_neg h]
theorem Fi {H:Hp} {a b:Addr} {o u:HO} (h:H a=some o) (h':H b=some u) (d:o≠u):a≠b:=by
  intro e;subst e;rw[h] at h';exact d (Option.some.inj h')
theorem aN {H:Hp} {a b:Addr} {o:HO} (h:H a=some o) (h':H b=none):a≠b:=by
  intro e;subst e;rw[h] at h';cases h'
section
variable (P:Program) (w:World)
def cH (H:Hp) (h:Heap) (a:Addr):HO→Prop
  | .lst xs=>xs.length≤sizeLine∧∃(its:List Value) (n:Nat),Vals xs its∧h.get? a=some {cls:=.type "list",data:=.seq its.toArray n}
  | .tup xs=>xs.length≤sizeLine∧∃its:List Value,Vals xs its∧IsTup h a its.toArray
  | .dK kvs=>kvs.length≤sizeLine∧(a == sysModules)=false∧∃vs,KV kvs vs∧h.DictOf (bh P w) a vs
  | .dT kvs=>kvs.length≤sizeLine∧(a == sysModules)=false∧∃xs:List (List Key×Addr×Value),
      Paired (fun(p:List Key×V) (q:List Key×Addr×Value)=>p.1=q.1∧H q.2.1=some (.tup (p.1.map kV))∧RelV p.2 q.2.2) kvs xs∧
      ∃o es ep,h.get? a=some o∧o.ExactDict∧o.data = .dict es ep∧es.toList=xs.map (entryOfKey (tupleKind (bh P w)))∧(xs.map (·.1)).Nodup
  | .set S n=>h.SetOf (intKind P w) a S n
  | .ins C dx fs=>H dx=some (.own a)∧fs.length≤1000∧dx≠a∧h.get? a=some (W.instObj C dx)∧
      ∃mA,h.Ns1 dx mA∧(∀f,wJ (fs.lookup f) (mA f))∧PySem.Within mA (fs.map (·.1))
  | .own _=>∃o,h.get? a=some o
  | .xd fs=>∃mA,h.Ns1 a mA∧∀f,wJ (fs.lookup f) (mA f)
  | .rng lo hi=>∃t u v,h.get? a=some {cls:=.type "range",data:=.fields #[.int lo t,.int hi u,.int 1 v]}
  | .jM o u=>h.get? a=some o∧cH H h a u
  | .Zm ps=>h.get? a=some {cls:=.none,data:=.fields ps}
  | .met f x=>h.get? a=some (W.methodObj (.ref f) (.ref x))
  | .ext φ=>φ h∧(∃o,h.get? a=some o)∧∀h1 h2:Heap,φ h1→(∀o,h1.get? a=some o→h2.get? a=some o)→φ h2
def qH (H:Hp) (h:Heap):Prop:=∀a o,H a=some o→cH P w H h a o
end
section
variable {P:Program} {w:World} {H H':Hp} {h h':Heap} {a:Addr} {o:HO}
theorem cH.lt (x:cH P w H h a o):a<h.objs.size:=by
  cases o with
  | lst xs=>obtain⟨_,_,_,_,e⟩:=x;exact Heap.lt_size e
  | tup xs=>obtain⟨_,_,_,p⟩:=x;exact p.lt
  | dK kvs=>obtain⟨_,_,_,_,o,_,_,e,_⟩:=x;exact Heap.lt_size e
  | dT kvs=>obtain⟨_,_,_,_,o,_,_,e,_⟩:=x;exact Heap.lt_size e
  | set S n=>obtain⟨o,_,_,_,e,_⟩:=x;exact Heap.lt_size e
  | ins C dx fs=>obtain⟨_,_,_,e,_⟩:=x;exact Heap.lt_size e
  | own y=>obtain⟨_,e⟩:=x;exact Heap.lt_size e
  | xd fs=>obtain⟨_,⟨_,_,_,e,_⟩,_⟩:=x;exact Heap.lt_size e
  | rng lo hi=>obtain⟨_,_,_,e⟩:=x;exact Heap.lt_size e
  | jM ob u=>obtain⟨e,_⟩:=x;exact Heap.lt_size e
  | Zm ps=>exact Heap.lt_size (show h.get? a=some _ from x)
  | met f y=>exact Heap.lt_size (show h.get? a=some _ from x)
  | ext φ=>obtain⟨_,⟨_,e⟩,_⟩:=x;exact Heap.lt_size e
theorem Paired.qb3 {α β:Type} {F G:α→β→Prop}:∀{l₁:List α} {l₂:List β},Paired F l₁ l₂→(∀a b,F a b→G a b)→Paired G l₁ l₂
  | _,_,.nil,_=>.nil
  | _,_,.cons r t,f=>.cons (f _ _ r) (Paired.qb3 t f)
theorem cH.stay (x:cH P w H h a o) (k:∀b u,(b=a∨H b=some (.own a))→h.get? b=some u→h'.get? b=some u)
    (ho:∀b,H b=some (.own a)→H' b=some (.own a)) (ht:∀b xs,H b=some (.tup xs)→H' b=some (.tup xs)):cH P w H' h' a o:=by
  induction o with
  | lst xs=>obtain⟨z,its,n,r,e⟩:=x;exact⟨z,its,n,r,k _ _ (.inl rfl) e⟩
  | tup xs=>obtain⟨z,its,r,ob,e,c⟩:=x;exact⟨z,its,r,ob,k _ _ (.inl rfl) e,c⟩
  | dK kvs=>obtain⟨z,y,vs,r,ob,es,ep,e,c⟩:=x;exact⟨z,y,vs,r,ob,es,ep,k _ _ (.inl rfl) e,c⟩
  | dT kvs=>
    obtain⟨z,y,xs,r,ob,es,ep,e,c⟩:=x;exact⟨z,y,xs,Paired.qb3 r fun p q z=>⟨z.1,ht _ _ z.2.1,z.2.2⟩,ob,es,ep,k _ _ (.inl rfl) e,c⟩
  | set S n=>obtain⟨ob,es,ep,t,e,c⟩:=x;exact⟨ob,es,ep,t,k _ _ (.inl rfl) e,c⟩
  | ins C dx fs=>
    obtain⟨d,z,ne,e,mA,⟨od,es,ep,e2,c⟩,r⟩:=x;exact⟨ho _ d,z,ne,k _ _ (.inl rfl) e,mA,⟨od,es,ep,k _ _ (.inr d) e2,c⟩,r⟩
  | own y=>obtain⟨ob,e⟩:=x;exact⟨ob,k _ _ (.inl rfl) e⟩
  | xd fs=>obtain⟨mA,⟨od,es,ep,e,c⟩,r⟩:=x;exact⟨mA,⟨od,es,ep,k _ _ (.inl rfl) e,c⟩,r⟩
  | rng lo hi=>obtain⟨t,u,v,e⟩:=x;exact⟨t,u,v,k _ _ (.inl rfl) e⟩
  | jM ob u ih=>obtain⟨e,q⟩:=x;exact⟨k _ _ (.inl rfl) e,ih q⟩
  | Zm ps=>
    have e:h.get? a=some {cls:=.none,data:=.fields ps}:=x;show h'.get? a=some {cls:=.none,data:=.fields ps};exact k a _ (.inl rfl) e
  | met f y=>
    have e:h.get? a=some (W.methodObj (.ref f) (.ref y)):=x;show h'.get? a=some (W.methodObj (.ref f) (.ref y));exact k a _ (.inl rfl) e
  | ext φ=>obtain⟨p,⟨o,e⟩,st⟩:=x;exact⟨st _ _ p fun o q=>k _ _ (.inl rfl) q,⟨o,k _ _ (.inl rfl) e⟩,st⟩
theorem qH.lt (x:qH P w H h) (e:H a=some o):a<h.objs.size:=(x a o e).lt
theorem qH.fresh (x:qH P w H h) (e:h.objs.size≤a):H a=none:=by
  cases q:H a with
  | none=>rfl
  | some u=>exact absurd (Nat.lt_of_lt_of_le (x.lt q) e) (Nat.lt_irrefl _)
theorem qH.kept (x:qH P w H h) (k:∀b u,h.get? b=some u→h'.get? b=some u):qH P w H h':=fun a o e=>
  (x a o e).stay (fun b u _ q=>k b u q) (fun _ q=>q) fun _ _ q=>q
theorem qH.laid (x:qH P w H h) (k:∀b u,h.get? b=some u→h'.get? b=some u) (hp:h.objs.size≤a) (new:cH P w (upd H a o) h' a o):qH P w (upd H a o) h':=fun b u e=>by
  have hn:=x.fresh hp
  by_cases hb:b=a
  ·subst hb;rw[ao] at e;cases e;exact new
  ·rw[aG hb] at e;exact(x b u e).stay (fun c v _ q=>k c v q) (fun c q=>by rw[aG (aN q hn)];exact q) fun c xs q=>by rw[aG (aN q hn)];exact q
end
def Rd (H:Hp) (a:Addr) (u:HO):Prop:=H a=some u∨∃o,H a=some (.jM o u)
theorem Rd.ok {P:Program} {w:World} {H:Hp} {h:Heap} {a:Addr} {u:HO} (r:Rd H a u) (x:qH P w H h):cH P w H h a u:=by
  rcases r with r | ⟨o,r⟩
  ·exact x a u r
  ·obtain⟨_,q⟩:=x a _ r;exact q
def Mut:Option HO→Prop
  | some (.lst _)=>True
  | some (.dK _)=>True
  | some (.dT _)=>True
  | some (.set _ _)=>True
  | some (.ins _ _ _)=>True
  | some (.ext _)=>True
  | _=>False
section
variable {P:Program} {w:World} {H:Hp} {h h':Heap} {x e:Addr} {o':HO}
theorem qH.write (ok:qH P w H h) (mu:Mut (H x)) (he:e=x∨H e=some (.own x)) (k:∀b u,b≠e→h.get? b=some u→h'.get? b=some u) (heo:∃u,h'.get? e=some u)
    (new:cH P w (upd H x o') h' x o'):qH P w (upd H x o') h':=fun b u q=>by
  have qb4:∀c y,H c=some (.own y)→c≠x:=fun c y r z=>by subst z;rw[r] at mu;exact mu
  have qeR:∀c xs,H c=some (.tup xs)→c≠x:=fun c xs r z=>by subst z;rw[r] at mu;exact mu
  by_cases hb:b=x
  ·subst hb;rw[ao] at q;cases q;exact new
  · rw[aG hb] at q
    by_cases hbe:b=e
    · have q':H b=some (.own x):=by
        rcases he with z | z
        ·exact absurd (hbe.trans z) hb
        ·rw[hbe];exact z
      rw[q] at q';cases q';obtain⟨v,hv⟩:=heo;exact⟨v,by rw[hbe];exact hv⟩
    · refine(ok b u q).stay (fun c v hc r=>k c v ?_ r) (fun c r=>by rw[aG (qb4 c b r)];exact r) fun c xs r=>by rw[aG (qeR c xs r)];exact r
      rcases hc with rfl | hc
      ·exact hbe
      · rintro rfl
        rcases he with z | z
        ·exact qb4 c b hc z
        ·rw[hc] at z;cases z;exact hb rfl
end
structure Un (fs ex:List Addr) (H H':Hp) (h h':Heap):Prop where
  keep:∀b o,h.get? b=some o→H b=none→b∉fs→b∉ex→h'.get? b=some o
  slot:∀b o,h.get? b=some o→H b=none→b∈fs→b∉ex→∃sl,h'.get? b=some {o with slots:=sl}
  free:∀b o,h.get? b=some o→H b=none→b∉ex→H' b=none
  there:∀b o,h.get? b=some o→b∉ex→∃o',h'.get? b=some o'
  tups:∀b xs,H b=some (.tup xs)→H' b=some (.tup xs)
  sW:∀b o u,H b=some (.jM o u)→H' b=some (.jM o u)
  sZ:∀b ps,H b=some (.Zm ps)→∃more,H' b=some (.Zm (ps++more))
section
variable {fs fs' ex ex':List Addr} {H H1 H2:Hp} {h h1 h2 h':Heap} {a x e:Addr} {o:HO}
theorem Un.any (u:Un fs ex H H1 h h1) {b:Addr} {ob:Obj} (q:h.get? b=some ob) (n:H b=none) (hx:b∉ex):∃sl,h1.get? b=some {ob with slots:=sl}:=by
  by_cases hb:b∈fs
  ·exact u.slot b ob q n hb hx
  ·exact⟨ob.slots,u.keep b ob q n hb hx⟩
theorem Un.kept (k:∀b u,h.get? b=some u→h'.get? b=some u):Un fs ex H H h h':=
  ⟨fun b ob q _ _ _=>k b ob q,fun b ob q _ _ _=>⟨ob.slots,k b ob q⟩,fun _ _ _ n _=>n,fun b ob q _=>⟨ob,k b ob q⟩,fun _ _ q=>q,fun _ _ _ q=>q,fun _ ps q=>⟨#[],by rw[q];simp⟩⟩
theorem Un.refl:Un fs ex H H h h:=Un.kept fun _ _ q=>q
theorem Un.laid (k:∀b u,h.get? b=some u→h'.get? b=some u) (hp:h.objs.size≤a) (hn:H a=none):Un fs ex H (upd H a o) h h' where
  keep:=fun b u q _ _ _=>k b u q
  slot:=fun b u q _ _ _=>⟨u.slots,k b u q⟩
  free:=fun b u q n _=>by rw[aG (Nat.ne_of_lt (Nat.lt_of_lt_of_le (Heap.lt_size q) hp))];exact n
  there:=fun b u q _=>⟨u,k b u q⟩
  tups:=fun b xs q=>by rw[aG (aN q hn)];exact q
  sW:=fun b u xs q=>by rw[aG (aN q hn)];exact q
  sZ:=fun b ps q=>⟨#[],by rw[aG (aN q hn),q];simp⟩
theorem Un.write (mu:Mut (H x)) (he:e=x∨H e=some (.own x)) (k:∀b u,b≠e→h.get? b=some u→h'.get? b=some u) (heo:∃u,h'.get? e=some u):Un fs ex H (upd H x o) h h':=by
  have hx:∀b,H b=none→b≠x:=fun b n z=>by subst z;rw[n] at mu;exact mu
  have hb:∀b,H b=none→b≠e:=fun b n z=>by
    subst z
    rcases he with r | r
    ·exact hx b n r
    ·rw[n] at r;cases r
  have hm:∀b u,H b=some u→¬Mut (some u)→b≠x:=fun b u q nm z=>by subst z;rw[q] at mu;exact nm mu
  refine⟨fun b u q n _ _=>k b u (hb b n) q,fun b u q n _ _=>⟨u.slots,k b u (hb b n) q⟩,fun b u q n _=>by rw[aG (hx b n)];exact n,fun b u q _=>?_,
    fun b xs q=>by rw[aG (hm b _ q fun z=>z)];exact q,fun b u xs q=>by rw[aG (hm b _ q fun z=>z)];exact q,fun b ps q=>⟨#[],by rw[aG (hm b _ q fun z=>z),q];simp⟩⟩
  by_cases hbe:b=e
  ·subst hbe;exact heo
  ·exact⟨u,k b u hbe q⟩
end
def trk (h:Heap) (H:Hp):List Addr:=(List.range h.objs.size).filter fun a=>(H a).isSome
def GK (h:Heap) (H:Hp):Heap:=W.hideAll h (trk h H)
theorem Qz (h:Heap) (H:Hp):(GK h H).objs.size=h.objs.size:=W.hideAll_size _ _
theorem Sv {h:Heap} {H:Hp} {b:Addr} {o:Obj} (e:h.get? b=some o) (n:H b=none):(GK h H).get? b=some o:=
  W.hideAll_get _ e fun hm=>by
    have q:(H b).isSome=true:=(List.mem_filter.mp hm).2;rw[n] at q;simp at q
theorem Xq {h:Heap} {H:Hp} {b:Addr} {o:Obj} (e:(GK h H).get? b=some o):h.get? b=some o∧H b=none:=by
  have e':h.get? b=some o:=W.of_hideAll (trk h H) e;refine⟨e',?_⟩;cases q:H b with
  | none=>rfl
  | some x=>
    have hm:b∈trk h H:=List.mem_filter.mpr ⟨List.mem_range.mpr (Heap.lt_size e'),by simp[q]⟩;have z:(GK h H).get? b=none:=W.hideAll_none (trk h H) hm;rw[z] at e;cases e
def z8 (g h:Heap) (L:Addr):List (Addr×Obj):=(List.range h.objs.size).filterMap fun a=>if a=L∨(g.get? a).isSome=true then none else (h.get? a).map fun o=>(a,o)
theorem JH {g h:Heap} {L a:Addr} {o:Obj} (h1:a≠L) (h2:g.get? a=none) (h3:h.get? a=some o):(a,o)∈z8 g h L:=
  List.mem_filterMap.mpr ⟨a,List.mem_range.mpr (Heap.lt_size h3),by simp[h1,h2,h3]⟩
theorem Bb {g h:Heap} {L:Addr} {p:Addr×Obj} (hp:p∈z8 g h L):p.1≠L∧g.get? p.1=none∧h.get? p.1=some p.2:=by
  obtain⟨b,_,e⟩:=List.mem_filterMap.mp hp;split at e
  ·cases e
  · rename_i hn;cases q:h.get? b with
    | none=>rw[q] at e;simp at e
    | some u=>
      rw[q] at e;simp only[Option.map_some,Option.some.injEq] at e;subst e;refine⟨fun z=>hn (.inl z),?_,q⟩;show g.get? b=none;cases r:g.get? b with
      | none=>rfl
      | some v=>exact(hn (.inr (by simp[r]))).elim
def rest (g h:Heap) (L d:Addr):List (Addr×Obj):=(z8 g h L).filter fun p=>decide (p.1≠d)
theorem Xr {g h:Heap} {L d:Addr}:∀p∈rest g h L d,p.1≠d:=fun p hp=>of_decide_eq_true (List.mem_filter.mp hp).2
theorem Sw {g h:Heap} {L d a:Addr} {o:Obj} (h1:a≠L) (h2:g.get? a=none) (h3:h.get? a=some o) (h4:a≠d):(a,o)∈rest g h L d:=
  List.mem_filter.mpr ⟨JH h1 h2 h3,decide_eq_true h4⟩
theorem Sx {g h:Heap} {L:Addr}:News g L h (z8 g h L):=fun p hp=>let ⟨a,b,c⟩:=Bb hp;⟨c,a,b⟩
theorem news_at {g h:Heap} {L d:Addr} {o:Obj} (h1:d≠L) (h2:g.get? d=none) (h3:h.get? d=some o):News g L h ((d,o)::rest g h L d):=fun p hp=>by
  rcases List.mem_cons.mp hp with rfl | hp
  ·exact⟨h3,h1,h2⟩
  ·exact Sx p (List.mem_filter.mp hp).1
theorem GP {g h h':Heap} {L d:Addr} {m:Str→Option Value} (k:∀b o,g.get? b=some o→h.get? b=some o) (F:Fr g L h' m) (N:News g L h' (rest g h L d)) :
    ∀b o,b≠L→b≠d→h.get? b=some o→h'.get? b=some o:=fun b o h1 h2 e=>by
  cases q:g.get? b with
  | some u=>
    have:=k b u q;rw[e] at this;cases this;exact F.keep b _ q
  | none=>exact(N (b,o) (Sw h1 q e h2)).1
structure Mod (K:W.Frag) (mg:Str→Option Value) (base:Heap):Prop where
  R5:K.In base
  glob:base.Ns mainGlobals mg
  blt:∃mb,base.Ns builtinsNs mb∧∀x:Str,x≠ "__name__" →mb x=bootBuiltins x
  nolimit:base.NoLimit
set_option genInjectivity false in
structure Cx where
  prog:Program
  w:World
  K:W.Frag
  mg:Str→Option Value
  base:Heap
  A:Around
  N:List Str
  s₀:Shared
  H₀:Hp
  env:Env
  outer:List Env
  stack:List Env
  ex:List Addr
  fn:Str→Bool
  calm:Bool
  pn:List (Addr×Obj)
  xe:Value→Shared→Prop
def frs (l:List Env):List Addr:=l.filterMap (·.frame)
abbrev Cx.fs (X:Cx):List Addr:=frs X.outer
def Vis (sc:Scope) (x:Str):Prop:=sc.names.lookup x=some .local∨sc.names.lookup x=some .cell∨sc.names.lookup x=some .free
def Loc (sc:Scope) (x:Str):Prop:=sc.names.lookup x=some .local∨sc.names.lookup x=some .cell
def Look (env:Env) (h:Heap) (m:Str→Option Value) (x:Str) (u:Value):Prop:=
  (env.kindOf x=some .local∧m x=some u)∨((env.kindOf x=some .cell∨env.kindOf x=some .free)∧∃c,env.cells.lookup x=some c∧h.IsCell c (some u))
structure Cx.Ok (X:Cx):Prop where
  mod:Mod X.K X.mg X.base
  kind:X.env.scope.kind = .function
  glob:X.env.globals=mainGlobals
  blt:X.env.builtins=builtinsNs
  above:X.s₀.heap.objs.size≤X.env.locals
  inj:∀x y c,X.env.cells.lookup x=some c→X.env.cells.lookup y=some c→x=y
  has:∀x,(X.env.kindOf x=some .cell∨X.env.kindOf x=some .free)→∃c,X.env.cells.lookup x=some c
  cab:∀x c,X.fn x=true→X.env.cells.lookup x=some c→X.s₀.heap.objs.size≤c
  hd:X.calm=true→X.A.handled=none
  frames:X.A.frames=some X.stack
  stk:X.stack=X.outer∨(X.stack=X.env::X.outer∧X.env.frame=some X.env.locals)
  Xu:∀b∈X.ex,b≠X.env.locals∧∀x c,X.env.cells.lookup x=some c→c≠b
  bs:∀b o,X.base.get? b=some o→X.s₀.heap.get? b=some o∧X.H₀ b=none
  O2:X.base.objs.size≤X.s₀.heap.objs.size
  JK:∀b o,X.base.get? b=some o→b∉X.ex
  GQ:∀b∈X.ex,b∉X.fs
  tu:X.s₀.heap.FunFrames X.base X.outer
  Sy:∀b∈X.fs,X.H₀ b=none
structure Inv (X:Cx) (p_:List (Addr×Obj)) (σ:List (Option V)) (H:Hp) (s:Shared):Prop where
  ok:X.Ok
  os:s.os=X.s₀.os
  bare:AllBare s.gens
  base:Un X.fs X.ex X.H₀ H X.s₀.heap s.heap
  loc:∃m,s.heap.Ns X.env.locals m∧∀(i:Nat) (x:Str) (v:V),X.N[i]? = some x→σ[i]? = some (some v)→Vis X.env.scope x→∃u,RelV v u∧Look X.env s.heap m x u
  cell:∀x c,X.env.cells.lookup x=some c→∃v,s.heap.IsCell c v
  free:H X.env.locals=none
  i_:∀x c,X.env.cells.lookup x=some c→H c=none
  pin:∀p∈X.pn++p_,s.heap.get? p.1=some p.2∧H p.1=none∧p.1≠X.env.locals∧p.1∉X.fs∧∀v,p.2.data≠.cell v
  hok:qH X.prog X.w H s.heap
  len:σ.length=X.N.length
section
variable {X:Cx} {p_:List (Addr×Obj)} {σ:List (Option V)} {H H':Hp} {s:Shared} {h':Heap}
theorem Cx.Ok.qeS (ok:X.Ok) {b:Addr} {o:Obj} (e:X.base.get? b=some o):b∉X.fs:=fun hb=>by
  have:=(ok.tu.mem hb).1;rw[e] at this;cases this
theorem Inv.bs (I:Inv X p_ σ H s):∀b o,X.base.get? b=some o→s.heap.get? b=some o∧H b=none:=fun b o e=>
  ⟨I.base.keep b o (I.ok.bs b o e).1 (I.ok.bs b o e).2 (I.ok.qeS e) (I.ok.JK b o e),I.base.free b o (I.ok.bs b o e).1 (I.ok.bs b o e).2 (I.ok.JK b o e)⟩
theorem Inv.bk (I:Inv X p_ σ H s):∀b o,X.base.get? b=some o→s.heap.get? b=some o:=fun b o e=>(I.bs b o e).1
theorem Inv.mod (I:Inv X p_ σ H s):Mod X.K X.mg X.base:=I.ok.mod
theorem Inv.vC (I:Inv X p_ σ H s):X.K.In s.heap:=I.ok.mod.R5.keeps I.bk
theorem Inv.fr (I:Inv X p_ σ H s):∃m,Fr X.base X.env.locals s.heap m:=
  let ⟨m,hn,_⟩:=I.loc
  ⟨m,hn,I.bk,Nat.le_trans I.ok.O2 I.ok.above⟩
theorem Inv.lt (I:Inv X p_ σ H s):X.env.locals<s.heap.objs.size:=let ⟨_,hn,_⟩:=I.loc;hn.lt
theorem Inv.sz (I:Inv X p_ σ H s):X.s₀.heap.objs.size≤s.heap.objs.size:=Nat.le_trans I.ok.above (Nat.le_of_lt I.lt)
theorem Inv.qeT (I:Inv X p_ σ H s) {a:Addr} (h:s.heap.objs.size≤a):a∉X.fs:=fun hb=>by
  obtain⟨_,o,ho,_⟩:=I.ok.tu.mem hb;exact absurd (Nat.lt_of_lt_of_le (Heap.lt_size ho) (Nat.le_trans I.sz h)) (Nat.lt_irrefl _)
theorem Inv.Xv (I:Inv X p_ σ H s):∀x c,X.env.cells.lookup x=some c→c≠X.env.locals:=fun x c e z=>by
  obtain⟨v,o,ho,hd⟩:=I.cell x c e;obtain⟨m,⟨o',es,ep,ho',hd',_⟩,_⟩:=I.loc;rw[z,ho'] at ho;cases ho;rw[hd'] at hd;cases hd
theorem Inv.tu (I:Inv X p_ σ H s):s.heap.FunFrames X.base X.outer:=by
  have all:∀(l:List Env),(∀b∈frs l,b∈X.fs)→X.s₀.heap.FunFrames X.base l→s.heap.FunFrames X.base l:=by
    intro l
    induction l with
    | nil=>intro _ _;trivial
    | cons env r ih=>
      intro hs hl;obtain⟨hk,⟨L,o,hf,hn,ho,hd⟩,hr⟩:=hl;have hL:L∈X.fs:=hs L (by unfold frs;rw[List.filterMap_cons,hf];exact List.mem_cons_self);obtain⟨sl,e⟩:=I.base.slot L o ho (I.ok.Sy L hL) hL fun z=>I.ok.GQ L z hL;exact⟨hk,⟨L,_,hf,hn,e,hd⟩,ih (fun b hb=>hs b (by unfold frs;rw[List.filterMap_cons,hf];exact List.mem_cons_of_mem _ hb)) hr⟩
  exact all X.outer (fun _ hb=>hb) I.ok.tu
theorem Inv.stack (I:Inv X p_ σ H s):s.heap.FunFrames X.base X.stack:=by
  rcases I.ok.stk with e | ⟨e,hf⟩
  ·rw[e];exact I.tu
  ·rw[e];obtain⟨m,hn,_⟩:=I.loc;refine .cons (by rw[I.ok.kind];decide) hf hn ?_ I.tu;exact Heap.get?_none_of_le (Nat.le_trans I.ok.O2 I.ok.above)
theorem Inv.vN (I:Inv X p_ σ H s):∀b∈frs X.stack,b∈X.env.locals::X.fs:=fun b hb=>by
  rcases I.ok.stk with e | ⟨e,hf⟩
  ·rw[e] at hb;exact List.mem_cons_of_mem _ hb
  ·rw[e] at hb;unfold frs at hb;rw[List.filterMap_cons,hf] at hb;exact hb
theorem Inv.z9 (I:Inv X p_ σ H s):∀b∈frs X.stack,H b=none:=fun b hb=>by
  rcases List.mem_cons.mp (I.vN b hb) with e | hb
  ·rw[e];exact I.free
  ·obtain⟨_,o,ho,_⟩:=I.ok.tu.mem hb;exact I.base.free b o ho (I.ok.Sy b hb) fun z=>I.ok.GQ b z hb
theorem Inv.step {g':Array GenState} {t':Nat} {d':Drawn} {ch:List Addr} (I:Inv X p_ σ H s)
    (hch:∀b∈ch,(b∈X.ex∨X.s₀.heap.objs.size≤b)∧b≠X.env.locals∧(∀x c,X.env.cells.lookup x=some c→c≠b)∧∀p∈X.pn++p_,p.1≠b)
    (keep:∀b o,b≠X.env.locals→b∉X.fs→b∉ch→s.heap.get? b=some o→H b=none→h'.get? b=some o)
    (slot:∀b o,b≠X.env.locals→b∈X.fs→b∉ch→s.heap.get? b=some o→H b=none→∃sl,h'.get? b=some {o with slots:=sl}) (free:∀b o,b∉ch→s.heap.get? b=some o→H b=none→H' b=none)
    (there:∀b o,b∉ch→s.heap.get? b=some o→∃o',h'.get? b=some o')
    (tups:∀b xs,H b=some (.tup xs)→H' b=some (.tup xs)) (sW:∀b o u,H b=some (.jM o u)→H' b=some (.jM o u)) (sZ:∀b ps,H b=some (.Zm ps)→∃more,H' b=some (.Zm (ps++more)))
    (ns:∀m,s.heap.Ns X.env.locals m→h'.Ns X.env.locals m) (hok:qH X.prog X.w H' h') (hg:AllBare g') :
    Inv X p_ σ H' {s with heap:=h',gens:=g',drawn:=d',toks:=t'}:=by
  have neL:∀b o,X.s₀.heap.get? b=some o→b≠X.env.locals:=fun b o e=>Nat.ne_of_lt (Nat.lt_of_lt_of_le (Heap.lt_size e) I.ok.above);have neC:∀b o,X.s₀.heap.get? b=some o→b∉X.ex→b∉ch:=fun b o e hx hb=>by
    rcases(hch b hb).1 with z | z
    ·exact hx z
    ·exact absurd (Nat.lt_of_lt_of_le (Heap.lt_size e) z) (Nat.lt_irrefl _)
  have cellK:∀x c,X.env.cells.lookup x=some c→∀v,s.heap.IsCell c v→h'.IsCell c v:=fun x c e v ⟨o,ho,hd⟩=>by
    have nch:c∉ch:=fun z=>(hch c z).2.2.1 x c e rfl
    by_cases hc:c∈X.fs
    ·obtain⟨sl,q⟩:=slot c o (I.Xv x c e) hc nch ho (I.i_ x c e);exact⟨_,q,hd⟩
    ·exact⟨o,keep c o (I.Xv x c e) hc nch ho (I.i_ x c e),hd⟩
  refine⟨I.ok,I.os,hg,⟨fun b o e n hb hx=>?_,fun b o e n hb hx=>?_,fun b o e n hx=>?_,fun b o e hx=>?_,fun b xs e=>tups b xs (I.base.tups b xs e),fun b o xs e=>sW b o xs (I.base.sW b o xs e),fun b ps e=>?_⟩,?_,fun x c e=>?_,?_,fun x c e=>?_,fun p hp=>?_,hok,I.len⟩
  ·exact keep b o (neL b o e) hb (neC b o e hx) (I.base.keep b o e n hb hx) (I.base.free b o e n hx)
  ·obtain⟨sl,e1⟩:=I.base.slot b o e n hb hx;obtain⟨sl',e2⟩:=slot b _ (neL b o e) hb (neC b o e hx) e1 (I.base.free b o e n hx);exact⟨sl',e2⟩
  ·obtain⟨o',e1⟩:=I.base.there b o e hx;exact free b o' (neC b o e hx) e1 (I.base.free b o e n hx)
  ·obtain⟨o',e1⟩:=I.base.there b o e hx;exact there b o' (neC b o e hx) e1
  ·obtain⟨m1,e1⟩:=I.base.sZ b ps e;obtain⟨m2,e2⟩:=sZ b _ e1;exact⟨m1++m2,by rw[e2,Array.append_assoc]⟩
  · obtain⟨m,hn,hl⟩:=I.loc;refine⟨m,ns m hn,fun i x v e1 e2 e3=>?_⟩;obtain⟨u,r,l⟩:=hl i x v e1 e2 e3;refine⟨u,r,?_⟩
    rcases l with l | ⟨k,c,e,z⟩
    ·exact .inl l
    ·exact .inr ⟨k,c,e,cellK x c e _ z⟩
  ·obtain⟨v,z⟩:=I.cell x c e;exact⟨v,cellK x c e v z⟩
  ·obtain⟨m,⟨o,_,_,ho,_⟩,_⟩:=I.loc;exact free _ o (fun z=>(hch _ z).2.1 rfl) ho I.free
  ·obtain⟨v,o,ho,hd⟩:=I.cell x c e;exact free c o (fun z=>(hch c z).2.2.1 x c e rfl) ho (I.i_ x c e)
  ·obtain⟨e,n,ne,nf,d⟩:=I.pin p hp;have nch:p.1∉ch:=fun z=>(hch p.1 z).2.2.2 p hp rfl;exact⟨keep p.1 p.2 ne nf nch e n,free p.1 p.2 nch e n,ne,nf,d⟩
theorem Inv.un {t':Nat} (I:Inv X p_ σ H s) (u:Un X.fs [] H H' s.heap h') (hok:qH X.prog X.w H' h'):Inv X p_ σ H' {s with heap:=h',toks:=t'}:=by
  obtain⟨m,⟨o,es,ep,ho,r⟩,_⟩:=id I.loc;obtain⟨sl,hL⟩:=u.any ho I.free (by simp);exact I.step (g':=s.gens) (d':=s.drawn) (ch:=[]) (fun _ z=>nomatch z) (fun b o _ hb _ e n=>u.keep b o e n hb (by simp)) (fun b o _ hb _ e n=>u.slot b o e n hb (by simp)) (fun b o _ e n=>u.free b o e n (by simp)) (fun b o _ e=>u.there b o e (by simp)) u.tups u.sW u.sZ (fun m' hm=>by
    obtain⟨o',es',ep',ho',r'⟩:=hm;rw[ho] at ho';cases ho';exact⟨_,es',ep',hL,r'⟩) hok I.bare
theorem Inv.call {g':Array GenState} {t':Nat} {d':Drawn} {ch:List Addr} (I:Inv X p_ σ H s) (u:Un (frs X.stack) ch H H' s.heap h') (hok:qH X.prog X.w H' h') (hg:AllBare g')
    (hch:∀b∈ch,(b∈X.ex∨X.s₀.heap.objs.size≤b)∧b≠X.env.locals∧(∀x c,X.env.cells.lookup x=some c→c≠b)∧∀p∈X.pn++p_,p.1≠b) :
    Inv X p_ σ H' {s with heap:=h',gens:=g',drawn:=d',toks:=t'}:=by
  obtain⟨m,⟨o,es,ep,ho,r⟩,_⟩:=id I.loc;obtain⟨sl,hL⟩:=u.any ho I.free fun z=>(hch _ z).2.1 rfl;exact I.step (ch:=ch) hch (fun b o hL hb hc e n=>u.keep b o e n (fun z=>(List.mem_cons.mp (I.vN b z)).elim hL hb) hc) (fun b o _ _ hc e n=>u.any e n hc) (fun b o hc e n=>u.free b o e n hc) (fun b o hc e=>u.there b o e hc) u.tups u.sW u.sZ (fun m' hm=>by
    obtain⟨o',es',ep',ho',r'⟩:=hm;rw[ho] at ho';cases ho';exact⟨_,es',ep',hL,r'⟩) hok hg
theorem Inv.turned {t':Nat} {it:Addr} (I:Inv X p_ σ H s) (k:∀b o,b≠it→s.heap.get? b=some o→h'.get? b=some o) (hn:H it=none) (hL:it≠X.env.locals)
    (h1:it∈X.ex∨X.s₀.heap.objs.size≤it) (h2:∀x c,X.env.cells.lookup x=some c→c≠it) (h3:∀p∈X.pn++p_,p.1≠it):Inv X p_ σ H {s with heap:=h',toks:=t'}:=by
  have nit:∀b u,H b=some u→b≠it:=fun b u e z=>by rw[z,hn] at e;cases e
  refine I.step (g':=s.gens) (d':=s.drawn) (ch:=[it]) (fun b hb=>?_) (fun b o _ _ hc e _=>k b o (fun z=>hc (by simp[z])) e) (fun b o _ _ hc e _=>⟨o.slots,k b o (fun z=>hc (by simp[z])) e⟩) (fun _ _ _ _ n=>n)
    (fun b o hc e=>⟨o,k b o (fun z=>hc (by simp[z])) e⟩) (fun _ _ e=>e) (fun _ _ _ e=>e) (fun b ps e=>⟨#[],by rw[e];simp⟩) (fun m hm=>?_) (fun b u e=>?_) I.bare
  · have e:b=it:=by simpa using hb
    subst e;exact⟨h1,hL,h2,h3⟩
  ·obtain⟨o,es,ep,ho,r⟩:=hm;exact⟨o,es,ep,k _ o (Ne.symm hL) ho,r⟩
  · refine(I.hok b u e).stay (fun c v hc q=>k c v ?_ q) (fun _ q=>q) fun _ _ q=>q
    rcases hc with z | z
    ·rw[z];exact nit b u e
    ·exact nit c _ z
theorem Inv.tok (I:Inv X p_ σ H s) (t:Nat):Inv X p_ σ H {s with toks:=t}:=I.un (h':=s.heap) (t':=t) Un.refl I.hok
theorem Inv.kept {t':Nat} (I:Inv X p_ σ H s) (k:∀b u,s.heap.get? b=some u→h'.get? b=some u):Inv X p_ σ H {s with heap:=h',toks:=t'}:=I.un (Un.kept k) (I.hok.kept k)
theorem Inv.laid {a:Addr} {o:HO} {t':Nat} (I:Inv X p_ σ H s) (k:∀b u,s.heap.get? b=some u→h'.get? b=some u) (hp:s.heap.objs.size≤a) (new:cH X.prog X.w (upd H a o) h' a o) :
    Inv X p_ σ (upd H a o) {s with heap:=h',toks:=t'}:=I.un (Un.laid k hp (I.hok.fresh hp)) (I.hok.laid k hp new)
theorem Inv.write {x e:Addr} {o:HO} {t':Nat} (I:Inv X p_ σ H s) (mu:Mut (H x)) (he:e=x∨H e=some (.own x)) (k:∀b u,b≠e→s.heap.get? b=some u→h'.get? b=some u) (heo:∃u,h'.get? e=some u)
    (new:cH X.prog X.w (upd H x o) h' x o):Inv X p_ σ (upd H x o) {s with heap:=h',toks:=t'}:=I.un (Un.write mu he k heo) (I.hok.write mu he k heo new)
theorem Inv.O4 {zc:List (Addr×Obj)} (I:Inv X p_ σ H s) (h:∀p∈zc,s.heap.get? p.1=some p.2∧H p.1=none∧p.1≠X.env.locals∧p.1∉X.fs∧∀v,p.2.data≠.cell v):Inv X zc σ H s:=
  ⟨I.ok,I.os,I.bare,I.base,I.loc,I.cell,I.free,I.i_,fun p hp=>(List.mem_append.mp hp).elim (fun z=>I.pin p (List.mem_append_left _ z)) (h p),I.hok,I.len⟩
theorem Bc {N:List Str} (hN:N.Nodup) {i j:Nat} {x:Str} (a:N[i]? = some x) (b:N[j]? = some x):i=j:=by
  obtain⟨h1,e1⟩:=List.getElem?_eq_some_iff.mp a;obtain⟨h2,e2⟩:=List.getElem?_eq_some_iff.mp b;exact(List.getElem_inj hN).mp (e1.trans e2.symm)
theorem uJ {M:Model} {A:Around} {E:Value→Shared→Prop} {i:Nat} {x:Str} {v:V} {u:Value} {Q:Unit→Shared→Prop} (I:Inv X p_ σ H s) (hN:X.N.Nodup) (hi:X.N[i]? = some x) (hx:Loc X.env.scope x) (r:RelV v u)
    (h:∀s',Inv X p_ (σ.set i (some v)) H s'→(∃a,Heap.SameBut a s.heap s'.heap∧(a=X.env.locals∨X.env.cells.lookup x=some a))→Q () s') (hf:X.fn x=true∨X.env.scope.names.lookup x=some .local:=by first | exact .inl rfl | exact .inr rfl | assumption):wpAny M A (storeName X.env x u) Q E s:=by
  obtain⟨m,hn,hl⟩:=id I.loc;have hcls:(X.env.scope.kind == .class || (X.env.scope.kind == .module && X.env.locals != X.env.globals))=false:=by rw[I.ok.kind];rfl
  have hiσ:i<σ.length:=by rw[I.len];exact(List.getElem?_eq_some_iff.mp hi).1
  have Xv:=I.Xv;have tracked:∀{a:Addr} {h':Heap},(∃o,s.heap.get? a=some o∧H a=none)→Heap.SameBut a s.heap h'→qH X.prog X.w H h':=fun {a h'} ha hs b ob e=>by
    obtain⟨_,_,hfree⟩:=ha;refine(I.hok b ob e).stay (fun c w' hc q=>(hs.2 c ?_).trans q) (fun _ q=>q) fun _ _ q=>q;rintro rfl
    rcases hc with rfl | hc
    ·rw[hfree] at e;cases e
    ·rw[hfree] at hc;cases hc
  rcases hx with hk | hk
  · refine wpAny_storeName_local hk hn (fun h' hn' hs=>?_) hcls;obtain⟨oL,_,_,hoL,_⟩:=id hn;refine h _ ⟨I.ok,I.os,I.bare,⟨fun b o e n hb hx=>?_,fun b o e n hb hx=>?_,I.base.free,fun b o e hx=>?_,I.base.tups,I.base.sW,I.base.sZ⟩,⟨_,hn',fun j y v' e1 e2 e3=>?_⟩,fun y c e=>?_,I.free,I.i_,fun p hp=>?_,tracked ⟨oL,hoL,I.free⟩ hs,by simpa using I.len⟩ ⟨_,hs,.inl rfl⟩
    ·exact(hs.2 b (Nat.ne_of_lt (Nat.lt_of_lt_of_le (Heap.lt_size e) I.ok.above))).trans (I.base.keep b o e n hb hx)
    ·obtain⟨sl,e1⟩:=I.base.slot b o e n hb hx;exact⟨sl,(hs.2 b (Nat.ne_of_lt (Nat.lt_of_lt_of_le (Heap.lt_size e) I.ok.above))).trans e1⟩
    ·obtain⟨o',e1⟩:=I.base.there b o e hx;exact⟨o',(hs.2 b (Nat.ne_of_lt (Nat.lt_of_lt_of_le (Heap.lt_size e) I.ok.above))).trans e1⟩
    · by_cases hj:j=i
      ·subst hj;rw[hi] at e1;cases e1;rw[List.getElem?_set_self hiσ] at e2;cases e2;exact⟨u,r,.inl ⟨hk,by simp⟩⟩
      · rw[List.getElem?_set_ne (Ne.symm hj)] at e2;obtain⟨u',r',q⟩:=hl j y v' e1 e2 e3;refine⟨u',r',?_⟩
        rcases q with⟨k,e⟩ | ⟨k,c,e,z⟩
        ·refine .inl ⟨k,?_⟩;have:y≠x:=fun e=>hj (Bc hN e1 (e▸hi));simp[this,e]
        ·exact .inr ⟨k,c,e,z.sameBut hs (Xv y c e)⟩
    ·obtain⟨w',z⟩:=I.cell y c e;exact⟨w',z.sameBut hs (Xv y c e)⟩
    ·obtain⟨e,n,ne,nf,d⟩:=I.pin p hp;exact⟨(hs.2 p.1 ne).trans e,n,ne,nf,d⟩
  · have hfn:X.fn x=true:=by
      rcases hf with z | z
      ·exact z
      ·rw[z] at hk;cases hk
    obtain⟨c,hc⟩:=I.ok.has x (.inl hk);obtain⟨w',z⟩:=I.cell x c hc;refine wpAny_storeName_cell I.ok.kind hk hc z (fun h' hc' hs=>?_);obtain⟨oc,hoc,qeU⟩:=id z;refine h {s with heap:=h'} ⟨I.ok,I.os,I.bare,⟨fun b o e n hb hx=>?_,fun b o e n hb hx=>?_,I.base.free,fun b o e hx=>?_,I.base.tups,I.base.sW,I.base.sZ⟩,⟨m,hn.sameBut hs (Ne.symm (Xv x c hc)),fun j y v' e1 e2 e3=>?_⟩,fun y c' e=>?_,I.free,I.i_,fun p hp=>?_,tracked ⟨oc,hoc,I.i_ x c hc⟩ hs,by simpa using I.len⟩ ⟨c,hs,.inr hc⟩
    ·exact(hs.2 b (Nat.ne_of_lt (Nat.lt_of_lt_of_le (Heap.lt_size e) (I.ok.cab x c hfn hc)))).trans (I.base.keep b o e n hb hx)
    ·obtain⟨sl,e1⟩:=I.base.slot b o e n hb hx;exact⟨sl,(hs.2 b (Nat.ne_of_lt (Nat.lt_of_lt_of_le (Heap.lt_size e) (I.ok.cab x c hfn hc)))).trans e1⟩
    ·obtain⟨o',e1⟩:=I.base.there b o e hx;exact⟨o',(hs.2 b (Nat.ne_of_lt (Nat.lt_of_lt_of_le (Heap.lt_size e) (I.ok.cab x c hfn hc)))).trans e1⟩
    · by_cases hj:j=i
      ·subst hj;rw[hi] at e1;cases e1;rw[List.getElem?_set_self hiσ] at e2;cases e2;exact⟨u,r,.inr ⟨.inl hk,c,hc,hc'⟩⟩
      · rw[List.getElem?_set_ne (Ne.symm hj)] at e2;obtain⟨u',r',q⟩:=hl j y v' e1 e2 e3;refine⟨u',r',?_⟩
        rcases q with q | ⟨k,c',e,z'⟩
        ·exact .inl q
        ·refine .inr ⟨k,c',e,z'.sameBut hs ?_⟩;rintro rfl;exact hj (Bc hN e1 (I.ok.inj _ _ _ e hc▸hi))
    · by_cases hcc:c'=c
      ·subst hcc;exact⟨_,hc'⟩
      ·obtain⟨w2,z2⟩:=I.cell y c' e;exact⟨w2,z2.sameBut hs hcc⟩
    ·obtain⟨e,n,ne,nf,d⟩:=I.pin p hp;refine⟨(hs.2 p.1 ?_).trans e,n,ne,nf,d⟩;intro q;rw[q,hoc] at e;have q':oc=p.2:=Option.some.inj e;exact d w' (by rw[← q'];exact qeU)
theorem wK {M:Model} {A:Around} {E:Value→Shared→Prop} {i:Nat} {x:Str} {v:V} {u:Value} {Q:Unit→Shared→Prop} (I:Inv X p_ σ H s) (hN:X.N.Nodup) (hi:X.N[i]? = some x) (hx:Loc X.env.scope x) (r:RelV v u)
    (h:∀s',Inv X p_ (σ.set i (some v)) H s'→Q () s') (hf:X.fn x=true∨X.env.scope.names.lookup x=some .local:=by first | exact .inl rfl | exact .inr rfl | assumption):wpAny M A (storeName X.env x u) Q E s:=
  uJ I hN hi hx r (fun s' I' _=>h s' I') hf
theorem Inv.call' {s':Shared} {ch:List Addr} (I:Inv X p_ σ H s) (ho:s'.os=s.os) (u:Un (frs X.stack) ch H H' s.heap s'.heap) (hok:qH X.prog X.w H' s'.heap) (hg:AllBare s'.gens)
    (hch:∀b∈ch,(b∈X.ex∨X.s₀.heap.objs.size≤b)∧b≠X.env.locals∧(∀x c,X.env.cells.lookup x=some c→c≠b)∧∀p∈X.pn++p_,p.1≠b):Inv X p_ σ H' s':=by
  obtain⟨h',g',d',t',o'⟩:=s';have e:o'=s.os:=ho;subst e;exact I.call (g':=g') (t':=t') (d':=d') u hok hg hch
end
abbrev XK:=Value→Option Addr→Hp→Prop
abbrev St:=List (Option V)
abbrev VK:=V→Hp→Prop
abbrev TE:=St→Hp→VK→Prop
abbrev TT:=St→Hp→(Bool→Hp→Prop)→Prop
abbrev TA:=St→Hp→(List V→Hp→Prop)→Prop
structure Ends where
  nx:St→Hp→Prop
  rt:VK
  bk:St→Hp→Prop:=fun _ _=>False
  ct:St→Hp→Prop:=fun _ _=>False
abbrev TS:=Ends→St→Hp→Prop
def EP (X:Cx) (p_:List (Addr×Obj)) (σ:St) (Q:VK) (u:Value) (s':Shared):Prop:=∃v H',Inv X p_ σ H' s'∧RelV v u∧Q v H'
def TP (X:Cx) (p_:List (Addr×Obj)) (σ:St) (Q:Bool→Hp→Prop) (b:Bool) (s':Shared):Prop:=∃H',Inv X p_ σ H' s'∧Q b H'
def AP (X:Cx) (p_:List (Addr×Obj)) (σ:St) (Q:List V→Hp→Prop) (us:List Value) (s':Shared):Prop:=∃vs H',Inv X p_ σ H' s'∧Vals vs us∧Q vs H'
def SP (X:Cx) (p_:List (Addr×Obj)) (D:Ends) (f:Flow) (s':Shared):Prop:=
  match f with
  | .next=>∃σ' H',Inv X p_ σ' H' s'∧D.nx σ' H'
  | .brk=>∃σ' H',Inv X p_ σ' H' s'∧D.bk σ' H'
  | .cont=>∃σ' H',Inv X p_ σ' H' s'∧D.ct σ' H'
  | .ret u=>∃v σ' H',Inv X p_ σ' H' s'∧RelV v u∧D.rt v H'
def PE (X:Cx) (e:Expr) (t:TE):Prop:=
  ∀(p_:List (Addr×Obj)) (s:Shared) (σ:St) (H:Hp) (Q:VK),Inv X p_ σ H s→t σ H Q→wpAny (model X.prog X.w) X.A (eval e X.env) (EP X p_ σ Q) X.xe s
def PT (X:Cx) (e:Expr) (t:TT):Prop:=
  ∀(p_:List (Addr×Obj)) (s:Shared) (σ:St) (H:Hp) (Q:Bool→Hp→Prop),Inv X p_ σ H s→t σ H Q→wpAny (model X.prog X.w) X.A (isTrue e X.env (eval e X.env)) (TP X p_ σ Q) X.xe s
def PW (X:Cx) (e:Expr) (t:TT):Prop:=
  ∀(whole:Sem Value) (p_:List (Addr×Obj)) (s:Shared) (σ:St) (H:Hp) (Q:Bool→Hp→Prop),Inv X p_ σ H s→t σ H Q→wpAny (model X.prog X.w) X.A (isTrue e X.env whole) (TP X p_ σ Q) X.xe s
theorem PW.pt {X:Cx} {e:Expr} {t:TT} (h:PW X e t):PT X e t:=h _
def PA (X:Cx) (es:List Expr) (t:TA):Prop:=
  ∀(pos:Pos) (p_:List (Addr×Obj)) (s:Shared) (σ:St) (H:Hp) (Q:List V→Hp→Prop),Inv X p_ σ H s→t σ H Q→wpAny (model X.prog X.w) X.A (spliced (backTo pos (starEach es X.env))) (AP X p_ σ Q) X.xe s
def PS (X:Cx) (st:Stmt) (t:TS):Prop:=
  ∀(p_:List (Addr×Obj)) (s:Shared) (σ:St) (H:Hp) (D:Ends),Inv X p_ σ H s→t D σ H→wpAny (model X.prog X.w) X.A (exec st X.env) (SP X p_ D) X.xe s
def D_ (X:Cx) (st:List Stmt) (t:TS):Prop:=
  ∀(p_:List (Addr×Obj)) (s:Shared) (σ:St) (H:Hp) (D:Ends),Inv X p_ σ H s→t D σ H→wpAny (model X.prog X.w) X.A (execs st X.env) (SP X p_ D) X.xe s
theorem cY {α:Type} {t:Sem α} {Q Q':α→Shared→Prop} {M:Model} {A:Around} {E:Value→Shared→Prop} {s:Shared} (h:wpAny M A t Q E s) (hQ:∀a s,Q a s→Q' a s):wpAny M A t Q' E s:=wpAny_mono h hQ fun _ _ x=>x
section
variable {X:Cx}
def qam (i:Nat):TE:=fun σ H Q=>∃v,σ[i]? = some (some v)∧Q v H
def tC (v:V):TE:=fun _ H Q=>Q v H
theorem qan {i:Nat} {x:Str} {pos:Pos} (hN:X.N[i]? = some x) (hv:Vis X.env.scope x) (hd:(x == ("__debug__" : Str))=false:=by decide) (hcd:(x == ("__classdict__" : Str))=false:=by decide):PE X (.Name x pos) (qam i):=by
  intro p_ s σ H Q I h;obtain⟨v,e,h⟩:=h;obtain⟨m,hn,hl⟩:=I.loc;obtain⟨u,r,l⟩:=hl i x v hN e hv;have fin:EP X p_ σ Q u s:=⟨v,H,I,r,h⟩
  rcases l with⟨hk,hm⟩ | ⟨hk,c,hc,hcell⟩
  ·exact wpAny_Name (wpAny_loadName_local I.ok.kind hk hn hm fin) hd
  · rcases hk with hk | hk
    ·exact wpAny_Name (wpAny_loadName_cell I.ok.kind hk hc hcell fin) hd
    ·exact wpAny_Name (wpAny_loadName_free I.ok.kind hk hc hcell fin hcd) hd
theorem aP {i j pos}:PE X (.Constant (.int i) j pos) (tC (.int i)):=fun _ _ _ H _ I h=>wpAny_Constant_int ⟨.int i,H,I.tok _,⟨_,rfl⟩,h⟩
theorem iG {b j pos}:PE X (.Constant (.bool b) j pos) (tC (.bl b)):=fun _ _ _ H _ I h=>Constant_bool ⟨.bl b,H,I,rfl,h⟩
theorem Bd {j pos}:PE X (.Constant .none j pos) (tC .non):=fun _ _ _ H _ I h=>Constant_none ⟨.non,H,I,rfl,h⟩
theorem bL {x j pos}:PE X (.Constant (.str x) j pos) (tC (.str x)):=fun _ _ _ H _ I h=>Calls.Constant_str ⟨.str x,H,I.tok _,⟨_,rfl⟩,h⟩
def Gl (X:Cx) (x:Str):Prop:=X.env.kindOf x=some .globalImplicit
theorem qI {E:Value→Shared→Prop} {p_:List (Addr×Obj)} {s:Shared} {σ:St} {H:Hp} {x:Str} {u:Value} {pos:Pos} {Q:Value→Shared→Prop} (I:Inv X p_ σ H s) (hg:Gl X x) (hm:X.mg x=some u) (h:Q u s)
    (hd:(x == ("__debug__" : Str))=false:=by decide):wpAny (model X.prog X.w) X.A (eval (.Name x pos) X.env) Q E s:=
  Calls.Name_function_global I.ok.kind hg (Calls.loadGlobal_global (by rw[I.ok.glob];exact I.mod.glob.keeps I.bk) hm h) hd
theorem lU {E:Value→Shared→Prop} {p_:List (Addr×Obj)} {s:Shared} {σ:St} {H:Hp} {x:Str} {u:Value} {pos:Pos} {Q:Value→Shared→Prop} (I:Inv X p_ σ H s) (hg:Gl X x) (hm:X.mg x=none) (hv:bootBuiltins x=some u) (h:Q u s)
    (hn:x≠ "__name__" :=by decide) (hd:(x == ("__debug__" : Str))=false:=by decide):wpAny (model X.prog X.w) X.A (eval (.Name x pos) X.env) Q E s:=by
  obtain⟨mb,h1,h2⟩:=I.mod.blt;exact Calls.Name_function_global I.ok.kind hg (Calls.loadGlobal_builtin (by rw[I.ok.glob];exact I.mod.glob.keeps I.bk) hm (by rw[I.ok.blt];exact h1.keeps I.bk) ((h2 x hn).trans hv) h) hd
theorem cA {x:Str} {v:V} {u:Value} {pos:Pos} (hg:Gl X x) (hm:X.mg x=some u) (r:RelV v u) (hd:(x == ("__debug__" : Str))=false:=by decide):PE X (.Name x pos) (tC v):=
  fun _ _ _ H _ I h=>qI I hg hm ⟨v,H,I,r,h⟩ hd
theorem fX {x:Str} {v:V} {u:Value} {pos:Pos} (hg:Gl X x) (hm:X.mg x=none) (hv:bootBuiltins x=some u) (r:RelV v u) (hn:x≠ "__name__" :=by decide) (hd:(x == ("__debug__" : Str))=false:=by decide):PE X (.Name x pos) (tC v):=
  fun _ _ _ H _ I h=>lU I hg hm hv ⟨v,H,I,r,h⟩ hn hd
variable {a b:Expr} {ta tb:TE} {pos:Pos}
def tB (t:TE):TT:=fun σ H Q=>t σ H fun x H1=>∃c,x = .bl c∧Q c H1
theorem qao {e:Expr} {t:TE} (h:PE X e t) (he:∀whole,isTrue e X.env whole=(do let v ← whole;standAt e.pos;holding [v] (truthy v)):=by intro _;rfl):PT X e (tB t):=by
  intro p_ s σ H Q I hw;refine isTrue_plain (cY (h p_ s σ H _ I hw) fun v s1 zz=>?_) (he _);obtain⟨x,H1,I1,r1,q1⟩:=zz;obtain⟨d,rfl,q⟩:=q1;cases r1;exact wpAny_truthy_bool ⟨H1,I1,q⟩
variable {tA tB':TT} {rest:List Expr}
def tOr (t u:TT):TT:=fun σ H Q=>t σ H fun c H1=>if c=true then Q true H1 else u σ H1 Q
def qb5 (t:TT):TT:=fun σ H Q=>t σ H fun c H1=>Q (!c) H1
theorem gO (ha:PT X a tA):PW X (.BoolOp .Or [a] pos) tA:=by
  intro wh p_ s σ H Q I h;refine isTrue_or (cY (ha p_ s σ H Q I h) fun c s1 e=>?_);cases c with
  | false=>exact isTrue_or_nil e
  | true=>exact e
theorem lG (ha:PT X a tA) (hb:PW X (.BoolOp .Or (b::rest) pos) tB'):PW X (.BoolOp .Or (a::b::rest) pos) (tOr tA tB'):=by
  intro wh p_ s σ H Q I h;refine isTrue_or (cY (ha p_ s σ H _ I h) fun c s1 zz=>?_);obtain⟨H1,I1,q1⟩:=zz;cases c with
  | true=>exact⟨H1,I1,q1⟩
  | false=>exact hb wh p_ s1 σ H1 Q I1 q1
theorem bT (ha:PT X a tA):PT X (.UnaryOp .Not a pos) (qb5 tA):=by
  intro p_ s σ H Q I h;exact isTrue_not (ha p_ s σ H (fun c H1=>Q (!c) H1) I h)
def SJ (ta tb:TE):TE:=fun σ H Q=>ta σ H fun x H1=>∃c,x = .bl c∧if c=true then tb σ H1 Q else Q (.bl false) H1
def SM (ta:TE):TE:=fun σ H Q=>ta σ H fun x H1=>∃c,x = .bl c∧Q (.bl (!c)) H1
theorem lV {op} {t:TE} (h:PE X a t):PE X (.BoolOp op [a] pos) t:=fun p_ s σ H Q I hw=>BoolOp_one (h p_ s σ H Q I hw)
theorem qap (ha:PE X a ta) (hb:PE X (.BoolOp .And (b::rest) pos) tb):PE X (.BoolOp .And (a::b::rest) pos) (SJ ta tb):=by
  intro p_ s σ H Q I h;refine BoolOp_and (cY (ha p_ s σ H _ I h) fun v s1 zz=>?_);obtain⟨x,H1,I1,r1,q1⟩:=zz;obtain⟨c,rfl,q1⟩:=q1;cases r1;refine wpAny_truthy_bool ?_;cases c with
  | true=>exact hb p_ s1 σ H1 Q I1 q1
  | false=>exact⟨.bl false,H1,I1,rfl,q1⟩
theorem qaq (ha:PE X a ta):PE X (.UnaryOp .Not a pos) (SM ta):=by
  intro p_ s σ H Q I h;refine UnaryOp_ (cY (ha p_ s σ H _ I h) fun v s1 zz=>?_);obtain⟨x,H1,I1,r1,q1⟩:=zz;obtain⟨c,rfl,q1⟩:=q1;cases r1;exact not_of (wpAny_truthy_bool ⟨.bl (!c),H1,I1,rfl,q1⟩)
def tIf (t:TT) (ta tb:TE):TE:=fun σ H Q=>t σ H fun c H1=>if c=true then ta σ H1 Q else tb σ H1 Q
theorem Bf {c:Expr} (hc:PT X c tA) (ha:PE X a ta) (hb:PE X b tb):PE X (.IfExp c a b pos) (tIf tA ta tb):=by
  intro p_ s σ H Q I h;refine wpAny_IfExp (cY (hc p_ s σ H _ I h) fun d s1 zz=>?_);obtain⟨H1,I1,q1⟩:=zz;cases d with
  | true=>exact ha p_ s1 σ H1 Q I1 q1
  | false=>exact hb p_ s1 σ H1 Q I1 q1
end
def bA (K:W.Frag) (H:Hp) (a:Addr) (xs:List V):Prop:=
  Rd H a (.lst xs)∨
    ∃(o:Obj) (its:Array Value) (n:Nat),K.lookup a=some o∧o.cls = .type "list" ∧o.dict=none∧o.data = .seq its n∧its.size≤sizeLine∧Vals xs its.toList
def jK (K:W.Frag) (H:Hp) (a:Addr) (xs:List V):Prop:=
  Rd H a (.tup xs)∨
    ∃(o:Obj) (its:Array Value) (n:Nat),K.lookup a=some o∧o.cls = .type "tuple" ∧o.data = .seq its n∧its.size≤sizeLine∧Vals xs its.toList
def qeV:Value→Option V
  | .none=>some .non
  | .bool b=>some (.bl b)
  | .int i _=>some (.int i)
  | .str x _=>some (.str x)
  | .bytes b _=>some (.R4 b)
  | .float b _=>some (.flt b)
  | .ref a=>some (.ref a)
  | .type n=>some (.ty n)
  | _=>none
theorem RelV.abs {x:V} {u:Value} (r:RelV x u):qeV u=some x:=by
  cases x with
  | non=>cases r;rfl
  | bl _=>cases r;rfl
  | int _=>obtain⟨t,rfl⟩:=r;rfl
  | str _=>obtain⟨t,rfl⟩:=r;rfl
  | R4 _=>obtain⟨t,rfl⟩:=r;rfl
  | flt _=>obtain⟨t,rfl⟩:=r;rfl
  | ref _=>cases r;rfl
  | ty _=>cases r;rfl
theorem RelV.inj {x y:V} {u:Value} (r:RelV x u) (q:RelV y u):x=y:=Option.some.inj (r.abs.symm.trans q.abs)
theorem Vals.inj:∀{xs ys:List V} {us:List Value},Vals xs us→Vals ys us→xs=ys
  | _,_,_,.nil,.nil=>rfl
  | _,_,_,.cons r t,.cons r' t'=>by rw[r.inj r',Vals.inj t t']
section
variable {X:Cx} {p_:List (Addr×Obj)} {σ:St} {H:Hp} {s:Shared} {a:Addr} {xs ys:List V}
theorem bA.of {K:W.Frag} (h:H a=some (.lst xs)):bA K H a xs:=.inl (.inl h)
theorem jK.of {K:W.Frag} (h:H a=some (.tup xs)):jK K H a xs:=.inl (.inl h)
theorem Inv.list (I:Inv X p_ σ H s) (h:bA X.K H a xs):∃its:List Value,Vals xs its∧PlainL s.heap a its.toArray∧xs.length≤sizeLine:=by
  rcases h with h | ⟨o,its,n,hk,hc,hd,hs,hz,r⟩
  ·obtain⟨z,its,n,r,e⟩:=h.ok I.hok;exact⟨its,r,⟨_,n,e,rfl,rfl,rfl⟩,z⟩
  ·refine⟨its.toList,r,⟨o,n,I.vC a o hk,hc,hd,by simpa using hs⟩,?_⟩;have e:=r.length;simp only[Array.length_toList] at e;omega
theorem Inv.tuple (I:Inv X p_ σ H s) (h:jK X.K H a xs):∃its:List Value,Vals xs its∧IsTup s.heap a its.toArray∧xs.length≤sizeLine:=by
  rcases h with h | ⟨o,its,n,hk,hc,hs,hz,r⟩
  ·obtain⟨z,its,r,p⟩:=h.ok I.hok;exact⟨its,r,p,z⟩
  ·refine⟨its.toList,r,⟨o,I.vC a o hk,hc,n,by simpa using hs⟩,?_⟩;have e:=r.length;simp only[Array.length_toList] at e;omega
theorem Inv.tE (I:Inv X p_ σ H s) (h:bA X.K H a xs) (h':bA X.K H a ys):xs=ys:=by
  obtain⟨its,r,⟨o,n,e,_,_,d⟩,_⟩:=I.list h;obtain⟨its',r',⟨o',n',e',_,_,d'⟩,_⟩:=I.list h';rw[e] at e';cases e';rw[d] at d';injection d' with d1 _;have:its=its':=by simpa using congrArg Array.toList d1
  subst this;exact r.inj r'
theorem Inv.QB (I:Inv X p_ σ H s) (h:jK X.K H a xs) (h':jK X.K H a ys):xs=ys:=by
  obtain⟨its,r,⟨o,e,_,n,d⟩,_⟩:=I.tuple h;obtain⟨its',r',⟨o',e',_,n',d'⟩,_⟩:=I.tuple h';rw[e] at e';cases e';rw[d] at d';injection d' with d1 _;have:its=its':=by simpa using congrArg Array.toList d1
  subst this;exact r.inj r'
end
abbrev Cx.wish (X:Cx) (E:Value→Shared→Prop):Cx:={X with xe:=E}
abbrev Cx.R6 (X:Cx):Cx:=X.wish fun _ _=>False
theorem Cx.Ok.wish {X:Cx} (ok:X.Ok) (E:Value→Shared→Prop):(X.wish E).Ok:=
  ⟨ok.mod,ok.kind,ok.glob,ok.blt,ok.above,ok.inj,ok.has,ok.cab,ok.hd,ok.frames,ok.stk,ok.Xu,ok.bs,ok.O2,ok.JK,ok.GQ,ok.tu,ok.Sy⟩
theorem Cx.Ok.tG {X:Cx} {E:Value→Shared→Prop} (ok:(X.wish E).Ok):X.Ok:=
  ⟨ok.mod,ok.kind,ok.glob,ok.blt,ok.above,ok.inj,ok.has,ok.cab,ok.hd,ok.frames,ok.stk,ok.Xu,ok.bs,ok.O2,ok.JK,ok.GQ,ok.tu,ok.Sy⟩
section
variable {X:Cx} {p_:List (Addr×Obj)} {σ:St} {H:Hp} {s:Shared} {E:Value→Shared→Prop}
theorem Inv.wish (I:Inv X p_ σ H s) (E:Value→Shared→Prop):Inv (X.wish E) p_ σ H s:=⟨I.ok.wish E,I.os,I.bare,I.base,I.loc,I.cell,I.free,I.i_,I.pin,I.hok,I.len⟩
theorem Inv.tG (I:Inv (X.wish E) p_ σ H s):Inv X p_ σ H s:=⟨I.ok.tG,I.os,I.bare,I.base,I.loc,I.cell,I.free,I.i_,I.pin,I.hok,I.len⟩
theorem SP.tG {D:Ends} {f:Flow} {s':Shared} (h:SP (X.wish E) p_ D f s'):SP X p_ D f s':=by
  cases f with
  | next=>obtain⟨σ',H',I,q⟩:=h;exact⟨σ',H',I.tG,q⟩
  | brk=>obtain⟨σ',H',I,q⟩:=h;exact⟨σ',H',I.tG,q⟩
  | cont=>obtain⟨σ',H',I,q⟩:=h;exact⟨σ',H',I.tG,q⟩
  | ret u=>obtain⟨v,σ',H',I,r,q⟩:=h;exact⟨v,σ',H',I.tG,r,q⟩
theorem D_.R6 {st:List Stmt} {t:TS} (h:D_ X.R6 st t):D_ X st t:=fun p_ s σ H D I hw=>
  wpAny_mono (h p_ s σ H D (I.wish _) hw) (fun _ _ q=>q.tG) fun _ _ z=>False.elim z
end
section
variable {X:Cx} {st:Stmt} {rest:List Stmt} {t u:TS} {e:Expr} {te:TE} {pos:Pos}
def Zn:TS:=fun D σ H=>D.nx σ H
def qar (t u:TS):TS:=fun D σ H=>t {D with nx:=u D} σ H
theorem bF:D_ X [] Zn:=fun _ _ σ H _ I h=>wpAny_execs_nil ⟨σ,H,I,h⟩
theorem aF (h1:PS X st t) (h2:D_ X rest u):D_ X (st::rest) (qar t u):=by
  intro p_ s σ H D I h;refine wpAny_execs_cons (cY (h1 p_ s σ H {D with nx:=u D} I h) fun f s1 q=>?_);cases f with
  | next=>
    obtain⟨σ',H',I',q⟩:=q;exact h2 p_ s1 σ' H' D I' q
  | ret v=>exact q
  | brk=>exact q
  | cont=>exact q
theorem aK (h1:PS X st t):D_ X [st] t:=by
  intro p_ s σ H D I h;refine wpAny_execs_cons (cY (h1 p_ s σ H D I h) fun f s1 q=>?_);cases f with
  | next=>exact wpAny_execs_nil q
  | ret v=>exact q
  | brk=>exact q
  | cont=>exact q
theorem Inv.quiet {p_:List (Addr×Obj)} {σ:St} {H:Hp} {s:Shared} (I:Inv X p_ σ H s):interactive X.env=false:=by simp[interactive,I.ok.kind]
def Zo (te:TE):TS:=fun D σ H=>te σ H fun _ H1=>D.nx σ H1
theorem jl (he:PE X e te) (hs:swapsWith e none pos.line X.env=pure false:=by rfl):PS X (.Expr e pos) (Zo te):=by
  intro p_ s σ H D I h;refine wpAny_Expr_any (cY (he p_ s σ H _ I h) fun v s1 zz=>?_) I.quiet hs;obtain⟨x,H1,I1,r1,q1⟩:=zz;exact⟨σ,H1,I1,q1⟩
def SN (te:TE):TS:=fun D σ H=>te σ H D.rt
theorem bf (he:PE X e te):PS X (.Return (some e) pos) (SN te):=by
  intro p_ s σ H D I h;refine wpAny_Return_some (cY (he p_ s σ H _ I h) fun v s1 zz=>?_);obtain⟨x,H1,I1,r1,q1⟩:=zz;exact⟨x,σ,H1,I1,r1,q1⟩
def qb6 (c:TT) (t u:TS):TS:=fun D σ H=>c σ H fun b H1=>if b=true then t D σ H1 else u D σ H1
theorem cI {c:Expr} {a b:List Stmt} {tc:TT} (hc:PT X c tc) (ha:D_ X a t) (hb:D_ X b u):PS X (.If c a b pos) (qb6 tc t u):=by
  intro p_ s σ H D I h;refine wpAny_If (cY (hc p_ s σ H _ I h) fun d s1 zz=>?_);obtain⟨H1,I1,q1⟩:=zz;cases d with
  | true=>exact ha p_ s1 σ H1 D I1 q1
  | false=>exact hb p_ s1 σ H1 D I1 q1
def Ma:TS:=fun _ _ _=>False
theorem tH:PS X st Ma:=fun _ _ _ _ _ _ h=>h.elim
theorem Fj {sts:List Stmt}:D_ X sts Ma:=fun _ _ _ _ _ _ h=>h.elim
end
abbrev TG:=V→St→Hp→(St→Hp→Prop)→Prop
abbrev Fl:=List V→St→Hp→(St→Hp→Prop)→Prop
def PG (X:Cx) (target:Expr) (t:TG):Prop:=
  ∀(p_:List (Addr×Obj)) (s:Shared) (σ:St) (H:Hp) (v:V) (u:Value) (Q:St→Hp→Prop),Inv X p_ σ H s→RelV v u→t v σ H Q→
    wpAny (model X.prog X.w) X.A (assign target X.env u) (fun _ s'=>∃σ' H',Inv X p_ σ' H' s'∧Q σ' H') X.xe s
def qJ (X:Cx) (ts:List Expr) (t:Fl):Prop:=
  ∀(p_:List (Addr×Obj)) (s:Shared) (σ:St) (H:Hp) (vs:List V) (us:List Value) (Q:St→Hp→Prop),Inv X p_ σ H s→Vals vs us→t vs σ H Q→
    wpAny (model X.prog X.w) X.A (assignInOrder ((assignEach ts X.env).map (·.2)) us) (fun _ s'=>∃σ' H',Inv X p_ σ' H' s'∧Q σ' H') X.xe s
abbrev QC:=V→V→V→Hp→(Hp→Prop)→Prop
def QD (X:Cx) (t:QC):Prop:=
  ∀(p_:List (Addr×Obj)) (s:Shared) (σ:St) (H:Hp) (o i v:V) (ov iv u:Value) (Q:Hp→Prop),Inv X p_ σ H s→RelV o ov→RelV i iv→RelV v u→t o i v H Q→
    wpAny (model X.prog X.w) X.A (setItem ov iv u) (fun _ s'=>∃H',Inv X p_ σ H' s'∧Q H') X.xe s
section
variable {X:Cx} {pos:Pos}
def Fo (i:Nat):TG:=fun v σ H Q=>Q (σ.set i (some v)) H
theorem aY {i:Nat} {x:Str} (hN:X.N.Nodup) (hi:X.N[i]? = some x) (hx:Loc X.env.scope x) (hf:X.fn x=true∨X.env.scope.names.lookup x=some .local:=by first | exact .inl rfl | exact .inr rfl | assumption):PG X (.Name x pos) (Fo i):=by
  intro p_ s σ H v u Q I r h;exact wpAny_assign_Name (wK I hN hi hx r (fun s' I'=>⟨_,H,I',h⟩) hf)
def qas:Fl:=fun vs σ H Q=>vs=[]∧Q σ H
def SQ (t:TG) (u:Fl):Fl:=fun vs σ H Q=>∃v r,vs=v::r∧t v σ H fun σ' H'=>u r σ' H' Q
theorem mL:qJ X [] qas:=by
  intro p_ s σ H vs us Q I r h;obtain⟨e,h⟩:=h;subst e;cases r;exact assignInOrder_nil ⟨σ,H,I,h⟩
theorem cN {e:Expr} {es:List Expr} {t:TG} {u:Fl} (h1:PG X e t) (h2:qJ X es u)
    (hs:(assignEach (e::es) X.env).map (·.2)=assign e X.env::(assignEach es X.env).map (·.2):=by rfl):qJ X (e::es) (SQ t u):=by
  intro p_ s σ H vs us Q I r h;obtain⟨v,vr,e1,h⟩:=h;subst e1;cases r with
  | cons r rr=>
    rw[hs];refine assignInOrder_cons (cY (h1 p_ s σ H _ _ _ I r h) fun _ s1 zz=>?_);obtain⟨σ1,H1,I1,q1⟩:=zz;exact h2 p_ s1 σ1 H1 _ _ Q I1 rr q1
def Xw (K:W.Frag) (n:Nat) (t:Fl):TG:=fun v σ H Q=>∃a xs,v = .ref a∧jK K H a xs∧xs.length=n∧t xs σ H Q
theorem qat {es:List Expr} {k:Nat} {t:Fl} {n:Nat} (hc:X.calm=true) (h:qJ X es t)
    (hn:(assignEach es X.env).length=n:=by rfl) (hst:(assignEach es X.env).findIdx? (·.1)=none:=by rfl):PG X (.Tuple es k pos) (Xw X.K n t):=by
  intro p_ s σ H v u Q I r hw;obtain⟨a,xs,e1,hq,hl,hw⟩:=hw;subst e1;cases r;obtain⟨its,rv,ht,hz⟩:=I.tuple hq;refine assign_Tuple_tuple (I.ok.hd hc) ht (by simp[hn,← hl,rv.length]) hst fun h' hx=>?_;have I1:Inv X p_ σ H {s with heap:=h'}:=I.kept (t':=s.toks) fun b o e=>hx b o (Nat.ne_of_lt (Heap.lt_size e)) e;exact h p_ _ σ H xs _ Q I1 (by simpa using rv) hw
def qb7 (to ti:TE) (t:QC):TG:=fun v σ H Q=>to σ H fun o H1=>ti σ H1 fun i H2=>t o i v H2 fun H3=>Q σ H3
theorem SX {o i:Expr} {to ti:TE} {t:QC} (ho:PE X o to) (hi:PE X i ti) (hs:QD X t)
    (ha:∀v,assign (.Subscript o i pos) X.env v=(do
      let ov ← holding [v] (eval o X.env)
      let iv ← holding [v,ov] (eval i X.env)
      standAt pos
      holding [v,ov,iv] (setItem ov iv v)
      release [v,ov,iv] []):=by intro _;rfl):PG X (.Subscript o i pos) (qb7 to ti t):=by
  intro p_ s σ H v u Q I r h;rw[ha];refine wpAny_bind (wpAny_holding (cY (ho p_ s σ H _ I h) fun ov s1 zz=>?_));obtain⟨x,H1,I1,r1,q1⟩:=zz;refine wpAny_bind (wpAny_holding (cY (hi p_ s1 σ H1 _ I1 q1) fun iv s2 zz=>?_));obtain⟨y,H2,I2,r2,q2⟩:=zz;refine wpAny_bind (wpAny_standAt (wpAny_bind (wpAny_holding (cY (hs p_ s2 σ H2 x y v ov iv u _ I2 r1 r2 r q2) fun _ s3 zz=>?_))));obtain⟨H3,I3,q3⟩:=zz;exact wpAny_release ⟨σ,H3,I3,q3⟩
def QF (te:TE) (g:TG):TS:=fun D σ H=>te σ H fun x H1=>g x σ H1 D.nx
theorem Mf {tg e:Expr} {te:TE} {g:TG} (he:PE X e te) (hg:PG X tg g) (hs:swapsWithSole [tg] e pos.line X.env=pure false:=by rfl) (hw:swappedStores [tg] e X.env=pure none:=by rfl)
    (h1:(assignEach [tg] X.env).map (·.2)=[assign tg X.env]:=by rfl):PS X (.Assign [tg] e pos) (QF te g):=by
  intro p_ s σ H D I h;refine wpAny_Assign_stores (cY (he p_ s σ H _ I h) fun v s1 zz=>?_) hs hw;obtain⟨x,H1,I1,r1,q1⟩:=zz;rw[h1];exact cY (hg p_ s1 σ H1 x v _ I1 r1 q1) fun _ s2 q=>q
theorem bJ {i:Nat} {x:Str} {e:Expr} {te:TE} {pos':Pos} (hN:X.N.Nodup) (hi:X.N[i]? = some x) (hx:Loc X.env.scope x) (he:PE X e te) (hs:swapsWith e (some (.Name x pos')) pos.line X.env=pure false:=by rfl) (hf:X.fn x=true∨X.env.scope.names.lookup x=some .local:=by first | exact .inl rfl | exact .inr rfl | assumption) :
    PS X (.Assign [.Name x pos'] e pos) (QF te (Fo i)):=by
  intro p_ s σ H D I h;refine wpAny_Assign_Name (cY (he p_ s σ H _ I h) fun v s1 zz=>?_) hs;obtain⟨y,H1,I1,r1,q1⟩:=zz;exact wK I1 hN hi hx r1 (fun s2 I2=>⟨_,H1,I2,q1⟩) hf
def qau (i j:Nat) (ta:TA):TS:=fun D σ H=>ta σ H fun vs H1=>∃v w,vs=[v,w]∧D.nx ((σ.set i (some v)).set j (some w)) H1
theorem qav {i j:Nat} {x y:Str} {a b:Expr} {ta:TA} {px py pt:Pos} {kt k2 pt2} (hc:X.calm=true) (hN:X.N.Nodup) (hi:X.N[i]? = some x) (hj:X.N[j]? = some y) (hij:i≠j)
    (hx:X.env.scope.names.lookup x=some .local) (hy:X.env.scope.names.lookup y=some .local) (ha:PA X [a,b] ta)
    (hw:swappedStores [.Tuple [.Name x px,.Name y py] kt pt] (.Tuple [a,b] k2 pt2) X.env=pure (some [x,y]))
    (hs:swapsWithSole [.Tuple [.Name x px,.Name y py] kt pt] (.Tuple [a,b] k2 pt2) pos.line X.env=pure false:=by rfl) :
    PS X (.Assign [.Tuple [.Name x px,.Name y py] kt pt] (.Tuple [a,b] k2 pt2) pos) (qau i j ta):=by
  intro p_ s σ H D I h;rw[exec_Assign_arm];refine wpAny_bind (wpAny_standAt ?_);rw[hs];refine wpAny_bind (wpAny_pure ?_);rw[if_neg (by decide)];refine wpAny_bind (Tuple_ (cY (ha _ p_ s σ H _ I h) fun us s1 zz=>?_));obtain⟨vs,H1,I1,r1,q1⟩:=zz;obtain⟨v,w,e1,q1⟩:=q1;subst e1;obtain⟨u1,u2,rfl,rv,Mg⟩:∃u1 u2,us=[u1,u2]∧RelV v u1∧RelV w u2:=by
    cases r1 with
    | cons p q=>
      cases q with
      | cons p' q'=>
        cases q';exact⟨_,_,rfl,p,p'⟩
  refine wpAny_newObj_type ?_ (by show 2≤sizeLine;decide);have I2:Inv X p_ σ H1 {s1 with heap:=s1.heap.push {cls:=.type "tuple",data:=.seq [u1,u2].toArray}}:=I1.kept (t':=s1.toks) fun b o e=>Heap.get?_push_of_some _ e;rw[hw];refine wpAny_bind (wpAny_pure ?_);show wpAny (model X.prog X.w) X.A (do rule "assign.swapped-stores";let items ← unpackItems (.ref s1.heap.objs.size) 2 none;assignInOrder [fun v=>bindName X.env y v,fun v=>bindName X.env x v] items.reverse;pure Flow.next) _ _ _
  refine wpAny_bind (wpAny_rule (wpAny_bind (unpackItems_tuple (items:=#[u1,u2]) (I.ok.hd hc) (IsTup.new s1.heap _) fun h' hx'=>?_)));have I3:=I2.kept (h':=h') (t':=s1.toks) fun b o e=>hx' b o (Nat.ne_of_lt (Heap.lt_size e)) e;show wpAny _ _ (assignInOrder [fun v=>bindName X.env y v,fun v=>bindName X.env x v] [u2,u1] >>= fun _=>pure Flow.next) _ _ _;refine wpAny_bind (assignInOrder_cons (wpAny_bindName (wK I3 hN hj (.inl hy) Mg (fun s2 I4=>?_) (.inr hy))));refine assignInOrder_cons (wpAny_bindName (wK I4 hN hi (.inl hx) rv (fun s3 I5=>assignInOrder_nil (wpAny_pure ?_)) (.inr hx)));rw[List.set_comm _ _ (Ne.symm hij)] at I5;exact⟨_,H1,I5,q1⟩
end
structure It where
  go:Nat→Hp→Prop
  S9:Nat→Hp→V→Hp→Prop
  stop:Nat→Hp→Prop
def j8 (X:Cx) (p_:List (Addr×Obj)) (H:Hp) (b:Addr):Prop:=
  H b=none∧b≠X.env.locals∧b∉X.fs∧(b∈X.ex∨X.s₀.heap.objs.size≤b)∧(∀x c,X.env.cells.lookup x=some c→c≠b)∧∀p∈X.pn++p_,p.1≠b
theorem Inv.Bg {X:Cx} {p_:List (Addr×Obj)} {σ:St} {H H':Hp} {s:Shared} {b:Addr} (I:Inv X p_ σ H s) (hb:s.heap.objs.size≤b) (hn:H' b=none):j8 X p_ H' b:=by
  refine⟨hn,Nat.ne_of_gt (Nat.lt_of_lt_of_le I.lt hb),I.qeT hb,.inr (Nat.le_trans I.sz hb),fun x c e z=>?_,fun p hp z=>?_⟩
  ·obtain⟨v,q⟩:=I.cell x c e;exact absurd (Nat.lt_of_lt_of_le q.lt (by rw[z];exact hb)) (Nat.lt_irrefl _)
  ·exact absurd (Nat.lt_of_lt_of_le (Heap.lt_size (I.pin p hp).1) (by rw[z];exact hb)) (Nat.lt_irrefl _)
structure Turn (P:Program) (w:World) (K:W.Frag) (tg:Expr) (J:It) (fp:List Addr) (it:Addr) (tn:Nat→Heap→Prop):Prop where
  mem:it∈fp
  obj:∀i h,tn i h→∀b∈fp,∃o,h.get? b=some o∧∀v,o.data≠.cell v
  keep:∀i h h',tn i h→(∀b∈fp,∀o,h.get? b=some o→h'.get? b=some o)→tn i h'
  item:∀(X:Cx),X.prog=P→X.w=w→X.K=K→X.calm=true→∀(i:Nat) (p_:List (Addr×Obj)) (s:Shared) (σ:St) (H:Hp) (E:Value→Shared→Prop),Inv X p_ σ H s→(∀b∈fp,j8 X p_ H b)→tn i s.heap→J.go i H→
    wpAny (model P w) X.A (pyNext (.ref it)) (fun r s1=>∃u,r=some u∧
      wpAny (model P w) X.A (letOwnedTupleGo tg (.ref it) u) (fun _ s2=>∃x H',Inv X p_ σ H' s2∧RelV x u∧J.S9 i H x H'∧tn (i+1) s2.heap∧∀b∈fp,H' b=none) E s1) E s
  done:∀(X:Cx),X.prog=P→X.w=w→X.K=K→X.calm=true→∀(i:Nat) (p_:List (Addr×Obj)) (s:Shared) (σ:St) (H:Hp) (E:Value→Shared→Prop),Inv X p_ σ H s→(∀b∈fp,j8 X p_ H b)→tn i s.heap→J.stop i H→
    wpAny (model P w) X.A (pyNext (.ref it)) (fun r s1=>r=none∧Inv X p_ σ H s1) E s
  self:∀(A:Around) (i:Nat) (s:Shared) (Q:Value→Shared→Prop) (E:Value→Shared→Prop),tn i s.heap→Q (.ref it) s→wpAny (model P w) A (pyIter (.ref it)) Q E s
abbrev TI:=St→Hp→(It→Hp→Prop)→Prop
def PIE (X:Cx) (p_:List (Addr×Obj)) (σ:St) (tg:Expr) (R:It→Hp→Prop) (itv:Value) (s2:Shared):Prop:=
  ∃(it:Addr) (fp:List Addr) (tn:Nat→Heap→Prop) (J:It) (H':Hp),itv = .ref it∧Inv X p_ σ H' s2∧Turn X.prog X.w X.K tg J fp it tn∧tn 0 s2.heap∧(∀b∈fp,j8 X p_ H' b)∧R J H'
def PI (X:Cx) (tg iter:Expr) (wi:TI):Prop:=
  ∀(p_:List (Addr×Obj)) (s:Shared) (σ:St) (H:Hp) (R:It→Hp→Prop),Inv X p_ σ H s→wi σ H R→
    wpAny (model X.prog X.w) X.A (eval iter X.env) (fun v s1=>wpAny (model X.prog X.w) X.A (pyIter v) (PIE X p_ σ tg R) X.xe s1) X.xe s
theorem S_ {M:Model} {A:Around} {E:Value→Shared→Prop} {s:Shared} {tg:Expr} {it:Addr} {u:Value} {o:Obj} {n:String} {vs:Array Value} {Q:Unit→Shared→Prop} (ho:s.heap.get? it=some o) (hc:o.cls = .type n) (hd:o.data = .fields vs)
    (hn : ["enumerate", "zip", "dict_itemiterator", "dict_reverseitemiterator", "odict_iterator", "itertools.zip_longest", "itertools.pairwise"].contains n=false) (hQ:Q () s):wpAny M A (letOwnedTupleGo tg (.ref it) u) Q E s:=by
  unfold letOwnedTupleGo;cases tg <;> first
    | exact wpAny_pure hQ
    | (cases u <;> first
        | exact wpAny_pure hQ
        | (refine wpAny_bind (wpAny_load ho ?_)
           rw[hc,hd];show wpAny M A (if (["enumerate", "zip", "dict_itemiterator", "dict_reverseitemiterator", "odict_iterator", "itertools.zip_longest", "itertools.pairwise"].contains n && vs[0]? == some (rawInt _))=true then _ else _) Q E s
           rw[if_neg (by intro h;rw[hn,Bool.false_and] at h;cases h)];exact wpAny_pure hQ))
def R7 (K:W.Frag) (a:Addr):It:=
  ⟨fun i H=>∃xs x,bA K H a xs∧xs[i]? = some x,fun i H x H'=>H'=H∧∀xs,bA K H a xs→xs[i]? = some x,fun i H=>∃xs,bA K H a xs∧xs.length≤i⟩
def Itt (K:W.Frag) (a:Addr):It:=
  ⟨fun i H=>∃xs x,jK K H a xs∧xs[i]? = some x,fun i H x H'=>H'=H∧∀xs,jK K H a xs→xs[i]? = some x,fun i H=>∃xs,jK K H a xs∧xs.length≤i⟩
def LK (lo:Int) (n:Nat):It:=⟨fun i _=>i<n,fun i H x H'=>H'=H∧x = .int (lo+i),fun i _=>n≤i⟩
theorem Fp {P:Program} {w:World} {K:W.Frag} {tg:Expr} (a it:Addr):Turn P w K tg (R7 K a) [it] it (fun i h=>h.IsListIter it a i) where
  mem:=by simp
  obj:=fun i h st b hb=>by
    have e:b=it:=by simpa using hb
    subst e;obtain⟨o,e,c,d⟩:=st;exact⟨o,e,fun v z=>by rw[d] at z;cases z⟩
  keep:=fun i h h' st k=>st.at fun o e=>k it (by simp) o e
  item:=by
    intro X hP hw hK hc i p_ s σ H E I hf st hg;subst hP hw hK;obtain⟨xs,x,hq,hx⟩:=hg;obtain⟨its,rv,p,hz⟩:=I.list hq;obtain⟨u,hu,ru⟩:=rv.get hx;obtain⟨f0,f1,f2,f3,f4,f5⟩:=hf it (by simp);refine wpAny_pyNext_list_item st p.isList (x:=u) (by simpa using hu) fun h' st' sb=>?_;have I1:Inv X p_ σ H {s with heap:=h'}:=I.turned (t':=s.toks) (fun b o hb e=>(sb.2 b hb).trans e) f0 f1 f3 f4 f5;obtain⟨o,e,c,d⟩:=id st';exact⟨u,rfl,S_ (s:={s with heap:=h'}) e c d (by decide) ⟨x,H,I1,ru,⟨rfl,fun ys hy=>by rw[I.tE hy hq];exact hx⟩,st',fun b hb=>(hf b hb).1⟩⟩
  done:=by
    intro X hP hw hK hc i p_ s σ H E I hf st hg;subst hP hw hK;obtain⟨xs,hq,hx⟩:=hg;obtain⟨its,rv,p,hz⟩:=I.list hq;obtain⟨f0,f1,f2,f3,f4,f5⟩:=hf it (by simp);have hl:=rv.length;exact wpAny_pyNext_list_end (I.ok.hd hc) st p.isList (by simp;omega) fun h' eb=>⟨rfl,I.turned (t':=s.toks) (fun b o hb e=>eb b o hb e) f0 f1 f3 f4 f5⟩
  self:=fun _ _ _ _ _ st h=>wpAny_pyIter_listiter st h
theorem Mh {P:Program} {w:World} {K:W.Frag} {tg:Expr} (a it:Addr):Turn P w K tg (Itt K a) [it] it (fun i h=>h.IsTupleIter it a i) where
  mem:=by simp
  obj:=fun i h st b hb=>by
    have e:b=it:=by simpa using hb
    subst e;obtain⟨o,e,c,d⟩:=st;exact⟨o,e,fun v z=>by rw[d] at z;cases z⟩
  keep:=fun i h h' st k=>st.at fun o e=>k it (by simp) o e
  item:=by
    intro X hP hw hK hc i p_ s σ H E I hf st hg;subst hP hw hK;obtain⟨xs,x,hq,hx⟩:=hg;obtain⟨its,rv,p,hz⟩:=I.tuple hq;obtain⟨u,hu,ru⟩:=rv.get hx;obtain⟨f0,f1,f2,f3,f4,f5⟩:=hf it (by simp);refine wpAny_pyNext_tuple_item st (show s.heap.IsTuple a its.toArray from p) (x:=u) (by simpa using hu) fun h' st' sb=>?_;have I1:Inv X p_ σ H {s with heap:=h'}:=I.turned (t':=s.toks) (fun b o hb e=>(sb.2 b hb).trans e) f0 f1 f3 f4 f5;obtain⟨o,e,c,d⟩:=id st';exact⟨u,rfl,S_ (s:={s with heap:=h'}) e c d (by decide) ⟨x,H,I1,ru,⟨rfl,fun ys hy=>by rw[I.QB hy hq];exact hx⟩,st',fun b hb=>(hf b hb).1⟩⟩
  done:=by
    intro X hP hw hK hc i p_ s σ H E I hf st hg;subst hP hw hK;obtain⟨xs,hq,hx⟩:=hg;obtain⟨its,rv,p,hz⟩:=I.tuple hq;obtain⟨f0,f1,f2,f3,f4,f5⟩:=hf it (by simp);have hl:=rv.length;exact wpAny_pyNext_tuple_end (I.ok.hd hc) st (show s.heap.IsTuple a its.toArray from p) (by simp;omega) fun h' eb=>⟨rfl,I.turned (t':=s.toks) (fun b o hb e=>eb b o hb e) f0 f1 f3 f4 f5⟩
  self:=fun _ _ _ _ _ st h=>wpAny_pyIter_tupleiter st h
theorem Mi {P:Program} {w:World} {K:W.Frag} {tg:Expr} (it:Addr) (lo:Int) (n:Nat):Turn P w K tg (LK lo n) [it] it (fun i h=>IsRangeIter h it (lo+(i:Nat) * 1) ((n:Int) - (i:Nat)) 1) where
  mem:=by simp
  obj:=fun i h st b hb=>by
    have e:b=it:=by simpa using hb
    subst e;exact⟨_,st,fun v z=>by
      have z':Data.fields _=Data.cell v:=z;cases z'⟩
  keep:=fun i h h' st k=>k it (by simp) _ st
  item:=by
    intro X hP hw hK hc i p_ s σ H E I hf st hg;subst hP hw hK;obtain⟨f0,f1,f2,f3,f4,f5⟩:=hf it (by simp);have iH:=Walks.range (prog:=X.prog) (w:=X.w) (I.ok.hd hc) it lo 1 n;refine iH.item i s _ _ hg st fun v h' tk hv st' kk=>?_;obtain⟨t,rfl⟩:=hv;have I1:Inv X p_ σ H {s with heap:=h',toks:=tk}:=I.turned (fun b o hb e=>kk b o (by simpa using hb) e) f0 f1 f3 f4 f5;refine⟨_,rfl,S_ (s:={s with heap:=h',toks:=tk}) (n:= "range_iterator") st' rfl rfl (by decide) ⟨.int (lo+i),H,I1,⟨t,?_⟩,⟨rfl,rfl⟩,st',fun b hb=>(hf b hb).1⟩⟩;rw[Int.mul_one]
  done:=by
    intro X hP hw hK hc i p_ s σ H E I hf st hg;subst hP hw hK;obtain⟨f0,f1,f2,f3,f4,f5⟩:=hf it (by simp);exact wpAny_pyNext_range_end (I.ok.hd hc) st (by have:n≤i:=hg;omega) fun h' eb=>⟨rfl,I.turned (t':=s.toks) (fun b o hb e=>eb b o hb e) f0 f1 f3 f4 f5⟩
  self:=fun _ _ _ _ _ st h=>wpAny_pyIter_rangeiter st h
section
variable {X:Cx} {tg:Expr}
def O5 (K:W.Frag) (tl:TE):TI:=fun σ H R=>tl σ H fun x H1=>∃a,x = .ref a∧(∃xs,bA K H1 a xs)∧R (R7 K a) H1
theorem Xx {l:Expr} {tl:TE} (hl:PE X l tl):PI X tg l (O5 X.K tl):=by
  intro p_ s σ H R I h;refine cY (hl p_ s σ H _ I h) fun v s1 zz=>?_;obtain⟨x,H1,I1,r1,q1⟩:=zz;obtain⟨a,e,⟨xs,hq⟩,q⟩:=q1;subst e;cases r1;obtain⟨its,rv,p,hz⟩:=I1.list hq;refine wpAny_pyIter_list p.isList ?_;refine⟨s1.heap.objs.size,[s1.heap.objs.size],_,_,H1,rfl,I1.kept (t':=s1.toks) fun b o e=>Heap.get?_push_of_some _ e,Fp a _,⟨_,Heap.get?_push_size _ rfl,rfl,rfl⟩,fun b hb=>?_,q⟩;have e:b=s1.heap.objs.size:=by simpa using hb
  subst e;exact I1.Bg (Nat.le_refl _) (I1.hok.fresh (Nat.le_refl _))
theorem JL {p_:List (Addr×Obj)} {σ:St} {H:Hp} {s:Shared} {R:It→Hp→Prop} {E:Value→Shared→Prop} {lo hi:Int} {t u v:Tok} {tk:Nat} (I:Inv X p_ σ H s) (h1 : -(2 ^ 62)≤lo) (h2:lo<2 ^ 62) (h3 : -(2 ^ 62)≤hi) (h4:hi<2 ^ 62)
    (q:R (LK lo (hi - lo).toNat) H):wpAny (model X.prog X.w) X.A (pyIter (.ref s.heap.objs.size)) (PIE X p_ σ tg R) E {s with heap:=s.heap.push {cls:=.type "range",data:=.fields #[.int lo t,.int hi u,.int 1 v]},toks:=tk}:=by
  refine wpAny_pyIter_range (IsRange.new ..) (small_one h1 h2 h3 h4) ?_;have I1:Inv X p_ σ H {s with heap:=s.heap.push {cls:=.type "range",data:=.fields #[.int lo t,.int hi u,.int 1 v]},toks:=tk}:=I.kept fun b o e=>Heap.get?_push_of_some _ e;refine⟨(s.heap.push {cls:=.type "range",data:=.fields #[.int lo t,.int hi u,.int 1 v]}).objs.size,[(s.heap.push {cls:=.type "range",data:=.fields #[.int lo t,.int hi u,.int 1 v]}).objs.size],_,_,H,rfl,
    I1.kept (t':=tk) fun b o e=>Heap.get?_push_of_some _ e,Mi _ lo (hi - lo).toNat,?_,fun b hb=>?_,q⟩
  · have e1:lo+((0:Nat):Int) * 1=lo:=by simp
    have e2:(((hi - lo).toNat:Nat):Int) - ((0:Nat):Int)=Builtin.Range.rangeSize lo hi 1:=by rw[rangeSize_one];split <;> omega
    show IsRangeIter _ _ (lo+((0:Nat):Int) * 1) ((((hi - lo).toNat:Nat):Int) - ((0:Nat):Int)) 1;rw[e1,e2];exact Heap.get?_push_size _ rfl
  · have e:b=(s.heap.push {cls:=.type "range",data:=.fields #[.int lo t,.int hi u,.int 1 v]}).objs.size:=by simpa using hb
    subst e;exact I1.Bg (Nat.le_refl _) (I1.hok.fresh (Nat.le_refl _))
def Tc (ta:TA):TI:=fun σ H R=>ta σ H fun vs H1=>∃j:Int,vs=[.int j]∧-(2 ^ 62)≤j∧j<2 ^ 62∧R (LK 0 j.toNat) H1
def Td (ta:TA):TI:=fun σ H R=>ta σ H fun vs H1=>∃i j:Int,vs=[.int i,.int j]∧(-(2 ^ 62)≤i∧i<2 ^ 62∧-(2 ^ 62)≤j∧j<2 ^ 62)∧R (LK i (j - i).toNat) H1
theorem mX {a:Expr} {ta:TA} {p pos:Pos} (hg:Gl X "range") (hm:X.mg "range" = none) (ha:PA X [a] ta) (hs:starEach [a] X.env=[(false,eval a X.env)]:=by rfl):PI X tg (.Call (.Name "range" p) [a] [] pos) (Tc ta):=by
  intro p_ s σ H R I h;refine Call_ (lU I hg hm boot_range (PyProof.Rows.callWith_type1 (cY (ha pos p_ s σ H _ I h) fun us s1 zz=>?_) hs rfl));obtain⟨vs,H1,I1,r1,q1⟩:=zz;obtain⟨j,e,q1,q2,q⟩:=q1;subst e;cases r1 with
  | cons r rr=>
    cases rr;obtain⟨t,rfl⟩:=r;exact call_range_1 (JL I1 (by omega) (by omega) q1 q2 (by simpa using q))
theorem QG {a b:Expr} {ta:TA} {p pos:Pos} (hg:Gl X "range") (hm:X.mg "range" = none) (ha:PA X [a,b] ta) (hs:starEach [a,b] X.env=[(false,eval a X.env),(false,eval b X.env)]:=by rfl) (hs2:starEach [b] X.env=[(false,eval b X.env)]:=by rfl) :
    PI X tg (.Call (.Name "range" p) [a,b] [] pos) (Td ta):=by
  intro p_ s σ H R I h;refine Call_ (lU I hg hm boot_range (PyProof.Rows.callWith_type1 (cY (ha pos p_ s σ H _ I h) fun us s1 zz=>?_) (by rw[hs,hs2]) (by rw[hs2];rfl)));obtain⟨vs,H1,I1,r1,q1⟩:=zz;obtain⟨i,j,e,⟨q1,q2,q3,q4⟩,q⟩:=q1;subst e;cases r1 with
  | cons r rr=>
    cases rr with
    | cons r' rr=>
      cases rr;obtain⟨t,rfl⟩:=r;obtain⟨t',rfl⟩:=r';exact call_range_2 (JL I1 q1 q2 q3 q4 q)
def qb8 (wi:TI) (g:TG) (tb:TS):TS:=fun D σ H=>wi σ H fun J H1=>∃iH:Nat→Nat→St→Hp→Prop,(∃m,iH 0 m σ H1)∧∀i m σ H,iH i m σ H→
  (J.stop i H∧D.nx σ H)∨(J.go i H∧∃N:St→Hp→Prop,(∀σ' H',N σ' H'→∃m',m'<m∧iH (i+1) m' σ' H')∧∀x H',J.S9 i H x H'→g x σ H' fun σ2 H2=>tb {D with nx:=N,ct:=N,bk:=D.nx} σ2 H2)
def yh (fp:List Addr) (h:Heap):List (Addr×Obj):=fp.filterMap fun b=>(h.get? b).map fun o=>(b,o)
theorem j9 {fp:List Addr} {h:Heap} {b:Addr} {o:Obj} (hb:b∈fp) (e:h.get? b=some o):(b,o)∈yh fp h:=List.mem_filterMap.mpr ⟨b,hb,by rw[e];rfl⟩
theorem QH {fp:List Addr} {h:Heap} {p:Addr×Obj} (hp:p∈yh fp h):p.1∈fp∧h.get? p.1=some p.2:=by
  obtain⟨b,hb,e⟩:=List.mem_filterMap.mp hp;cases q:h.get? b with
  | none=>rw[q] at e;cases e
  | some o=>
    rw[q] at e;have e':(b,o)=p:=Option.some.inj e;subst e';exact⟨hb,q⟩
theorem Inv.pinned {p_:List (Addr×Obj)} {σ:St} {H:Hp} {s:Shared} {fp:List Addr} (I:Inv X p_ σ H s) (hf:∀b∈fp,j8 X p_ H b) (ho:∀b∈fp,∃o,s.heap.get? b=some o∧∀v,o.data≠.cell v):Inv X (p_++yh fp s.heap) σ H s:=
  I.O4 fun p hp=>(List.mem_append.mp hp).elim (fun z=>I.pin p (List.mem_append_right _ z)) fun z=>by
    obtain⟨hb,e⟩:=QH z;obtain⟨f0,f1,f2,_⟩:=hf p.1 hb;obtain⟨o,e',d⟩:=ho p.1 hb;rw[e] at e';cases e';exact⟨e,f0,f1,f2,d⟩
theorem Inv.tK {p_ pl:List (Addr×Obj)} {σ:St} {H:Hp} {s:Shared} (I:Inv X (p_++pl) σ H s):Inv X p_ σ H s:=I.O4 fun p hp=>I.pin p (List.mem_append_right _ (List.mem_append_left _ hp))
theorem yj {iter:Expr} {body:List Stmt} {wi:TI} {g:TG} {tb:TS} {pos:Pos} (hp:PassesOwn (model X.prog X.w) X.A X.env X.xe) (hc:X.calm=true) (hi:PI X tg iter wi) (hg:PG X tg g) (hb:D_ X body tb)
    (hs:∀x,foldedSetIterable iter X.env x=pure x:=by intro _;rfl):PS X (.For tg iter body [] pos) (qb8 wi g tb):=by
  intro p_ s σ H D I h;refine wpAny_For (cY (hi p_ s σ H _ I h) fun v s1 h1=>cY h1 fun itv s2 h2=>?_) hs;obtain⟨it,fp,tn,J,H2,e,I2,T,st2,f2,iH,⟨m0,w0⟩,turn⟩:=h2;subst e;have stat:∀{H':Hp},(∀b∈fp,H' b=none)→∀b∈fp,j8 X p_ H' b:=fun hn b hb=>⟨hn b hb,(f2 b hb).2⟩;refine codeAny_forLoop_any (fun n s'=>∃i σ' H',Inv X p_ σ' H' s'∧tn i s'.heap∧(∀b∈fp,H' b=none)∧iH i n σ' H') ?_ m0 ⟨0,σ,H2,I2,st2,fun b hb=>(f2 b hb).1,w0⟩;rintro n s3 ⟨i,σ3,H3,I3,st3,Zq,w3⟩
  rcases turn i n σ3 H3 w3 with⟨stop,qn⟩ | ⟨go,N,hN,step⟩
  ·refine wpAny_passesOwn hp (cY (T.done X rfl rfl rfl hc i p_ s3 σ3 H3 X.xe I3 (stat Zq) st3 stop) fun r s4 zz=>?_);obtain⟨hr,I4⟩:=zz;subst hr;exact wpAny_execs_nil ⟨σ3,H3,I4,qn⟩
  · refine wpAny_passesOwn hp (cY (T.item X rfl rfl rfl hc i p_ s3 σ3 H3 X.xe I3 (stat Zq) st3 go) fun r s4 zz=>?_);obtain⟨u,hr,h4⟩:=zz;subst hr;refine wpAny_passesOwn hp (cY h4 fun _ s5 zz=>?_);obtain⟨x,H5,I5,r5,y5,Tf,fr5⟩:=zz;have I5':=I5.pinned (stat fr5) (T.obj _ _ Tf);refine wpAny_passesOwn hp (cY (hg _ s5 σ3 H5 x u _ I5' r5 (step x H5 y5)) fun _ s6 zz=>?_);obtain⟨σ6,H6,I6,q6⟩:=zz;refine wpAny_passesOwn hp (cY (hb _ s6 σ6 H6 _ I6 q6) fun f s7 q7=>?_);have again:∀{σ7:St} {H7:Hp},Inv X (p_++yh fp s5.heap) σ7 H7 s7→N σ7 H7→∃m,m<n∧∃i σ' H',Inv X p_ σ' H' s7∧tn i s7.heap∧(∀b∈fp,H' b=none)∧iH i m σ' H':=fun {σ7 H7} I7 n7=>by
      obtain⟨m',hm,w7⟩:=hN σ7 H7 n7;refine⟨m',hm,i+1,σ7,H7,I7.tK,T.keep _ _ _ Tf fun b hb o e=>(I7.pin (b,o) (List.mem_append_right _ (List.mem_append_right _ (j9 hb e)))).1,fun b hb=>?_,w7⟩;obtain⟨o,e,d⟩:=T.obj _ _ Tf b hb;exact(I7.pin (b,o) (List.mem_append_right _ (List.mem_append_right _ (j9 hb e)))).2.1
    cases f with
    | next=>obtain⟨σ7,H7,I7,n7⟩:=q7;exact again I7 n7
    | cont=>obtain⟨σ7,H7,I7,n7⟩:=q7;exact again I7 n7
    | brk=>obtain⟨σ7,H7,I7,q7⟩:=q7;exact⟨σ7,H7,I7.tK,q7⟩
    | ret v=>obtain⟨x7,σ7,H7,I7,r7,q7⟩:=q7;exact⟨x7,σ7,H7,I7.tK,r7,q7⟩
end
theorem Tg {K:W.Frag} {a:Addr} {xs:List V} {g:TG} {tb:TS} {D:Ends} {σ:St} {H:Hp} (Pv:Nat→St→Hp→Prop) (h0:Pv 0 σ H) (hl:∀i σ H,i≤xs.length→Pv i σ H→bA K H a xs)
    (hs:∀i x σ H,xs[i]? = some x→Pv i σ H→g x σ H fun σ2 H2=>tb {D with nx:=Pv (i+1),ct:=Pv (i+1),bk:=D.nx} σ2 H2) (hd:∀σ H,Pv xs.length σ H→D.nx σ H) :
    ∃iH:Nat→Nat→St→Hp→Prop,(∃m,iH 0 m σ H)∧∀i m σ H,iH i m σ H→
      ((R7 K a).stop i H∧D.nx σ H)∨((R7 K a).go i H∧∃N:St→Hp→Prop,(∀σ' H',N σ' H'→∃m',m'<m∧iH (i+1) m' σ' H')∧∀x H',(R7 K a).S9 i H x H'→g x σ H' fun σ2 H2=>tb {D with nx:=N,ct:=N,bk:=D.nx} σ2 H2):=by
  refine⟨fun i m σ H=>m=xs.length - i∧i≤xs.length∧Pv i σ H,⟨xs.length,by simp,Nat.zero_le _,h0⟩,?_⟩;rintro i m σ H ⟨rfl,hi,p⟩;have q:=hl i σ H hi p
  by_cases hlt:i<xs.length
  ·refine .inr ⟨⟨xs,xs[i],q,by simp[hlt]⟩,Pv (i+1),fun σ' H' p'=>⟨xs.length - (i+1),by omega,rfl,hlt,p'⟩,fun x H' y=>?_⟩;obtain⟨e,y⟩:=y;subst e;exact hs i x σ _ (y xs q) p
  · have e:i=xs.length:=by omega
    subst e;exact .inl ⟨⟨xs,q,Nat.le_refl _⟩,hd σ H p⟩
theorem QJ {lo:Int} {n:Nat} {g:TG} {tb:TS} {D:Ends} {σ:St} {H:Hp} (Pv:Nat→St→Hp→Prop) (h0:Pv 0 σ H)
    (hs:∀i σ H,i<n→Pv i σ H→g (.int (lo+i)) σ H fun σ2 H2=>tb {D with nx:=Pv (i+1),ct:=Pv (i+1),bk:=D.nx} σ2 H2) (hd:∀σ H,Pv n σ H→D.nx σ H) :
    ∃iH:Nat→Nat→St→Hp→Prop,(∃m,iH 0 m σ H)∧∀i m σ H,iH i m σ H→
      ((LK lo n).stop i H∧D.nx σ H)∨((LK lo n).go i H∧∃N:St→Hp→Prop,(∀σ' H',N σ' H'→∃m',m'<m∧iH (i+1) m' σ' H')∧∀x H',(LK lo n).S9 i H x H'→g x σ H' fun σ2 H2=>tb {D with nx:=N,ct:=N,bk:=D.nx} σ2 H2):=by
  refine⟨fun i m σ H=>m=n - i∧i≤n∧Pv i σ H,⟨n,by simp,Nat.zero_le _,h0⟩,?_⟩;rintro i m σ H ⟨rfl,hi,p⟩
  by_cases hlt:i<n
  ·refine .inr ⟨hlt,Pv (i+1),fun σ' H' p'=>⟨n - (i+1),by omega,rfl,hlt,p'⟩,fun x H' y=>?_⟩;obtain⟨e,y⟩:=y;subst e y;exact hs i σ _ hlt p
  · have e:i=n:=by omega
    subst e;exact .inl ⟨Nat.le_refl _,hd σ H p⟩
abbrev R2:=V→V→Hp→VK→Prop
def iZ (X:Cx) (f:Value→Value→Sem Value) (r:R2):Prop:=
  ∀(p_:List (Addr×Obj)) (s:Shared) (σ:St) (H:Hp) (x y:V) (v u:Value) (Q:VK),Inv X p_ σ H s→RelV x v→RelV y u→r x y H Q→
    wpAny (model X.prog X.w) X.A (f v u) (EP X p_ σ Q) X.xe s
def UnR (X:Cx) (f:Value→Sem Value) (r:V→Hp→VK→Prop):Prop:=
  ∀(p_:List (Addr×Obj)) (s:Shared) (σ:St) (H:Hp) (x:V) (v:Value) (Q:VK),Inv X p_ σ H s→RelV x v→r x H Q→
    wpAny (model X.prog X.w) X.A (f v) (EP X p_ σ Q) X.xe s
def cu (X:Cx) (f:Value) (r:List V→Hp→VK→Prop):Prop:=
  ∀(p_:List (Addr×Obj)) (s:Shared) (σ:St) (H:Hp) (xs:List V) (us:List Value) (Q:VK),Inv X p_ σ H s→Vals xs us→r xs H Q→
    wpAny (model X.prog X.w) X.A (call f us) (EP X p_ σ Q) X.xe s
def Mj (r:R2) (ta tb:TE):TE:=fun σ H Q=>ta σ H fun x H1=>tb σ H1 fun y H2=>r x y H2 Q
def tUn (r:V→Hp→VK→Prop) (ta:TE):TE:=fun σ H Q=>ta σ H fun x H1=>r x H1 Q
def rI (C:Int→Int→Prop) (g:Int→Int→V):R2:=fun x y H Q=>∃i j,x = .int i∧y = .int j∧C i j∧Q (g i j) H
def Zr (g:Int→Int→V):R2:=fun x y H Q=>∃i j,x = .int i∧y = .int j∧Q (g i j) H
def rU (g:Int→V):V→Hp→VK→Prop:=fun x H Q=>∃i,x = .int i∧Q (g i) H
section
variable {X:Cx} {a b c:Expr} {ta tb tc:TE} {pos:Pos}
theorem qaw (ha:PE X a ta) (hb:PE X b tb) {p_:List (Addr×Obj)} {s:Shared} {σ:St} {H:Hp} {R:V→V→Hp→Prop} (I:Inv X p_ σ H s)
    (h:ta σ H fun x H1=>tb σ H1 fun y H2=>R x y H2) {Q:Value→Shared→Prop} {f:Value→Value→Sem Value}
    (hf:∀v u s2 x y H2,Inv X p_ σ H2 s2→RelV x v→RelV y u→R x y H2→wpAny (model X.prog X.w) X.A (f v u) Q X.xe s2) :
    wpAny (model X.prog X.w) X.A (eval a X.env) (fun v s₁=>wpAny (model X.prog X.w) X.A (eval b X.env) (fun u s₂=>wpAny (model X.prog X.w) X.A (f v u) Q X.xe s₂) X.xe s₁) X.xe s:=by
  refine cY (ha p_ s σ H _ I h) fun v s1 zz=>?_;obtain⟨x,H1,I1,r1,q1⟩:=zz;refine cY (hb p_ s1 σ H1 _ I1 q1) fun u s2 zz=>?_;obtain⟨y,H2,I2,r2,q2⟩:=zz;exact hf v u s2 x y H2 I2 r1 r2 q2
theorem bx {op:Operator} {r:R2} (ho:iZ X (binaryOp op) r) (ha:PE X a ta) (hb:PE X b tb):PE X (.BinOp a op b pos) (Mj r ta tb):=by
  intro p_ s σ H Q I h;exact wpAny_BinOp (qaw ha hb I h fun v u s2 x y H2 I2 rx ry q=>ho p_ s2 σ H2 x y v u Q I2 rx ry q)
theorem Zt {op:UnaryOp} {r:V→Hp→VK→Prop} (ho:UnR X (unaryOp op) r) (ha:PE X a ta):PE X (.UnaryOp op a pos) (tUn r ta):=by
  intro p_ s σ H Q I h;refine UnaryOp_ (cY (ha p_ s σ H _ I h) fun v s1 zz=>?_);obtain⟨x,H1,I1,r1,q1⟩:=zz;exact ho p_ s1 σ H1 x v Q I1 r1 q1
theorem opI {f:Value→Value→Sem Value} {C:Int→Int→Prop} {g:Int→Int→Int}
    (rule:∀(i j:Int) (t u:Tok) (s:Shared) (Q:Value→Shared→Prop) (E:Value→Shared→Prop),C i j→Q (.int (g i j) s.toks) {s with toks:=s.toks+1}→wpAny (model X.prog X.w) X.A (f (.int i t) (.int j u)) Q E s) :
    iZ X f (rI C fun i j=>.int (g i j)):=by
  intro p_ s σ H x y v u Q I rx ry h;obtain⟨i,j,rfl,rfl,hc,q⟩:=h;obtain⟨t,rfl⟩:=rx;obtain⟨t',rfl⟩:=ry;exact rule i j t t' s _ _ hc ⟨.int (g i j),H,I.tok _,⟨_,rfl⟩,q⟩
theorem qb9 {f:Value→Value→Sem Value} {g:Int→Int→Int}
    (rule:∀(i j:Int) (t u:Tok) (s:Shared) (Q:Value→Shared→Prop) (E:Value→Shared→Prop),Q (.int (g i j) s.toks) {s with toks:=s.toks+1}→wpAny (model X.prog X.w) X.A (f (.int i t) (.int j u)) Q E s) :
    iZ X f (Zr fun i j=>.int (g i j)):=by
  intro p_ s σ H x y v u Q I rx ry h;obtain⟨i,j,rfl,rfl,q⟩:=h;obtain⟨t,rfl⟩:=rx;obtain⟨t',rfl⟩:=ry;exact rule i j t t' s _ _ ⟨.int (g i j),H,I.tok _,⟨_,rfl⟩,q⟩
theorem qax {f:Value→Value→Sem Value} {g:Int→Int→Bool}
    (rule:∀(i j:Int) (t u:Tok) (s:Shared) (Q:Value→Shared→Prop) (E:Value→Shared→Prop),Q (.bool (g i j)) s→wpAny (model X.prog X.w) X.A (f (.int i t) (.int j u)) Q E s) :
    iZ X f (Zr fun i j=>.bl (g i j)):=by
  intro p_ s σ H x y v u Q I rx ry h;obtain⟨i,j,rfl,rfl,q⟩:=h;obtain⟨t,rfl⟩:=rx;obtain⟨t',rfl⟩:=ry;exact rule i j t t' s _ _ ⟨.bl (g i j),H,I,rfl,q⟩
@[simp] def QK (i j:Int):Prop:=0<j∧j<1073741824
@[simp] def qb_ (i j:Int):Prop:=0≤j∧j≤1000000∧i.natAbs<2 ^ 64
@[simp] def Xy (i j:Int):Prop:=(-(2 ^ 64)<i∧i<2 ^ 64)∨(-(2 ^ 64)<j∧j<2 ^ 64)
theorem Xy.ok {i j:Int} (h:Xy i j):IntMulOk i j:=by
  rcases h with⟨h1,h2⟩ | ⟨h1,h2⟩
  ·exact .of_left (intBits_le_64 h1 h2)
  ·exact .of_right (intBits_le_64 h1 h2)
theorem qay:iZ X (binaryOp .Add) (Zr fun i j=>.int (i+j)):=qb9 fun _ _ _ _ _ _ _ q=>add_int q
theorem qaz:iZ X (binaryOp .Sub) (Zr fun i j=>.int (i - j)):=qb9 fun _ _ _ _ _ _ _ q=>sub_int q
theorem qaA:iZ X (binaryOp .Mult) (rI Xy fun i j=>.int (i * j)):=opI fun _ _ _ _ _ _ _ hc q=>mul_int q hc.ok
theorem Xz:iZ X (binaryOp .FloorDiv) (rI QK fun i j=>.int (i / j)):=opI fun i j _ _ _ _ _ hc q=>by
  have h1:(0:Int)<j:=hc.1;have h2:j<1073741824:=hc.2;exact floordiv_int (by omega) (by rw[Int.fdiv_eq_ediv_of_nonneg i (by omega)];exact q) (.inl (PyProof.noPylong_small (by omega)))
theorem qaB:iZ X (binaryOp .Mod) (rI (fun _ j=>0<j) fun i j=>.int (i % j)):=opI fun i j _ _ _ _ _ hc q=>by
  have h1:(0:Int)<j:=hc;exact mod_int' (by omega) (by rw[Int.fmod_eq_emod_of_nonneg i (by omega)];exact q)
theorem qaC:iZ X (binaryOp .Pow) (rI qb_ fun i j=>.int (i ^ j.toNat)):=opI fun _ _ _ _ _ _ _ hc q=>pow_int_small hc.1 hc.2.1 hc.2.2 q
theorem unI {f:Value→Sem Value} {g:Int→Int}
    (rule:∀(i:Int) (t:Tok) (s:Shared) (Q:Value→Shared→Prop) (E:Value→Shared→Prop),Q (.int (g i) s.toks) {s with toks:=s.toks+1}→wpAny (model X.prog X.w) X.A (f (.int i t)) Q E s) :
    UnR X f (rU fun i=>.int (g i)):=by
  intro p_ s σ H x v Q I rx h;obtain⟨i,rfl,q⟩:=h;obtain⟨t,rfl⟩:=rx;exact rule i t s _ _ ⟨.int (g i),H,I.tok _,⟨_,rfl⟩,q⟩
theorem qaD:UnR X (unaryOp .USub) (rU fun i=>.int (-i)):=unI fun _ _ _ _ _ q=>neg_int q
end
def zY:V→V→Bool
  | .non,.non=>true | .non,.int _=>true | .int _,.non=>true | .non,.bl _=>true | .bl _,.non=>true | .non,.str _=>true | .str _,.non=>true
  | .int _,.int _=>true | .bl _,.bl _=>true | .str _,.str _=>true | .R4 _,.R4 _=>true
  | .int _,.str _=>true | .str _,.int _=>true | .bl _,.str _=>true | .str _,.bl _=>true
  | _,_=>false
def rEq:R2:=fun x y H Q=>zY x y=true∧Q (.bl (decide (x=y))) H
def rNe:R2:=fun x y H Q=>zY x y=true∧Q (.bl (!decide (x=y))) H
theorem O6 {i j:Int}:decide (V.int i=V.int j)=(i == j):=by
  rw[Bool.eq_iff_iff];simp
theorem Ti {i j:Bool}:decide (V.bl i=V.bl j)=(i == j):=by
  rw[Bool.eq_iff_iff];simp
theorem O7 {i j:Str}:decide (V.str i=V.str j)=(i == j):=by
  rw[Bool.eq_iff_iff];simp
theorem O8 {i j:Array UInt8}:decide (V.R4 i=V.R4 j)=(i.toList == j.toList):=by
  rw[Bool.eq_iff_iff];cases i;cases j;simp
section
variable {X:Cx} {a b c:Expr} {ta tb tc:TE} {pos:Pos}
theorem cF {p_:List (Addr×Obj)} {σ:St} {H:Hp} {s:Shared} {Q:VK} {k k':Bool} (I:Inv X p_ σ H s) (q:Q (.bl k) H) (e:k=k'):EP X p_ σ Q (.bool k') s:=by
  subst e;exact⟨.bl k,H,I,rfl,q⟩
theorem qca:iZ X (compareOp .Eq) rEq:=by
  intro p_ s σ H x y v u Q I rx ry h;obtain⟨hs,q⟩:=h;cases x with
  | non=>
    cases rx;cases y with
    | non=>cases ry;exact PySem.EqNone.eq_none_none (cF I q (by simp))
    | bl j=>cases ry;exact PySem.EqNone.eq_none_bool (cF I q (by simp))
    | int j=>obtain⟨t',rfl⟩:=ry;exact PySem.EqNone.eq_none_int (cF I q (by simp))
    | str j=>obtain⟨t',rfl⟩:=ry;exact PySem.EqNone.eq_none_str (cF I q (by simp))
    | _=>exact absurd (show false=true from hs) Bool.false_ne_true
  | bl i=>
    cases rx;cases y with
    | non=>cases ry;exact PySem.EqNone.eq_bool_none (cF I q (by simp))
    | bl j=>cases ry;exact eq_bool (cF I q Ti)
    | str j=>obtain⟨t',rfl⟩:=ry;exact PySem.EqMixed.eq_bool_str (cF I q (by simp))
    | _=>exact absurd (show false=true from hs) Bool.false_ne_true
  | int i=>
    obtain⟨t,rfl⟩:=rx;cases y with
    | non=>cases ry;exact PySem.EqNone.eq_int_none (cF I q (by simp))
    | int j=>obtain⟨t',rfl⟩:=ry;exact eq_int (cF I q O6)
    | str j=>obtain⟨t',rfl⟩:=ry;exact PySem.EqMixed.eq_int_str (cF I q (by simp))
    | _=>exact absurd (show false=true from hs) Bool.false_ne_true
  | str i=>
    obtain⟨t,rfl⟩:=rx;cases y with
    | non=>cases ry;exact PySem.EqNone.eq_str_none (cF I q (by simp))
    | bl j=>cases ry;exact PySem.EqMixed.eq_str_bool (cF I q (by simp))
    | int j=>obtain⟨t',rfl⟩:=ry;exact PySem.EqMixed.eq_str_int (cF I q (by simp))
    | str j=>obtain⟨t',rfl⟩:=ry;exact eq_str (cF I q O7)
    | _=>exact absurd (show false=true from hs) Bool.false_ne_true
  | R4 i=>
    obtain⟨t,rfl⟩:=rx;cases y with
    | R4 j=>obtain⟨t',rfl⟩:=ry;exact W.eq_bytes (cF I q O8)
    | _=>exact absurd (show false=true from hs) Bool.false_ne_true
  | _=>cases y <;> exact absurd (show false=true from hs) Bool.false_ne_true
theorem qcb:iZ X (compareOp .NotEq) rNe:=by
  intro p_ s σ H x y v u Q I rx ry h;obtain⟨hs,q⟩:=h;cases x with
  | non=>
    cases rx;cases y with
    | non=>cases ry;exact PySem.EqNone.ne_none_none (cF I q (by simp))
    | bl j=>cases ry;exact PySem.EqNone.ne_none_bool (cF I q (by simp))
    | int j=>obtain⟨t',rfl⟩:=ry;exact PySem.EqNone.ne_none_int (cF I q (by simp))
    | str j=>obtain⟨t',rfl⟩:=ry;exact PySem.EqNone.ne_none_str (cF I q (by simp))
    | _=>exact absurd (show false=true from hs) Bool.false_ne_true
  | bl i=>
    cases rx;cases y with
    | non=>cases ry;exact PySem.EqNone.ne_bool_none (cF I q (by simp))
    | bl j=>cases ry;exact ne_bool (cF I q (congrArg not Ti))
    | str j=>obtain⟨t',rfl⟩:=ry;exact PySem.EqMixed.ne_bool_str (cF I q (by simp))
    | _=>exact absurd (show false=true from hs) Bool.false_ne_true
  | int i=>
    obtain⟨t,rfl⟩:=rx;cases y with
    | non=>cases ry;exact PySem.EqNone.ne_int_none (cF I q (by simp))
    | int j=>obtain⟨t',rfl⟩:=ry;exact ne_int (cF I q (congrArg not O6))
    | str j=>obtain⟨t',rfl⟩:=ry;exact PySem.EqMixed.ne_int_str (cF I q (by simp))
    | _=>exact absurd (show false=true from hs) Bool.false_ne_true
  | str i=>
    obtain⟨t,rfl⟩:=rx;cases y with
    | non=>cases ry;exact PySem.EqNone.ne_str_none (cF I q (by simp))
    | bl j=>cases ry;exact PySem.EqMixed.ne_str_bool (cF I q (by simp))
    | int j=>obtain⟨t',rfl⟩:=ry;exact PySem.EqMixed.ne_str_int (cF I q (by simp))
    | str j=>obtain⟨t',rfl⟩:=ry;exact ne_str (cF I q (congrArg not O7))
    | _=>exact absurd (show false=true from hs) Bool.false_ne_true
  | R4 i=>
    obtain⟨t,rfl⟩:=rx;cases y with
    | R4 j=>obtain⟨t',rfl⟩:=ry;exact W.ne_bytes (cF I q (congrArg not O8))
    | _=>exact absurd (show false=true from hs) Bool.false_ne_true
  | _=>cases y <;> exact absurd (show false=true from hs) Bool.false_ne_true
theorem qcc:iZ X (compareOp .Lt) (Zr fun i j=>.bl (decide (i<j))):=qax fun _ _ _ _ _ _ _ q=>lt_int q
theorem qcd:iZ X (compareOp .LtE) (Zr fun i j=>.bl (decide (i≤j))):=qax fun _ _ _ _ _ _ _ q=>le_int q
theorem qce:iZ X (compareOp .Gt) (Zr fun i j=>.bl (decide (j<i))):=qax fun _ _ _ _ _ _ _ q=>gt_int q
theorem QL:iZ X (compareOp .In) (fun x y H Q=>∃i j,x = .str i∧y = .str j∧Q (.bl (!(Builtin.Str.occurrences j i 0 j.length 1).isEmpty)) H):=by
  intro p_ s σ H x y v u Q I rx ry h;obtain⟨i,j,rfl,rfl,q⟩:=h;obtain⟨t,rfl⟩:=rx;obtain⟨t',rfl⟩:=ry;exact in_str (cF I q rfl)
theorem iZ.or {f:Value→Value→Sem Value} {r r':R2} (h:iZ X f r) (h':iZ X f r'):iZ X f (fun x y H Q=>r x y H Q∨r' x y H Q):=by
  intro p_ s σ H x y v u Q I rx ry q
  rcases q with q | q
  ·exact h p_ s σ H x y v u Q I rx ry q
  ·exact h' p_ s σ H x y v u Q I rx ry q
theorem bW (b:Expr) {op:CmpOp} (h:op≠.In:=by decide) (h2:op≠.NotIn:=by decide):behindInMarks op b=false:=by
  have e1:(op == CmpOp.In)=false:=by cases op <;> first | rfl | exact absurd rfl h
  have e2:(op == CmpOp.NotIn)=false:=by cases op <;> first | rfl | exact absurd rfl h2
  cases b <;> simp[behindInMarks,e1,e2]
theorem cZ {op:CmpOp} {r:R2} (ho:iZ X (compareOp op) r) (ha:PE X a ta) (hb:PE X b tb) (hm:behindInMarks op b=false):PE X (.Compare a [op] [b] pos) (Mj r ta tb):=by
  intro p_ s σ H Q I h;exact wpAny_Compare1 (qaw ha hb I h fun v u s2 x y H2 I2 rx ry q=>ho p_ s2 σ H2 x y v u Q I2 rx ry q) hm
def O9 (t:TE):TT:=fun σ H Q=>t σ H fun x H'=>∃k,x = .bl k∧Q k H'
theorem XD {op:CmpOp} {r:R2} (ho:iZ X (compareOp op) r) (ha:PE X a ta) (hb:PE X b tb) (hm:behindInMarks op b=false):PT X (.Compare a [op] [b] pos) (O9 (Mj r ta tb)):=by
  intro p_ s σ H Q I h;refine wpAny_isTrue_Compare1 (cY (ha p_ s σ H _ I h) fun v s1 ⟨x,H1,I1,r1,q1⟩=>cY (hb p_ s1 σ H1 _ I1 q1) fun u s2 ⟨y,H2,I2,r2,q2⟩=>
    cY (ho p_ s2 σ H2 x y v u _ I2 r1 r2 q2) fun c s3 ⟨z,H3,I3,r3,k,e,q3⟩=>?_) hm
  subst e;cases r3;exact wpAny_truthy_bool ⟨H3,I3,q3⟩
def GR (r r':R2) (ta tb tc:TE):TE:=fun σ H Q=>ta σ H fun x H1=>tb σ H1 fun y H2=>r x y H2 fun z H3=>∃k,z = .bl k∧
  (if k=true then tc σ H3 fun w' H4=>r' y w' H4 Q else Q (.bl false) H3)
theorem Tj {op op':CmpOp} {r r':R2} (ho:iZ X (compareOp op) r) (ho':iZ X (compareOp op') r') (ha:PE X a ta) (hb:PE X b tb) (hc:PE X c tc)
    (hm:lastMarks [op,op'] [b,c]=false:=by with_unfolding_all rfl):PE X (.Compare a [op,op'] [b,c] pos) (GR r r' ta tb tc):=by
  intro p_ s σ H Q I h;refine Compare_chain (cY (ha p_ s σ H _ I h) fun v s1 ⟨x,H1,I1,r1,q1⟩=>chain_link (cY (hb p_ s1 σ H1 _ I1 q1) fun u s2 ⟨y,H2,I2,r2,q2⟩=>
    cY (ho p_ s2 σ H2 x y v u _ I2 r1 r2 q2) fun d s3 ⟨z,H3,I3,r3,k,e,q3⟩=>?_)) hm
  subst e;cases r3;refine wpAny_truthy_bool ?_;cases k with
  | false=>exact ite_ff ⟨.bl false,H3,I3,rfl,q3⟩
  | true=>exact ite_tt (chain_last (cY (hc p_ s3 σ H3 _ I3 q3) fun w' s4 ⟨z',H4,I4,r4,q4⟩=>ho' p_ s4 σ H4 y z' u w' Q I4 r2 r4 q4))
theorem Tn {op op':CmpOp} {r r':R2} (ho:iZ X (compareOp op) r) (ho':iZ X (compareOp op') r') (ha:PE X a ta) (hb:PE X b tb) (hc:PE X c tc)
    (hm:lastMarks [op,op'] [b,c]=false:=by with_unfolding_all rfl):PT X (.Compare a [op,op'] [b,c] pos) (O9 (GR r r' ta tb tc)):=by
  intro p_ s σ H Q I h;refine isTrue_chain (cY (ha p_ s σ H _ I h) fun v s1 ⟨x,H1,I1,r1,q1⟩=>test_link (cY (hb p_ s1 σ H1 _ I1 q1) fun u s2 ⟨y,H2,I2,r2,q2⟩=>
    cY (ho p_ s2 σ H2 x y v u _ I2 r1 r2 q2) fun d s3 ⟨z,H3,I3,r3,k,e,q3⟩=>?_)) hm
  subst e;cases r3;refine wpAny_truthy_bool ?_;cases k with
  | false=>
    obtain⟨k',e',q'⟩:=q3;cases e';exact ite_ff ⟨H3,I3,q'⟩
  | true=>
    refine ite_tt (test_last (cY (hc p_ s3 σ H3 _ I3 q3) fun w' s4 ⟨z',H4,I4,r4,q4⟩=>cY (ho' p_ s4 σ H4 y z' u w' _ I4 r2 r4 q4) fun d' s5 ⟨z2,H5,I5,r5,k2,e2,q5⟩=>?_));subst e2;cases r5;exact wpAny_truthy_bool ⟨H5,I5,q5⟩
theorem vO:(sizeLine:Nat)<2 ^ 63:=by rw[sizeLine_eq];decide
theorem Ml:iZ X (binaryOp .Add) (fun x y H Q=>∃i j,x = .str i∧y = .str j∧i.length+j.length≤sizeLine∧Q (.str (i++j)) H):=by
  intro p_ s σ H x y v u Q I rx ry h;obtain⟨i,j,rfl,rfl,hz,q⟩:=h;obtain⟨t,rfl⟩:=rx;obtain⟨t',rfl⟩:=ry;exact add_str (fun t' tk=>⟨.str (i++j),H,I.tok _,⟨_,rfl⟩,q⟩) hz
theorem vals1 {x:V} {us:List Value} (r:Vals [x] us):∃u,us=[u]∧RelV x u:=by
  cases r with
  | cons r1 r2=>cases r2;exact⟨_,rfl,r1⟩
theorem vals2 {x y:V} {us:List Value} (r:Vals [x,y] us):∃u w',us=[u,w']∧RelV x u∧RelV y w':=by
  cases r with
  | cons r1 r2=>
    cases r2 with
    | cons r3 r4=>cases r4;exact⟨_,_,rfl,r1,r3⟩
theorem Tp:cu X (.builtin "abs") (fun xs H Q=>∃i,xs=[.int i]∧Q (.int (if i<0 then -i else i)) H):=by
  intro p_ s σ H xs us Q I r h;obtain⟨i,rfl,q⟩:=h;obtain⟨u,rfl,t,rfl⟩:=vals1 r;exact call_abs_int fun u tk=>⟨.int (if i<0 then -i else i),H,I.tok _,⟨_,rfl⟩,q⟩
theorem QM (hc:X.calm=true):cu X (.builtin "max") (fun xs H Q=>∃i j,xs=[.int i,.int j]∧Q (.int (if j > i then j else i)) H):=by
  intro p_ s σ H xs us Q I r h;obtain⟨i,j,rfl,q⟩:=h;obtain⟨u,w',rfl,⟨t,rfl⟩,⟨t',rfl⟩⟩:=vals2 r;refine max_two_ints (I.ok.hd hc) fun h' tk k=>⟨_,H,I.kept k,?_,q⟩
  by_cases hj:j > i
  ·rw[if_pos hj,if_pos hj];exact⟨_,rfl⟩
  ·rw[if_neg hj,if_neg hj];exact⟨_,rfl⟩
theorem QS (hc:X.calm=true):cu X (.builtin "min") (fun xs H Q=>∃i j,xs=[.int i,.int j]∧Q (.int (if j<i then j else i)) H):=by
  intro p_ s σ H xs us Q I r h;obtain⟨i,j,rfl,q⟩:=h;obtain⟨u,w',rfl,⟨t,rfl⟩,⟨t',rfl⟩⟩:=vals2 r;refine min_two_ints (I.ok.hd hc) fun h' tk k=>⟨_,H,I.kept k,?_,q⟩
  by_cases hj:j<i
  ·rw[if_pos hj,if_pos hj];exact⟨_,rfl⟩
  ·rw[if_neg hj,if_neg hj];exact⟨_,rfl⟩
theorem QT:cu X (.type "int") (fun xs H Q=>(∃i,xs=[.int i]∧Q (.int i) H)∨∃k,xs=[.bl k]∧Q (.int (if k then 1 else 0)) H):=by
  intro p_ s σ H xs us Q I r h
  rcases h with⟨i,rfl,q⟩ | ⟨k,rfl,q⟩
  ·obtain⟨u,rfl,t,rfl⟩:=vals1 r;exact call_int_int ⟨.int i,H,I,⟨_,rfl⟩,q⟩
  ·obtain⟨u,rfl,r1⟩:=vals1 r;cases r1;exact call_int_bool ⟨.int (if k then 1 else 0),H,I.tok _,⟨_,rfl⟩,q⟩
theorem JM:cu X (.builtin "divmod") (fun xs H Q=>∃i j,xs=[.int i,.int j]∧QK i j∧∀p,H p=none→Q (.ref p) (upd H p (.tup [.int (i / j),.int (i % j)]))):=by
  intro p_ s σ H xs us Q I r h;obtain⟨i,j,rfl,⟨h1,h2⟩,q⟩:=h;obtain⟨u,w',rfl,⟨t,rfl⟩,⟨t',rfl⟩⟩:=vals2 r;refine divmod_int (by omega) ?_ (.inl (PyProof.noPylong_small (by omega)));rw[Int.fdiv_eq_ediv_of_nonneg i (by omega),Int.fmod_eq_emod_of_nonneg i (by omega)];have hn:H s.heap.objs.size=none:=I.hok.fresh (Nat.le_refl _);refine⟨.ref s.heap.objs.size,_,?_,rfl,q _ hn⟩;refine I.laid (fun b o e=>Heap.get?_push_of_some _ e) (Nat.le_refl _) ⟨by simp only[List.length_cons,List.length_nil];rw[sizeLine_eq];decide,[.int (i / j) s.toks,.int (i % j) (s.toks+1)],.cons ⟨_,rfl⟩ (.cons ⟨_,rfl⟩ .nil),?_⟩;exact⟨_,Heap.get?_push_size s.heap rfl,rfl,0,rfl⟩
end
structure Mp (h:Heap) (x dx C:Addr) (mA:Str→Option Value):Prop where
  obj:h.get? x=some (W.instObj C dx)
  ns:h.Ns1 dx mA
  ne:dx≠x
theorem QV {h:Heap} {dx:Addr} {mA:Str→Option Value} (n:h.Ns1 dx mA):∃od,h.get? dx=some od∧∀name,W.lookIn name od=some (mA name):=by
  obtain⟨o,es,ep,ho,hd,hk,_,hm⟩:=n;refine⟨o,ho,fun name=>?_⟩;have e:=hm name;unfold nsFind findBy at e;rw[← Array.find?_toList] at e;unfold W.lookIn;rw[hd];dsimp only;split
  ·rename_i y q;rw[q] at e;exact congrArg some e
  · rename_i q;rw[q] at e;have a:es.toList.any (·.refKey)=false:=by
      rw[List.any_eq_false];intro y hy;obtain⟨z,t,hkey⟩:=hk y (Array.mem_toList_iff.mp hy);simp[DictEntry.refKey,hkey]
    have a':¬es.toList.any (·.refKey)=true:=by rw[a];exact Bool.false_ne_true
    rw[if_neg a'];exact congrArg some e
theorem Mp.look {h:Heap} {x dx C:Addr} {mA:Str→Option Value} (I:Mp h x dx C mA):∃od,W.InstAt h x (W.instObj C dx) C (some od)∧∀name,W.lookIn name od=some (mA name):=
  let ⟨od,ho,hl⟩:=QV I.ns
  ⟨od,⟨I.obj,rfl,rfl,ho⟩,hl⟩
section
variable {prog:Program} {w:World} {A:Around} {E:Value→Shared→Prop} {s:Shared} {K:W.Frag} {x dx C f:Addr} {mA:Str→Option Value} {name:Str} {v:Value}
theorem get_map {expr:Bool} {Q:Value→Shared→Prop} (X:K.In s.heap) (I:Mp s.heap x dx C mA) (hg:W.plainGet K C name=true) (hh:W.hasDictIn K C=true)
    (ha:W.findIn K (.ref C) name=some none) (hv:mA name=some v) (hv':W.handedIn v=true) (h:Q v {s with toks:=s.toks+1}) :
    wpAny (model prog w) A (getAttr (.ref x) name expr) Q E s:=by
  obtain⟨od,J,hl⟩:=I.look;exact W.get_value X J (W.plainGet_of hg).1 (W.findObj_own hh ha rfl (by rw[hl,hv])) hv' h
theorem Tq {pl:Sem Bool} {Q:Value×List Value→Shared→Prop} (X:K.In s.heap) (I:Mp s.heap x dx C mA) (hg:W.plainGet K C name=true)
    (hf:W.findIn K (.ref C) name=some (some (.ref f))) (ht:W.isFn K (.ref f)=true) (hv:mA name=none) (h:Q (.ref f,[.ref x]) s) :
    wpAny (model prog w) A (getMethod (.ref x) name pl) Q E s:=by
  obtain⟨od,J,hl⟩:=I.look;exact W.method_fn X J (W.plainGet_of hg).1 (W.plainGet_of hg).2 hf (beq_iff_eq.mp ht) (by show(W.lookIn name od).map (·.isSome)=some false;rw[hl,hv];rfl) h
theorem XF {ns:List Str} {Q:Unit→Shared→Prop} (X:K.In s.heap) (I:Mp s.heap x dx C mA)
    (hs:W.findIn K (.ref C) "__setattr__" = some (some (.builtin "object.__setattr__"))) (hp:W.plainOver K C=true) (ht:W.takerIn K C name=some none) (hh:W.hasDictIn K C=true)
    (hw:PySem.Within mA ns) (hsz:ns.length≤sizeLine)
    (h:∀h',Mp h' x dx C (fun y=>if y=name then some v else mA y)→Heap.SameBut dx s.heap h'→Q () {s with heap:=h',toks:=s.toks+2}) :
    wpAny (model prog w) A (setAttr (.ref x) name v) Q E s:=by
  obtain⟨od,J,hl⟩:=I.look;refine W.set_plain X J hs (W.osa_open (s:={s with toks:=s.toks+1}) (r:=none) X J hp ht fun b=>?_);obtain⟨cd,hc,hd'⟩:=W.any_some hh;have hx:s.heap.get? x=some ⟨.ref C,some dx,.plain,#[]⟩:=I.obj;refine wpAny_bind (wpAny_pure (wpAny_bind (wpAny_bind (wpAny_loadPart hx (wpAny_bind (W.Looks.here (s:={s with toks:=s.toks+1}) (W.looks_clsIn X hc) ?_))))));rw[hd'];refine wpAny_pure (a:=some dx) (wpAny_bind (wpAny_pure (wpAny_bind ?_)));refine wpAny_nsSet1 (s:={s with toks:=s.toks+1}) I.ns fun h' hn2 hs2=>?_;obtain⟨oD,esD,epD,hoD,hdD,hcD⟩:=hn2.count (PySem.Within.cons name v hw);refine wpAny_bind (wpAny_lookBehind hoD (by rw[hdD];exact pastItsLine_dict (Nat.le_trans hcD (by rw[List.length_cons];omega))) ?_);exact wpAny_pure (h _ ⟨(hs2.2 _ (Ne.symm I.ne)).trans I.obj,hn2,I.ne⟩ hs2)
theorem Tr {R:Result→Shared→Prop} {vs:List Value} {kw:List (Str×Value)} (X:K.In s.heap) (hm:W.makesIn K C=true)
    (hi:W.findIn K (.ref C) "__init__" = some (some (.ref f))) (hf:W.typeIn K (.ref f)=some (.type "function"))
    (h:codeAny (model prog w) (A.under (.builtin "type.__call__" ⟨.ref C::vs,kw⟩)) (.call (.ref f) ⟨.ref (s.heap.objs.size+1)::vs,kw⟩) (W.InitBack (s.heap.objs.size+1) R)
      {s with heap:=(s.heap.push W.emptyDict).push (W.instObj C s.heap.objs.size)}) :
    codeAny (model prog w) A (.call (.ref C) ⟨vs,kw⟩) R s:=by
  obtain⟨hh,g,d,t,os⟩:=s;exact W.make_core (W.makes_of X hm) (W.looks_findIn X hi) (fun self=>W.bind_fn X self hf) (.inl rfl) h
end
def qj (f:Str) (v:V):List (Str×V)→List (Str×V)
  | []=>[(f,v)]
  | (g,x)::r=>if g=f then (g,v)::r else (g,x)::qj f v r
theorem zf (f g:Str) (v:V):∀fs:List (Str×V),(qj f v fs).lookup g=if g=f then some v else fs.lookup g
  | []=>by
    show List.lookup g [(f,v)]=_
    by_cases h:g=f
    ·have hb:(g == f)=true:=beq_iff_eq.mpr h;simp only[List.lookup,hb,if_pos h]
    ·have hb:(g == f)=false:=beq_eq_false_iff_ne.mpr h;simp only[List.lookup,hb,if_neg h]
  | (k,x)::r=>by
    have ih:=zf f g v r;rw[show qj f v ((k,x)::r)=(if k=f then (k,v)::r else (k,x)::qj f v r) from rfl]
    by_cases hk:k=f
    · rw[if_pos hk]
      by_cases h:g=k
      ·have hb:(g == k)=true:=beq_iff_eq.mpr h;simp only[List.lookup,hb,if_pos (h.trans hk)]
      ·have hb:(g == k)=false:=beq_eq_false_iff_ne.mpr h;simp only[List.lookup,hb,if_neg (fun e:g=f=>h (e.trans hk.symm))]
    · rw[if_neg hk]
      by_cases h:g=k
      ·have hb:(g == k)=true:=beq_iff_eq.mpr h;simp only[List.lookup,hb,if_neg (fun e:g=f=>hk (h.symm.trans e))]
      ·have hb:(g == k)=false:=beq_eq_false_iff_ne.mpr h;simp only[List.lookup,hb];exact ih
theorem yp (f:Str) (v:V):∀fs:List (Str×V),f∈(qj f v fs).map (·.1)∧∀g,g∈fs.map (·.1)→g∈(qj f v fs).map (·.1)
  | []=>⟨by simp[qj],fun g h=>by simp at h⟩
  | (k,x)::r=>by
    obtain⟨i1,i2⟩:=yp f v r;rw[show qj f v ((k,x)::r)=(if k=f then (k,v)::r else (k,x)::qj f v r) from rfl]
    by_cases hk:k=f
    ·rw[if_pos hk];subst hk;exact⟨by simp,fun g h=>by simpa using h⟩
    · rw[if_neg hk];refine⟨?_,fun g h=>?_⟩
      ·rw[List.map_cons];exact List.mem_cons_of_mem _ i1
      · rw[List.map_cons] at h ⊢
        rcases List.mem_cons.mp h with e | e
        ·exact List.mem_cons.mpr (.inl e)
        ·exact List.mem_cons_of_mem _ (i2 g e)
theorem zj (f:Str) (v:V):∀fs:List (Str×V),(qj f v fs).length≤fs.length+1
  | []=>by simp[qj]
  | (k,x)::r=>by
    have ih:=zj f v r;rw[show qj f v ((k,x)::r)=(if k=f then (k,v)::r else (k,x)::qj f v r) from rfl]
    by_cases hk:k=f
    ·rw[if_pos hk,List.length_cons,List.length_cons];omega
    ·rw[if_neg hk,List.length_cons,List.length_cons];omega
theorem wJ.some_of {v:V} {o:Option Value} (r:wJ (some v) o):∃u,o=some u∧RelV v u:=by
  cases o with
  | none=>exact(show False from r).elim
  | some u=>exact⟨u,rfl,r⟩
theorem wJ.none_of {o:Option Value} (r:wJ none o):o=none:=by
  cases o with
  | none=>rfl
  | some u=>exact(show False from r).elim
theorem QW {v:V} {u:Value} (r:RelV v u):W.handedIn u=true:=by
  cases v with
  | non=>cases (show u=Value.none from r);rfl
  | bl b=>cases (show u=Value.bool b from r);rfl
  | int i=>obtain⟨t,e⟩:=(show ∃t,u=Value.int i t from r);cases e;rfl
  | str x=>obtain⟨t,e⟩:=(show ∃t,u=Value.str x t from r);cases e;rfl
  | R4 b=>obtain⟨t,e⟩:=(show ∃t,u=Value.bytes b t from r);cases e;rfl
  | flt b=>obtain⟨t,e⟩:=(show ∃t,u=Value.float b t from r);cases e;rfl
  | ref a=>cases (show u=Value.ref a from r);rfl
  | ty n=>cases (show u=Value.type n from r);rfl
section
variable {P:Program} {w:World} {H H':Hp} {h h':Heap} {a C dx:Addr} {fs fs':List (Str×V)}
theorem wL (hok:qH P w H h) (e:H a=some (.ins C dx fs)):∃mA,Mp h a dx C mA∧(∀f,wJ (fs.lookup f) (mA f))∧PySem.Within mA (fs.map (·.1))∧fs.length≤1000∧H dx=some (.own a):=by
  obtain⟨d,z,ne,ob,mA,n,r,q⟩:=(show cH P w H h a (.ins C dx fs) from hok a _ e);exact⟨mA,⟨ob,n,ne⟩,r,q,z,d⟩
end
structure Cls (K:W.Frag) (C:Addr):Prop where
  pg:W.plainGet K C Str.empty=true
  hd:W.hasDictIn K C=true
  po:W.plainOver K C=true
  sa:W.findIn K (.ref C) "__setattr__" = some (some (.builtin "object.__setattr__"))
theorem Cls.get {K:W.Frag} {C:Addr} (c:Cls K C) (f:Str):W.plainGet K C f=true:=c.pg
def lW (K:W.Frag) (C:Addr) (f:Str):Prop:=W.findIn K (.ref C) f=some none
theorem lW.taker {K:W.Frag} {C:Addr} {f:Str} (n:lW K C f):W.takerIn K C f=some none:=by
  unfold W.takerIn;rw[show W.findIn K (.ref C) f=some none from n];rfl
structure Meth (K:W.Frag) (C:Addr) (m:Str) (f:Addr):Prop where
  at_:W.findIn K (.ref C) m=some (some (.ref f))
  fn:W.isFn K (.ref f)=true
  kp:W.keepIn K (.ref f)=true
section
variable {X:Cx} {p_:List (Addr×Obj)} {σ:St} {H:Hp} {s:Shared} {a C dx:Addr} {fs:List (Str×V)} {f:Str} {v:V} {A:Around} {E:Value→Shared→Prop}
theorem Mq {b:Bool} {Q:Value→Shared→Prop} (I:Inv X p_ σ H s) (e:H a=some (.ins C dx fs)) (c:Cls X.K C) (n:lW X.K C f) (l:fs.lookup f=some v)
    (h:∀u s',Inv X p_ σ H s'→RelV v u→Q u s'):wpAny (model X.prog X.w) A (getAttr (.ref a) f b) Q E s:=by
  obtain⟨mA,O,r,_,_,_⟩:=wL I.hok e;obtain⟨u,hu,ru⟩:=wJ.some_of (v:=v) (o:=mA f) (by rw[← l];exact r f);exact get_map I.vC O (c.get f) c.hd n hu (QW ru) (h u _ (I.tok _) ru)
theorem Mr {m:Str} {g:Addr} {pl:Sem Bool} {Q:Value×List Value→Shared→Prop} (I:Inv X p_ σ H s) (e:H a=some (.ins C dx fs)) (c:Cls X.K C) (k:Meth X.K C m g) (l:fs.lookup m=none)
    (h:Q (.ref g,[.ref a]) s):wpAny (model X.prog X.w) A (getMethod (.ref a) m pl) Q E s:=by
  obtain⟨mA,O,r,_,_,_⟩:=wL I.hok e;have hn:mA m=none:=wJ.none_of (by rw[← l];exact r m);exact Tq I.vC O (c.get m) k.at_ k.fn hn h
theorem Ms {y:V} {u:Value} {Q:Unit→Shared→Prop} (I:Inv X p_ σ H s) (e:H a=some (.ins C dx fs)) (c:Cls X.K C) (n:lW X.K C f) (hl:fs.length<1000) (ry:RelV y u)
    (h:∀s',Inv X p_ σ (upd H a (.ins C dx (qj f y fs))) s'→Q () s'):wpAny (model X.prog X.w) A (setAttr (.ref a) f u) Q E s:=by
  obtain⟨mA,O,r,wi,_,ho⟩:=wL I.hok e;have hz:(fs.map (·.1)).length≤sizeLine:=by rw[List.length_map,sizeLine_eq];omega
  refine XF I.vC O c.sa c.po n.taker c.hd wi hz fun h' O' sb=>h _ ?_;have hd:∃o,h'.get? dx=some o:=let ⟨o,_,_,e',_⟩:=O'.ns;⟨o,e'⟩;refine I.write (x:=a) (e:=dx) (by rw[e];exact True.intro) (.inr ho) (fun b q hb z=>(sb.2 b hb).trans z) hd ?_;refine⟨by rw[aG O.ne];exact ho,?_,O.ne,O'.obj,_,O'.ns,fun g=>?_,fun g hg=>?_⟩
  ·have:=zj f y fs;omega
  · show wJ ((qj f y fs).lookup g) (if g=f then some u else mA g)
    rw[zf]
    by_cases q:g=f
    ·rw[if_pos q,if_pos q];exact ry
    ·rw[if_neg q,if_neg q];exact r g
  · by_cases q:g=f
    ·rw[q];exact(yp f y fs).1
    · refine(yp f y fs).2 g (wi g fun z=>hg ?_);show(if g=f then some u else mA g)=none
      rw[if_neg q];exact z
theorem Inv.made (I:Inv X p_ σ H s):Inv X p_ σ (upd (upd H s.heap.objs.size (.own (s.heap.objs.size+1))) (s.heap.objs.size+1) (.ins C s.heap.objs.size []))
    {s with heap:=(s.heap.push W.emptyDict).push (W.instObj C s.heap.objs.size)}:=by
  have e1:(s.heap.push W.emptyDict).get? s.heap.objs.size=some W.emptyDict:=Heap.get?_push_size s.heap rfl;have e2:((s.heap.push W.emptyDict).push (W.instObj C s.heap.objs.size)).get? (s.heap.objs.size+1)=some (W.instObj C s.heap.objs.size):=by
    have:=Heap.get?_push_size (s.heap.push W.emptyDict) (o:=W.instObj C s.heap.objs.size) rfl
    rwa [Heap.size_push] at this
  have e3:(s.heap.push W.emptyDict).Ns s.heap.objs.size (fun _=>none):=⟨W.emptyDict,#[],_,e1,rfl,(fun e he=>absurd he (by simp)),fun _=>rfl⟩;have I1:=I.laid (a:=s.heap.objs.size) (o:=.own (s.heap.objs.size+1)) (h':=s.heap.push W.emptyDict) (t':=s.toks) (fun b u q=>Heap.get?_push_of_some _ q) (Nat.le_refl _) ⟨_,e1⟩;refine I1.laid (a:=s.heap.objs.size+1) (o:=.ins C s.heap.objs.size []) (t':=s.toks) (fun b u q=>Heap.get?_push_of_some _ q) (Nat.le_of_eq (Heap.size_push _ _)) ?_;have ne:s.heap.objs.size≠s.heap.objs.size+1:=Nat.ne_of_lt (Nat.lt_succ_self _);refine⟨by rw[aG ne,ao],Nat.zero_le _,ne,e2,fun _=>none,(Heap.Ns1.of_empty e3).at fun o q=>Heap.get?_push_of_some _ q,fun _=>True.intro,fun y hy=>absurd rfl hy⟩
theorem XH {prog:Program} {w:World} {env:Env} {e:Expr} {f:Str} {pos:Pos} {s:Shared} {Q:Value→Shared→Prop} (hb:attributeBase e f env (eval e env)=eval e env)
    (h:wpAny (model prog w) A (eval e env) (fun o s₁=>wpAny (model prog w) A (getAttr o f true) Q E s₁) E s):wpAny (model prog w) A (eval (.Attribute e f pos) env) Q E s:=
  Attribute_any_ h (by rw[arm_eval_Attribute,hb])
end
def XJ (K:W.Frag) (ta:TE) (f:Str):TE:=fun σ H Q=>ta σ H fun x H1=>∃a C dx fs v,x = .ref a∧H1 a=some (.ins C dx fs)∧Cls K C∧lW K C f∧fs.lookup f=some v∧Q v H1
def qaE (K:W.Frag) (ta tv:TE) (f:Str):TS:=fun D σ H=>tv σ H fun y H1=>ta σ H1 fun x H2=>∃a C dx fs,x = .ref a∧H2 a=some (.ins C dx fs)∧Cls K C∧lW K C f∧fs.length<1000∧
  D.nx σ (upd H2 a (.ins C dx (qj f y fs)))
section
variable {X:Cx} {o e value:Expr} {f:Str} {pos pos' tpos:Pos} {ta tv:TE}
theorem qaF (he:PE X e ta) (hb:attributeBase e f X.env (eval e X.env)=eval e X.env):PE X (.Attribute e f pos) (XJ X.K ta f):=by
  intro p_ s σ H Q I h;refine XH hb (cY (he p_ s σ H _ I h) fun u s1 zz=>?_);obtain⟨x,H1,I1,rx,a,C,dx,fs,v,ex,ea,c,n,l,q⟩:=zz;subst ex;obtain rfl:u=Value.ref a:=rx;exact Mq I1 ea c n l fun u' s2 I2 ru=>⟨v,H1,I2,ru,q⟩
theorem qaG (ha:PE X o ta) (hv:PE X value tv) (hs:swapsWith value (some (.Attribute o f pos')) pos.line X.env=pure false):PS X (.Assign [.Attribute o f pos'] value pos) (qaE X.K ta tv f):=by
  intro p_ s σ H D I h;refine plainObj_wpAny_Assign_Attribute (cY (hv p_ s σ H _ I h) fun u s1 ⟨y,H1,I1,ry,q⟩=>cY (ha p_ s1 σ H1 _ I1 q) fun ov s2 ⟨x,H2,I2,rx,a,C,dx,fs,ex,ea,c,n,l,q2⟩=>?_) hs;subst ex;obtain rfl:ov=Value.ref a:=rx;exact Ms I2 ea c n l ry fun s3 I3=>⟨σ,_,I3,q2⟩
end
section
variable {X:Cx} {p_:List (Addr×Obj)} {σ:St} {H:Hp} {s:Shared} {A:Around} {E:Value→Shared→Prop} {Q:Value→Shared→Prop} {c:Value} {b:Bool}
inductive lX (K:W.Frag) (H:Hp):V→Value→Prop where
  | non:lX K H .non (.type "NoneType")
  | bl (x:Bool):lX K H (.bl x) (.type "bool")
  | int (i:Int):lX K H (.int i) (.type "int")
  | str (x:Str):lX K H (.str x) (.type "str")
  | flt (x:UInt64):lX K H (.flt x) (.type "float")
  | lst {a:Addr} {xs:List V} (e:H a=some (.lst xs)):lX K H (.ref a) (.type "list")
  | jM {a:Addr} {o:Obj} {xs:List V} (e:H a=some (.jM o (.lst xs))):lX K H (.ref a) (.type "list")
  | tup {a:Addr} {xs:List V} (e:H a=some (.tup xs)):lX K H (.ref a) (.type "tuple")
  | dK {a:Addr} {kvs:List (Key×V)} (e:H a=some (.dK kvs)):lX K H (.ref a) (.type "dict")
  | dT {a:Addr} {kvs:List (List Key×V)} (e:H a=some (.dT kvs)):lX K H (.ref a) (.type "dict")
  | ins {a C dx:Addr} {fs:List (Str×V)} (e:H a=some (.ins C dx fs)) (cl:Cls K C) (ha:W.findIn K (.ref C) "__class__" = some (some (.builtin "object.__class__")))
      (hn:W.specialIn K (.builtin "object.__class__") "__get__" = some (some (.builtin "getset_descriptor.__get__"))) (htk:W.takesIn K (.builtin "object.__class__")=some true)
      (hm:W.mroIn K C (.type "object")=some true):lX K H (.ref a) (.ref C)
theorem QX {x:V} {u t:Value} (I:Inv X p_ σ H s) (rx:RelV x u) (ty:lX X.K H x t) (e:W.kitOne X.K t c=some b) (h:∀tk,Q (.bool b) {s with toks:=tk}) :
    wpAny (model X.prog X.w) A (call (.builtin "isinstance") [u,c]) Q E s:=by
  cases ty with
  | non=>cases (show u=Value.none from rx);exact W.kia_one W.kitx_none I.vC True.intro e (fun z=>nomatch z) h
  | bl y=>cases (show u=Value.bool y from rx);exact W.kia_one W.kitx_bool I.vC True.intro e (fun z=>nomatch z) h
  | int i=>obtain⟨t,q⟩:=(show ∃t,u=Value.int i t from rx);cases q;exact W.kia_one W.kitx_int I.vC True.intro e (fun z=>nomatch z) h
  | str y=>obtain⟨t,q⟩:=(show ∃t,u=Value.str y t from rx);cases q;exact W.kia_one W.kitx_str I.vC True.intro e (fun z=>nomatch z) h
  | flt y=>obtain⟨t,q⟩:=(show ∃t,u=Value.float y t from rx);cases q;exact W.kia_one W.kitx_float I.vC True.intro e (fun z=>nomatch z) h
  | @lst a xs ea=>
    cases (show u=Value.ref a from rx);obtain⟨_,_,n,_,h1⟩:=(show cH X.prog X.w H s.heap a (.lst xs) from I.hok a _ ea);exact W.kia_one W.kitx_list I.vC ⟨_,h1,rfl⟩ e (fun z=>nomatch z) h
  | @jM a ob xs ea=>
    cases (show u=Value.ref a from rx);obtain⟨_,_,_,n,_,h1⟩:=(show cH X.prog X.w H s.heap a (.jM ob (.lst xs)) from I.hok a _ ea);exact W.kia_one W.kitx_list I.vC ⟨_,h1,rfl⟩ e (fun z=>nomatch z) h
  | @tup a xs ea=>
    cases (show u=Value.ref a from rx);obtain⟨_,_,_,p⟩:=(show cH X.prog X.w H s.heap a (.tup xs) from I.hok a _ ea);obtain⟨o,h1,h2,_⟩:=p;exact W.kia_one W.kitx_tuple I.vC ⟨o,h1,h2⟩ e (fun z=>nomatch z) h
  | @dK a kvs ea=>
    cases (show u=Value.ref a from rx);obtain⟨_,_,vs,_,p⟩:=(show cH X.prog X.w H s.heap a (.dK kvs) from I.hok a _ ea);obtain⟨o,es,ep,h1,h2,_⟩:=p;exact W.kia_one W.kitx_dict I.vC ⟨o,h1,h2.1⟩ e (fun z=>nomatch z) h
  | @dT a kvs ea=>
    cases (show u=Value.ref a from rx);obtain⟨_,_,xs,_,o,es,ep,h1,h2,_⟩:=(show cH X.prog X.w H s.heap a (.dT kvs) from I.hok a _ ea);exact W.kia_one W.kitx_dict I.vC ⟨o,h1,h2.1⟩ e (fun z=>nomatch z) h
  | @ins a C dx fs ea cl ha hn htk hm=>
    cases (show u=Value.ref a from rx);obtain⟨mA,O,_⟩:=wL I.hok ea;obtain⟨od,J,_⟩:=O.look;exact W.kia_one (W.kitx_own (cl.get _) cl.hd ha hn htk hm) I.vC J e (fun z=>nomatch z) h
end
structure jc (k:Nat) (A:Around):Prop where
  hd:A.handled=none
  dp:A.depth+3 * k+5<recursionLimit
  un:A.units+16 * k+200<cLine
  gd:A.guards=some []
theorem jc.mono {j k:Nat} {A:Around} (r:jc k A) (h:j≤k):jc j A:=⟨r.hd,by have:=r.dp;omega,by have:=r.un;omega,r.gd⟩
theorem jc.deeper {k:Nat} {A:Around} (r:jc (k+1) A) (env:Env):jc k (A.deeper env):=
  ⟨r.hd,by have:=r.dp;show A.depth+1+3 * k+5<_;omega,by have:=r.un;show A.units+3+16 * k+200<_;omega,r.gd⟩
theorem Mt {A:Around} {C:Addr} {us:List Value} {kw:List (Str×Value)}:(A.under (.builtin "type.__call__" ⟨.ref C::us,kw⟩)).depth=A.depth+1:=by
  first | rfl | simp[Around.under,Code.weight,Code.isCreation,Code.isGuard,Code.isCaller,Code.frames,Code.isFrame,guardIds]
theorem Mu {A:Around} {C:Addr} {us:List Value} {kw:List (Str×Value)}:(A.under (.builtin "type.__call__" ⟨.ref C::us,kw⟩)).units=A.units+1:=by
  first | rfl | simp[Around.under,Code.cUnits,Code.frames,Code.isFrame]
theorem JN {A:Around} {C:Addr} {us:List Value} {kw:List (Str×Value)}:(A.under (.builtin "type.__call__" ⟨.ref C::us,kw⟩)).guards=A.guards:=by
  first | rfl | simp[Around.under,Code.isGuard,guardIds]
theorem jc.make {k:Nat} {A:Around} (r:jc (k+1) A) (C:Addr) (us:List Value) (kw:List (Str×Value)):jc k (A.under (.builtin "type.__call__" ⟨.ref C::us,kw⟩)):=
  ⟨r.hd,by have:=r.dp;rw[Mt];omega,by have:=r.un;rw[Mu];omega,by rw[JN];exact r.gd⟩
theorem jc.depth {k:Nat} {A:Around} (r:jc k A):A.depth<recursionLimit:=by have:=r.dp;omega
theorem jc.units {k:Nat} {A:Around} (r:jc k A):A.units+64<cLine:=by have:=r.un;omega
def mZ:TA:=fun _ H Q=>Q [] H
def dW (ta:TE) (tr:TA):TA:=fun σ H Q=>ta σ H fun x H1=>tr σ H1 fun xs H2=>Q (x::xs) H2
section
variable {X:Cx} {e:Expr} {es:List Expr} {te:TE} {t:TA} {pos:Pos}
theorem ak:PA X [] mZ:=fun _ _ _ _ H Q I h=>Calls.spliced_nil ⟨[],H,I,.nil,h⟩
theorem aj (ha:PE X e te) (hr:PA X es t) (hs:starEach (e::es) X.env=(false,eval e X.env)::starEach es X.env:=by rfl):PA X (e::es) (dW te t):=by
  intro pos p_ s σ H Q I h;rw[hs];show wpAny _ _ (spliced ((false,eval e X.env)::backTo pos (starEach es X.env))) _ _ s;refine Calls.spliced_cons (cY (ha p_ s σ H _ I h) fun u s1 zz=>?_);obtain⟨x,H1,I1,r1,q1⟩:=zz;refine cY (hr pos p_ s1 σ H1 _ I1 q1) fun us s2 zz=>?_;obtain⟨xs,H2,I2,r2,q2⟩:=zz;exact⟨x::xs,H2,I2,.cons r1 r2,q2⟩
def QZ (t:TA):TE:=fun σ H Q=>t σ H fun xs H1=>xs.length≤sizeLine∧∀p,H1 p=none→Q (.ref p) (upd H1 p (.tup xs))
def Bh (t:TA):TE:=fun σ H Q=>t σ H fun xs H1=>xs.length≤sizeLine∧∀p,H1 p=none→Q (.ref p) (upd H1 p (.lst xs))
theorem eX {x1} (h:PA X es t):PE X (.Tuple es x1 pos) (QZ t):=by
  intro p_ s σ H Q I hq;refine wpAny_Tuple_spliced (cY (h pos p_ s σ H _ I hq) fun us s1 zz=>?_);obtain⟨xs,H1,I1,r,z,q⟩:=zz;refine⟨by rw[← r.length];exact z,?_⟩;have hf:H1 s1.heap.objs.size=none:=I1.hok.fresh (Nat.le_refl _);refine⟨.ref s1.heap.objs.size,upd H1 s1.heap.objs.size (.tup xs),I1.laid (t':=s1.toks) (fun b u e=>Heap.get?_push_of_some _ e) (Nat.le_refl _) ?_,rfl,q _ hf⟩;exact⟨z,us,r,⟨_,Heap.get?_push_size _ rfl,rfl,_,rfl⟩⟩
theorem cC (h:PA X es t):PE X (.List es pos) (Bh t):=by
  intro p_ s σ H Q I hq;refine wpAny_List_spliced (cY (h pos p_ s σ H _ I hq) fun us s1 zz=>?_);obtain⟨xs,H1,I1,r,z,q⟩:=zz;refine⟨by rw[← r.length];exact z,?_⟩;have hf:H1 s1.heap.objs.size=none:=I1.hok.fresh (Nat.le_refl _);refine⟨.ref s1.heap.objs.size,upd H1 s1.heap.objs.size (.lst xs),I1.laid (t':=s1.toks) (fun b u e=>Heap.get?_push_of_some _ e) (Nat.le_refl _) ?_,rfl,q _ hf⟩;exact⟨z,us,0,r,Heap.get?_push_size _ rfl⟩
end
abbrev Sp:=List V→Hp→VK→XK→Prop
abbrev Q0:=List Env→Hp→Shared→XK→Value→Shared→Prop
structure JQ (P:Program) (w:World) (K:W.Frag) (mg:Str→Option Value) (base:Heap) (A:Around) (outer:List Env) (s:Shared) (H:Hp):Prop where
  frames:A.frames=some outer
  mod:Mod K mg base
  bs:∀b o,base.get? b=some o→s.heap.get? b=some o∧H b=none
  O2:base.objs.size≤s.heap.objs.size
  tu:s.heap.FunFrames base outer
  Sy:∀b∈frs outer,H b=none
  hok:qH P w H s.heap
  bare:AllBare s.gens
def CE (outer:List Env) (P:Program) (w:World) (H:Hp) (s:Shared) (Q:VK) (u:Value) (s':Shared):Prop:=
  ∃v H',s'.os=s.os∧AllBare s'.gens∧Un (frs outer) [] H H' s.heap s'.heap∧qH P w H' s'.heap∧RelV v u∧Q v H'
def CR (CX:Q0) (outer:List Env) (P:Program) (w:World) (H:Hp) (s:Shared) (Q:VK) (E:XK) (r:Result) (s':Shared):Prop:=
  match r with
  | .ok (.ret u)=>CE outer P w H s Q u s'
  | .ok _=>False
  | .error e=>CX outer H s E e s'
structure bZ (P:Program) (w:World) (K:W.Frag) (mg:Str→Option Value) (base:Heap) (CX:Q0) (k:Nat) (f:Addr) (fd:FuncData) (ps:List Str) (sp:Sp):Prop where
  len:∀vs H Q E,sp vs H Q E→vs.length=ps.length
  run:∀(A:Around) (outer:List Env) (s:Shared) (H:Hp) (args:Args) (us:List Value) (vs:List V) (Q:VK) (E:XK),jc k A→JQ P w K mg base A outer s H→BindsTo s fd args (ps.zip us)→Vals vs us→sp vs H Q E→
    codeAny (model P w) A (.call (.ref f) args) (CR CX outer P w H s Q E) s
theorem bZ.imp {P:Program} {w:World} {K:W.Frag} {mg:Str→Option Value} {base:Heap} {CX:Q0} {k:Nat} {f:Addr} {fd:FuncData} {ps:List Str} {sp Zu:Sp} (F:bZ P w K mg base CX k f fd ps sp)
    (h:∀vs H Q E,Zu vs H Q E→sp vs H Q E):bZ P w K mg base CX k f fd ps Zu:=
  ⟨fun vs H Q E q=>F.len vs H Q E (h _ _ _ _ q),fun A outer s H args us vs Q E hr he hb hv hs=>F.run A outer s H args us vs Q E hr he hb hv (h _ _ _ _ hs)⟩
theorem JQ.make {P:Program} {w:World} {K:W.Frag} {mg:Str→Option Value} {base:Heap} {A:Around} {outer:List Env} {s:Shared} {H:Hp} (e:JQ P w K mg base A outer s H) (C:Addr) (us:List Value) (kw:List (Str×Value)) :
    JQ P w K mg base (A.under (.builtin "type.__call__" ⟨.ref C::us,kw⟩)) outer s H:=⟨by first | exact e.frames | (simpa [Around.under,Code.envs,Code.isFrame,pushEnvs] using e.frames),e.mod,e.bs,e.O2,e.tu,e.Sy,e.hok,e.bare⟩
section
variable {X:Cx} {p_:List (Addr×Obj)} {σ:St} {H:Hp} {s s':Shared}
theorem Inv.env0 (I:Inv X p_ σ H s):JQ X.prog X.w X.K X.mg X.base X.A X.stack s H:=
  ⟨I.ok.frames,I.ok.mod,I.bs,Nat.le_trans I.ok.O2 I.sz,I.stack,I.z9,I.hok,I.bare⟩
theorem Inv.after {Q:VK} {u:Value} (I:Inv X p_ σ H s) (h:CE X.stack X.prog X.w H s Q u s'):EP X p_ σ Q u s':=by
  obtain⟨v,H',os,bare,un,hok,r,q⟩:=h;obtain⟨hh,g,d,t,os'⟩:=s';obtain rfl:os'=s.os:=os;exact⟨v,H',I.call (h':=hh) (g':=g) (d':=d) (t':=t) (ch:=[]) un hok bare (fun b z=>absurd z (by simp)),r,q⟩
end
def Tt (sp:Sp) (yd:List V) (E:XK) (t:TA):TE:=fun σ H Q=>t σ H fun vs H1=>sp (vs++yd) H1 Q E
def Tw (C:Addr) (m:Str) (sp:Sp) (yd:List V) (E:XK) (ta:TE) (t:TA):TE:=fun σ H Q=>ta σ H fun x H1=>∃a dx fs,x = .ref a∧H1 a=some (.ins C dx fs)∧fs.lookup m=none∧
  t σ H1 fun vs H2=>sp (x::(vs++yd)) H2 Q E
def Tz (C:Addr) (sp:Sp) (yd:List V) (E:XK) (t:TA):TE:=fun σ H Q=>t σ H fun vs H1=>∀x dx,H1 x=none→H1 dx=none→dx≠x→
  sp (.ref x::(vs++yd)) (upd (upd H1 dx (.own x)) x (.ins C dx [])) (fun v H2=>v = .non∧Q (.ref x) H2) E
def Binds (K:W.Frag) (fd:FuncData) (ps:List Str) (ds:List Value):Prop:=
  ∀(s:Shared) (us:List Value),K.In s.heap→(us++ds).length=ps.length→BindsTo s fd ⟨us,[]⟩ (ps.zip (us++ds))
theorem Binds.all {K:W.Frag} {fd:FuncData} {ps:List Str} (h:∀us:List Value,us.length=ps.length→bindArgs fd ⟨us,[]⟩=pure (ps.zip us)):Binds K fd ps []:=fun s us _ hl=>by
  rw[List.append_nil] at hl ⊢;exact .of_eq (h us hl)
def Passes (CX:Q0) (X:Cx) (E:XK):Prop:=∀(p_:List (Addr×Obj)) (σ:St) (H:Hp) (s:Shared) (e:Value) (s':Shared),Inv X p_ σ H s→CX X.stack H s E e s'→X.xe e s'
section
variable {X:Cx} {CX:Q0} {k:Nat} {f C:Addr} {fd:FuncData} {ps:List Str} {sp:Sp} {yd:List V} {ds:List Value} {E:XK} {x m:Str} {p pos apos:Pos} {e o:Expr} {es:List Expr} {ta:TE} {t:TA}
theorem TF {p_:List (Addr×Obj)} {σ:St} {H:Hp} {s:Shared} {Q:VK} {us:List Value} {vs:List V} (F:bZ X.prog X.w X.K X.mg X.base CX k f fd ps sp) (hr:jc k X.A) (hb:Binds X.K fd ps ds) (hd:Vals yd ds) (hx:Passes CX X E)
    (I:Inv X p_ σ H s) (r:Vals vs us) (h:sp (vs++yd) H Q E):wpAny (model X.prog X.w) X.A (call (.ref f) us) (EP X p_ σ Q) X.xe s:=by
  have r2:Vals (vs++yd) (us++ds):=r.append hd;have hl:(us++ds).length=ps.length:=by rw[← r2.length];exact F.len _ _ _ _ h
  refine wpAny_call (codeAny_mono (F.run X.A X.stack s H ⟨us,[]⟩ (us++ds) (vs++yd) Q E hr I.env0 (hb s us I.vC hl) r2 h) fun r s' hq=>?_);cases r with
  | error e=>exact hx p_ σ H s e s' I hq
  | ok fl=>
    cases fl with
    | ret u=>exact I.after hq
    | next=>exact False.elim hq
    | brk=>exact False.elim hq
    | cont=>exact False.elim hq
theorem aO (F:bZ X.prog X.w X.K X.mg X.base CX k f fd ps sp) (hr:jc k X.A) (hg:Gl X x) (hm:X.mg x=some (.ref f)) (hk:W.keepIn X.K (.ref f)=true) (hb:Binds X.K fd ps ds) (hd:Vals yd ds) (hx:Passes CX X E)
    (ha:PA X (e::es) t) (hdb:(x == ("__debug__" : Str))=false:=by decide) (he:starEach (e::es) X.env=(false,eval e X.env)::starEach es X.env:=by rfl) (hpl:(backTo pos (starEach es X.env)).any (·.1)=false:=by rfl) :
    PE X (.Call (.Name x p) (e::es) [] pos) (Tt sp yd E t):=by
  intro p_ s σ H Q I h;refine wpAny_Call_Name_kw (qI I hg hm ?_ hdb);refine W.callWith_K (h₀:=X.base) I.ok.mod.R5 hk (cY (ha pos p_ s σ H _ I h) fun us s1 zz=>?_) he hpl;obtain⟨vs,H1,I1,r,q⟩:=zz;refine⟨I1.vC,?_⟩;exact TF F hr hb hd hx I1 r q
theorem eY {pl:Sem Bool} (he:PE X o ta) (c:Cls X.K C) (hm:Meth X.K C m f) (F:bZ X.prog X.w X.K X.mg X.base CX k f fd ps sp) (hr:jc k X.A) (hb:Binds X.K fd ps ds) (hd:Vals yd ds) (hx:Passes CX X E)
    (ht:eval (.Call (.Attribute o m apos) [] [] pos) X.env=(do
      let ov ← eval o X.env
      standAt apos.atName
      let (f,first) ← holding [ov] (getMethod ov m pl)
      callWith pos f first (backTo pos (starEach [] X.env)) (backToKw pos (keywordEach [] X.env))):=by rfl) :
    PE X (.Call (.Attribute o m apos) [] [] pos) (Tw C m sp yd E ta mZ):=by
  intro p_ s σ H Q I h;refine W.methodCall_KW (pl:=pl) (cY (he p_ s σ H _ I h) fun u s1 zz=>?_) ht;obtain⟨x,H1,I1,rx,a,dx,fs,ex,ea,l,q⟩:=zz;subst ex;obtain rfl:u=Value.ref a:=rx;refine Mr I1 ea c hm l ?_;exact W.callWith_K0 (first:=[.ref a]) I1.vC hm.kp (TF (us:=[.ref a]) (vs:=[.ref a]) F hr hb hd hx I1 (.cons rfl .nil) q)
structure Mk (K:W.Frag) (C f:Addr):Prop where
  makes:W.makesIn K C=true
  init:W.findIn K (.ref C) "__init__" = some (some (.ref f))
  fn:W.isFn K (.ref f)=true
  kp:W.keepIn K (.ref C)=true
theorem TJ {p_:List (Addr×Obj)} {σ:St} {H:Hp} {s:Shared} {Q:VK} {us:List Value} {vs:List V} (M:Mk X.K C f) (F:bZ X.prog X.w X.K X.mg X.base CX k f fd ps sp) (hr:jc (k+1) X.A) (hb:Binds X.K fd ps ds) (hd:Vals yd ds)
    (hx:Passes CX X E) (I:Inv X p_ σ H s) (r:Vals vs us)
    (h:∀x dx,H x=none→H dx=none→dx≠x→sp (.ref x::(vs++yd)) (upd (upd H dx (.own x)) x (.ins C dx [])) (fun v H2=>v = .non∧Q (.ref x) H2) E) :
    wpAny (model X.prog X.w) X.A (call (.ref C) us) (EP X p_ σ Q) X.xe s:=by
  have hq:=h (s.heap.objs.size+1) s.heap.objs.size (I.hok.fresh (Nat.le_succ _)) (I.hok.fresh (Nat.le_refl _)) (Nat.ne_of_lt (Nat.lt_succ_self _));have I2:=Inv.made (C:=C) I;have r2:Vals (V.ref (s.heap.objs.size+1)::(vs++yd)) (Value.ref (s.heap.objs.size+1)::(us++ds)):=.cons rfl (r.append hd);have hl:(Value.ref (s.heap.objs.size+1)::us++ds).length=ps.length:=by
    have e:=r2.length;rw[F.len _ _ _ _ hq] at e;exact e.symm
  refine wpAny_call (Tr (f:=f) I.vC M.makes M.init (beq_iff_eq.mp M.fn) (codeAny_mono (F.run _ X.stack _ _ ⟨Value.ref (s.heap.objs.size+1)::us,[]⟩ (Value.ref (s.heap.objs.size+1)::(us++ds)) _ _ E (hr.make C us [])
    (I2.env0.make C us []) (hb _ (Value.ref (s.heap.objs.size+1)::us) I2.vC hl) r2 hq) fun r s' hq'=>?_))
  cases r with
  | error e=>exact hx p_ σ _ _ e s' I2 hq'
  | ok fl=>
    cases fl with
    | ret u=>
      obtain⟨v,H',I3,rv,ev,q3⟩:=I2.after hq';subst ev;exact⟨rv,⟨V.ref (s.heap.objs.size+1),H',I3,rfl,q3⟩⟩
    | next=>exact False.elim hq'
    | brk=>exact False.elim hq'
    | cont=>exact False.elim hq'
theorem z_ (M:Mk X.K C f) (F:bZ X.prog X.w X.K X.mg X.base CX k f fd ps sp) (hr:jc (k+1) X.A) (hg:Gl X x) (hm:X.mg x=some (.ref C)) (hb:Binds X.K fd ps ds) (hd:Vals yd ds) (hx:Passes CX X E)
    (ha:PA X (e::es) t) (hdb:(x == ("__debug__" : Str))=false:=by decide) (he:starEach (e::es) X.env=(false,eval e X.env)::starEach es X.env:=by rfl) (hpl:(backTo pos (starEach es X.env)).any (·.1)=false:=by rfl) :
    PE X (.Call (.Name x p) (e::es) [] pos) (Tz C sp yd E t):=by
  intro p_ s σ H Q I h;refine wpAny_Call_Name_kw (qI I hg hm ?_ hdb);refine W.callWith_K (h₀:=X.base) I.ok.mod.R5 M.kp (cY (ha pos p_ s σ H _ I h) fun us s1 zz=>?_) he hpl;obtain⟨vs,H1,I1,r,q⟩:=zz;refine⟨I1.vC,?_⟩;exact TJ M F hr hb hd hx I1 r q
end
structure bH (N P:List Str) (sc:Scope):Prop where
  kind:sc.kind = .function
  co:sc.isCoroutine=false
  gen:sc.isGenerator=false
  nd:N.Nodup
  pre:N.take P.length=P
  par:∀x∈P,sc.names.lookup x=some .local∨sc.names.lookup x=some .cell
  qaH:∀y∈sc.names,y.2≠.free
theorem Fq {kindOf:Str→Option NameKind} {x:Str}:∀{binds:List (Str×Value)} {m:Str→Option Value},(∀v,(x,v)∉binds)→bindL kindOf binds m x=m x
  | [],_,_=>rfl
  | (n,v)::r,m,h=>by
    unfold bindL;rw[Fq fun w hw=>h w (List.mem_cons_of_mem _ hw)];split
    · have:x≠n:=by rintro rfl;exact h v List.mem_cons_self
      simp[this]
    ·rfl
theorem Ft {kindOf:Str→Option NameKind} {x:Str}:∀{binds:List (Str×Value)} {m:Str→Option Value},(∀v,(x,v)∉binds)→bindC kindOf binds m x=m x
  | [],_,_=>rfl
  | (n,v)::r,m,h=>by
    unfold bindC;rw[Ft fun w hw=>h w (List.mem_cons_of_mem _ hw)];split
    ·rfl
    · have:x≠n:=by rintro rfl;exact h v List.mem_cons_self
      simp[this]
theorem Fv {kindOf:Str→Option NameKind} {x:Str} {v:Value}:∀{P:List Str} {vs:List Value} {i:Nat} {m:Str→Option Value},P.Nodup→P[i]? = some x→vs[i]? = some v→kindOf x=some .local→
    bindL kindOf (P.zip vs) m x=some v
  | [],_,_,_,_,h,_,_=>by simp at h
  | _::_,[],_,_,_,_,h,_=>by simp at h
  | p::P,w::vs,0,m,nd,h1,h2,hk=>by
    simp at h1 h2;subst h1;subst h2;show bindL kindOf ((p,w)::P.zip vs) m p=_;unfold bindL;rw[Fq fun v hv=>(List.nodup_cons.mp nd).1 (List.of_mem_zip hv).1,if_pos hk];simp
  | p::P,w::vs,i+1,m,nd,h1,h2,hk=>by
    show bindL kindOf ((p,w)::P.zip vs) m x=_;unfold bindL;exact Fv (i:=i) (List.nodup_cons.mp nd).2 (by simpa using h1) (by simpa using h2) hk
theorem Fw {kindOf:Str→Option NameKind} {x:Str} {v:Value}:∀{P:List Str} {vs:List Value} {i:Nat} {m:Str→Option Value},P.Nodup→P[i]? = some x→vs[i]? = some v→kindOf x≠some .local→
    bindC kindOf (P.zip vs) m x=some v
  | [],_,_,_,_,h,_,_=>by simp at h
  | _::_,[],_,_,_,_,h,_=>by simp at h
  | p::P,w::vs,0,m,nd,h1,h2,hk=>by
    simp at h1 h2;subst h1;subst h2;show bindC kindOf ((p,w)::P.zip vs) m p=_;unfold bindC;rw[Ft fun v hv=>(List.nodup_cons.mp nd).1 (List.of_mem_zip hv).1,if_neg hk];simp
  | p::P,w::vs,i+1,m,nd,h1,h2,hk=>by
    show bindC kindOf ((p,w)::P.zip vs) m x=_;unfold bindC;exact Fw (i:=i) (List.nodup_cons.mp nd).2 (by simpa using h1) (by simpa using h2) hk
def start (N:List Str) (vs:List V):St:=vs.map some++List.replicate (N.length - vs.length) none
def au (CX:Q0) (P:Program) (w:World) (K:W.Frag) (mg:Str→Option Value) (base:Heap) (N:List Str) (qual:Str) (scope:Scope) (f:Addr) (cd:Value) (A:Around) (outer:List Env) (s:Shared) (H:Hp) (E:XK):Cx where
  prog:=P
  w:=w
  K:=K
  mg:=mg
  base:=base
  A:=A.deeper (envOfC qual scope s.heap.objs.size f cd)
  N:=N
  s₀:=s
  H₀:=H
  env:=envOfC qual scope s.heap.objs.size f cd
  outer:=outer
  stack:=envOfC qual scope s.heap.objs.size f cd::outer
  ex:=[]
  calm:=true
  fn:=fun _=>true
  pn:=[]
  xe:=fun e s'=>wpAny (model P w) (A.deeper (envOfC qual scope s.heap.objs.size f cd)) (leaving (envOfC qual scope s.heap.objs.size f cd) e) (fun _ s''=>CX outer H s E e s'') (fun e' s''=>CX outer H s E e' s'') s'
theorem JR {sc:Scope} {n:Nat} {x:Str} (h:sc.names.lookup x=some .cell):∃c,(cellsFrom n sc.names []).lookup x=some c:=by
  have q:=W.cellsFrom_some sc.names n [] (.inl h);exact Option.isSome_iff_exists.mp q
theorem Fx {CX:Q0} {P:Program} {w:World} {K:W.Frag} {mg:Str→Option Value} {base:Heap} {N ps:List Str} {qual:Str} {scope:Scope} {f:Addr} {cd:Value} {A:Around} {outer:List Env} {s s1:Shared} {H:Hp} {E:XK} {us:List Value} {vs:List V}
    (S:bH N ps scope) (hd:A.handled=none) (e0:JQ P w K mg base A outer s H) (hl:vs.length=ps.length) (r:Vals vs us)
    (x:InCallC s s.heap.objs.size (bindL (envOfC qual scope s.heap.objs.size f cd).kindOf (ps.zip us) fun _=>none) (cellsFrom (s.heap.objs.size+1) scope.names []) (bindC (envOfC qual scope s.heap.objs.size f cd).kindOf (ps.zip us) fun _=>none) s1) :
    Inv (au CX P w K mg base N qual scope f cd A outer s H E) [] (start N vs) H s1:=by
  have hpl:ps.length≤N.length:=by have:=congrArg List.length S.pre;rw[List.length_take] at this;omega
  obtain⟨h1,tk,rfl,hk⟩:=x.done;have noA:∀b:Addr,b∉(au CX P w K mg base N qual scope f cd A outer s H E).ex:=fun b z=>absurd (show b∈([]:List Addr) from z) (by simp);refine⟨⟨e0.mod,S.kind,rfl,rfl,Nat.le_refl _,fun y z c h1 h2=>?_,fun y hy=>?_,fun y c _ h=>?_,fun _=>hd,Around.frames_deeper e0.frames,.inr ⟨rfl,rfl⟩,fun b z=>absurd z (noA b),e0.bs,e0.O2,fun b _ _=>noA b,fun b z=>absurd z (noA b),e0.tu,e0.Sy⟩,
    rfl,e0.bare,Un.kept hk,⟨_,x.toInCall.ns,fun i y v h1 h2 h3=>?_⟩,fun y c h=>⟨_,x.cell y c h⟩,e0.hok.fresh (Nat.le_refl _),fun y c h=>?_,fun p hp=>absurd (show p∈([]:List (Addr×Obj)) from hp) (by simp),e0.hok.kept hk,?_⟩
  ·exact name_of_addr x.apart (PySem.mem_of_lookup h1) (PySem.mem_of_lookup h2)
  · have hy:scope.names.lookup y=some .cell∨scope.names.lookup y=some .free:=hy
    rcases hy with hy | hy
    ·exact JR hy
    ·exact absurd rfl (S.qaH _ (PySem.mem_of_lookup hy))
  ·exact Nat.le_of_lt (x.above y c (PySem.mem_of_lookup h))
  · have hi:i<vs.length:=by
      unfold start at h2
      by_cases hi:i<vs.length
      ·exact hi
      ·rw[List.getElem?_append_right (by simpa using hi)] at h2;rw[List.getElem?_replicate] at h2;split at h2 <;> cases h2
    have ha:vs[i]? = some v:=by
      unfold start at h2;rw[List.getElem?_append_left (by simpa using hi),List.getElem?_map] at h2;cases e:vs[i]? with
      | none=>rw[e] at h2;cases h2
      | some a=>rw[e] at h2;cases h2;rfl
    obtain⟨u,hu,rv⟩:=r.get ha;have hp:ps[i]? = some y:=by
      rw[← S.pre,List.getElem?_take_of_lt (by omega)];exact h1
    have ndP:ps.Nodup:=by rw[← S.pre];exact S.nd.sublist (List.take_sublist _ _)
    refine⟨u,rv,?_⟩
    rcases S.par y (List.mem_of_getElem? hp) with k | k
    ·exact .inl ⟨k,Fv ndP hp hu k⟩
    ·obtain⟨c,e⟩:=JR (n:=s.heap.objs.size+1) k;refine .inr ⟨.inl k,c,e,?_⟩;have q:=x.cell y c e;rw[Fw ndP hp hu (by show scope.names.lookup y≠_;rw[k];decide)] at q;exact q
  ·exact e0.hok.fresh (Nat.le_of_lt (x.above y c (PySem.mem_of_lookup h)))
  ·unfold start;show _=N.length;rw[List.length_append,List.length_map,List.length_replicate];omega
theorem Zv {CX:Q0} {P:Program} {w:World} {K:W.Frag} {mg:Str→Option Value} {base:Heap} {k:Nat} {f:Addr} {name qual:Str} {params:Arguments} {body:List Stmt} {scope:Scope} {dV kV doc pm cdv ct oc:Value} {an od:Option Addr}
    {osl:Array (Option Value)} {N ps:List Str} {sp:Sp} (lk:K.lookup f=some ⟨oc,od,.func (W.fnOf name qual params body scope dV kV doc pm an cdv ct),osl⟩) (hcd:W.codeIn K cdv qual=true) (S:bH N ps scope)
    (len:∀vs H Q E,sp vs H Q E→vs.length=ps.length)
    (hbody:∀(A:Around) (outer:List Env) (s:Shared) (H:Hp) (vs:List V) (Q:VK) (E:XK),jc k (A.deeper (envOfC qual scope s.heap.objs.size f cdv))→sp vs H Q E→
      ∃t,D_ (au CX P w K mg base N qual scope f cdv A outer s H E) body t∧t {nx:=fun _ H'=>Q .non H',rt:=Q} (start N vs) H) :
    bZ P w K mg base CX (k+1) f (W.fnOf name qual params body scope dV kV doc pm an cdv ct) ps sp:=by
  refine⟨len,fun A outer s H args us vs Q E hr e0 hb r hsp=>?_⟩;have hl:=len _ _ _ _ hsp;have KX:K.In s.heap:=e0.mod.R5.keeps fun b o e=>(e0.bs b o e).1;have lim:s.heap.NoLimit:=e0.mod.nolimit.keeps fun b o e=>(e0.bs b o e).1;have hkind:∀y∈ps.zip us,scope.names.lookup y.1=some .local∨(scope.names.lookup y.1=some .cell∧((cellsFrom (s.heap.objs.size+1) scope.names []).lookup y.1).isSome=true):=fun⟨n,v⟩ hy=>by
    rcases S.par n (List.of_mem_zip hy).1 with q | q
    ·exact .inl q
    ·exact .inr ⟨q,W.cellsFrom_some _ _ _ (.inl q)⟩
  refine codeAny_call_function hr.depth (KX _ _ lk) rfl S.co S.gen rfl (W.codeRec_of KX hcd) (hb _ _ _ _ ?_);refine wpAny_newFunctionEnv_cells S.kind hkind fun env he s1 x=>?_;subst he;refine⟨lim.keeps x.toInCall.keep,codeAny_func ?_⟩;obtain⟨t,ht,hq⟩:=hbody A outer s H vs Q E (hr.deeper _) hsp;have I:Inv (au CX P w K mg base N qual scope f cdv A outer s H E) [] (start N vs) H s1:=Fx S hr.hd e0 hl r x;refine wpAny_mono (ht [] s1 (start N vs) H _ I hq) (fun fl s' hs=>?_) fun e s' hs=>hs;have fin:∀{σ':St} {H':Hp} {v:V} {u:Value},Inv (au CX P w K mg base N qual scope f cdv A outer s H E) [] σ' H' s'→RelV v u→Q v H'→CE outer P w H s Q u s':=
    fun {σ' H' v u} J rv q=>⟨v,H',J.os,J.bare,J.base,J.hok,rv,q⟩
  cases fl with
  | ret u=>
    obtain⟨v,σ',H',J,rv,q⟩:=hs;exact fin J rv q
  | next=>
    obtain⟨σ',H',J,q⟩:=hs;exact fin (v:=V.non) (u:=Value.none) J rfl q
  | brk=>
    obtain⟨_,_,_,q⟩:=hs;exact False.elim q
  | cont=>
    obtain⟨_,_,_,q⟩:=hs;exact False.elim q
section
variable {X:Cx} {x:Str} {p pos:Pos} {e:Expr} {es:List Expr} {t:TA} {id T:String} {r:List V→Hp→VK→Prop}
def XM (r:List V→Hp→VK→Prop) (t:TA):TE:=fun σ H Q=>t σ H fun vs H1=>r vs H1 Q
theorem aH (hc:cu X (.builtin id) r) (hg:Gl X x) (hm:X.mg x=none) (hv:bootBuiltins x=some (.builtin id)) (ha:PA X (e::es) t) (hn:x≠ "__name__" :=by decide) (hdb:(x == ("__debug__" : Str))=false:=by decide)
    (he:starEach (e::es) X.env=(false,eval e X.env)::starEach es X.env:=by rfl) (hpl:(backTo pos (starEach es X.env)).any (·.1)=false:=by rfl):PE X (.Call (.Name x p) (e::es) [] pos) (XM r t):=by
  intro p_ s σ H Q I h;refine wpAny_Call_Name_kw (lU I hg hm hv ?_ hn hdb);refine PyProof.Rows.callWith_builtin1 (cY (ha pos p_ s σ H _ I h) fun us s1 zz=>?_) he hpl;obtain⟨vs,H1,I1,r1,q1⟩:=zz;exact hc p_ s1 σ H1 vs us Q I1 r1 q1
theorem bY (hc:cu X (.type T) r) (hg:Gl X x) (hm:X.mg x=none) (hv:bootBuiltins x=some (.type T)) (ha:PA X (e::es) t) (hn:x≠ "__name__" :=by decide) (hdb:(x == ("__debug__" : Str))=false:=by decide)
    (he:starEach (e::es) X.env=(false,eval e X.env)::starEach es X.env:=by rfl) (hpl:(backTo pos (starEach es X.env)).any (·.1)=false:=by rfl):PE X (.Call (.Name x p) (e::es) [] pos) (XM r t):=by
  intro p_ s σ H Q I h;refine wpAny_Call_Name_kw (lU I hg hm hv ?_ hn hdb);refine PyProof.Rows.callWith_type1 (cY (ha pos p_ s σ H _ I h) fun us s1 zz=>?_) he hpl;obtain⟨vs,H1,I1,r1,q1⟩:=zz;exact hc p_ s1 σ H1 vs us Q I1 r1 q1
end
end L2
namespace HT
open PySem PyProof.Rows
section
variable {prog:Program} {w:World} {A:Around} {E:Value→Shared→Prop} {s:Shared}
def GX (n d:Nat):Option Int→Nat
  | none=>d
  | some v=>if v<0 then (v+(n:Int)).toNat else min v.toNat n
end
end HT
namespace L2
open PySem PySem.Spec PyProof.Rows
abbrev TO:=St→Hp→(Option Int→Hp→Prop)→Prop
def PO (X:Cx) (e:Option Expr) (t:TO):Prop:=
  ∀(p_:List (Addr×Obj)) (s:Shared) (σ:St) (H:Hp) (Q:Option Int→Hp→Prop),Inv X p_ σ H s→t σ H Q→
    wpAny (model X.prog X.w) X.A (evalPart e X.env) (fun u s'=>∃o H',Inv X p_ σ H' s'∧IsPart u o∧Q o H') X.xe s
def Aa:TO:=fun _ H Q=>Q none H
def TQ (t:TE):TO:=fun σ H Q=>t σ H fun x H1=>∃i,x = .int i∧Q (some i) H1
theorem intsAre_of {ns:List Int}:∀{us:List Value},Vals (ns.map V.int) us→IntsAre us ns:=by
  induction ns with
  | nil=>intro us r;rw[List.map_nil] at r;cases r;exact .nil
  | cons n ns ih=>
    intro us r;rw[List.map_cons] at r;cases r with
    | cons r1 r2=>
      obtain⟨t,e⟩:=r1;subst e;exact .cons n t (ih r2)
section
variable {X:Cx} {e:Expr} {te:TE} {lo hi:Option Expr} {tl th:TO} {pos p2:Pos}
theorem qK:PO X none Aa:=by
  intro p_ s σ H Q I h;rw[evalPart_none];exact wpAny_pure ⟨none,H,I,.none,h⟩
theorem qL (h:PE X e te):PO X (some e) (TQ te):=by
  intro p_ s σ H Q I hw;rw[evalPart_some];refine cY (h p_ s σ H _ I hw) fun u s1 zz=>?_;obtain⟨x,H1,I1,r1,q1⟩:=zz;obtain⟨i,rfl,q⟩:=q1;obtain⟨t,rfl⟩:=r1;exact⟨some i,H1,I1,.int i t,q⟩
def SlR (X:Cx) (r:V→Option Int→Option Int→Hp→VK→Prop):Prop:=
  ∀(p_:List (Addr×Obj)) (s:Shared) (σ:St) (H:Hp) (x:V) (v vl vu:Value) (lo hi:Option Int) (sl:Addr) (Q:VK),Inv X p_ σ H s→RelV x v→s.heap.IsSliceOf sl vl vu .none→IsPart vl lo→IsPart vu hi→r x lo hi H Q→
    ∃T id,typeLookup (.type T) "__getitem__" = pure (some (.builtin id))∧s.TypeIs v T∧wpAny (model X.prog X.w) X.A (getItem v (.ref sl)) (EP X p_ σ Q) X.xe s
def tSl (r:V→Option Int→Option Int→Hp→VK→Prop) (te:TE) (tl th:TO):TE:=fun σ H Q=>te σ H fun x H1=>tl σ H1 fun l H2=>th σ H2 fun u H3=>r x l u H3 Q
theorem m5 {r:V→Option Int→Option Int→Hp→VK→Prop} (hr:SlR X r) (he:PE X e te) (hl:PO X lo tl) (hu:PO X hi th):PE X (.Subscript e (.Slice lo hi none p2) pos) (tSl r te tl th):=by
  intro p_ s σ H Q I h;refine Subscript_ (cY (he p_ s σ H _ I h) fun v s1 zz=>?_);obtain⟨x,H1,I1,r1,q1⟩:=zz;refine wpAny_Slice (cY (hl p_ s1 σ H1 _ I1 q1) fun vl s2 ⟨l,H2,I2,pl,q2⟩=>cY (hu p_ s2 σ H2 _ I2 q2) fun vu s3 ⟨u,H3,I3,pu,q3⟩=>?_);rw[evalPart_none];refine wpAny_pure ?_;have I4:Inv X p_ σ H3 {s3 with heap:=s3.heap.push {cls:=.type "slice",data:=.fields #[vl,vu,.none]}}:=I3.kept (t':=s3.toks) fun b ob q=>Heap.get?_push_of_some _ q;obtain⟨T,id,hT,ht,hg⟩:=hr p_ {s3 with heap:=s3.heap.push {cls:=.type "slice",data:=.fields #[vl,vu,.none]}} σ H3 x v vl vu l u s3.heap.objs.size Q I4 r1 (Heap.IsSliceOf.new ..) pl pu q3;show wpAny (model X.prog X.w) X.A (subscriptTail e (.Slice lo hi none p2) v (.ref s3.heap.objs.size)) (EP X p_ σ Q) X.xe {s3 with heap:=s3.heap.push {cls:=.type "slice",data:=.fields #[vl,vu,.none]}};exact tail_any (ops:=[.ref s3.heap.objs.size,v]) ht hT hg (by with_unfolding_all rfl)
def yq (xs:List V) (lo hi:Option Int):List V:=(xs.drop (HT.GX xs.length 0 lo)).take (HT.GX xs.length xs.length hi - HT.GX xs.length 0 lo)
theorem JT (xs:List V) (lo hi:Option Int):(yq xs lo hi).length≤xs.length:=by
  unfold yq;rw[List.length_take,List.length_drop];omega
end
def Xf (n:Nat) (i:Int):Option Nat:=if 0≤i then (if i<n then some i.toNat else none) else if -(n:Int)≤i then some (i+n).toNat else none
def Fy {α:Type} (xs:List α) (i:Int):Option α:=(Xf xs.length i).bind fun j=>xs[j]?
theorem O_ {n:Nat} {i:Int} {j:Nat} (h:Xf n i=some j):seqIndex? i n=some j∧j<n∧-(n:Int)≤i∧i<n:=by
  unfold Xf at h
  by_cases h0:0≤i
  · rw[if_pos h0] at h
    by_cases h1:i<n
    ·rw[if_pos h1] at h;have e:i.toNat=j:=Option.some.inj h;exact⟨by rw[seqIndex_of h0 h1,e],by omega,by omega,h1⟩
    ·rw[if_neg h1] at h;cases h
  · rw[if_neg h0] at h
    by_cases h1 : -(n:Int)≤i
    ·rw[if_pos h1] at h;have e:(i+n).toNat=j:=Option.some.inj h;exact⟨by rw[seqIndex_neg (by omega) h1,e],by omega,h1,by omega⟩
    ·rw[if_neg h1] at h;cases h
theorem GZ {α:Type} {xs:List α} {i:Int} {v:α} (h:Fy xs i=some v):∃j,seqIndex? i xs.length=some j∧xs[j]? = some v∧j<xs.length∧-(xs.length:Int)≤i∧i<xs.length:=by
  unfold Fy at h;cases e:Xf xs.length i with
  | none=>rw[e] at h;cases h
  | some j=>
    rw[e] at h;obtain⟨h1,h2,h3,h4⟩:=O_ e;exact⟨j,h1,h,h2,h3,h4⟩
theorem cJ {α:Type} {xs:List α} {j:Nat} {v:α} (h:xs[j]? = some v):Fy xs (j:Int)=some v:=by
  have hj:j<xs.length:=(List.getElem?_eq_some_iff.mp h).1;have e:Xf xs.length (j:Int)=some j:=by
    unfold Xf;rw[if_pos (by omega),if_pos (by omega)];simp
  unfold Fy;rw[e];exact h
def Pa (b:Expr):Prop:=∀o i,subscripted b false o i=operate [o,i] (getItem o i)
def R8 (X:Cx) (r:R2):Prop:=
  ∀(value slice:Expr) (p_:List (Addr×Obj)) (s:Shared) (σ:St) (H:Hp) (x y:V) (v u:Value) (Q:VK),Inv X p_ σ H s→RelV x v→RelV y u→r x y H Q→
    subscripted slice false v u=operate [v,u] (getItem v u)→wpAny (model X.prog X.w) X.A (subscriptTail value slice v u) (EP X p_ σ Q) X.xe s
def Mv (X:Cx) (id:String) (r:V→List V→Hp→VK→Prop):Prop:=
  ∀(p_:List (Addr×Obj)) (s:Shared) (σ:St) (H:Hp) (x:V) (xs:List V) (v:Value) (us:List Value) (Q:VK),Inv X p_ σ H s→RelV x v→Vals xs us→r x xs H Q→
    wpAny (model X.prog X.w) X.A (call (.builtin id) (v::us)) (EP X p_ σ Q) X.xe s
section
variable {X:Cx} {a b:Expr} {ta tb:TE} {pos:Pos}
theorem cW {r:R2} (hr:R8 X r) (ha:PE X a ta) (hb:PE X b tb) (hs:Pa b):PE X (.Subscript a b pos) (Mj r ta tb):=by
  intro p_ s σ H Q I h;exact Subscript_ (qaw ha hb I h fun v u s2 x y H2 I2 rx ry q=>hr a b p_ s2 σ H2 x y v u Q I2 rx ry q (hs _ _))
def qeW (K:W.Frag):R2:=fun x y H Q=>∃p xs i v,x = .ref p∧y = .int i∧bA K H p xs∧Fy xs i=some v∧Q v H
def qeX (K:W.Frag):R2:=fun x y H Q=>∃p xs i v,x = .ref p∧y = .int i∧jK K H p xs∧Fy xs i=some v∧Q v H
def qcf:R2:=fun x y H Q=>∃z i c,x = .str z∧y = .int i∧z.length≤sizeLine∧Fy z.cps.toList i=some c∧Q (.str ⟨#[c]⟩) H
theorem XQ:R8 X (qeW X.K):=by
  intro value slice p_ s σ H x y v u Q I rx ry h hs;obtain⟨p,xs,i,z,rfl,rfl,hq,he,q⟩:=h;cases rx;obtain⟨t,rfl⟩:=ry;obtain⟨its,r,pl,hz⟩:=I.list hq;obtain⟨j,h1,h2,h3,h4,h5⟩:=GZ he;obtain⟨w,ew,Mg⟩:=r.get h2;have hl:=r.length;have hn:=vO;have fin:EP X p_ σ Q w s:=⟨z,H,I,Mg,q⟩
  by_cases h0:0≤i
  · have hj:i.toNat=j:=by
      rw[seqIndex_of h0 h5] at h1;exact Option.some.inj h1
    exact item_listR pl.isList h0 (by omega) (by rw[hj];simpa using ew) fin hs
  · have hj:(i+(its.toArray.size:Int)).toNat=j:=by
      rw[seqIndex_neg (by omega) h4] at h1;rw[List.size_toArray,← hl];exact Option.some.inj h1
    exact subscriptTail_builtinR (x:=w) pl.isList.typeIs slot_list_getitem.lookup
      (wpAny_getItem_list_neg (Q:=fun r s'=>r=w∧EP X p_ σ Q r s') pl.isList (by omega) (by rw[List.size_toArray] <;> omega) (by omega) (by rw[hj];simpa using ew) ⟨rfl,fin⟩) hs
theorem qaI:R8 X (qeX X.K):=by
  intro value slice p_ s σ H x y v u Q I rx ry h hs;obtain⟨p,xs,i,z,rfl,rfl,hq,he,q⟩:=h;cases rx;obtain⟨t,rfl⟩:=ry;obtain⟨its,r,pl,hz⟩:=I.tuple hq;obtain⟨j,h1,h2,h3,h4,h5⟩:=GZ he;obtain⟨w,ew,Mg⟩:=r.get h2;have hl:=r.length;have hn:=vO;have fin:EP X p_ σ Q w s:=⟨z,H,I,Mg,q⟩;exact subscriptTail_builtinR (x:=w) pl.typeIs slot_tuple_getitem.lookup
    (getItem_tuple (j:=j) (Q:=fun r s'=>r=w∧EP X p_ σ Q r s') pl (by omega) (by omega) (by rw[List.size_toArray,← hl];exact h1) (by simpa using ew) ⟨rfl,fin⟩) hs
theorem qaJ:R8 X qcf:=by
  intro value slice p_ s σ H x y v u Q I rx ry h hs;obtain⟨z,i,c,rfl,rfl,hz,he,q⟩:=h;obtain⟨t,rfl⟩:=rx;obtain⟨t',rfl⟩:=ry;obtain⟨j,h1,h2,h3,h4,h5⟩:=GZ he;have hl:z.cps.toList.length=z.length:=by simp[Str.length]
  rw[hl] at h1 h4 h5;have hn:=vO;exact tail_any (typeIs_str s z t) slot_str_getitem.lookup (getItem_str (c:=c) (by
    have e1:decide (i < -(2 ^ 63:Int))=false:=decide_eq_false (by omega);have e2:decide (i≥2 ^ 63)=false:=decide_eq_false (by omega);rw[e1,e2,Bool.or_false]) (by rw[h1];simpa using h2) ⟨.str ⟨#[c]⟩,H,I.tok _,⟨_,rfl⟩,q⟩) hs
theorem Mw (its:List Value) (n j:Nat) (u:Value):Obj.mapSeq (·.setIfInBounds j u) {cls:=.type "list",data:=.seq its.toArray n}={cls:=.type "list",data:=.seq (its.set j u).toArray n}:=by
  simp[Obj.mapSeq]
theorem Inv.lst {p_:List (Addr×Obj)} {σ:St} {H:Hp} {s:Shared} {p:Addr} {xs:List V} (I:Inv X p_ σ H s) (h:H p=some (.lst xs)) :
    ∃(its:List Value) (n:Nat),Vals xs its∧s.heap.get? p=some {cls:=.type "list",data:=.seq its.toArray n}∧xs.length≤sizeLine:=by
  obtain⟨z,its,n,r,e⟩:=I.hok p _ h;exact⟨its,n,r,e,z⟩
theorem Inv.qaK {p_:List (Addr×Obj)} {σ:St} {H:Hp} {s:Shared} {p:Addr} {xs ys:List V} {its its':List Value} {n n':Nat} {f:Obj→Obj} (I:Inv X p_ σ H s) (h:H p=some (.lst xs))
    (ho:s.heap.get? p=some {cls:=.type "list",data:=.seq its.toArray n}) (hf:f {cls:=.type "list",data:=.seq its.toArray n}={cls:=.type "list",data:=.seq its'.toArray n'}) (r:Vals ys its') (hz:ys.length≤sizeLine) (t:Nat) :
    Inv X p_ σ (upd H p (.lst ys)) {s with heap:=s.heap.update p f,toks:=t}:=by
  have e:(s.heap.update p f).get? p=some {cls:=.type "list",data:=.seq its'.toArray n'}:=by
    rw[Heap.get?_update_self f ho (by rw[hf] <;> rfl),hf]
  refine I.write (x:=p) (e:=p) (by rw[h];trivial) (.inl rfl) (fun b u hb q=>(Heap.get?_update_other _ _ (Ne.symm hb)).trans q) ⟨_,e⟩ ?_;exact⟨hz,its',n',r,e⟩
def Zw:V→V→V→Hp→(Hp→Prop)→Prop:=fun o i v H Q=>∃p xs k j,o = .ref p∧i = .int k∧H p=some (.lst xs)∧Xf xs.length k=some j∧Q (upd H p (.lst (xs.set j v)))
theorem set_list:QD X Zw:=by
  intro p_ s σ H o i v ov iv u Q I ro ri rv h;obtain⟨p,xs,k,j,rfl,rfl,hp,hj,q⟩:=h;cases ro;obtain⟨t,rfl⟩:=ri;obtain⟨its,n,r,ho,hz⟩:=I.lst hp;obtain⟨h1,h2,h3,h4⟩:=O_ hj;have hl:=r.length;have hn:=vO;have I':Inv X p_ σ (upd H p (.lst (xs.set j v))) {s with heap:=s.heap.update p (Obj.mapSeq (·.setIfInBounds j u))}:=
    I.qaK hp ho (Mw its n j u) (r.set rv j) (by rw[List.length_set];exact hz) s.toks
  by_cases h0:0≤k
  · have hk:k.toNat=j:=by
      rw[seqIndex_of h0 h4] at h1;exact Option.some.inj h1
    exact W.ki_setAt ho h0 (by omega) (by rw[List.size_toArray,← hl];exact h4) (by rw[hk];exact⟨_,I',q⟩)
  · have hk:(k+(its.toArray.size:Int)).toNat=j:=by
      rw[seqIndex_neg (by omega) h3] at h1;rw[List.size_toArray,← hl];exact Option.some.inj h1
    exact W.ki_setBack ho (by omega) (by rw[List.size_toArray,← hl];exact h3) (by omega) (by rw[hk];exact⟨_,I',q⟩)
theorem G3 (lo hi:Option Int) (n:Nat):(sliceBounds lo hi none n).1=((HT.GX n 0 lo:Nat):Int)∧(sliceBounds lo hi none n).2.1=((HT.GX n n hi:Nat):Int)∧(sliceBounds lo hi none n).2.2=1:=by
  refine⟨?_,?_,rfl⟩
  · cases lo with
    | none=>simp[sliceBounds,HT.GX]
    | some i=>
      simp only[sliceBounds,HT.GX,Option.getD_none,show(1:Int) > 0 by decide,if_true]
      by_cases h:i<0
      ·simp only[h,if_true] <;> omega
      ·simp only[h,if_false] <;> omega
  · cases hi with
    | none=>simp[sliceBounds,HT.GX]
    | some i=>
      simp only[sliceBounds,HT.GX,Option.getD_none,show(1:Int) > 0 by decide,if_true]
      by_cases h:i<0
      ·simp only[h,if_true] <;> omega
      ·simp only[h,if_false] <;> omega
theorem Ea (its:List Value) (lo hi:Option Int):slicePick its.toArray lo hi none=((its.drop (HT.GX its.length 0 lo)).take (HT.GX its.length its.length hi - HT.GX its.length 0 lo)).toArray:=by
  obtain⟨h1,h2,h3⟩:=G3 lo hi its.toArray.size;unfold slicePick;rw[h1,h2,h3];simp only[sliceRange_one,pick_run,List.size_toArray] <;> rfl
def XR (K:W.Frag):V→Option Int→Option Int→Hp→VK→Prop:=fun x lo hi H Q=>∃a xs,x = .ref a∧bA K H a xs∧∀p,H p=none→Q (.ref p) (upd H p (.lst (yq xs lo hi)))
theorem XS:SlR X (XR X.K):=by
  intro p_ s σ H x v vl vu lo hi sl Q I rx hs pl pu h;obtain⟨a,xs,rfl,hx,q⟩:=h;cases rx;obtain⟨its,r,ht,hz⟩:=I.list hx;have hlen:=r.length;refine⟨"list",_,slot_list_getitem.lookup,ht.isList.typeIs,?_⟩;refine wpAny_getItem_list_slice ht.isList hs pl pu .none (by simp) ?_ (by rw[List.size_toArray] <;> omega);rw[Ea,← hlen];refine⟨.ref s.heap.objs.size,_,I.laid (t':=s.toks) (o:=.lst (yq xs lo hi)) (fun b ob q=>Heap.get?_push_of_some _ q) (Nat.le_refl _) ?_,rfl,q _ (I.hok.fresh (Nat.le_refl _))⟩;exact⟨Nat.le_trans (JT xs lo hi) hz,_,0,(r.drop (HT.GX xs.length 0 lo)).take (HT.GX xs.length xs.length hi - HT.GX xs.length 0 lo),Heap.get?_push_size _ rfl⟩
def j6:V→Bool
  | .non=>true
  | .bl _=>true
  | .int _=>true
  | .str _=>true
  | _=>false
def TV:V→V→Bool
  | .non,.non=>true
  | .bl a,.bl b=>a == b
  | .bl a,.int b=>(if a then 1 else 0) == b
  | .int a,.bl b=>a == (if b then 1 else 0)
  | .int a,.int b=>a == b
  | .str a,.str b=>a == b
  | _,_=>false
theorem qaL {A:Around} {s:Shared} {y x:V} {u v:Value} (ry:RelV y u) (rx:RelV x v) (fy:j6 y=true) (fx:j6 x=true):SeqAt.EqAt A s u v (TV y x):=by
  cases y with
  | non=>
    cases ry;cases x with
    | non=>cases rx;exact SeqAt.EqAt.same _
    | bl b=>cases rx;exact SeqAt.EqAt.none_bool b
    | int b=>obtain⟨t,rfl⟩:=rx;exact SeqAt.EqAt.none_int b t
    | str b=>obtain⟨t,rfl⟩:=rx;exact SeqAt.EqAt.none_str b t
    | _=>exact absurd (show false=true from fx) Bool.false_ne_true
  | bl a=>
    cases ry;cases x with
    | non=>cases rx;exact SeqAt.EqAt.bool_none a
    | bl b=>cases rx;exact SeqAt.EqAt.bool_bool a b
    | int b=>obtain⟨t,rfl⟩:=rx;exact SeqAt.EqAt.bool_int a b t
    | str b=>obtain⟨t,rfl⟩:=rx;exact SeqAt.EqAt.bool_str a b t
    | _=>exact absurd (show false=true from fx) Bool.false_ne_true
  | int a=>
    obtain⟨t',rfl⟩:=ry;cases x with
    | non=>cases rx;exact SeqAt.EqAt.int_none a t'
    | bl b=>cases rx;exact SeqAt.EqAt.int_bool a t' b
    | int b=>obtain⟨t,rfl⟩:=rx;exact SeqAt.EqAt.int_int a t' b t
    | str b=>obtain⟨t,rfl⟩:=rx;exact SeqAt.EqAt.int_str a t' b t
    | _=>exact absurd (show false=true from fx) Bool.false_ne_true
  | str a=>
    obtain⟨t',rfl⟩:=ry;cases x with
    | non=>cases rx;exact SeqAt.EqAt.str_none a t'
    | bl b=>cases rx;exact SeqAt.EqAt.str_bool a t' b
    | int b=>obtain⟨t,rfl⟩:=rx;exact SeqAt.EqAt.str_int a t' b t
    | str b=>obtain⟨t,rfl⟩:=rx;exact SeqAt.EqAt.str_str a t' b t
    | _=>exact absurd (show false=true from fx) Bool.false_ne_true
  | _=>exact absurd (show false=true from fy) Bool.false_ne_true
def Mx (x:V) (u:Value):Bool:=match u with
  | .none=>TV .non x
  | .bool b=>TV (.bl b) x
  | .int i _=>TV (.int i) x
  | .str z _=>TV (.str z) x
  | _=>false
theorem TX {x y:V} {u:Value} (r:RelV y u) (f:j6 y=true):Mx x u=TV y x:=by
  cases y with
  | non=>cases r;rfl
  | bl b=>cases r;rfl
  | int i=>obtain⟨t,rfl⟩:=r;rfl
  | str z=>obtain⟨t,rfl⟩:=r;rfl
  | _=>exact absurd (show false=true from f) Bool.false_ne_true
theorem wM {x:V}:∀{xs:List V} {us:List Value},Vals xs us→xs.all j6=true→us.any (Mx x)=xs.any fun y=>TV y x
  | _,_,.nil,_=>rfl
  | y::xs,u::us,.cons r t,f=>by
    rw[List.all_cons,Bool.and_eq_true] at f;rw[List.any_cons,List.any_cons,TX r f.1,wM t f.2]
theorem tL {A:Around} {s:Shared} {x:V} {v:Value} (rx:RelV x v) (fx:j6 x=true):∀{xs:List V} {us:List Value},Vals xs us→xs.all j6=true→∀u∈us,SeqAt.EqAt A s u v (Mx x u)
  | _,_,.nil,_=>fun u hu=>by cases hu
  | y::xs,u::us,.cons r t,f=>fun u' hu=>by
    rw[List.all_cons,Bool.and_eq_true] at f
    rcases List.mem_cons.mp hu with rfl | hu
    ·rw[TX r f.1];exact qaL r rx f.1 fx
    ·exact tL rx fx t f.2 u' hu
def inV (x:V) (xs:List V):Bool:=xs.any fun y=>TV y x
def rIn (K:W.Frag) (neg:Bool):R2:=fun x y H Q=>∃p xs,y = .ref p∧(bA K H p xs∨jK K H p xs)∧j6 x=true∧xs.all j6=true∧Q (.bl (if neg then !inV x xs else inV x xs)) H
theorem Q5:iZ X (compareOp .In) (rIn X.K false):=by
  intro p_ s σ H x y v u Q I rx ry h;obtain⟨p,xs,rfl,hq,fx,fs,q⟩:=h;cases ry
  rcases hq with hq | hq
  ·obtain⟨its,r,pl,hz⟩:=I.list hq;refine SeqAt.in_listAt (Mx x) pl.isList (fun w hw=>tL rx fx r fs w (by simpa using hw)) ⟨.bl _,H,I,rfl,?_⟩;rw[show its.toArray.any (Mx x)=its.any (Mx x) by simp,wM r fs];exact q
  ·obtain⟨its,r,pl,hz⟩:=I.tuple hq;refine SeqAt.in_tupleAt (Mx x) pl (fun w hw=>tL rx fx r fs w (by simpa using hw)) ⟨.bl _,H,I,rfl,?_⟩;rw[show its.toArray.any (Mx x)=its.any (Mx x) by simp,wM r fs];exact q
theorem G4:iZ X (compareOp .NotIn) (rIn X.K true):=by
  intro p_ s σ H x y v u Q I rx ry h;obtain⟨p,xs,rfl,hq,fx,fs,q⟩:=h;cases ry
  rcases hq with hq | hq
  ·obtain⟨its,r,pl,hz⟩:=I.list hq;refine SeqAt.notIn_listAt (Mx x) pl.isList (fun w hw=>tL rx fx r fs w (by simpa using hw)) ⟨.bl _,H,I,rfl,?_⟩;rw[show its.toArray.any (Mx x)=its.any (Mx x) by simp,wM r fs];exact q
  ·obtain⟨its,r,pl,hz⟩:=I.tuple hq;refine SeqAt.notIn_tupleAt (Mx x) pl (fun w hw=>tL rx fx r fs w (by simpa using hw)) ⟨.bl _,H,I,rfl,?_⟩;rw[show its.toArray.any (Mx x)=its.any (Mx x) by simp,wM r fs];exact q
theorem G5:iZ X (compareOp .NotIn) (fun x y H Q=>∃i j,x = .str i∧y = .str j∧Q (.bl (!(!(Builtin.Str.occurrences j i 0 j.length 1).isEmpty))) H):=by
  intro p_ s σ H x y v u Q I rx ry h;obtain⟨i,j,rfl,rfl,q⟩:=h;obtain⟨t,rfl⟩:=rx;obtain⟨t',rfl⟩:=ry;exact notIn_str ⟨.bl _,H,I,rfl,q⟩
theorem G6:cu X (.builtin "len") (fun xs H Q=>∃p ys,xs=[.ref p]∧(bA X.K H p ys∨jK X.K H p ys)∧Q (.int ys.length) H):=by
  intro p_ s σ H xs us Q I r h;obtain⟨p,ys,rfl,hq,q⟩:=h;obtain⟨u,rfl,rx⟩:=vals1 r;cases rx;have hn:=vO
  rcases hq with hq | hq
  ·obtain⟨its,r',pl,hz⟩:=I.list hq;have hlen:=r'.length;exact Calls.call_len_list pl.isList (by simp only[List.size_toArray] <;> omega) ⟨.int ys.length,H,I.tok _,⟨s.toks+1,by rw[List.size_toArray,hlen]⟩,q⟩
  ·obtain⟨its,r',pl,hz⟩:=I.tuple hq;have hlen:=r'.length;exact len_tuple pl (by simp only[List.size_toArray] <;> omega) ⟨.int ys.length,H,I.tok _,⟨s.toks+1,by rw[List.size_toArray,hlen]⟩,q⟩
theorem G7:cu X (.builtin "len") (fun xs H Q=>∃z,xs=[.str z]∧z.length≤sizeLine∧Q (.int z.length) H):=by
  intro p_ s σ H xs us Q I r h;obtain⟨z,rfl,hz,q⟩:=h;obtain⟨u,rfl,t,rfl⟩:=vals1 r;have hn:=vO;exact len_str (by omega) ⟨.int z.length,H,I.tok _,⟨_,rfl⟩,q⟩
theorem G8:cu X (.type "list") (fun xs H Q=>∃p ys,xs=[.ref p]∧(bA X.K H p ys∨jK X.K H p ys)∧∀l,H l=none→Q (.ref l) (upd H l (.lst ys))):=by
  intro p_ s σ H xs us Q I r h;obtain⟨p,ys,rfl,hq,q⟩:=h;obtain⟨u,rfl,rx⟩:=vals1 r;cases rx;have fin:∀(its:List Value),Vals ys its→ys.length≤sizeLine→∀(h':Heap) (c':Nat),(∀b o',s.heap.get? b=some o'→h'.get? b=some o')→
      h'.get? s.heap.objs.size=some {cls:=.type "list",dict:=none,data:=.seq its.toArray c',slots:=#[]}→EP X p_ σ Q (.ref s.heap.objs.size) {s with heap:=h'}:=fun its r' hz h' c' kp e=>
    ⟨.ref s.heap.objs.size,_,I.laid (t':=s.toks) kp (Nat.le_refl _) (show cH X.prog X.w _ h' _ (.lst ys) from⟨hz,its,c',r',e⟩),rfl,q _ (I.hok.fresh (Nat.le_refl _))⟩
  rcases hq with hq | hq
  ·obtain⟨its,r',pl,hz⟩:=I.list hq;have hlen:=r'.length;obtain⟨o,ho,hc,n,hd⟩:=pl.isList;exact call_list_seq p (.inl rfl) ho hc hd (fun h' c' kp e=>fin its r' hz h' c' kp e) (by simp only[List.size_toArray] <;> omega)
  ·obtain⟨its,r',pl,hz⟩:=I.tuple hq;have hlen:=r'.length;obtain⟨o,ho,hc,n,hd⟩:=pl;exact call_list_seq p (.inr rfl) ho hc hd (fun h' c' kp e=>fin its r' hz h' c' kp e) (by simp only[List.size_toArray] <;> omega)
theorem Eb:cu X (.type "tuple") (fun xs H Q=>∃p ys,xs=[.ref p]∧((bA X.K H p ys∧∀l,H l=none→Q (.ref l) (upd H l (.tup ys)))∨(jK X.K H p ys∧Q (.ref p) H))):=by
  intro p_ s σ H xs us Q I r h;obtain⟨p,ys,rfl,h⟩:=h;obtain⟨u,rfl,rx⟩:=vals1 r;cases rx
  rcases h with⟨hq,q⟩ | ⟨hq,q⟩
  · obtain⟨its,r',pl,hz⟩:=I.list hq;have hlen:=r'.length;refine call_tuple_list pl.isList (fun h' kp=>?_) (by simp only[List.size_toArray] <;> omega);have I1:Inv X p_ σ H {s with heap:=h'}:=I.kept (t':=s.toks) kp;have I2:Inv X p_ σ (upd H h'.objs.size (.tup ys)) {s with heap:=h'.push {cls:=.type "tuple",data:=.seq its.toArray}}:=
      I1.laid (t':=s.toks) (fun b o e=>Heap.get?_push_of_some _ e) (Nat.le_refl _) (show cH X.prog X.w _ _ _ (.tup ys) from⟨hz,its,r',IsTup.new _ _⟩)
    exact⟨.ref h'.objs.size,_,I2,rfl,q _ (I1.hok.fresh (Nat.le_refl _))⟩
  ·obtain⟨its,r',pl,hz⟩:=I.tuple hq;exact call_tuple_same pl ⟨.ref p,H,I,rfl,q⟩
def X3 (K:W.Frag) (T:String) (x:V) (H:Hp):Prop:=match x with
  | .str _=>T = "str"
  | .int _=>T = "int"
  | .ref p=>(T = "list" ∧∃xs,bA K H p xs)∨(T = "tuple" ∧∃o,K.lookup p=some o∧o.cls = .type "tuple" ∧o.dict=none)∨
      (T = "dict" ∧((∃kvs,H p=some (.dK kvs))∨∃kvs,H p=some (.dT kvs)))∨(T = "set" ∧∃S n,H p=some (.set S n))
  | _=>False
theorem TY {p_:List (Addr×Obj)} {σ:St} {H:Hp} {s:Shared} {T:String} {x:V} {v:Value} (I:Inv X p_ σ H s) (r:RelV x v) (ty:X3 X.K T x H) :
    s.TypeIs v T∧∀a,v = .ref a→∃ob,s.heap.get? a=some ob∧ob.dict=none:=by
  cases x with
  | str z=>
    obtain⟨t,rfl⟩:=r;cases (show T = "str" from ty);exact⟨typeIs_str s z t,fun _ e=>nomatch e⟩
  | int i=>
    obtain⟨t,rfl⟩:=r;cases (show T = "int" from ty);exact⟨typeIs_int s i t,fun _ e=>nomatch e⟩
  | ref p=>
    cases r
    rcases ty with⟨rfl,xs,hq⟩ | ⟨rfl,o,hk,hc,hd⟩ | ⟨rfl,hk⟩ | ⟨rfl,S,n,hk⟩
    ·obtain⟨its,_,pl,_⟩:=I.list hq;refine⟨pl.isList.typeIs,fun a e=>?_⟩;cases e;obtain⟨o,n,e,c,hd,_⟩:=pl;exact⟨o,e,hd⟩
    ·refine⟨⟨o,I.vC p o hk,hc⟩,fun a e=>?_⟩;cases e;exact⟨o,I.vC _ o hk,hd⟩
    · have z:∃o,s.heap.get? p=some o∧o.ExactDict:=by
        rcases hk with⟨kvs,hk⟩ | ⟨kvs,hk⟩
        ·obtain⟨_,_,_,_,o,_,_,e,ex,_⟩:=I.hok p _ hk;exact⟨o,e,ex⟩
        ·obtain⟨_,_,_,_,o,_,_,e,ex,_⟩:=I.hok p _ hk;exact⟨o,e,ex⟩
      obtain⟨o,e,ex⟩:=z;refine⟨⟨o,e,ex.1⟩,fun a e2=>?_⟩;cases e2;exact⟨o,e,ex.2.1⟩
    ·obtain⟨o,_,_,_,e,ex,_⟩:=I.hok p _ hk;refine⟨⟨o,e,ex.1⟩,fun a e2=>?_⟩;cases e2;exact⟨o,e,ex.2.1⟩
  | _=>exact False.elim ty
def qaM (K:W.Frag) (T:String) (r:V→List V→Hp→VK→Prop) (to:TE):TE:=fun σ H Q=>to σ H fun x H1=>X3 K T x H1∧r x [] H1 Q
def tBM (K:W.Frag) (T:String) (r:V→List V→Hp→VK→Prop) (to:TE) (t:TA):TE:=fun σ H Q=>to σ H fun x H1=>X3 K T x H1∧t σ H1 fun xs H2=>r x xs H2 Q
variable {o e:Expr} {es:List Expr} {to:TE} {t:TA} {name:Str} {apos cpos:Pos} {T id:String} {r:V→List V→Hp→VK→Prop}
theorem qaN (pa:PlainAttrs T) (slot:Slot T name id) (hty:typeOf (.builtin id)=pure (.type "method_descriptor")) (hm:Mv X id r) (ho:PE X o to)
    (hbase:attributeBase o name X.env (eval o X.env)=eval o X.env:=by rfl) (hline:(apos.endLine == cpos.line)=true:=by rfl):PE X (.Call (.Attribute o name apos) [] [] cpos) (qaM X.K T r to):=by
  intro p_ s σ H Q I h;refine wpAny_Call_method0_late hbase hline (cY (ho p_ s σ H _ I h) fun v s1 zz=>?_);obtain⟨x,H1,I1,r1,ty,q1⟩:=zz;obtain⟨h1,h2⟩:=TY I1 r1 ty;exact⟨T,id,pa,slot,hty,h1,h2,Calls.callWith_builtin rfl (PySem.evalArgs_none (hm p_ s1 σ H1 x [] v [] Q I1 r1 .nil q1))⟩
theorem qcg (pa:PlainAttrs T) (slot:Slot T name id) (hty:typeOf (.builtin id)=pure (.type "method_descriptor")) (hm:Mv X id r) (ho:PE X o to) (ha:PA X (e::es) t)
    (hbase:attributeBase o name X.env (eval o X.env)=eval o X.env:=by rfl)
    (hfew:((backTo cpos (starEach (e::es) X.env)).all (fun x=>!x.1) && (backToKw cpos (keywordEach [] X.env)).all (fun x=>x.1.isSome)
      && decide ((e::es).length+([]:List Keyword).length+(if ([]:List Keyword).isEmpty then 0 else 1)<30))=true:=by rfl)
    (hline:(apos.endLine == cpos.line)=true:=by rfl) (hs:starEach (e::es) X.env=(false,eval e X.env)::starEach es X.env:=by rfl) (hplain:(backTo cpos (starEach es X.env)).any (·.1)=false:=by rfl) :
    PE X (.Call (.Attribute o name apos) (e::es) [] cpos) (tBM X.K T r to t):=by
  intro p_ s σ H Q I h;refine wpAny_Call_method_late hbase hfew hline rfl (cY (ho p_ s σ H _ I h) fun v s1 zz=>?_);obtain⟨x,H1,I1,r1,ty,q1⟩:=zz;obtain⟨h1,h2⟩:=TY I1 r1 ty;refine⟨T,id,pa,slot,hty,h1,h2,?_⟩;have hA:=ha cpos p_ s1 σ H1 _ I1 q1;rw[hs] at hA ⊢;refine Calls.callWith_builtin (by show(false || (backTo cpos (starEach es X.env)).any (·.1))=false;rw[hplain] <;> rfl) (Calls.evalArgs_plain ?_)
  refine cY hA fun us s2 zz=>?_;obtain⟨vs,H2,I2,r2,q2⟩:=zz;exact hm p_ s2 σ H2 x vs v us Q I2 r1 r2 q2
end
def MtM (X:Cx) (id:String) (r:V→List V→Hp→VK→Prop):Prop:=
  ∀(p_:List (Addr×Obj)) (s:Shared) (σ:St) (H:Hp) (x:V) (xs:List V) (v:Value) (us:List Value) (Q:VK),Inv X p_ σ H s→RelV x v→Vals xs us→r x xs H Q→
    wpAny (model X.prog X.w) X.A (call (.builtin id) (v::us)) (EP X p_ σ Q) X.xe s
theorem Vals.one {x:V} {us:List Value} (h:Vals [x] us):∃u,us=[u]∧RelV x u:=vals1 h
theorem Vals.two {x y:V} {us:List Value} (h:Vals [x,y] us):∃u v,us=[u,v]∧RelV x u∧RelV y v:=vals2 h
theorem Vals.zero:∀{us:List Value},Vals [] us→us=[]
  | _,.nil=>rfl
theorem Vals.eraseIdx:∀{xs:List V} {us:List Value} (i:Nat),Vals xs us→Vals (xs.eraseIdx i) (us.eraseIdx i)
  | _,_,_,.nil=>.nil
  | _,_,0,.cons _ t=>t
  | _,_,i+1,.cons r t=>.cons r (Vals.eraseIdx i t)
theorem Vals.rep {xs:List V} {us:List Value} (h:Vals xs us):∀k:Nat,Vals (List.replicate k xs).flatten (List.replicate k us).flatten
  | 0=>.nil
  | k+1=>by
    rw[List.replicate_succ,List.replicate_succ,List.flatten_cons,List.flatten_cons];exact Vals.append h (Vals.rep h k)
theorem Fz {α:Type}:∀(l:List α) (i:Nat),(l.eraseIdx i).length≤l.length
  | [],_=>Nat.le_refl _
  | _::_,0=>Nat.le_succ _
  | _::r,i+1=>Nat.succ_le_succ (Fz r i)
theorem foldl_rep (its:List Value):∀(k:Nat) (acc:List Value),
    List.foldl (fun x1 x2=>x1++x2) acc.toArray (List.replicate k its.toArray)=(acc++(List.replicate k its).flatten).toArray
  | 0,acc=>by simp
  | k+1,acc=>by
    have e:acc.toArray++its.toArray=(acc++its).toArray:=by simp
    have e2:(acc++its)++(List.replicate k its).flatten=acc++(List.replicate (k+1) its).flatten:=by
      rw[List.replicate_succ,List.flatten_cons,List.append_assoc]
    rw[← e2,← foldl_rep its k (acc++its),← e,List.replicate_succ,List.foldl_cons]
section
variable {X:Cx} {p_:List (Addr×Obj)} {σ:St} {H:Hp} {s:Shared} {l b:Addr} {xs ys zs:List V}
theorem Inv.X4 {its its':List Value} {n:Nat} {f:Array Value→Array Value} {t':Nat} (I:Inv X p_ σ H s) (hH:H l=some (.lst xs))
    (e:s.heap.get? l=some {cls:=.type "list",data:=.seq its.toArray n}) (hf:f its.toArray=its'.toArray) (hv:Vals ys its') (hz:ys.length≤sizeLine) :
    Inv X p_ σ (upd H l (.lst ys)) {s with heap:=s.heap.update l (Obj.mapSeq f),toks:=t'}:=by
  have q:=PySem.IsL.update e f;rw[hf] at q;refine I.write (x:=l) (e:=l) (by rw[hH];exact trivial) (.inl rfl) (fun b' u hb hu=>(Heap.get?_update_other s.heap (Obj.mapSeq f) (Ne.symm hb)).trans hu) ⟨_,q⟩ ?_;exact⟨hz,its',_,hv,q⟩
theorem Inv.T7 {its:List Value} {t':Nat} (I:Inv X p_ σ H s) (hv:Vals ys its) (hz:ys.length≤sizeLine) :
    Inv X p_ σ (upd H s.heap.objs.size (.lst ys)) {s with heap:=s.heap.push {cls:=.type "list",data:=.seq its.toArray},toks:=t'}:=
  I.laid (fun _ _ q=>Heap.get?_push_of_some _ q) (Nat.le_refl _) ⟨hz,its,0,hv,Heap.get?_push_size _ rfl⟩
theorem Inv.fresh (I:Inv X p_ σ H s):H s.heap.objs.size=none:=I.hok.fresh (Nat.le_refl _)
theorem Inv.JV (I:Inv X p_ σ H s) (hH:H l=some (.lst xs)):xs.length≤sizeLine∧∃(its:List Value) (n:Nat),Vals xs its∧xs.length=its.length∧s.heap.get? l=some {cls:=.type "list",data:=.seq its.toArray n}:=by
  obtain⟨z,its,n,r,e⟩:=I.hok l _ hH;exact⟨z,its,n,r,r.length,e⟩
theorem T8 {n:Nat} (h:n≤sizeLine):Builtin.List.listTooLong n=false:=by
  unfold Builtin.List.listTooLong;exact decide_eq_false (by omega)
end
section
variable {X:Cx}
def G9:V→List V→Hp→VK→Prop:=fun x vs H Q=>∃l xs y,x = .ref l∧vs=[y]∧H l=some (.lst xs)∧xs.length<sizeLine∧Q .non (upd H l (.lst (xs++[y])))
theorem yr:MtM X "list.append" G9:=by
  intro p_ s σ H x vs v us Q I rx rv h;obtain⟨l,xs,y,rfl,rfl,hH,hz,q⟩:=h;cases rx;obtain⟨u,rfl,ru⟩:=rv.one;obtain⟨z,its,n,r,hl,e⟩:=I.JV hH;refine call_meets F.slot_list_append ⟨_,e,rfl⟩ F.entry_list_append (F.args_list_append_2 _ _) (PySem.list_append l its.toArray n u (by rw[List.size_toArray];omega)) ⟨e,?_⟩;refine⟨.non,_,I.X4 (its':=its++[u]) hH e (by simp) (r.append (.cons ru .nil)) ?_,rfl,q⟩;rw[List.length_append,List.length_singleton];omega
def T_:V→List V→Hp→VK→Prop:=fun x vs H Q=>∃l xs i k y,x = .ref l∧vs=[.int i]∧H l=some (.lst xs)∧-(2 ^ 63)≤i∧i<2 ^ 63∧seqIndex? i xs.length=some k∧xs[k]? = some y∧Q y (upd H l (.lst (xs.eraseIdx k)))
theorem Ua:MtM X "list.pop" T_:=by
  intro p_ s σ H x vs v us Q I rx rv h;obtain⟨l,xs,i,k,y,rfl,rfl,hH,h1,h2,hk,hy,q⟩:=h;cases rx;obtain⟨u,rfl,ru⟩:=rv.one;obtain⟨t,rfl⟩:=ru;obtain⟨z,its,n,r,hl,e⟩:=I.JV hH;obtain⟨w,hw,Mg⟩:=r.get hy;refine call_meets F.slot_list_pop ⟨_,e,rfl⟩ F.entry_list_pop (F.args_list_pop_2 _ _)
    (MeetsSeq.list_pop_at l its.toArray n i t k w (fitsIndex_both h1 h2) (by rw[List.size_toArray,← hl];exact hk) (by rw[← Array.getElem?_toList];exact hw) (by rw[List.size_toArray];omega)) ⟨e,?_⟩
  refine⟨y,_,I.X4 (its':=its.eraseIdx k) hH e ?_ (r.eraseIdx k) ?_,Mg,q⟩
  ·show its.toArray.eraseIdxIfInBounds k=(its.eraseIdx k).toArray;rw[List.eraseIdxIfInBounds_toArray]
  ·have:=Fz xs k;omega
def Mz:V→List V→Hp→VK→Prop:=fun x vs H Q=>∃l xs,x = .ref l∧vs=[]∧H l=some (.lst xs)∧Q .non (upd H l (.lst []))
theorem Ub:MtM X "list.clear" Mz:=by
  intro p_ s σ H x vs v us Q I rx rv h;obtain⟨l,xs,rfl,rfl,hH,q⟩:=h;cases rx;have hus:=rv.zero;subst hus;obtain⟨z,its,n,r,hl,e⟩:=I.JV hH;refine call_meets F.slot_list_clear ⟨_,e,rfl⟩ F.entry_list_clear (F.args_list_clear_1 _) (AutoSeq1.list_clear_list_0 l its.toArray n (by rw[List.size_toArray];omega)) ⟨e,?_⟩;exact⟨.non,_,I.X4 (its':=[]) (ys:=[]) hH e rfl .nil (Nat.zero_le _),rfl,q⟩
def qch:R2:=fun x y H Q=>∃l b xs zs,x = .ref l∧y = .ref b∧H l=some (.lst xs)∧H b=some (.lst zs)∧xs.length+zs.length≤sizeLine∧∀p,H p=none→Q (.ref p) (upd H p (.lst (xs++zs)))
theorem qaO:iZ X (binaryOp .Add) qch:=by
  intro p_ s σ H x y v u Q I rx ry h;obtain⟨l,b,xs,zs,rfl,rfl,hH,hB,hz,q⟩:=h;cases rx;cases ry;obtain⟨z,its,n,r,hl,e⟩:=I.JV hH;obtain⟨z2,its2,n2,r2,hl2,e2⟩:=I.JV hB;refine PySem.P.add_list e e2 ?_ (by rw[List.size_toArray,List.size_toArray];omega);have ea:its.toArray++its2.toArray=(its++its2).toArray:=by simp
  rw[ea];exact⟨.ref _,_,I.T7 (t':=s.toks) (r.append r2) (by rw[List.length_append];omega),rfl,q _ I.fresh⟩
def qci:R2:=fun x y H Q=>∃l k xs,x = .ref l∧y = .int k∧H l=some (.lst xs)∧-(2 ^ 63)≤k∧k<2 ^ 63∧xs.length * k.toNat≤sizeLine∧
  ∀p,H p=none→Q (.ref p) (upd H p (.lst (List.replicate k.toNat xs).flatten))
theorem len_rep {α:Type} (xs:List α) (k:Nat):(List.replicate k xs).flatten.length=k * xs.length:=by
  induction k with
  | zero=>simp
  | succ k ih=>rw[List.replicate_succ,List.flatten_cons,List.length_append,ih,Nat.succ_mul,Nat.add_comm]
theorem qaP:iZ X (binaryOp .Mult) qci:=by
  intro p_ s σ H x y v u Q I rx ry h;obtain⟨l,k,xs,rfl,rfl,hH,h1,h2,hz,q⟩:=h;cases rx;obtain⟨t,rfl⟩:=ry;obtain⟨z,its,n,r,hl,e⟩:=I.JV hH;have hlen:its.toArray.size * k.toNat≤sizeLine:=by rw[List.size_toArray,← hl];exact hz
  have hcap:¬its.toArray.size * k.toNat > (2 ^ 63 - 1) / 8:=by
    have:(sizeLine:Nat)≤(2 ^ 63 - 1) / 8:=by decide
    omega
  have hfit:¬(!Builtin.List.listFitsIndex k)=true:=by
    rw[fitsIndex_both h1 h2];exact Bool.false_ne_true
  have qcj:¬Builtin.List.listTooLong (its.toArray.size * k.toNat)=true:=by
    rw[T8 hlen];exact Bool.false_ne_true
  have hnew:List.foldl (fun x1 x2=>x1++x2) #[] (List.replicate (if its.toArray.isEmpty=true then 0 else k.toNat) its.toArray)=(List.replicate k.toNat its).flatten.toArray:=by
    have f0:∀m:Nat,List.foldl (fun x1 x2=>x1++x2) #[] (List.replicate m its.toArray)=(List.replicate m its).flatten.toArray:=fun m=>by
      have:=foldl_rep its m [];rw[List.nil_append] at this;exact this
    rw[f0];cases its with
    | nil=>simp
    | cons a r'=>rw[if_neg (by simp)]
  refine wpAny_binaryOp_repeat_ref (T:= "list") (U:= "int") (by decide) ⟨_,e,rfl⟩ (fun s'=>typeIs_int s' k t) noFill_list_mul F.fills_int_mul F.slot_int_rmul repeat_list F.slot_int_index.lookup
    (call_meets F.slot_int_rmul (typeIs_int s k t) F.entry_int_rmul (F.args_int_rmul_2 _ _) (int___rmul___int_list k t l its.toArray n)
      ⟨e,rfl,⟨_,e,rfl⟩,call_meets F.slot_list_mul ⟨_,e,rfl⟩ F.entry_list_mul (F.args_list_mul_2 _ _) (AutoListH.list___mul___list_int_3 l its.toArray n k t hfit hcap qcj) ⟨e,?_⟩⟩)
  rw[hnew];exact⟨.ref _,_,I.T7 (t':=s.toks) (r.rep k.toNat) (by rw[len_rep,Nat.mul_comm];exact hz),rfl,q _ I.fresh⟩
end
end L2
namespace Att
open PySem PySem.W PySem.Calls PyProof.Rows
theorem zZ {P:Params} {h:Heap}:∀(ns:List Int) (vs:List Value),WellAll P h vs (ns.map WData.int)→IntsAre vs ns:=by
  intro ns
  induction ns with
  | nil=>
    intro vs w;rw[List.map_nil] at w;cases w;exact .nil
  | cons n ns ih=>
    intro vs w;rw[List.map_cons] at w;cases w with
    | cons a b=>
      cases a;exact .cons _ _ (ih _ b)
theorem Q6 {l:OpenLaw} {n:Nat} (hn:l.most=some n) {P:Params} {h:Heap} {args:List WData} {vals:List Value}
    (hpre:l.row.toRowW.claim.pre args=true) (hwl:WellAll P h vals args) :
    ∃a vs ns,vals=[Value.ref a]∧args=[WData.list (ns.map WData.int)]∧h.get? a=some {cls:=.type "list",data:=.seq vs.toArray}∧IntsAre vs ns∧ns.length≤n:=by
  have hsh:WShape.hasAll [] args [.list .int]=true:=(pre_splitW hpre).1;have hc:l.pre.holds [] {args:=args}=true:=(pre_splitW hpre).2;obtain⟨d,r,rfl,h1,h2⟩:=hasAllW_cons hsh;obtain rfl:=hasAllW_nil h2;obtain⟨xs,rfl,h3⟩:=hasW_list h1;obtain⟨ns,rfl⟩:=items_int h3;have hlen:ns.length≤n:=by
    unfold OpenLaw.pre at hc;have h4:(WTm.not (.lt (.lit (.int (n:Int))) (.len (.arg 0)))).holds [] {args:=[.list (ns.map .int)]}=true:=by
      have h4:=(holds_andW hc).1;rw[hn] at h4;exact h4
    have h5:=condW_of h4 (w_not (w_lt w_lit (w_len_list (w_arg rfl))));rw[List.length_map] at h5;refine Nat.le_of_not_lt fun q=>?_;have q':(n:Int)<((ns.length:Nat):Int):=by omega
    first
      | (rw[decide_eq_true q'] at h5;exact absurd h5 (by decide))
      | (simp at h5;omega)
  cases hwl with
  | cons w1 w2=>
    cases w2;cases w1 with
    | list ho hall=>exact⟨_,_,ns,rfl,rfl,ho,zZ ns _ hall,hlen⟩
theorem Q7 (l:OpenLaw) (args:List WData):l.row.toRowW.claim.post args (.bool true) args=true:=
  postW_of (r:=l.row.toRowW) (X:=(true == true))
    (show WShape.has [] (.bool true) .bool=true by first | rfl | decide | simp[WShape.has,WShape.arms,WShape.armsAll])
    (show(WTm.eq .res (.lit (.bool true))).value [] {args:=args,res:=some (.bool true),after:=args}=some (.bool (true == true)) from w_eq_bool (w_res rfl) w_lit) rfl
theorem JW {l:OpenLaw} {n:Nat} {q:Program} {loose:List Str} {XP:(Str→Option Value)→Heap→Prop} {YP:World→Heap→Prop} {d:DefRec}
    (hn:l.most=some n) (hdf:d.params.defaults=[])
    (call:∀(w:World) (s₀ s₁:Shared) (mg mb:Str→Option Value) (fa:Addr) (o:Obj) (pm cd doc:Value) (a:Addr) (vs:List Value) (ns:List Int),
      Ground q loose [] XP w s₀ mg mb s₁.heap→YP w s₁.heap→
      s₁.heap.get? fa=some o→o.data = .func (docDef d.name d.params d.body d.scope pm cd doc)→s₁.heap.CodeRec cd d.name→mg d.name=some (.ref fa)→
      s₁.heap.get? a=some {cls:=.type "list",data:=.seq vs.toArray}→IntsAre vs ns→ns.length≤n→s₁.gens = #[]→
      codeAny (model l.prog w) callerA (.call (.ref fa) ⟨[.ref a],[]⟩) (fun r s'=>r = .ok (.ret (.bool true))∧OldK s₁.heap s'.heap∧s'.os=s₁.os∧AllBare s'.gens) s₁) :
    WalkO q loose XP YP l.row.toRowW d [] (fun f vs=>PySem.call f vs):=by
  intro w s₀ s₁ mg mb G Y fa o pm cd doc dV kV ho hd hcd hD hmg hg args vals as hpre hlay hrd hwl hlo;obtain rfl:dV = .none:=Dflts.none hD hdf;obtain rfl:kV = .none:=Dflts.noKw hD;obtain⟨a,vs,ns,rfl,rfl,hobj,hints,hlen⟩:=Q6 hn hpre hwl;refine enter_call (codeAny_mono (call w s₀ s₁ mg mb fa o pm cd doc a vs ns G Y ho (fd_plain hd) hcd hmg hobj hints hlen hg) fun r s' hq=>?_);obtain⟨rfl,h2,h3,h4⟩:=hq;exact⟨.inl ⟨.bool true,.bool true,[],rfl,fun _=>rfl,.bool true,Q7 l _,fun _=>⟨List.Pairwise.nil,fun _ hm=>(nomatch hm)⟩⟩,h2,h3,h4⟩
end Att
namespace L2
open PySem PySem.Spec PyProof.Rows
theorem FJ:∀{vs:List Value} {ns:List Int},IntsAre vs ns→Vals (ns.map V.int) vs
  | _,_,.nil=>.nil
  | _,_,.cons n t h=>.cons ⟨t,rfl⟩ (FJ h)
def Only (H:Hp):Prop:=∀b,H b=none∨∃o xs,H b=some (.jM o (.lst xs))
theorem Uc {P:Program} {w:World} {K:W.Frag} {mg mb:Str→Option Value} {CX:Q0} {k:Nat} {fa a:Addr} {fd:FuncData} {x:Str} {sp:Sp} {s₁:Shared} {vs:List Value} {ns:List Int}
    (KX:K.In s₁.heap) (hns:s₁.heap.Ns mainGlobals mg) (hb:s₁.heap.Ns builtinsNs mb) (hbb:∀x:Str,x≠ "__name__" →mb x=bootBuiltins x) (hlim:s₁.heap.NoLimit) (hg:s₁.gens = #[])
    (ha:s₁.heap.get? a=some {cls:=.type "list",data:=.seq vs.toArray}) (hi:IntsAre vs ns) (hl:ns.length≤sizeLine) (hr:jc k callerA)
    (F:∀base:Heap,K.In base→base.Ns mainGlobals mg→bZ P w K mg base CX k fa fd [x] sp) (hbind:∀(s:Shared) (u:Value),BindsTo s fd ⟨[u],[]⟩ [(x,u)])
    (hsp:∀H:Hp,Only H→bA K H a (ns.map V.int)→sp [.ref a] H (fun v _=>v = .bl true) fun _ _ _=>False)
    (hCX:∀H e s',CX [] H s₁ (fun _ _ _=>False) e s'→False) :
    codeAny (model P w) callerA (.call (.ref fa) ⟨[.ref a],[]⟩) (fun r s'=>r = .ok (.ret (.bool true))∧OldK s₁.heap s'.heap∧s'.os=s₁.os∧AllBare s'.gens) s₁:=by
  have rv:=FJ hi;have lenV:=hi.length;have core:∀H:Hp,Only H→bA K H a (ns.map V.int)→qH P w H s₁.heap→(∀b,H b≠none→b=a)→(H a≠none→K.lookup a=none)→
      codeAny (model P w) callerA (.call (.ref fa) ⟨[.ref a],[]⟩) (fun r s'=>r = .ok (.ret (.bool true))∧OldK s₁.heap s'.heap∧s'.os=s₁.os∧AllBare s'.gens) s₁:=by
    intro H hO hS hok hA hK;have Pb:∀{b:Addr} {o:Obj},s₁.heap.get? b=some o→H b=none→(GK s₁.heap H).get? b=some o:=fun e n=>Sv e n;have noA:∀{b:Addr} {o:Obj} {es:Array DictEntry} {ep:Nat},s₁.heap.get? b=some o→o.data = .dict es ep→H b=none:=fun {b o es ep} e d=>by
      cases q:H b with
      | none=>rfl
      | some u=>
        have e':b=a:=hA b (by rw[q];simp);subst e';rw[ha] at e;cases e;have d':Data.seq vs.toArray _=Data.dict es ep:=d;cases d'
    have nsK:∀{b:Addr} {m:Str→Option Value},s₁.heap.Ns b m→(GK s₁.heap H).Ns b m:=fun {b m} ⟨o,es,ep,e,d,r⟩=>⟨o,es,ep,Pb e (noA e d),d,r⟩;have hKb:K.In (GK s₁.heap H):=fun b o e=>Pb (KX b o e) (by
      cases q:H b with
      | none=>rfl
      | some u=>
        have e':b=a:=hA b (by rw[q];simp);subst e';rw[hK (by rw[q];simp)] at e;cases e)
    have hM:Mod K mg (GK s₁.heap H):=⟨hKb,nsK hns,⟨mb,nsK hb,hbb⟩,let ⟨mc,h1,h2⟩:=hlim;⟨mc,nsK h1,h2⟩⟩;have e0:JQ P w K mg (GK s₁.heap H) callerA [] s₁ H:=⟨rfl,hM,fun b o e=>Xq e,Nat.le_of_eq (Qz _ _),trivial,fun b hb=>absurd (show b∈([]:List Addr) from hb) (by simp),hok,.of_eq hg⟩;refine codeAny_mono ((F _ hKb (nsK hns)).run callerA [] s₁ H ⟨[.ref a],[]⟩ [.ref a] [.ref a] _ _ hr e0 (hbind s₁ (.ref a)) (.cons rfl .nil) (hsp H hO hS)) fun r s' h=>?_;cases r with
    | error e=>exact(hCX H e s' h).elim
    | ok fl=>
      cases fl with
      | next=>exact False.elim h
      | brk=>exact False.elim h
      | cont=>exact False.elim h
      | ret u=>
        obtain⟨v,H',os,bare,un,hok',r',q⟩:=h;have q':v = .bl true:=q;subst q';obtain rfl:u=Value.bool true:=r';refine⟨rfl,OldK.of_keep fun b o e=>?_,os,bare⟩;cases q:H b with
        | none=>exact un.keep b o e q (by intro z;exact absurd (show b∈([]:List Addr) from z) (by simp)) (by simp)
        | some u=>
          rcases hO b with z | ⟨ob,xs,z⟩
          ·rw[q] at z;cases z
          ·have z2:=un.sW b ob _ z;obtain⟨e1,_⟩:=hok b _ z;obtain⟨e2,_⟩:=hok' b _ z2;rw[e] at e1;cases e1;exact e2
  cases hk:K.lookup a with
  | some o=>
    have e:=KX a o hk;rw[ha] at e;cases e;refine core (fun _=>none) (fun _=>.inl rfl) (.inr ⟨_,vs.toArray,_,hk,rfl,rfl,rfl,by rw[List.size_toArray,lenV];exact hl,by simpa using rv⟩) (fun b u z=>by have z':(none:Option HO)=some u:=z;cases z') (fun b z=>absurd rfl z) fun z=>absurd rfl z
  | none=>
    refine core (fun b=>if b=a then some (.jM {cls:=.type "list",data:=.seq vs.toArray} (.lst (ns.map V.int))) else none) (fun b=>?_) (.inl (.inr ⟨{cls:=.type "list",data:=.seq vs.toArray},if_pos rfl⟩)) (fun b u z=>?_) (fun b z=>?_) fun _=>hk
    · by_cases hb:b=a
      ·exact .inr ⟨_,_,if_pos hb⟩
      ·exact .inl (if_neg hb)
    · by_cases hb:b=a
      ·have z':=(if_pos hb).symm.trans z;cases z';subst hb;exact⟨ha,by rw[List.length_map];exact hl,vs,_,rv,ha⟩
      ·have z':=(if_neg hb).symm.trans z;cases z'
    · by_cases hb:b=a
      ·exact hb
      ·exact absurd (if_neg hb) z
theorem X5 {l:W.OpenLaw} {n k:Nat} {q:Program} {loose:List Str} {XP:(Str→Option Value)→Heap→Prop} {YP:World→Heap→Prop} {d:DefRec} {K:Params→W.Frag} {CX:World→Q0} {sp:World→Sp} {x:Str}
    (hn:l.most=some n) (hn2:n≤sizeLine) (hdf:d.params.defaults=[]) (hr:jc k callerA)
    (hY:∀(w:World) (h:Heap),YP w h→(K w.params).In h)
    (F:∀(w:World) (mg:Str→Option Value) (fa:Addr) (h:Heap),(K w.params).In h→h.Ns mainGlobals mg→mg d.name=some (.ref fa)→
      ∃fd:FuncData,(∀(s:Shared) (u:Value),BindsTo s fd ⟨[u],[]⟩ [(x,u)])∧
        ∀base:Heap,(K w.params).In base→base.Ns mainGlobals mg→bZ l.prog w (K w.params) mg base (CX w) k fa fd [x] (sp w))
    (hsp:∀(w:World) (H:Hp) (a:Addr) (ns:List Int),ns.length≤n→Only H→bA (K w.params) H a (ns.map V.int)→sp w [.ref a] H (fun v _=>v = .bl true) fun _ _ _=>False)
    (hCX:∀(w:World) (H:Hp) (s:Shared) (e:Value) (s':Shared),CX w [] H s (fun _ _ _=>False) e s'→False) :
    W.WalkO q loose XP YP l.row.toRowW d [] (fun f vs=>PySem.call f vs):=by
  refine Att.JW hn hdf fun w s₀ s₁ mg mb fa o pm cd doc a vs ns G Y ho hd hcd hmg hobj hints hlen hg=>?_;have KX:=hY w _ Y;obtain⟨fd,hb,hF⟩:=F w mg fa _ KX G.T.g hmg;exact Uc KX G.T.g G.T.b G.T.builtins G.T.nolimit hg hobj hints (Nat.le_trans hlen hn2) hr hF hb (fun H hO hS=>hsp w H a ns hlen hO hS) fun H e s'=>hCX w H s₁ e s'
def inClass (s:Stmt) (j:Nat):Stmt:=match s with
  | .ClassDef _ _ _ body _ _ _ _ _ _ _=>body.getD j (.Pass ⟨0,0,0,0⟩)
  | _=>.Pass ⟨0,0,0,0⟩
def uK (s:Stmt):Arguments:=match s with
  | .FunctionDef _ a _ _ _ _ _ _ _ _=>a
  | _=>{posonlyargs:=[],args:=[],vararg:=none,kwonlyargs:=[],kw_defaults:=[],kwarg:=none,defaults:=[]}
def jm (s:Stmt):List Stmt:=match s with
  | .FunctionDef _ _ b _ _ _ _ _ _ _=>b
  | _=>[]
def aB (s:Stmt):Scope:=match s with
  | .FunctionDef _ _ _ _ _ _ sc _ _ _=>sc
  | _=>{kind:=.function,names:=[],isGenerator:=false,isCoroutine:=false}
abbrev lH:Q0:=fun _ _ _ _ _ _=>False
abbrev E0:XK:=fun _ _ _=>False
theorem aX {X:Cx}:Passes lH X E0:=fun _ _ _ _ _ _ _ h=>h.elim
structure gK (K:W.Frag) (x qual:Str) (st:Stmt) (f:Addr) (fd:FuncData):Prop where
  ex:∃(oc:Value) (od:Option Addr) (kV doc pm:Value) (an:Option Addr) (cdv ct:Value) (osl:Array (Option Value)),
    fd=W.fnOf x qual (uK st) (jm st) (aB st) .none kV doc pm an cdv ct∧K.lookup f=some ⟨oc,od,.func fd,osl⟩∧W.codeIn K cdv qual=true
  kp:W.keepIn K (.ref f)=true
section
variable {P:Program} {w:World} {K:W.Frag} {mg:Str→Option Value} {base:Heap}
theorem gK.ok {x qual:Str} {st:Stmt} {f:Addr} {fd:FuncData} {N ps:List Str} {k:Nat} {sp:Sp} (F:gK K x qual st f fd) (S:bH N ps (aB st)) (len:∀vs H Q E,sp vs H Q E→vs.length=ps.length)
    (hbody:∀(cdv:Value) (A:Around) (outer:List Env) (s:Shared) (H:Hp) (vs:List V) (Q:VK) (E:XK),jc k (A.deeper (envOfC qual (aB st) s.heap.objs.size f cdv))→sp vs H Q E→
      ∃t,D_ (au lH P w K mg base N qual (aB st) f cdv A outer s H E).R6 (jm st) t∧t {nx:=fun _ H'=>Q .non H',rt:=Q} (start N vs) H):bZ P w K mg base lH (k+1) f fd ps sp:=by
  obtain⟨oc,od,kV,doc,pm,an,cdv,ct,osl,rfl,lk,hcd⟩:=F.ex;refine Zv lk hcd S len fun A outer s H vs Q E hr hsp=>?_;obtain⟨t,h,q⟩:=hbody cdv A outer s H vs Q E hr hsp;exact⟨t,h.R6,q⟩
theorem gK.binds {x qual:Str} {st:Stmt} {f:Addr} {fd:FuncData} {ps:List Str} (F:gK K x qual st f fd)
    (h:∀(kV doc pm:Value) (an:Option Addr) (cdv ct:Value) (us:List Value),us.length=ps.length→bindArgs (W.fnOf x qual (uK st) (jm st) (aB st) .none kV doc pm an cdv ct) ⟨us,[]⟩=pure (ps.zip us)):Binds K fd ps []:=by
  obtain⟨oc,od,kV,doc,pm,an,cdv,ct,osl,rfl,lk,hcd⟩:=F.ex;exact .all (h kV doc pm an cdv ct)
theorem Ud {x qual:Str} {st:Stmt} {f:Addr} {oc:Value} {od an:Option Addr} {osl:Array (Option Value)} {kV doc pm cdv ct:Value} (l:K.lookup f=some ⟨oc,od,.func (W.fnOf x qual (uK st) (jm st) (aB st) .none kV doc pm an cdv ct),osl⟩)
    (c:W.codeIn K cdv qual=true) (k:W.keepIn K (.ref f)=true):gK K x qual st f (W.fnOf x qual (uK st) (jm st) (aB st) .none kV doc pm an cdv ct):=⟨⟨oc,od,kV,doc,pm,an,cdv,ct,osl,rfl,l,c⟩,k⟩
end
theorem ql {A:Around} {k:Nat} (hr:jc k A):A.units+1<cLine:=Nat.lt_of_le_of_lt (Nat.add_le_add_left (by decide:1≤64) _) hr.units
def Same (H H':Hp):Prop:=∀b o,H b=some o→H' b=some o
theorem Same.refl (H:Hp):Same H H:=fun _ _ h=>h
theorem Same.trans {H H1 H2:Hp} (a:Same H H1) (b:Same H1 H2):Same H H2:=fun c o h=>b c o (a c o h)
theorem Same.seq {K:W.Frag} {H H':Hp} {a:Addr} {xs:List V} (e:Same H H') (h:bA K H a xs):bA K H' a xs:=by
  rcases h with(h | ⟨o,h⟩) | h
  ·exact .inl (.inl (e _ _ h))
  ·exact .inl (.inr ⟨o,e _ _ h⟩)
  ·exact .inr h
def pP (env:Env) (cs:List (Str×Addr)) (p:Str×NameKind):List (Str×Addr):=if p.2 == .free then (p.1,(env.cells.lookup p.1).getD 0)::cs else cs
def G_ (env:Env) (names:List (Str×NameKind)):List (Str×Addr):=names.foldl (pP env) []
theorem zp {α β:Type} (f:α→β→Sem (ForInStep β)) (g:β→α→β):∀(l:List α) (b:β),(∀x∈l,∀b,f x b=pure (.yield (g b x)))→forIn l b f=pure (l.foldl g b)
  | [],_,_=>rfl
  | x::l,b,h=>by
    rw[List.forIn_cons,h x List.mem_cons_self,pure_bind];exact zp f g l (g b x) fun y hy=>h y (List.mem_cons_of_mem _ hy)
theorem lY {sc:Scope} {env:Env} (h:∀x,(x,NameKind.free)∈sc.names→∃c,env.cells.lookup x=some c):closureFor sc env=pure (G_ env sc.names):=by
  simp only[closureFor];rw[zp _ (pP env) sc.names [] (fun p hp cs=>by
    obtain⟨n,k⟩:=p;cases k with
    | free=>
      obtain⟨c,hc⟩:=h n hp;simp only[pP,cellOf,hc,beq_self_eq_true,if_true,Option.getD_some,pure_bind]
    | _=>simp only[pP];rfl)]
  rfl
theorem wN {env:Env}:∀(names:List (Str×NameKind)) (acc:List (Str×Addr)) (x:Str) (c:Addr),(∀x,(x,NameKind.free)∈names→∃c,env.cells.lookup x=some c)→(∀x c,(x,c)∈acc→env.cells.lookup x=some c)→
    (x,c)∈names.foldl (pP env) acc→env.cells.lookup x=some c
  | [],_,x,c,_,h,m=>h x c m
  | (n,k)::r,acc,x,c,hf,h,m=>by
    refine wN r (pP env acc (n,k)) x c (fun y hy=>hf y (List.mem_cons_of_mem _ hy)) (fun y d hy=>?_) m;unfold pP at hy;split at hy
    · rename_i hk;have hk':k = .free:=by simpa using hk
      subst hk';obtain⟨e,he⟩:=hf n List.mem_cons_self
      rcases List.mem_cons.mp hy with z | z
      ·cases z;show env.cells.lookup n=some _;rw[he];rfl
      ·exact h y d z
    ·exact h y d hy
theorem yt {env:Env} {x:Str}:∀(names:List (Str×NameKind)) (acc:List (Str×Addr)),((x,NameKind.free)∈names∨(acc.lookup x).isSome=true)→((names.foldl (pP env) acc).lookup x).isSome=true
  | [],_,h=>h.elim (fun z=>nomatch z) id
  | (n,k)::r,acc,h=>by
    refine yt r (pP env acc (n,k)) ?_
    by_cases hm:(x,NameKind.free)∈r
    ·exact .inl hm
    · refine .inr ?_;unfold pP
      rcases h with h | h
      · rcases List.mem_cons.mp h with z | z
        ·cases z;simp[List.lookup_cons]
        ·exact absurd z hm
      · split
        ·simp only[List.lookup_cons];cases x == n <;> simp[h]
        ·exact h
def Bj (env:Env) (sc:Scope) (C:Addr):List (Str×Addr):=cellsFrom (C+1) sc.names (G_ env sc.names)
theorem jd {x:Str}:∀(names:List (Str×NameKind)) (n:Nat) (acc:List (Str×Addr)),(x,NameKind.cell)∈names∨(acc.lookup x).isSome=true→((cellsFrom n names acc).lookup x).isSome=true
  | [],_,_,h=>h.elim (fun z=>nomatch z) id
  | (y,k)::r,n,acc,h=>by
    unfold cellsFrom;split
    · refine jd r (n+1) ((y,n)::acc) ?_
      by_cases hm:(x,NameKind.cell)∈r
      ·exact .inl hm
      · refine .inr ?_
        rcases h with h | h
        · rcases List.mem_cons.mp h with z | z
          ·cases z;simp[List.lookup_cons]
          ·exact absurd z hm
        ·simp only[List.lookup_cons];cases x == y <;> simp[h]
    · rename_i hk;refine jd r n acc ?_
      rcases h with h | h
      · rcases List.mem_cons.mp h with z | z
        ·cases z;exact absurd rfl hk
        ·exact .inl z
      ·exact .inr h
theorem MF:∀(names:List (Str×NameKind)) (h:Heap) (acc:List (Str×Addr)) (x:Str) (c:Addr),(x,c)∈cellsFrom h.objs.size names acc→(x,c)∈acc∨(h.objs.size≤c∧(pushCells h names).IsCell c none)
  | [],_,_,_,_,m=>.inl m
  | (n,k)::r,h,acc,x,c,m=>by
    unfold cellsFrom at m;unfold pushCells;split at m
    · rename_i hk;rw[if_pos hk];have m':(x,c)∈cellsFrom (h.push {cls:=.type "cell",data:=.cell none}).objs.size r ((n,h.objs.size)::acc):=by rw[Heap.size_push];exact m
      rcases MF r (h.push {cls:=.type "cell",data:=.cell none}) _ x c m' with z | ⟨z1,z2⟩
      · rcases List.mem_cons.mp z with e | e
        ·cases e;exact .inr ⟨Nat.le_refl _,⟨_,pushCells_keeps _ _ _ _ (Heap.get?_push_size _ rfl),rfl⟩⟩
        ·exact .inl e
      ·rw[Heap.size_push] at z1;exact .inr ⟨by omega,z2⟩
    ·rename_i hk;rw[if_neg hk];exact MF r h acc x c m
theorem MJ {n0:Nat} {x:Str}:∀(names:List (Str×NameKind)) (n:Nat) (acc:List (Str×Addr)) (c:Addr),((x,NameKind.cell)∈names∨∀d,acc.lookup x=some d→n0≤d)→n0≤n→(cellsFrom n names acc).lookup x=some c→n0≤c
  | [],_,_,c,h,_,e=>h.elim (fun z=>nomatch z) fun z=>z c e
  | (y,k)::r,n,acc,c,h,hn,e=>by
    unfold cellsFrom at e;split at e
    · refine MJ r (n+1) ((y,n)::acc) c ?_ (by omega) e
      by_cases hm:(x,NameKind.cell)∈r
      ·exact .inl hm
      · refine .inr fun d hd=>?_
        by_cases hxy:x=y
        · subst hxy;have hnd:n=d:=by simpa [List.lookup_cons] using hd
          rw[← hnd];exact hn
        · have hb:(x == y)=false:=by simpa using hxy
          simp only[List.lookup_cons,hb] at hd
          rcases h with h | h
          · rcases List.mem_cons.mp h with z | z
            ·cases z;exact absurd rfl hxy
            ·exact absurd z hm
          ·exact h d hd
    · rename_i hk;refine MJ r n acc c ?_ hn e
      rcases h with h | h
      · rcases List.mem_cons.mp h with z | z
        ·cases z;exact absurd rfl hk
        ·exact .inl z
      ·exact .inr h
theorem MK:∀(names:List (Str×NameKind)) (n:Nat) (acc:List (Str×Addr)),(∀y d,(y,d)∈acc→d<n)→(∀y z d,(y,d)∈acc→(z,d)∈acc→y=z)→
    ∀y z d,(y,d)∈cellsFrom n names acc→(z,d)∈cellsFrom n names acc→y=z
  | [],_,_,_,h=>h
  | (x,k)::r,n,acc,hl,h=>by
    unfold cellsFrom;split
    · refine MK r (n+1) ((x,n)::acc) (fun y d hm=>?_) fun y z d h1 h2=>?_
      · rcases List.mem_cons.mp hm with e | e
        ·cases e;exact Nat.lt_succ_self _
        ·exact Nat.lt_succ_of_lt (hl y d e)
      · rcases List.mem_cons.mp h1 with e1 | e1 <;> rcases List.mem_cons.mp h2 with e2 | e2
        ·cases e1;cases e2;rfl
        ·cases e1;exact absurd (hl z n e2) (Nat.lt_irrefl _)
        ·cases e2;exact absurd (hl y n e1) (Nat.lt_irrefl _)
        ·exact h y z d e1 e2
    ·exact MK r n acc hl h
abbrev Ue:Value→Shared→Prop:=fun _ _=>False
theorem zq {prog:Program} {w:World} {A:Around} {R:Result→Shared→Prop} {s:Shared} {elt target iter:Expr} {ifs:List Expr} {scope:Scope} {pos:Pos} {it acc:Value} {env:Env} (I:Nat→Shared→Prop)
    (turn:∀n s,I n s→wpAny (model prog w) A (pyNext it) (fun r s₁=>match r with
      | none=>R (.ok .next) s₁
      | some v=>wpAny (model prog w) A (letOwnedTupleGo target it v) (fun _ s₂=>wpAny (model prog w) A (assign target env v) (fun _ s₃=>
          wpAny (model prog w) A (forIn ifs true fun c r=>if r=true then do let ok ← isTrue c env (eval c env);pure (ForInStep.yield ok) else pure (ForInStep.yield r)) (fun ok s₄=>
            if ok=true then wpAny (model prog w) A (eval elt env) (fun x s₅=>
              wpAny (model prog w) A (call (.builtin "list.append") [acc,x]) (fun _ s₆=>∃m,m<n∧I m s₆) Ue s₅) Ue s₄
            else ∃m,m<n∧I m s₄) Ue s₃) Ue s₂) Ue s₁) Ue s)
    (n:Nat) (h:I n s):codeAny (model prog w) A (.compLoop (.ListComp elt [⟨target,iter,ifs,0⟩] scope pos) 0 it acc env) R s:=by
  refine codeAny_loop rfl I (fun n s hI=>?_) n h;show wpAny _ A ((compTurn (.ListComp elt [⟨target,iter,ifs,0⟩] scope pos) 0 it acc env).onRaise (fun x=>do noteFrame x env;theTreesLotGoes x)) _ _ s
  refine wpAny_noted ?_;rw[compTurn_list];refine wpAny_bind (wpAny_standAt (wpAny_bind (wpAny_mono (turn n s hI) (fun r s₁ h₁=>?_) fun _ _ h'=>h'.elim)));cases r with
  | none=>exact wpAny_pure h₁
  | some v=>
    refine wpAny_bind (wpAny_mono h₁ (fun _ s₂ h₂=>?_) fun _ _ h'=>h'.elim);refine wpAny_bind (wpAny_mono h₂ (fun _ s₃ h₃=>wpAny_bind (wpAny_mono h₃ (fun ok s₄ h₄=>?_) fun _ _ h'=>h'.elim)) fun _ _ h'=>h'.elim);cases ok with
    | false=>exact wpAny_pure ⟨rfl,h₄⟩
    | true=>
      exact wpAny_bind (wpAny_bind (wpAny_mono h₄ (fun x s₅ h₅=>wpAny_bind (wpAny_mono h₅ (fun _ s₆ h₆=>wpAny_pure (wpAny_pure ⟨rfl,h₆⟩)) fun _ _ h'=>h'.elim)) fun _ _ h'=>h'.elim))
def b_ (X:Cx) (sc:Scope) (N:List Str) (C:Addr) (s:Shared) (H:Hp) (fp:List Addr) (pn:List (Addr×Obj)):Cx:=
  {X with env:=compEnvC sc (Bj X.env sc C) C X.env,N:=N,s₀:=s,H₀:=H,outer:=X.stack,ex:=fp,fn:=fun x=>sc.names.any fun p=>p.1 == x && p.2 == .cell,pn:=pn,xe:=Ue}
theorem tM {sc:Scope} {env:Env} (x:Str):(relabel sc env).names.lookup x=(sc.names.lookup x).map fun k=>if (k == NameKind.free && env.scope.kind == .function && env.kindOf x == some .cell)=true then NameKind.cell else k:=by
  unfold relabel;show List.lookup x (sc.names.map _)=_
  induction sc.names with
  | nil=>rfl
  | cons p r ih=>
    obtain⟨n,k⟩:=p;rw[List.map_cons];have e1:(if (k == NameKind.free && env.scope.kind == .function && env.kindOf n == some .cell)=true then (n,NameKind.cell) else (n,k))=(n,if (k == NameKind.free && env.scope.kind == .function && env.kindOf n == some .cell)=true then NameKind.cell else k):=by split <;> rfl
    show List.lookup x ((if (k == NameKind.free && env.scope.kind == .function && env.kindOf n == some .cell)=true then (n,NameKind.cell) else (n,k))::_)=_
    rw[e1]
    by_cases hx:x=n
    ·subst hx;simp only[List.lookup_cons,beq_self_eq_true,Option.map_some]
    · have hb:(x == n)=false:=by simpa using hx
      simp only[List.lookup_cons,hb];exact ih
structure aR (ps sc:Scope) (pN own:List Str) (caps:List Nat) (N:List Str):Prop where
  kind:sc.kind = .function
  uniq:∀p∈sc.names,sc.names.lookup p.1=some p.2
  nd:N.Nodup
  names:N=own++caps.map fun j=>pN.getD j ""
  free:∀p∈sc.names,p.2 = .free→ps.names.lookup p.1=some .cell∨ps.names.lookup p.1=some .free
  qeY:∀j∈caps,j<pN.length∧sc.names.lookup (pN.getD j "")=some .free
def stC (own:List Str) (caps:List Nat) (σ:St):St:=own.map (fun _=>none)++caps.map fun j=>(σ[j]?).getD none
section
variable {X:Cx} {p_:List (Addr×Obj)} {σ:St} {H:Hp} {s:Shared} {ps sc:Scope} {own pN:List Str} {caps:List Nat} {N:List Str} {fp:List Addr}
theorem aR.cells (S:aR ps sc pN own caps N) (hps:X.env.scope=ps) (ok:X.Ok):∀x,(x,NameKind.free)∈sc.names→∃c,X.env.cells.lookup x=some c:=fun x hx=>by
  refine ok.has x ?_;show X.env.scope.names.lookup x=_∨X.env.scope.names.lookup x=_;rw[hps];exact S.free (x,.free) hx rfl
theorem Bk (hfr:∀x,(x,NameKind.free)∈sc.names→∃c,X.env.cells.lookup x=some c) {C:Addr} {x:Str} {c:Addr} {h:Heap} (hC:C+1=h.objs.size) (m:(x,c)∈Bj X.env sc C):X.env.cells.lookup x=some c∨(h.objs.size≤c∧(pushCells h sc.names).IsCell c none):=by
  unfold Bj at m;rw[hC] at m
  rcases MF sc.names h _ x c m with z | z
  ·exact .inl (wN sc.names [] x c hfr (fun _ _ z=>nomatch z) z)
  ·exact .inr z
theorem Hg (I:Inv X p_ σ H s) (hps:X.env.scope=ps) (S:aR ps sc pN own caps N) (hf:∀b∈fp,j8 X p_ H b) (ho:∀b∈fp,∃o,s.heap.get? b=some o∧∀v,o.data≠.cell v) :
    (b_ X sc N s.heap.objs.size s H fp (X.pn++p_)).Ok where
  mod:=I.ok.mod
  kind:=S.kind
  glob:=I.ok.glob
  blt:=I.ok.blt
  above:=Nat.le_refl _
  inj:=fun x y c h1 h2=>by
    have cl:∀y d,(y,d)∈G_ X.env sc.names→X.env.cells.lookup y=some d:=fun y d m=>wN sc.names [] y d (S.cells hps I.ok) (fun _ _ z=>nomatch z) m;refine MK sc.names (s.heap.objs.size+1) (G_ X.env sc.names) (fun y d m=>?_) (fun y z d m1 m2=>I.ok.inj y z d (cl y d m1) (cl z d m2)) x y c (PySem.mem_of_lookup h1) (PySem.mem_of_lookup h2);obtain⟨v,q⟩:=I.cell y d (cl y d m);exact Nat.lt_succ_of_lt q.lt
  has:=fun x hx=>by
    have hx1:(relabel sc X.env).names.lookup x=some .cell∨(relabel sc X.env).names.lookup x=some .free:=hx;have hx':(x,NameKind.cell)∈sc.names∨(x,NameKind.free)∈sc.names:=by
      rw[tM] at hx1;cases e:sc.names.lookup x with
      | none=>rw[e] at hx1;simp at hx1
      | some k=>
        rw[e] at hx1;have hm:=PySem.mem_of_lookup e;cases k with
        | free=>exact .inr hm
        | cell=>exact .inl hm
        | _=>simp at hx1
    have q:((cellsFrom (s.heap.objs.size+1) sc.names (G_ X.env sc.names)).lookup x).isSome=true:=by
      rcases hx' with z | z
      ·exact jd sc.names _ _ (.inl z)
      ·exact jd sc.names _ _ (.inr (yt sc.names [] (.inl z)))
    exact Option.isSome_iff_exists.mp q
  cab:=fun x c hx h=>by
    have hx':(x,NameKind.cell)∈sc.names:=by
      have hx:(sc.names.any fun p=>p.1 == x && p.2 == .cell)=true:=hx;obtain⟨⟨a,b⟩,hm,he⟩:=List.any_eq_true.mp hx;simp at he;obtain⟨rfl,rfl⟩:=he;exact hm
    exact MJ (n0:=s.heap.objs.size) sc.names (s.heap.objs.size+1) (G_ X.env sc.names) c (.inl hx') (Nat.le_succ _) h
  hd:=I.ok.hd
  frames:=I.ok.frames
  stk:=.inl rfl
  Xu:=fun b hb=>by
    obtain⟨o,e,_⟩:=ho b hb;refine⟨Nat.ne_of_lt (Heap.lt_size e),fun x c h z=>?_⟩;subst z
    rcases Bk (S.cells hps I.ok) (h:=s.heap.push {cls:=.type "dict",data:=.dict #[]}) (by rw[Heap.size_push]) (PySem.mem_of_lookup h) with q | ⟨q,_⟩
    ·exact(hf c hb).2.2.2.2.1 x c q rfl
    ·rw[Heap.size_push] at q;exact absurd (Nat.lt_of_lt_of_le (Nat.lt_of_lt_of_le (Heap.lt_size e) (Nat.le_succ _)) q) (Nat.lt_irrefl _)
  bs:=I.bs
  O2:=Nat.le_trans I.ok.O2 I.sz
  JK:=fun b o e hb=>by
    rcases(hf b hb).2.2.2.1 with z | z
    ·exact I.ok.JK b o e z
    ·exact absurd (Nat.lt_of_lt_of_le (Heap.lt_size e) (Nat.le_trans I.ok.O2 z)) (Nat.lt_irrefl _)
  GQ:=fun b hb z=>by
    rcases List.mem_cons.mp (I.vN b z) with q | q
    ·exact(hf b hb).2.1 q
    ·exact(hf b hb).2.2.1 q
  tu:=I.stack
  Sy:=I.z9
def blockAt (sc:Scope) (s:Shared):Shared:={s with heap:=pushCells (s.heap.push {cls:=.type "dict",data:=.dict #[]}) sc.names}
theorem JX (I:Inv X p_ σ H s) (hps:X.env.scope=ps) (hpN:X.N=pN) (S:aR ps sc pN own caps N) (hf:∀b∈fp,j8 X p_ H b) (ho:∀b∈fp,∃o,s.heap.get? b=some o∧∀v,o.data≠.cell v) :
    Inv (b_ X sc N s.heap.objs.size s H fp (X.pn++p_)) [] (stC own caps σ) H (blockAt sc s):=by
  have hk:∀b o,s.heap.get? b=some o→(blockAt sc s).heap.get? b=some o:=fun b o e=>pushCells_keeps _ _ b o (Heap.get?_push_of_some _ e);have hns:(blockAt sc s).heap.Ns s.heap.objs.size fun _=>none:=(Heap.Ns.new s.heap (.type "dict")).keeps (pushCells_keeps _ _);have hcl:∀x c,(Bj X.env sc s.heap.objs.size).lookup x=some c→X.env.cells.lookup x=some c∨(s.heap.objs.size+1≤c∧(blockAt sc s).heap.IsCell c none):=fun x c e=>by
    rcases Bk (S.cells hps I.ok) (h:=s.heap.push {cls:=.type "dict",data:=.dict #[]}) (by rw[Heap.size_push]) (PySem.mem_of_lookup e) with q | ⟨q,r⟩
    ·exact .inl q
    ·rw[Heap.size_push] at q;exact .inr ⟨q,r⟩
  refine⟨Hg I hps S hf ho,rfl,I.bare,Un.kept hk,⟨_,hns,fun i x v e1 e2 e3=>?_⟩,fun x c e=>?_,I.hok.fresh (Nat.le_refl _),fun x c e=>?_,fun p hp=>?_,I.hok.kept hk,?_⟩
  · have e1':N[i]? = some x:=e1;rw[S.names] at e1';unfold stC at e2
    by_cases hi:i<own.length
    · rw[List.getElem?_append_left (by simpa using hi),List.getElem?_map] at e2;cases q:own[i]? with
      | none=>rw[q] at e2;cases e2
      | some y=>rw[q] at e2;cases e2
    · rw[List.getElem?_append_right (by omega),List.getElem?_map] at e1';rw[List.getElem?_append_right (by simp;omega),List.getElem?_map] at e2;simp only[List.length_map] at e2;cases q:caps[i - own.length]? with
      | none=>rw[q] at e2;cases e2
      | some j=>
        rw[q] at e1' e2;have qck:pN.getD j "" = x:=Option.some.inj e1';have e2':(σ[j]?).getD none=some v:=Option.some.inj e2;have hj:σ[j]? = some (some v):=by
          cases z:σ[j]? with
          | none=>rw[z] at e2';cases e2'
          | some o=>rw[z] at e2';exact congrArg some e2'
        obtain⟨hlt,hfree⟩:=S.qeY j (List.mem_of_getElem? q);rw[qck] at hfree;have hNj:X.N[j]? = some x:=by
          rw[hpN,← qck];simp[List.getD,List.getElem?_eq_getElem hlt]
        have qcl:=S.free (x,.free) (PySem.mem_of_lookup hfree) rfl;have vis:Vis X.env.scope x:=by rw[hps];exact .inr qcl
        obtain⟨m,hn,hl⟩:=I.loc;obtain⟨u,r,l⟩:=hl j x v hNj hj vis;refine⟨u,r,.inr ?_⟩;have hkind:(relabel sc X.env).names.lookup x=some .cell∨(relabel sc X.env).names.lookup x=some .free:=by
          rw[tM,hfree];show some (if _ then _ else _)=_∨some (if _ then _ else _)=_
          split
          ·exact .inl rfl
          ·exact .inr rfl
        refine⟨hkind,?_⟩;have hcell:X.env.kindOf x=some .cell∨X.env.kindOf x=some .free:=by
          show X.env.scope.names.lookup x=_∨X.env.scope.names.lookup x=_;rw[hps];exact qcl
        rcases l with⟨hloc,_⟩ | ⟨_,c,hc,hcv⟩
        ·rcases hcell with z | z <;> (rw[hloc] at z;cases z)
        · have q2:((Bj X.env sc s.heap.objs.size).lookup x).isSome=true:=jd sc.names _ _ (.inr (yt sc.names [] (.inl (PySem.mem_of_lookup hfree))));obtain⟨d,hd⟩:=Option.isSome_iff_exists.mp q2;refine⟨d,hd,?_⟩
          rcases hcl x d hd with z | ⟨z,_⟩
          ·rw[hc] at z;cases z;exact hcv.keeps hk
          ·
            exfalso;have hnc:(x,NameKind.cell)∉sc.names:=fun hm=>by
              have:=S.uniq _ hm;rw[hfree] at this;cases this
            have hmem:=PySem.mem_of_lookup hd;have qeZ:∀(names:List (Str×NameKind)) (n:Nat) (acc:List (Str×Addr)),(x,NameKind.cell)∉names→(cellsFrom n names acc).lookup x=acc.lookup x:=by
              intro names
              induction names with
              | nil=>intro _ _ _;rfl
              | cons p r ih=>
                intro n acc hm;obtain⟨y,k⟩:=p;unfold cellsFrom;split
                · rename_i hkk;have hkk':k = .cell:=by simpa using hkk
                  subst hkk';rw[ih _ _ fun z=>hm (List.mem_cons_of_mem _ z)];have hxy:(x == y)=false:=by
                    cases hb:x == y with
                    | false=>rfl
                    | true=>exact absurd (by rw[beq_iff_eq.mp hb];exact List.mem_cons_self) hm
                  simp only[List.lookup_cons,hxy]
                ·exact ih _ _ fun z=>hm (List.mem_cons_of_mem _ z)
            have e5:(G_ X.env sc.names).lookup x=some d:=(qeZ sc.names _ _ hnc).symm.trans hd;have e6:=wN sc.names [] x d (S.cells hps I.ok) (fun _ _ z=>nomatch z) (PySem.mem_of_lookup e5);rw[hc] at e6;cases e6;exact absurd (Nat.lt_of_lt_of_le (Nat.lt_of_lt_of_le hcv.lt (Nat.le_succ _)) z) (Nat.lt_irrefl _)
  · rcases hcl x c e with z | ⟨_,z⟩
    ·obtain⟨v,q⟩:=I.cell x c z;exact⟨v,q.keeps hk⟩
    ·exact⟨_,z⟩
  · rcases hcl x c e with z | ⟨z,_⟩
    ·exact I.i_ x c z
    ·exact I.hok.fresh (by omega)
  · rw[List.append_nil] at hp;obtain⟨e,n,ne,nf,d⟩:=I.pin p hp;refine⟨hk _ _ e,n,Nat.ne_of_lt (Heap.lt_size e),fun z=>?_,d⟩
    rcases List.mem_cons.mp (I.vN p.1 z) with q | q
    ·exact ne q
    ·exact nf q
  ·show(stC own caps σ).length=N.length;rw[S.names];simp[stC]
theorem FN (I:Inv X p_ σ H s) (hf:∀b∈fp,j8 X p_ H b) {C:Addr} {pn:List (Addr×Obj)} {zc:List (Addr×Obj)} {σ':St} {H':Hp} {s':Shared} (I':Inv (b_ X sc N C s H fp pn) zc σ' H' s'):Inv X p_ σ H' s':=
  I.call' (ch:=fp) I'.os I'.base I'.hok I'.bare fun b hb=>⟨(hf b hb).2.2.2.1,(hf b hb).2.1,(hf b hb).2.2.2.2.1,(hf b hb).2.2.2.2.2⟩
end
def PTs (X:Cx) (ifs:List Expr) (t:TT):Prop:=
  ∀(p_:List (Addr×Obj)) (s:Shared) (σ:St) (H:Hp) (Q:Bool→Hp→Prop),Inv X p_ σ H s→t σ H Q→
    wpAny (model X.prog X.w) X.A (forIn ifs true fun c r=>if r=true then do let ok ← isTrue c X.env (eval c X.env);pure (ForInStep.yield ok) else pure (ForInStep.yield r)) (TP X p_ σ Q) X.xe s
def qcm:TT:=fun _ H Q=>Q true H
theorem bO {X:Cx}:PTs X [] qcm:=fun _ _ _ H _ I h=>wpAny_tests_nil ⟨H,I,h⟩
theorem Ab {X:Cx} {c:Expr} {t:TT} (h:PT X c t):PTs X [c] t:=fun p_ s σ H Q I hw=>wpAny_tests_one (h p_ s σ H Q I hw)
def lg (own:List Str) (caps:List Nat) (J:It) (g:TG) (tt:TT) (te:TE) (D:Addr) (σ:St) (H:Hp) (Q:Hp→Prop):Prop:=
  ∃iH:Nat→Nat→St→Hp→Prop,(∃m,iH 0 m (stC own caps σ) H)∧∀i m σ' H',iH i m σ' H'→
    (J.stop i H'∧Q H')∨(J.go i H'∧∃N:St→Hp→Prop,(∀σ2 H2,N σ2 H2→∃m',m'<m∧iH (i+1) m' σ2 H2)∧∀x H2,J.S9 i H' x H2→g x σ' H2 fun σ2 H3=>tt σ2 H3 fun b H4=>
      if b=true then te σ2 H4 fun y H5=>∃ys,H5 D=some (.lst ys)∧ys.length<sizeLine∧N σ2 (upd H5 D (.lst (ys++[y]))) else N σ2 H4)
def Pg (own:List Str) (caps:List Nat) (wi:TI) (g:TG) (tt:TT) (te:TE):TE:=fun σ H Q=>wi σ H fun J H1=>∀D,H1 D=none→lg own caps J g tt te D σ (upd H1 D (.lst [])) (Q (.ref D))
theorem wO {M:Model} {A:Around} {E:Value→Shared→Prop} {s:Shared} {sc:Scope} {g:Addr} {cl:List (Str×Addr)} {qual:Str} {env:Env} {Q:Env→Shared→Prop}
    (h:Q (newEnv sc s.heap.objs.size g (cellsFrom (s.heap.objs.size+1) sc.names cl) qual none .none (some env) builtinsNs) (blockAt sc s)):wpAny M A (newFunctionEnv sc g cl [] qual none .none (some env)) Q E s:=by
  simp only[newFunctionEnv,Option.isSome_some,if_true];refine wpAny_bind (wpAny_alloc ?_);refine wpAny_bind (wpAny_layCells _ (fun name kind cells=>by cases hkc:kind == NameKind.cell <;> simp[hkc]) _ _ _ _ ?_);rw[show({s with heap:=s.heap.push {cls:=.type "dict",data:=.dict #[]}}:Shared).heap.objs.size=s.heap.objs.size+1 from Heap.size_push ..];rw[List.forIn_nil];exact wpAny_bind (wpAny_pure (wpAny_pure h))
def wQ (X:Cx) (p_:List (Addr×Obj)) (σ:St) (Q:Hp→Prop) (C:Addr) (r:Result) (s':Shared):Prop:=
  ∃H',r = .ok .next∧Inv X p_ σ H' s'∧(∃m,s'.heap.Ns C m)∧j8 X p_ H' C∧Q H'
section
variable {X:Cx} {ps sc:Scope} {own pN:List Str} {caps:List Nat} {N:List Str}
theorem Bl {p_:List (Addr×Obj)} {σ:St} {H:Hp} {s:Shared} {E:Value→Shared→Prop} {elt tg iter:Expr} {ifs:List Expr} {pos:Pos} {J:It} {fp:List Addr} {it D:Addr} {tn:Nat→Heap→Prop} {g:TG} {tt:TT} {te:TE} {Q:Hp→Prop}
    (I:Inv X p_ σ H s) (hps:X.env.scope=ps) (hpN:X.N=pN) (S:aR ps sc pN own caps N) (T:Turn X.prog X.w X.K tg J fp it tn) (st:tn 0 s.heap) (hf:∀b∈fp,j8 X p_ H b) (hc:X.calm=true)
    (hg:∀C s H fp pn,PG (b_ X sc N C s H fp pn) tg g) (ht:∀C s H fp pn,PTs (b_ X sc N C s H fp pn) ifs tt) (he:∀C s H fp pn,PE (b_ X sc N C s H fp pn) elt te)
    (h:lg own caps J g tt te D σ H Q) :
    wpAny (model X.prog X.w) X.A (newFunctionEnv sc X.env.globals (G_ X.env sc.names) [] X.env.qual none .none (some X.env)) (fun cenv s4=>
      codeAny (model X.prog X.w) X.A (.compStart (.ListComp elt [⟨tg,iter,ifs,0⟩] sc pos) 0 (.ref it) (.ref D) {cenv with scope:=relabel sc X.env}) (wQ X p_ σ Q cenv.locals) s4) E s:=by
  obtain⟨iH,⟨m0,w0⟩,turn⟩:=h;refine wO ?_;have ho:=T.obj 0 _ st;have I0:=JX I hps hpN S hf ho;have ok':=Hg I hps S hf ho;have hk:∀b o,s.heap.get? b=some o→(blockAt sc s).heap.get? b=some o:=fun b o e=>pushCells_keeps _ _ b o (Heap.get?_push_of_some _ e);have st0:tn 0 (blockAt sc s).heap:=T.keep 0 _ _ st fun b _ o e=>hk b o e;have stat:∀{H':Hp},(∀b∈fp,H' b=none)→∀b∈fp,j8 (b_ X sc N s.heap.objs.size s H fp (X.pn++p_)) [] H' b:=fun hn b hb=>
    ⟨hn b hb,(ok'.Xu b hb).1,ok'.GQ b hb,.inl hb,(ok'.Xu b hb).2,fun p hp=>(hf b hb).2.2.2.2.2 p (by rw[List.append_nil] at hp;exact hp)⟩
  have loop:codeAny (model X.prog X.w) X.A (.compLoop (.ListComp elt [⟨tg,iter,ifs,0⟩] sc pos) 0 (.ref it) (.ref D) (b_ X sc N s.heap.objs.size s H fp (X.pn++p_)).env) (wQ X p_ σ Q s.heap.objs.size) (blockAt sc s):=by
    refine zq (fun n s'=>∃i σ' H',Inv (b_ X sc N s.heap.objs.size s H fp (X.pn++p_)) [] σ' H' s'∧tn i s'.heap∧(∀b∈fp,H' b=none)∧iH i n σ' H') ?_ m0 ⟨0,_,H,I0,st0,fun b hb=>(hf b hb).1,w0⟩;rintro n s3 ⟨i,σ3,H3,I3,st3,Zq,w3⟩
    rcases turn i n σ3 H3 w3 with⟨stop,qn⟩ | ⟨go,N',hN,step⟩
    ·refine cY (T.done (b_ X sc N s.heap.objs.size s H fp (X.pn++p_)) rfl rfl rfl hc i [] s3 σ3 H3 Ue I3 (stat Zq) st3 stop) fun r s4 zz=>?_;obtain⟨hr,I4⟩:=zz;subst hr;obtain⟨m,hn,_⟩:=I4.loc;exact⟨H3,rfl,FN I hf I4,⟨m,hn⟩,I.Bg (Nat.le_refl _) I4.free,qn⟩
    · refine cY (T.item (b_ X sc N s.heap.objs.size s H fp (X.pn++p_)) rfl rfl rfl hc i [] s3 σ3 H3 Ue I3 (stat Zq) st3 go) fun r s4 zz=>?_;obtain⟨u,hr,h4⟩:=zz;subst hr;refine cY h4 fun _ s5 zz=>?_;obtain⟨x,H5,I5,r5,y5,Tf,fr5⟩:=zz;have I5':=I5.pinned (stat fr5) (T.obj _ _ Tf);refine cY (hg _ _ _ _ _ _ s5 σ3 H5 x u _ I5' r5 (step x H5 y5)) fun _ s6 zz=>?_;obtain⟨σ6,H6,I6,q6⟩:=zz;refine cY (ht _ _ _ _ _ _ s6 σ6 H6 _ I6 q6) fun b s7 zz=>?_;obtain⟨H7,I7,q7⟩:=zz;have again:∀{σ8:St} {H8:Hp} {s8:Shared},Inv (b_ X sc N s.heap.objs.size s H fp (X.pn++p_)) ([]++yh fp s5.heap) σ8 H8 s8→N' σ8 H8→
          ∃m,m<n∧∃i σ' H',Inv (b_ X sc N s.heap.objs.size s H fp (X.pn++p_)) [] σ' H' s8∧tn i s8.heap∧(∀b∈fp,H' b=none)∧iH i m σ' H':=fun {σ8 H8 s8} I8 n8=>by
        obtain⟨m',hm,w8⟩:=hN σ8 H8 n8;refine⟨m',hm,i+1,σ8,H8,I8.tK,T.keep _ _ _ Tf fun b hb o e=>(I8.pin (b,o) (List.mem_append_right _ (List.mem_append_right _ (j9 hb e)))).1,fun b hb=>?_,w8⟩;obtain⟨o,e,d⟩:=T.obj _ _ Tf b hb;exact(I8.pin (b,o) (List.mem_append_right _ (List.mem_append_right _ (j9 hb e)))).2.1
      cases b with
      | false=>
        rw[if_neg Bool.false_ne_true] at q7 ⊢;exact again I7 q7
      | true=>
        rw[if_pos rfl] at q7 ⊢;refine cY (he _ _ _ _ _ _ s7 σ6 H7 _ I7 q7) fun v s8 zz=>?_;obtain⟨y,H8,I8,r8,ys,hD,hz,n8⟩:=zz;refine cY (yr (X:=b_ X sc N s.heap.objs.size s H fp (X.pn++p_)) _ s8 σ6 H8 (.ref D) [y] (.ref D) [v] (fun _ H9=>N' σ6 H9) I8 rfl (.cons r8 .nil) ⟨D,ys,y,rfl,rfl,hD,hz,n8⟩) fun _ s9 zz=>?_;obtain⟨_,H9,I9,_,n9⟩:=zz;exact again I9 n9
  exact codeAny_compStart_list loop (T.self X.A 0 _ _ _ st0 loop)
variable {elt tg iter:Expr} {ifs:List Expr} {pos:Pos} {wi:TI} {g:TG} {tt:TT} {te:TE}
theorem aR.locs (S:aR ps sc pN own caps N):∀x∈sc.names,x.2 = .local→sc.names.lookup x.1=some .local:=fun x hx e=>by rw[← e];exact S.uniq x hx
theorem cg (hps:X.env.scope=ps) (hpN:X.N=pN) (S:aR ps sc pN own caps N) (hc:X.calm=true) (hi:PI X tg iter wi)
    (hg:∀C s H fp pn,PG (b_ X sc N C s H fp pn) tg g) (ht:∀C s H fp pn,PTs (b_ X sc N C s H fp pn) ifs tt) (he:∀C s H fp pn,PE (b_ X sc N C s H fp pn) elt te)
    (hs:∀x,foldedSetIterable iter X.env x=pure x:=by intro _;rfl):PE X (.ListComp elt [⟨tg,iter,ifs,0⟩] sc pos) (Pg own caps wi g tt te):=by
  intro p_ s σ H Q I h;rw[eval_ListComp];refine wpAny_comprehension_free (use:=none) rfl hs (lY (S.cells hps I.ok)) S.kind S.locs (cY (hi p_ s σ H _ I h) fun v s1 h1=>cY h1 fun itv s2 h2=>?_);obtain⟨it,fp,tn,J,H2,e,I2,T,st2,f2,q⟩:=h2;subst e;have fr:H2 s2.heap.objs.size=none:=I2.fresh;refine wpAny_newObj_type ?_;have I3:Inv X p_ σ (upd H2 s2.heap.objs.size (.lst [])) {s2 with heap:=s2.heap.push {cls:=.type "list",data:=.seq ([]:List Value).toArray},toks:=s2.toks}:=I2.T7 (its:=[]) (ys:=[]) .nil (Nat.zero_le _);have f3:∀b∈fp,j8 X p_ (upd H2 s2.heap.objs.size (.lst [])) b:=fun b hb=>by
    obtain⟨o,e,_⟩:=T.obj 0 _ st2 b hb;exact⟨by rw[aG (Nat.ne_of_lt (Heap.lt_size e))];exact(f2 b hb).1,(f2 b hb).2⟩
  refine cY (Bl (iter:=iter) (pos:=pos) I3 hps hpN S T (T.keep 0 _ _ st2 fun b _ o e=>Heap.get?_push_of_some _ e) f3 hc hg ht he (q _ fr)) fun cenv s4 h4=>?_;refine codeAny_mono h4 fun r s5 ⟨H5,hr,I5,⟨m,hn⟩,f5,q5⟩=>?_;subst hr;refine⟨m,hn,fun h' hs'=>?_⟩;have I6:Inv X p_ σ H5 {s5 with heap:=h',toks:=s5.toks}:=I5.turned (it:=cenv.locals) (fun b o hb e=>(hs'.2 b hb).trans e) f5.1 f5.2.1 f5.2.2.2.1 f5.2.2.2.2.1 f5.2.2.2.2.2;exact⟨.ref s2.heap.objs.size,H5,I6,rfl,q5⟩
theorem jt {i:Nat} {y:Str} {py spos:Pos} (hN:X.N.Nodup) (hy:X.N[i]? = some y) (hl:X.env.scope.names.lookup y=some .local) (hps:X.env.scope=ps) (hpN:X.N=pN) (S:aR ps sc pN own caps N) (hc:X.calm=true) (hi:PI X tg iter wi)
    (hg:∀C s H fp pn,PG (b_ X sc N C s H fp pn) tg g) (ht:∀C s H fp pn,PTs (b_ X sc N C s H fp pn) ifs tt) (he:∀C s H fp pn,PE (b_ X sc N C s H fp pn) elt te)
    (hsw:swapsWith (.ListComp elt [⟨tg,iter,ifs,0⟩] sc pos) (some (.Name y py)) spos.line X.env=pure true:=by rfl)
    (hs:∀x,foldedSetIterable iter X.env x=pure x:=by intro _;rfl):PS X (.Assign [.Name y py] (.ListComp elt [⟨tg,iter,ifs,0⟩] sc pos) spos) (QF (Pg own caps wi g tt te) (Fo i)):=by
  intro p_ s σ H D0 I h;rw[exec_Assign_Name_used _ _ _ _ hsw];refine wpAny_bind (wpAny_standAt (wpAny_bind ?_));show wpAny _ X.A (do let _ ← comprehension (.ListComp elt [⟨tg,iter,ifs,0⟩] sc pos) sc X.env _ (newList []) false (eval iter X.env) (some (assign (.Name y py) X.env))) _ _ s
  refine wpAny_bind (wpAny_mono (wpAny_comprehension_free (use:=some (assign (.Name y py) X.env)) (Q:=fun _ s'=>SP X p_ D0 .next s') rfl hs (lY (S.cells hps I.ok)) S.kind S.locs
    (cY (hi p_ s σ H _ I h) fun v s1 h1=>cY h1 fun itv s2 h2=>?_)) (fun _ s' hq=>wpAny_pure (wpAny_pure hq)) fun _ _ e=>e)
  obtain⟨it,fp,tn,J,H2,e,I2,T,st2,f2,q⟩:=h2;subst e;have fr:H2 s2.heap.objs.size=none:=I2.fresh;refine wpAny_newObj_type ?_;have I3:Inv X p_ σ (upd H2 s2.heap.objs.size (.lst [])) {s2 with heap:=s2.heap.push {cls:=.type "list",data:=.seq ([]:List Value).toArray},toks:=s2.toks}:=I2.T7 (its:=[]) (ys:=[]) .nil (Nat.zero_le _);have f3:∀b∈fp,j8 X p_ (upd H2 s2.heap.objs.size (.lst [])) b:=fun b hb=>by
    obtain⟨o,e,_⟩:=T.obj 0 _ st2 b hb;exact⟨by rw[aG (Nat.ne_of_lt (Heap.lt_size e))];exact(f2 b hb).1,(f2 b hb).2⟩
  refine cY (Bl (iter:=iter) (pos:=pos) I3 hps hpN S T (T.keep 0 _ _ st2 fun b _ o e=>Heap.get?_push_of_some _ e) f3 hc hg ht he (q _ fr)) fun cenv s4 h4=>?_;refine codeAny_mono h4 fun r s5 ⟨H5,hr,I5,⟨m,hn⟩,f5,q5⟩=>?_;subst hr;show wpAny _ X.A (assign (.Name y py) X.env (.ref s2.heap.objs.size)) _ _ _;refine wpAny_assign_Name (uJ I5 hN hy (.inl hl) (v:=.ref s2.heap.objs.size) rfl (fun s6 I6 hsb=>?_) (.inr hl));obtain⟨a,sb,ha⟩:=hsb;have hne:cenv.locals≠a:=by
    rcases ha with z | z
    ·rw[z];exact f5.2.1
    ·exact fun e=>f5.2.2.2.2.1 y a z e.symm
  refine⟨m,hn.sameBut sb hne,fun h' hs'=>?_⟩;have I7:Inv X p_ (σ.set i (some (.ref s2.heap.objs.size))) H5 {s6 with heap:=h',toks:=s6.toks}:=I6.turned (it:=cenv.locals) (fun b o hb e=>(hs'.2 b hb).trans e) f5.1 f5.2.1 f5.2.2.2.1 f5.2.2.2.2.1 f5.2.2.2.2.2;exact⟨_,H5,I7,q5⟩
end
section
variable {X:Cx} {p_:List (Addr×Obj)} {σ:St} {H:Hp} {s:Shared} {h':Heap}
theorem Inv.Ac {t':Nat} {ch:List Addr} (I:Inv X p_ σ H s) (k:∀b o,b∉ch→s.heap.get? b=some o→h'.get? b=some o) (hf:∀b∈ch,j8 X p_ H b):Inv X p_ σ H {s with heap:=h',toks:=t'}:=by
  refine I.step (g':=s.gens) (d':=s.drawn) (ch:=ch) (fun b hb=>⟨(hf b hb).2.2.2.1,(hf b hb).2.1,(hf b hb).2.2.2.2.1,(hf b hb).2.2.2.2.2⟩) (fun b o _ _ hc e _=>k b o hc e) (fun b o _ _ hc e _=>⟨o.slots,k b o hc e⟩) (fun _ _ _ _ n=>n)
    (fun b o hc e=>⟨o,k b o hc e⟩) (fun _ _ e=>e) (fun _ _ _ e=>e) (fun b ps e=>⟨#[],by rw[e];simp⟩) (fun m hm=>?_) (fun b u e=>?_) I.bare
  ·obtain⟨o,es,ep,ho,r⟩:=hm;exact⟨o,es,ep,k _ o (fun z=>(hf _ z).2.1 rfl) ho,r⟩
  · refine(I.hok b u e).stay (fun c v hc q=>k c v (fun z=>?_) q) (fun _ q=>q) fun _ _ q=>q;have hn:=(hf c z).1
    rcases hc with y | y
    ·rw[y,e] at hn;cases hn
    ·rw[y] at hn;cases hn
end
def Its (x:Str):It:=⟨fun i _=>i<x.cps.size,fun i H v H'=>H'=H∧∃c,x.cps[i]? = some c∧v = .str ⟨#[c]⟩,fun i _=>x.cps.size≤i⟩
theorem Ug {P:Program} {w:World} {K:W.Frag} {tg:Expr} (x:Str) (t:Tok) (it:Addr):Turn P w K tg (Its x) [it] it (fun i h=>h.IsStrIter it (strIterType x) x t i) where
  mem:=by simp
  obj:=fun i h st b hb=>by
    have e:b=it:=by simpa using hb
    subst e;obtain⟨o,e,c,d⟩:=st;exact⟨o,e,fun v z=>by rw[d] at z;cases z⟩
  keep:=fun i h h' st k=>by
    obtain⟨o,e,c,d⟩:=st;exact⟨o,k it (by simp) o e,c,d⟩
  item:=by
    intro X hP hw hK hc i p_ s σ H E I hf st hg;subst hP hw hK;obtain⟨f0,f1,f2,f3,f4,f5⟩:=hf it (by simp);have hx:x.cps[i]? = some (x.cps[i]'hg):=Array.getElem?_eq_getElem hg;have fin:∀h',h'.IsStrIter it (strIterType x) x t (i+1)→Heap.SameBut it s.heap h'→∃u,(some (Value.str ⟨#[x.cps[i]'hg]⟩ s.toks))=some u∧
        wpAny (model X.prog X.w) X.A (letOwnedTupleGo tg (.ref it) u) (fun _ s2=>∃y H',Inv X p_ σ H' s2∧RelV y u∧(Its x).S9 i H y H'∧s2.heap.IsStrIter it (strIterType x) x t (i+1)∧∀b∈[it],H' b=none) E {s with heap:=h',toks:=s.toks+1}:=fun h' st' sb=>by
      have I1:Inv X p_ σ H {s with heap:=h',toks:=s.toks+1}:=I.turned (fun b o hb e=>(sb.2 b hb).trans e) f0 f1 f3 f4 f5;refine⟨_,rfl,?_⟩;have res:∃y H',Inv X p_ σ H' {s with heap:=h',toks:=s.toks+1}∧RelV y (Value.str ⟨#[x.cps[i]'hg]⟩ s.toks)∧(Its x).S9 i H y H'∧h'.IsStrIter it (strIterType x) x t (i+1)∧∀b∈[it],H' b=none:=
        ⟨.str ⟨#[x.cps[i]'hg]⟩,H,I1,⟨_,rfl⟩,⟨rfl,_,hx,rfl⟩,st',fun b hb=>(hf b hb).1⟩
      unfold letOwnedTupleGo;cases tg <;> exact wpAny_pure res
    by_cases ha:x.cps.all (· < 128)=true
    · have ey:strIterType x = "str_ascii_iterator" :=by unfold strIterType;rw[if_pos ha]
      rw[ey] at st;exact wpAny_pyNext_ascii_item st hx fun h' st' sb=>fin h' (by rw[ey];exact st') sb
    · have ey:strIterType x = "str_iterator" :=by unfold strIterType;rw[if_neg ha]
      rw[ey] at st;exact wpAny_pyNext_wide_item st hx fun h' st' sb=>fin h' (by rw[ey];exact st') sb
  done:=by
    intro X hP hw hK hc i p_ s σ H E I hf st hg;subst hP hw hK;obtain⟨f0,f1,f2,f3,f4,f5⟩:=hf it (by simp);have hx:x.cps[i]? = none:=Array.getElem?_eq_none hg
    by_cases ha:x.cps.all (· < 128)=true
    · have ey:strIterType x = "str_ascii_iterator" :=by unfold strIterType;rw[if_pos ha]
      rw[ey] at st;exact wpAny_pyNext_ascii_end (I.ok.hd hc) st hx fun h' eb=>⟨rfl,I.turned (t':=s.toks) (fun b o hb e=>eb b o hb e) f0 f1 f3 f4 f5⟩
    · have ey:strIterType x = "str_iterator" :=by unfold strIterType;rw[if_neg ha]
      rw[ey] at st;exact wpAny_pyNext_wide_end (I.ok.hd hc) st hx fun h' eb=>⟨rfl,I.turned (t':=s.toks) (fun b o hb e=>eb b o hb e) f0 f1 f3 f4 f5⟩
  self:=fun A i s Q E st h=>by
    by_cases ha:x.cps.all (· < 128)=true
    · have ey:strIterType x = "str_ascii_iterator" :=by unfold strIterType;rw[if_pos ha]
      rw[ey] at st;exact wpAny_pyIter_striter_ascii st h
    · have ey:strIterType x = "str_iterator" :=by unfold strIterType;rw[if_neg ha]
      rw[ey] at st;exact wpAny_pyIter_striter_wide st h
section
variable {X:Cx} {tg:Expr}
def qaQ (tl:TE):TI:=fun σ H R=>tl σ H fun x H1=>∃z,x = .str z∧R (Its z) H1
theorem MN {l:Expr} {tl:TE} (hl:PE X l tl):PI X tg l (qaQ tl):=by
  intro p_ s σ H R I h;refine cY (hl p_ s σ H _ I h) fun v s1 zz=>?_;obtain⟨x,H1,I1,r1,q1⟩:=zz;obtain⟨z,e,q⟩:=q1;subst e;obtain⟨t,rfl⟩:=r1;refine wpAny_pyIter_strU ?_;refine⟨s1.heap.objs.size,[s1.heap.objs.size],_,_,H1,rfl,I1.kept (t':=s1.toks) fun b o e=>Heap.get?_push_of_some _ e,Ug z t _,⟨_,Heap.get?_push_size _ rfl,rfl,rfl⟩,fun b hb=>?_,q⟩;have e:b=s1.heap.objs.size:=by simpa using hb
  subst e;exact I1.Bg (Nat.le_refl _) (I1.hok.fresh (Nat.le_refl _))
end
def R9 (K:W.Frag) (a b:Addr):It:=
  ⟨fun i H=>∃xs ys x y,bA K H a xs∧bA K H b ys∧xs[i]? = some x∧ys[i]? = some y,
   fun i H v H'=>∃t x y,v = .ref t∧H t=none∧H'=upd H t (.tup [x,y])∧(∀xs,bA K H a xs→xs[i]? = some x)∧∀ys,bA K H b ys→ys[i]? = some y,
   fun i H=>∃xs ys,bA K H a xs∧bA K H b ys∧(xs.length≤i∨ys.length≤i)⟩
structure Ph (z TI TO i1 i2 a b:Addr) (i:Nat) (h:Heap):Prop where
  hz:IsZip h z TI TO .none
  hI:IsPair h TI (.ref i1) (.ref i2)
  hO:∃p q,IsPair h TO p q
  h1:h.IsListIter i1 a i
  h2:h.IsListIter i2 b i
theorem bG {h:Heap} {a b:Addr} {o u:Obj} {T U:String} (ha:h.get? a=some o) (hb:h.get? b=some u) (ca:o.cls = .type T) (cb:u.cls = .type U) (hne:T≠U):a≠b:=fun e=>by
  subst e;rw[ha] at hb;cases hb;rw[ca] at cb;injection cb with e2;exact hne e2
theorem Uh {P:Program} {w:World} {K:W.Frag} {es:List Expr} {k:Nat} {pos:Pos} {z TI TO i1 i2 a b:Addr} (n12:i1≠i2) (nT:TI≠TO) :
    Turn P w K (.Tuple es k pos) (R9 K a b) [z,TI,TO,i1,i2] z (Ph z TI TO i1 i2 a b) where
  mem:=by simp
  obj:=fun i h st c hc=>by
    simp only[List.mem_cons,List.not_mem_nil,or_false] at hc
    rcases hc with rfl | rfl | rfl | rfl | rfl
    ·exact⟨_,st.hz,fun v e=>nomatch e⟩
    ·exact⟨_,st.hI,fun v e=>nomatch e⟩
    ·obtain⟨p,q,e⟩:=st.hO;exact⟨_,e,fun v e=>nomatch e⟩
    ·obtain⟨o,e,_,d⟩:=st.h1;exact⟨o,e,fun v y=>by rw[d] at y;cases y⟩
    ·obtain⟨o,e,_,d⟩:=st.h2;exact⟨o,e,fun v y=>by rw[d] at y;cases y⟩
  keep:=fun i h h' st kk=>by
    obtain⟨p,q,e⟩:=st.hO;exact⟨kk z (by simp) _ st.hz,kk TI (by simp) _ st.hI,⟨p,q,kk TO (by simp) _ e⟩,st.h1.at fun o e=>kk i1 (by simp) o e,st.h2.at fun o e=>kk i2 (by simp) o e⟩
  item:=by
    intro X hP hw hK hc i p_ s σ H E I hf st hg;subst hP hw hK;obtain⟨xs,ys,x,y,qa,qb,hx,hy⟩:=hg;obtain⟨its,rv,pl,hz1⟩:=I.list qa;obtain⟨its',rv',Hh,hz2⟩:=I.list qb;obtain⟨u,hu,ru⟩:=rv.get hx;obtain⟨u',hu',ru'⟩:=rv'.get hy;obtain⟨p,q,hTO⟩:=st.hO;obtain⟨oa,ea,ca,_⟩:=id pl.isList;obtain⟨ob,eb,cb,_⟩:=id Hh.isList;obtain⟨o1,e1,c1,_⟩:=id st.h1;obtain⟨o2,e2,c2,_⟩:=id st.h2;have D:ZipApart z TI TO i1 i2 a b:=
      ⟨bG st.hI st.hz rfl rfl (by decide),bG hTO st.hz rfl rfl (by decide),bG e1 st.hz c1 rfl (by decide),bG e2 st.hz c2 rfl (by decide),nT,bG st.hI e1 rfl c1 (by decide),bG st.hI e2 rfl c2 (by decide),
        bG hTO e1 rfl c1 (by decide),bG hTO e2 rfl c2 (by decide),n12,bG ea st.hz ca rfl (by decide),bG ea hTO ca rfl (by decide),bG ea e1 ca c1 (by decide),bG ea e2 ca c2 (by decide),
        bG eb st.hz cb rfl (by decide),bG eb hTO cb rfl (by decide),bG eb e1 cb c1 (by decide),bG eb e2 cb c2 (by decide)⟩
    refine wpAny_pyNext_zip_item D st.hz st.hI hTO st.h1 st.h2 pl.isList Hh.isList (x:=u) (y:=u') (by simpa using hu) (by simpa using hu') fun h' a1 a2 a3 a4 a5 a6 kk=>?_;refine⟨_,rfl,wpAny_letOwnedTupleGo_zip a1 fun h2 b1 sb=>?_⟩;have lt:∀{c o},s.heap.get? c=some o→s.heap.objs.size≠c:=fun e=>Nat.ne_of_gt (Heap.lt_size e);have hn:H s.heap.objs.size=none:=I.hok.fresh (Nat.le_refl _);have kk2:∀c o,c∉[z,TI,TO,i1,i2]→s.heap.get? c=some o→h2.get? c=some o:=fun c o hc e=>by
      simp only[List.mem_cons,List.not_mem_nil,or_false,not_or] at hc;exact(sb.2 c hc.1).trans (kk c o hc.1 hc.2.2.1 hc.2.2.2.1 hc.2.2.2.2 e)
    have I1:Inv X p_ σ H {s with heap:=h2,toks:=s.toks}:=I.Ac kk2 hf;have Ui:IsPair h2 s.heap.objs.size u u':=sb.extBut _ _ (lt st.hz) a5;have I2:Inv X p_ σ (upd H s.heap.objs.size (.tup [x,y])) {s with heap:=h2,toks:=s.toks}:=by
      have hfr:H s.heap.objs.size=none:=hn;refine⟨I1.ok,I1.os,I1.bare,⟨I1.base.keep,I1.base.slot,fun c o e n hx=>?_,I1.base.there,fun c zs e=>?_,fun c o v e=>?_,fun c qs e=>?_⟩,I1.loc,I1.cell,?_,fun v c e=>?_,fun v hv=>?_,?_,I1.len⟩
      · rw[aG (fun e'=>?_)]
        ·exact I1.base.free c o e n hx
        ·exact absurd (Nat.lt_of_lt_of_le (Heap.lt_size e) I.sz) (by rw[e'];exact Nat.lt_irrefl _)
      ·have e':=I1.base.tups c zs e;rw[aG (aN e' hfr)];exact e'
      ·have e':=I1.base.sW c o v e;rw[aG (aN e' hfr)];exact e'
      ·obtain⟨m,e'⟩:=I1.base.sZ c qs e;exact⟨m,by rw[aG (aN e' hfr)];exact e'⟩
      ·rw[aG (Nat.ne_of_lt I.lt)];exact I1.free
      ·obtain⟨w',qc⟩:=I.cell v c e;rw[aG (Nat.ne_of_lt qc.lt)];exact I1.i_ v c e
      ·obtain⟨f1,f2,f3⟩:=I1.pin v hv;refine⟨f1,?_,f3⟩;rw[aG (Nat.ne_of_lt (Heap.lt_size (I.pin v hv).1))];exact f2
      · intro c v e
        by_cases hcs:c=s.heap.objs.size
        ·subst hcs;rw[ao] at e;cases e;exact⟨by show 2≤sizeLine;rw[sizeLine_eq];decide,[u,u'],.cons ru (.cons ru' .nil),⟨_,Ui,rfl,0,rfl⟩⟩
        · rw[aG hcs] at e;refine(I1.hok c v e).stay (fun _ _ _ qq=>qq) (fun d qd=>?_) fun d zs qd=>?_
          ·rw[aG (aN qd hfr)];exact qd
          ·rw[aG (aN qd hfr)];exact qd
    refine⟨.ref s.heap.objs.size,_,I2,rfl,⟨s.heap.objs.size,x,y,rfl,hn,rfl,fun xs' q'=>by rw[I.tE q' qa];exact hx,fun ys' q'=>by rw[I.tE q' qb];exact hy⟩,?_,fun c hcm=>?_⟩
    ·exact⟨b1,sb.extBut _ _ D.TIz (kk _ _ D.TIz D.TITO D.TIi1 D.TIi2 st.hI),⟨_,_,sb.extBut _ _ D.TOz a2⟩,a3.extBut sb.extBut D.i1z,a4.extBut sb.extBut D.i2z⟩
    · have hne:c≠s.heap.objs.size:=by
        simp only[List.mem_cons,List.not_mem_nil,or_false] at hcm
        rcases hcm with rfl | rfl | rfl | rfl | rfl
        ·exact(lt st.hz).symm
        ·exact(lt st.hI).symm
        ·exact(lt hTO).symm
        ·exact(lt e1).symm
        ·exact(lt e2).symm
      rw[aG hne];exact(hf c hcm).1
  done:=by
    intro X hP hw hK hc i p_ s σ H E I hf st hg;subst hP hw hK;obtain⟨xs,ys,qa,qb,hl⟩:=hg;obtain⟨its,rv,pl,hz1⟩:=I.list qa;obtain⟨its',rv',Hh,hz2⟩:=I.list qb;obtain⟨p,q,hTO⟩:=st.hO;obtain⟨oa,ea,ca,_⟩:=id pl.isList;obtain⟨ob,eb,cb,_⟩:=id Hh.isList;obtain⟨o1,e1,c1,_⟩:=id st.h1;obtain⟨o2,e2,c2,_⟩:=id st.h2;have D:ZipApart z TI TO i1 i2 a b:=
      ⟨bG st.hI st.hz rfl rfl (by decide),bG hTO st.hz rfl rfl (by decide),bG e1 st.hz c1 rfl (by decide),bG e2 st.hz c2 rfl (by decide),nT,bG st.hI e1 rfl c1 (by decide),bG st.hI e2 rfl c2 (by decide),
        bG hTO e1 rfl c1 (by decide),bG hTO e2 rfl c2 (by decide),n12,bG ea st.hz ca rfl (by decide),bG ea hTO ca rfl (by decide),bG ea e1 ca c1 (by decide),bG ea e2 ca c2 (by decide),
        bG eb st.hz cb rfl (by decide),bG eb hTO cb rfl (by decide),bG eb e1 cb c1 (by decide),bG eb e2 cb c2 (by decide)⟩
    have l1:=rv.length;have l2:=rv'.length;refine wpAny_pyNext_zip_end (I.ok.hd hc) D st.hz st.hI hTO st.h1 st.h2 pl.isList Hh.isList ?_ fun h' kk=>⟨rfl,I.Ac (t':=s.toks) (fun c o hcm e=>?_) hf⟩
    · rcases hl with hl | hl
      ·exact .inl (by simp;omega)
      ·exact .inr (by simp;omega)
    ·simp only[List.mem_cons,List.not_mem_nil,or_false,not_or] at hcm;exact kk c o hcm.1 hcm.2.2.1 hcm.2.2.2.1 hcm.2.2.2.2 e
  self:=fun _ _ _ _ _ st h=>wpAny_pyIter_zip st.hz h
section
variable {X:Cx}
def X6 (K:W.Frag) (t:TA):TI:=fun σ H R=>t σ H fun vs H1=>∃a b xs ys,vs=[.ref a,.ref b]∧bA K H1 a xs∧bA K H1 b ys∧R (R9 K a b) H1
theorem boot_zip:bootBuiltins "zip" = some (.type "zip"):=by decide+kernel
theorem qaR {es:List Expr} {k:Nat} {pos':Pos} {a b:Expr} {ta:TA} {p pos:Pos} (hg:Gl X "zip") (hm:X.mg "zip" = none) (ha:PA X [a,b] ta)
    (hs:starEach [a,b] X.env=[(false,eval a X.env),(false,eval b X.env)]:=by rfl) (hs2:starEach [b] X.env=[(false,eval b X.env)]:=by rfl) :
    PI X (.Tuple es k pos') (.Call (.Name "zip" p) [a,b] [] pos) (X6 X.K ta):=by
  intro p_ s σ H R I h;refine Call_ (lU I hg hm boot_zip (PyProof.Rows.callWith_type1 (cY (ha pos p_ s σ H _ I h) fun us s1 zz=>?_) (by rw[hs,hs2]) (by rw[hs2];rfl)));obtain⟨vs,H1,I1,r1,q1⟩:=zz;obtain⟨l1,l2,xs,ys,e,qa,qb,q⟩:=q1;subst e;obtain⟨u,v,rfl,r,r'⟩:=r1.two;obtain rfl:u=Value.ref l1:=r;obtain rfl:v=Value.ref l2:=r';obtain⟨its,rv,pl,hz1⟩:=I1.list qa;obtain⟨its',rv',Hh,hz2⟩:=I1.list qb;refine call_zip_2 pl.isList Hh.isList fun h' b1 b2 b3 b4 b5 b6 kk=>?_;refine wpAny_pyIter_zip (s:={s1 with heap:=h'}) b1 ?_;have I2:Inv X p_ σ H1 {s1 with heap:=h'}:=I1.kept (t':=s1.toks) kk;refine⟨s1.heap.objs.size+4,[s1.heap.objs.size+4,s1.heap.objs.size+2,s1.heap.objs.size+3,s1.heap.objs.size,s1.heap.objs.size+1],_,_,H1,rfl,I2,Uh (Nat.ne_of_lt (Nat.lt_succ_self _)) (Nat.ne_of_lt (Nat.lt_succ_self (s1.heap.objs.size+2))),⟨b1,b2,⟨_,_,b3⟩,b4,b5⟩,fun c hc=>?_,q⟩;have hle:s1.heap.objs.size≤c:=by
    simp only[List.mem_cons,List.not_mem_nil,or_false] at hc
    rcases hc with rfl | rfl | rfl | rfl | rfl <;> first | exact Nat.le_add_right _ _ | exact Nat.le_refl _
  exact I1.Bg hle (I1.hok.fresh hle)
end
section
variable {X:Cx} {p_:List (Addr×Obj)} {σ:St} {H:Hp} {s:Shared}
theorem lX.kit {x:V} {u t:Value} (I:Inv X p_ σ H s) (rx:RelV x u) (ty:lX X.K H x t):∃Φ,W.KitX X.K u t Φ∧Φ s.heap∧u≠.builtin "__main__.__loader__#opaque" :=by
  cases ty with
  | non=>cases (show u=Value.none from rx);exact⟨_,W.kitx_none,True.intro,fun z=>nomatch z⟩
  | bl y=>cases (show u=Value.bool y from rx);exact⟨_,W.kitx_bool,True.intro,fun z=>nomatch z⟩
  | int i=>obtain⟨t,q⟩:=(show ∃t,u=Value.int i t from rx);cases q;exact⟨_,W.kitx_int,True.intro,fun z=>nomatch z⟩
  | str y=>obtain⟨t,q⟩:=(show ∃t,u=Value.str y t from rx);cases q;exact⟨_,W.kitx_str,True.intro,fun z=>nomatch z⟩
  | flt y=>obtain⟨t,q⟩:=(show ∃t,u=Value.float y t from rx);cases q;exact⟨_,W.kitx_float,True.intro,fun z=>nomatch z⟩
  | @lst a xs ea=>
    cases (show u=Value.ref a from rx);obtain⟨_,_,n,_,h1⟩:=(show cH X.prog X.w H s.heap a (.lst xs) from I.hok a _ ea);exact⟨_,W.kitx_list,⟨_,h1,rfl⟩,fun z=>nomatch z⟩
  | @jM a ob xs ea=>
    cases (show u=Value.ref a from rx);obtain⟨_,_,_,n,_,h1⟩:=(show cH X.prog X.w H s.heap a (.jM ob (.lst xs)) from I.hok a _ ea);exact⟨_,W.kitx_list,⟨_,h1,rfl⟩,fun z=>nomatch z⟩
  | @tup a xs ea=>
    cases (show u=Value.ref a from rx);obtain⟨_,_,_,p⟩:=(show cH X.prog X.w H s.heap a (.tup xs) from I.hok a _ ea);obtain⟨o,h1,h2,_⟩:=p;exact⟨_,W.kitx_tuple,⟨o,h1,h2⟩,fun z=>nomatch z⟩
  | @dK a kvs ea=>
    cases (show u=Value.ref a from rx);obtain⟨_,_,vs,_,p⟩:=(show cH X.prog X.w H s.heap a (.dK kvs) from I.hok a _ ea);obtain⟨o,es,ep,h1,h2,_⟩:=p;exact⟨_,W.kitx_dict,⟨o,h1,h2.1⟩,fun z=>nomatch z⟩
  | @dT a kvs ea=>
    cases (show u=Value.ref a from rx);obtain⟨_,_,xs,_,o,es,ep,h1,h2,_⟩:=(show cH X.prog X.w H s.heap a (.dT kvs) from I.hok a _ ea);exact⟨_,W.kitx_dict,⟨o,h1,h2.1⟩,fun z=>nomatch z⟩
  | @ins a C dx fs ea cl ha hn htk hm=>
    cases (show u=Value.ref a from rx);obtain⟨mA,O,_⟩:=wL I.hok ea;obtain⟨od,J,_⟩:=O.look;exact⟨_,W.kitx_own (cl.get _) cl.hd ha hn htk hm,J,fun z=>nomatch z⟩
theorem Q8:cu X (.builtin "isinstance") (fun xs H Q=>∃x n t b,xs=[x,.ty n]∧lX X.K H x t∧W.kitOne X.K t (.type n)=some b∧Q (.bl b) H):=by
  intro p_ s σ H xs us Q I r h;obtain⟨x,n,t,b,rfl,ty,e,q⟩:=h;obtain⟨u,v,rfl,rx,rc⟩:=r.two;obtain rfl:v=Value.type n:=rc;exact QX I rx ty e fun tk=>⟨.bl b,H,I.tok tk,rfl,q⟩
theorem Q9:cu X (.builtin "isinstance") (fun xs H Q=>∃x p m n t b,xs=[x,.ref p]∧H p=some (.tup [.ty m,.ty n])∧lX X.K H x t∧W.kitAny X.K t [.type m,.type n]=some b∧Q (.bl b) H):=by
  intro p_ s σ H xs us Q I r h;obtain⟨x,p,m,n,t,b,rfl,hp,ty,e,q⟩:=h;obtain⟨u,v,rfl,rx,rc⟩:=r.two;obtain rfl:v=Value.ref p:=rc;obtain⟨Φ,Z,hΦ,hne⟩:=ty.kit I rx;obtain⟨_,its,rv,o,e1,e2,k,e3⟩:=(show cH X.prog X.w H s.heap p (.tup [.ty m,.ty n]) from I.hok p _ hp);obtain⟨u1,u2,rfl,r1,r2⟩:=rv.two;obtain rfl:u1=Value.type m:=r1;obtain rfl:u2=Value.type n:=r2;obtain⟨c,dd,dt,sl⟩:=o;replace e2:c = .type "tuple" :=e2;replace e3:dt = .seq [Value.type m,Value.type n].toArray k:=e3;subst e2 e3;exact W.kia_tup Z I.vC hΦ e1 e hne fun tk=>⟨.bl b,H,I.tok tk,rfl,q⟩
theorem boot_isinstance:bootBuiltins "isinstance" = some (.builtin "isinstance"):=by decide+kernel
theorem boot_str:bootBuiltins "str" = some (.type "str"):=by decide+kernel
theorem boot_list:bootBuiltins "list" = some (.type "list"):=by decide+kernel
theorem boot_tuple:bootBuiltins "tuple" = some (.type "tuple"):=by decide+kernel
theorem uL:bootBuiltins "int" = some (.type "int"):=by decide+kernel
theorem Bm:bootBuiltins "bool" = some (.type "bool"):=by decide+kernel
theorem eF:bootBuiltins "dict" = some (.type "dict"):=by decide+kernel
theorem uM:bootBuiltins "set" = some (.type "set"):=by decide+kernel
end
mutual
def Is (K:W.Frag) (H:Hp):PyData→V→Prop
  | .none,v=>v = .non
  | .bool b,v=>v = .bl b
  | .int i,v=>v = .int i
  | .str x,v=>v = .str x
  | .list ds,v=>∃a xs,v = .ref a∧bA K H a xs∧qm K H ds xs
  | .tuple ds,v=>∃a xs,v = .ref a∧jK K H a xs∧qm K H ds xs
  | .dict _,_=>False
def qm (K:W.Frag) (H:Hp):List PyData→List V→Prop
  | [],vs=>vs=[]
  | d::ds,vs=>∃v r,vs=v::r∧Is K H d v∧qm K H ds r
end
section
variable {X:Cx} {p_:List (Addr×Obj)} {σ:St} {H:Hp} {s:Shared}
mutual
theorem Is.reads (I:Inv X p_ σ H s):∀(d:PyData) (v:V) (u:Value),Is X.K H d v→RelV v u→∃as,Reads s.heap u d as
  | .none,v,u,h,r=>by
    simp only[Is] at h;subst h;cases r;exact⟨_,.none⟩
  | .bool b,v,u,h,r=>by
    simp only[Is] at h;subst h;cases r;exact⟨_,.bool b⟩
  | .int i,v,u,h,r=>by
    simp only[Is] at h;subst h;obtain⟨t,rfl⟩:=r;exact⟨_,.int i t⟩
  | .str x,v,u,h,r=>by
    simp only[Is] at h;subst h;obtain⟨t,rfl⟩:=r;exact⟨_,.str x t⟩
  | .list ds,v,u,h,r=>by
    simp only[Is] at h;obtain⟨a,xs,rfl,hq,hs⟩:=h;cases r;obtain⟨its,rv,pl,hz⟩:=I.list hq;obtain⟨o,e,c,n,dt⟩:=pl.isList;obtain⟨as,ra⟩:=qm.reads I ds xs its hs rv;exact⟨_,.list e c dt (by simpa using ra)⟩
  | .tuple ds,v,u,h,r=>by
    simp only[Is] at h;obtain⟨a,xs,rfl,hq,hs⟩:=h;cases r;obtain⟨its,rv,pl,hz⟩:=I.tuple hq;obtain⟨o,e,c,n,dt⟩:=pl;obtain⟨as,ra⟩:=qm.reads I ds xs its hs rv;exact⟨_,.tuple e c dt (by simpa using ra)⟩
  | .dict _,v,u,h,r=>by
    simp only[Is] at h
theorem qm.reads (I:Inv X p_ σ H s):∀(ds:List PyData) (vs:List V) (us:List Value),qm X.K H ds vs→Vals vs us→∃as,ReadsAll s.heap us ds as
  | [],vs,us,h,r=>by
    simp only[qm] at h;subst h;cases r;exact⟨_,.nil⟩
  | d::ds,vs,us,h,r=>by
    simp only[qm] at h;obtain⟨v,vr,rfl,h1,h2⟩:=h;cases r with
    | cons r1 r2=>
      obtain⟨as,ra⟩:=Is.reads I d v _ h1 r1;obtain⟨bs,rb⟩:=qm.reads I ds vr _ h2 r2;exact⟨_,.cons ra rb⟩
end
theorem qaS:iZ X (compareOp .Eq) (fun x y H Q=>∃d e,Is X.K H d x∧Is X.K H e y∧d.canLay0=true∧e.canLay0=true∧X.A.units+min d.depth e.depth<cLine∧Q (.bl (PyData.eqv d e)) H):=by
  intro p_ s σ H x y v u Q I rx ry h;obtain⟨d,e,hx,hy,h1,h2,hu,q⟩:=h;obtain⟨as,ra⟩:=hx.reads I d x v rx;obtain⟨bs,rb⟩:=hy.reads I e y u ry;exact SeqAt.compareEq_reads ra rb h1 h2 hu ⟨.bl _,H,I,rfl,q⟩
theorem qaT:iZ X (compareOp .NotEq) (fun x y H Q=>∃d e,Is X.K H d x∧Is X.K H e y∧d.canLay0=true∧e.canLay0=true∧X.A.units+min d.depth e.depth<cLine∧Q (.bl (!PyData.eqv d e)) H):=by
  intro p_ s σ H x y v u Q I rx ry h;obtain⟨d,e,hx,hy,h1,h2,hu,q⟩:=h;obtain⟨as,ra⟩:=hx.reads I d x v rx;obtain⟨bs,rb⟩:=hy.reads I e y u ry;exact SeqAt.compareNe_reads ra rb h1 h2 hu ⟨.bl _,H,I,rfl,q⟩
end
section
variable {X:Cx}
def Hi:V→List V→Hp→VK→Prop:=fun x vs H Q=>∃l xs i y,x = .ref l∧vs=[.int i,y]∧H l=some (.lst xs)∧0≤i∧i≤xs.length∧xs.length<sizeLine∧Q .non (upd H l (.lst (xs.take i.toNat++y::xs.drop i.toNat)))
theorem Vals.ins {y:V} {u:Value} (ru:RelV y u):∀{xs:List V} {us:List Value} (i:Nat),Vals xs us→Vals (xs.take i++y::xs.drop i) (us.take i++u::us.drop i):=fun i r=>(r.take i).append (.cons ru (r.drop i))
theorem Q_:MtM X "list.insert" Hi:=by
  intro p_ s σ H x vs v us Q I rx rv h;obtain⟨l,xs,i,y,rfl,rfl,hH,h0,hi,hz,q⟩:=h;cases rx;obtain⟨u1,u,rfl,⟨t,rfl⟩,ru⟩:=rv.two;obtain⟨z,its,n,r,hl,e⟩:=I.JV hH;have hn:=vO;have hfit:¬(!Builtin.List.listFitsIndex i)=true:=by
    unfold Builtin.List.listFitsIndex;simp;omega
  refine call_meets F.slot_list_insert ⟨_,e,rfl⟩ F.entry_list_insert (F.args_list_insert_3 _ _ _) (PySem.AutoListH.list_insert_list_int_val_1 l its.toArray n i t u hfit (by rw[List.size_toArray];omega)) ⟨e,?_⟩;refine⟨.non,_,I.X4 (its':=its.take i.toNat++u::its.drop i.toNat) hH e ?_ (r.ins ru i.toNat) ?_,rfl,q⟩
  · have hm:min i.toNat its.length=i.toNat:=by omega
    simp only[List.size_toArray];rw[if_neg (by omega),hm];apply Array.toList_inj.mp;simp;exact List.take_of_length_le (by simp)
  ·simp;omega
end
section
variable {X:Cx}
def tO:List V→List Bool→Prop
  | [],bs=>bs=[]
  | x::xs,bs=>∃b r,bs=b::r∧x = .bl b∧tO xs r
theorem tO.get:∀{xs:List V} {bs:List Bool} {its:List Value},tO xs bs→Vals xs its→xs.length=bs.length∧∀(i:Nat) (v:Value),its[i]? = some v→v = .bool (bs.getD i false)
  | [],bs,its,h,r=>by
    cases h;cases r;exact⟨rfl,fun i v e=>by simp at e⟩
  | x::xs,bs,its,h,r=>by
    obtain⟨b,br,rfl,rfl,h⟩:=h;cases r with
    | cons r1 r2=>
      obtain⟨h1,h2⟩:=tO.get h r2;refine⟨by simp[h1],fun i v e=>?_⟩;cases i with
      | zero=>
        simp at e;subst e;exact r1
      | succ i=>
        simp at e;simpa using h2 i v e
theorem range_all (bs:List Bool):(List.range bs.length).all (fun i=>bs.getD i false)=bs.all id:=by
  rw[Bool.eq_iff_iff,List.all_eq_true,List.all_eq_true];constructor
  ·intro h b hb;obtain⟨i,hi,rfl⟩:=List.mem_iff_getElem.mp hb;have:=h i (List.mem_range.mpr hi);simpa [List.getD,hi] using this
  ·intro h i hi;have hi':=List.mem_range.mp hi;have:=h bs[i] (List.getElem_mem hi');simpa [List.getD,hi'] using this
theorem Ra (hc:X.calm=true):cu X (.builtin "all") (fun xs H Q=>∃a ys bs,xs=[.ref a]∧H a=some (.lst ys)∧tO ys bs∧Q (.bl (bs.all id)) H):=by
  intro p_ s σ H xs us Q I r h;obtain⟨a,ys,bs,rfl,ha,hb,q⟩:=h;obtain⟨u,rfl,ru⟩:=r.one;obtain rfl:u=Value.ref a:=ru;obtain⟨z,its,n,rv,hl,e⟩:=I.JV ha;obtain⟨h1,h2⟩:=hb.get rv;have hL:s.heap.IsList a its.toArray:=⟨_,e,rfl,n,rfl⟩;refine call_all_walk ?_;refine wpAny_pyIter_list hL ?_;have hne:a≠s.heap.objs.size:=Nat.ne_of_lt (Heap.lt_size e);have hL2:(s.heap.push {cls:=.type "list_iterator",data:=.fields #[.ref a,.int 0 0]}).IsList a its.toArray:=⟨_,Heap.get?_push_of_some _ e,rfl,n,rfl⟩;refine⟨s.heap.objs.size,_,_,_,_,_,fun i=>bs.getD i false,rfl,Walks.list (by exact I.ok.hd hc) s.heap.objs.size a hne its.toArray,⟨⟨_,Heap.get?_push_size _ rfl,rfl,rfl⟩,hL2⟩,fun i v s' Q' E' hP hQ=>?_,fun h' tk kk=>?_⟩
  ·obtain rfl:=h2 i v (by simpa using hP);exact wpAny_truthy_bool hQ
  · have e2:(List.range its.toArray.size).all (fun i=>bs.getD i false)=bs.all id:=by
      rw[List.size_toArray,← hl,h1];exact range_all bs
    rw[e2];refine⟨.bl _,H,?_,rfl,q⟩;exact I.kept (h':=h') (t':=tk) fun b o eb=>kk b o (by simp;exact Nat.ne_of_lt (Heap.lt_size eb)) (Heap.get?_push_of_some _ eb)
end
def Bo (l:List Key) (k:Key):Bool:=l.any fun x=>decide (x=k)
theorem Bp {l:List Key} {k:Key}:Bo l k=true↔k∈l:=by
  unfold Bo;rw[List.any_eq_true];constructor
  ·rintro⟨x,hx,e⟩;have e':=of_decide_eq_true e;subst e';exact hx
  ·intro h;exact⟨k,h,decide_eq_true rfl⟩
theorem Uj (l:List Key) (x k:Key):Bo (l++[x]) k=(Bo l k || decide (k=x)):=by
  unfold Bo;rw[List.any_append];simp only[List.any_cons,List.any_nil,Bool.or_false];congr 1;exact decide_eq_decide.mpr ⟨fun e=>e.symm,fun e=>e.symm⟩
def tQ (acc:List Key) (k:Key):List Key:=if Bo acc k=true then acc else acc++[k]
def yg (val:Nat→Key) (i:Nat):List Key:=((List.range i).map val).foldl tQ []
theorem qp (val:Nat→Key) (i:Nat):yg val (i+1)=tQ (yg val i) (val i):=by
  unfold yg;rw[List.range_succ,List.map_append,List.foldl_append];rfl
theorem MP (val:Nat→Key):∀i,(yg val i).length≤i
  | 0=>Nat.le_refl _
  | i+1=>by
    rw[qp];have ih:=MP val i;unfold tQ;split
    ·omega
    ·rw[List.length_append,List.length_singleton];omega
theorem M4 (val:Nat→Key):∀n,(∀i j,i<n→j<n→val i=val j→i=j)→(yg val n).length=n∧∀k,k∈yg val n→∃i,i<n∧val i=k
  | 0,_=>⟨rfl,fun k h=>by simp[yg] at h⟩
  | n+1,h=>by
    obtain⟨h1,h2⟩:=M4 val n fun i j hi hj=>h i j (by omega) (by omega);have hnot:¬Bo (yg val n) (val n)=true:=fun hm=>by
      obtain⟨i,hi,e⟩:=h2 _ (Bp.mp hm);have:=h i n (by omega) (by omega) e;omega
    rw[qp];unfold tQ;rw[if_neg hnot];refine⟨by simp[h1],fun k hk=>?_⟩
    rcases List.mem_append.mp hk with z | z
    ·obtain⟨i,hi,e⟩:=h2 k z;exact⟨i,by omega,e⟩
    ·exact⟨n,by omega,(List.mem_singleton.mp z).symm⟩
theorem X7 {k:Key} {v:Value} (h:sG k v=true):v.scannable=true:=by
  rcases cG h with⟨i,t,rfl,rfl⟩ | ⟨x,t,rfl,rfl⟩ <;> rfl
theorem JZ {P:Program} {w:World} {h:Heap} {a:Addr} {S S':Key→Bool} {n n':Nat} (x:h.SetOf (bh P w) a S n) (e:∀k,S k=S' k) (en:n=n'):h.SetOf (bh P w) a S' n':=by
  have:S=S':=funext e;subst this;subst en;exact x
abbrev oK (P:Program) (w:World) (h:Heap) (a:Addr) (l:List Key):Prop:=h.SetOf (bh P w) a (Bo l) l.length
theorem oK.at {P:Program} {w:World} {h h':Heap} {a:Addr} {l:List Key} (x:oK P w h a l) (k:∀o,h.get? a=some o→h'.get? a=some o):oK P w h' a l:=by
  obtain⟨o,es,ep,t,e,r⟩:=x;exact⟨o,es,ep,t,k o e,r⟩
theorem FP {P:Program} {w:World} {h:Heap} {a:Addr} {led:Bool} (e:h.get? a=some {cls:=.type "set",dict:=none,data:=.set #[] 0 (.fresh 0 0 led)}):oK P w h a []:=
  ⟨_,#[],0,.fresh 0 0 led,e,⟨rfl,rfl,rfl⟩,rfl,(fun x hx=>by simp at hx),(fun k=>by simp[Bo]),(by unfold scanBound;decide),(by cases led <;> rfl),rfl⟩
section
variable {P:Program} {w:World} {A:Around} {R:Result→Shared→Prop} {I:Addr} {fp wr:List Addr} {n:Nat} {PP:Nat→Value→Prop} {St:Nat→Heap→Prop}
theorem J0 (iH:Walks P w A.in1 I fp wr n PP St) (S:Addr) (hSf:S∉fp) (val:Nat→Key) (hval:∀i v,PP i v→sG (val i) v=true) (hb:n+1<scanBound) :
    ∀(k i:Nat) (s:Shared),n - i=k→i≤n→St i s.heap→oK P w s.heap S (yg val i)→
      (∀h' tk,(∀b o,b≠S→b∉wr→s.heap.get? b=some o→h'.get? b=some o)→oK P w h' S (yg val n)→R (.ok (.ret .none)) {s with heap:=h',toks:=tk})→
      codeAny (model P w) A (.builtin "set.update.loop" ⟨[.ref S,.ref I],[]⟩) R s:=by
  have hSw:S∉wr:=fun h=>hSf (iH.sub _ h);intro k
  induction k with
  | zero=>
    intro i s hk hi hst hS hR;obtain rfl:i=n:=by omega
    refine codeAny_builtin PyProof.Rows.F.entry_set_update_loop ?_;rw[Around.under_plainId PyProof.Rows.F.plain_set_update_loop _];show wpAny _ A.in1 (pyNext (.ref I) >>= _) _ _ s;refine wpAny_bind (iH.done s _ _ hst fun h' tk hm=>?_);exact wpAny_pure (hR h' tk (fun b o _ hb e=>hm b o hb e) (hS.at fun o e=>hm S o hSw e))
  | succ k ih=>
    intro i s hk hi hst hS hR;have hlt:i<n:=by omega
    refine codeAny_builtin PyProof.Rows.F.entry_set_update_loop ?_;rw[Around.under_plainId PyProof.Rows.F.plain_set_update_loop _];show wpAny _ A.in1 (pyNext (.ref I) >>= _) _ _ s;refine wpAny_bind (iH.item i s _ _ hlt hst fun v h' tk hP hst' hm=>?_);have hkey:(bh P w).is (val i) v=true:=hval i v hP;have hS':oK P w h' S (yg val i):=hS.at fun o e=>hm S o hSw e;show wpAny _ A.in1 (holding [v] (setAdd S v) >>= _) _ _ _;refine wpAny_bind (wpAny_holding ?_);unfold setAdd;refine wpAny_holding (wpAny_bind ((bh P w).pyHash (k:=val i) hkey ?_));have hroom:(yg val i).length+1<scanBound:=by have:=MP val i;omega
    refine wpAny_setAddHashed_of (knd:=bh P w) (s:={s with heap:=h',toks:=tk+1}) hkey (X7 (hval i v hP)) hS' hroom fun h2 hsb hS2=>?_;have hSi:oK P w h2 S (yg val (i+1)):=by
      refine JZ hS2 (fun k'=>?_) ?_
      · rw[qp];unfold tQ;split
        · rename_i hm1
          by_cases e:k'=val i
          ·rw[e,hm1];rfl
          ·rw[decide_eq_false e,Bool.or_false]
        ·exact(Uj _ _ _).symm
      · rw[qp];unfold tQ;split
        ·rfl
        ·rw[List.length_append,List.length_singleton]
    refine wpAny_pure ⟨plainId_quiet PyProof.Rows.F.plain_set_update_loop _,ih (i+1) _ (by omega) hlt (iH.frame _ h' _ hst' fun b hb o e=>?_) hSi fun h3 tk3 hm3 hS3=>?_⟩
    ·exact(hsb.2 b (fun z:b=S=>hSf (by rw[← z];exact hb))).trans e
    ·refine hR h3 tk3 (fun b o hbS hbw e=>hm3 b o hbS hbw ?_) hS3;exact(hsb.2 b hbS).trans (hm b o hbw e)
end
theorem Ec:isSubtype (.type "list") (.type "set")=pure false:=by rw[isSubtype_type];kernel_rfl
theorem yu:isSubtype (.type "list") (.type "frozenset")=pure false:=by rw[isSubtype_type];kernel_rfl
set_option maxHeartbeats 4000000 in
theorem J1 {P:Program} {w:World} {A:Around} {E:Value→Shared→Prop} {s:Shared} {l:Addr} {its:Array Value} {val:Nat→Key} {Q:Value→Shared→Prop}
    (hh:A.handled=none) (hl:s.heap.IsList l its) (hval:∀i v,its[i]? = some v→sG (val i) v=true) (hb:its.size+1<scanBound)
    (h:∀(g:Heap) (tk:Nat),oK P w g s.heap.objs.size (yg val its.size)→(∀b o,s.heap.get? b=some o→g.get? b=some o)→Q (.ref s.heap.objs.size) {s with heap:=g,toks:=tk}) :
    wpAny (model P w) A (call (.type "set") [.ref l]) Q E s:=by
  obtain⟨c,tl,hmro⟩:=PySem.F.called_set.mro;have q1:=PySem.F.called_set.made;have q2:=PySem.F.called_set.sub;refine wpAny_call (codeAny_of_tree ?_);show wpAny _ _ (callAny (.type "set") _) _ _ s;refine wpAny_pure ⟨Code.quiet_builtin _ (by decide+kernel),codeAny_builtin PySem.F.entry_type_call ?_⟩;rw[Around.under_plain (weight_type_call_type "set" [.ref l] []) rfl];have q3:=PySem.F.called_set.notType;have q4:=PySem.F.called_set.canCreate;have q5:=PySem.F.typeCall_set_1 (.ref l)
  repeat (any_goals (first | assumption | wp_step))
  refine codeAny_mono (code_set_new_1 (.ref l) (E:=E) (Q₁:=fun ob s1=>∃led:Bool,ob = .ref s.heap.objs.size∧s1={s with heap:=s.heap.push {cls:=.type "set",dict:=none,data:=.set #[] 0 (.fresh 0 0 led)}}) fun led=>⟨led,rfl,rfl⟩) fun r s1 hr=>?_;cases r with
  | error e=>exact hr
  | ok fl=>
    cases fl with
    | ret ob=>
      obtain⟨led,rfl,rfl⟩:=hr;have new:(s.heap.push {cls:=.type "set",dict:=none,data:=.set #[] 0 (.fresh 0 0 led)}).get? s.heap.objs.size=some {cls:=.type "set",dict:=none,data:=.set #[] 0 (.fresh 0 0 led)}:=Heap.get?_push_size _ rfl;have ty:Shared.TypeIs {s with heap:=s.heap.push {cls:=.type "set",dict:=none,data:=.set #[] 0 (.fresh 0 0 led)}} (.ref s.heap.objs.size) "set" :=⟨_,new,rfl⟩;have q6:=PySem.F.called_set.init.lookup;have q7:=PySem.F.called_set.init.bind (.ref s.heap.objs.size)
      repeat (any_goals (first | assumption | wp_step))
      refine codeAny_mono (codeAny_call_builtin (R:=wants (fun r s2=>r = .none∧∃g tk,s2={s with heap:=g,toks:=tk}∧oK P w g s.heap.objs.size (yg val its.size)∧(∀b o,s.heap.get? b=some o→g.get? b=some o)) E)
        PySem.F.called_set.init.plain PySem.F.entry_set_init (check_set_init_1 ty ?_)) fun r2 s2 hr2=>?_
      · obtain⟨ol,ho,hcl,nl,hdl⟩:=hl;obtain⟨oc,od,odt,osl⟩:=ol;simp only at hcl hdl;subst hcl;subst hdl;have ho2:(s.heap.push {cls:=.type "set",dict:=none,data:=.set #[] 0 (.fresh 0 0 led)}).get? l=some {cls:=.type "list",dict:=od,data:=.seq its nl,slots:=osl}:=Heap.get?_push_of_some _ ho;have q8:=Ec;have q9:=yu;have q10:(Value.type "list" == Value.type "dict")=false:=by decide
        have hl1:(s.heap.push {cls:=.type "set",dict:=none,data:=.set #[] 0 (.fresh 0 0 led)}).IsList l its:=⟨_,ho2,rfl,nl,rfl⟩;unfold Builtin.«set.__init__» noKeywords Builtin.Frozenset.updateFrom;generalize hPI:pyIter=PI
        wp_walk
        subst hPI;refine wpAny_pyIter_list hl1 ?_;refine wpAny_bind (wpAny_runValue ?_);have Rb:l<s.heap.objs.size:=Heap.lt_size ho;have hh3:A.in1.in1.in1.handled=none:=by simp[hh]
        have ne1:l≠(s.heap.push {cls:=.type "set",dict:=none,data:=.set #[] 0 (.fresh 0 0 led)}).objs.size:=by
          rw[Heap.size_push];exact Nat.ne_of_lt (Nat.lt_succ_of_lt Rb)
        have nf:s.heap.objs.size∉[(s.heap.push {cls:=.type "set",dict:=none,data:=.set #[] 0 (.fresh 0 0 led)}).objs.size,l]:=by
          rw[Heap.size_push];simp only[List.mem_cons,List.mem_singleton,List.not_mem_nil,or_false,not_or];exact⟨Nat.ne_of_lt (Nat.lt_succ_self _),Nat.ne_of_gt Rb⟩
        refine J0 (Walks.list hh3 _ l ne1 its) s.heap.objs.size nf val hval hb (its.size - 0) 0 _ (by omega) (Nat.zero_le _) ⟨⟨_,Heap.get?_push_size _ rfl,rfl,rfl⟩,hl1.push _⟩ ?hS0 ?hR
        case hS0=>
          have hget:((s.heap.push {cls:=.type "set",dict:=none,data:=.set #[] 0 (.fresh 0 0 led)}).push {cls:=.type "list_iterator",data:=.fields #[.ref l,.int 0 0]}).get? s.heap.objs.size
              = some {cls:=.type "set",dict:=none,data:=.set #[] 0 (.fresh 0 0 led)}:=Heap.get?_push_of_some _ new
          exact FP hget
        case hR=>
          intro g tk hm hS;show wpAny _ _ _ _ _ _;refine wpAny_pure ?_;show wpAny _ _ (ret Value.none) _ _ _;refine wpAny_pure ⟨rfl,g,tk,rfl,hS,fun b o e=>?_⟩;have lb:b<s.heap.objs.size:=Heap.lt_size e;refine hm b o (Nat.ne_of_lt lb) ?_ (Heap.get?_push_of_some _ (Heap.get?_push_of_some _ e));simp only[List.mem_cons,List.not_mem_nil,or_false];rw[Heap.size_push];exact Nat.ne_of_lt (Nat.lt_succ_of_lt lb)
      · cases r2 with
        | error e=>exact hr2
        | ok fl2=>
          cases fl2 with
          | ret r=>
            obtain⟨rfl,g,tk,rfl,hS,hk⟩:=hr2
            repeat (any_goals (first | assumption | wp_step))
            exact h _ _ hS hk
          | _=>exact hr2.elim
    | _=>exact hr.elim
theorem Bq:isSubtype (.type "tuple") (.type "set")=pure false:=by rw[isSubtype_type];kernel_rfl
theorem wR:isSubtype (.type "tuple") (.type "frozenset")=pure false:=by rw[isSubtype_type];kernel_rfl
set_option maxHeartbeats 4000000 in
theorem Hj {P:Program} {w:World} {A:Around} {E:Value→Shared→Prop} {s:Shared} {l:Addr} {its:Array Value} {val:Nat→Key} {Q:Value→Shared→Prop}
    (hh:A.handled=none) (hl:s.heap.IsTuple l its) (hval:∀i v,its[i]? = some v→sG (val i) v=true) (hb:its.size+1<scanBound)
    (h:∀(g:Heap) (tk:Nat),oK P w g s.heap.objs.size (yg val its.size)→(∀b o,s.heap.get? b=some o→g.get? b=some o)→Q (.ref s.heap.objs.size) {s with heap:=g,toks:=tk}) :
    wpAny (model P w) A (call (.type "set") [.ref l]) Q E s:=by
  obtain⟨c,tl,hmro⟩:=PySem.F.called_set.mro;have q1:=PySem.F.called_set.made;have q2:=PySem.F.called_set.sub;refine wpAny_call (codeAny_of_tree ?_);show wpAny _ _ (callAny (.type "set") _) _ _ s;refine wpAny_pure ⟨Code.quiet_builtin _ (by decide+kernel),codeAny_builtin PySem.F.entry_type_call ?_⟩;rw[Around.under_plain (weight_type_call_type "set" [.ref l] []) rfl];have q3:=PySem.F.called_set.notType;have q4:=PySem.F.called_set.canCreate;have q5:=PySem.F.typeCall_set_1 (.ref l)
  repeat (any_goals (first | assumption | wp_step))
  refine codeAny_mono (code_set_new_1 (.ref l) (E:=E) (Q₁:=fun ob s1=>∃led:Bool,ob = .ref s.heap.objs.size∧s1={s with heap:=s.heap.push {cls:=.type "set",dict:=none,data:=.set #[] 0 (.fresh 0 0 led)}}) fun led=>⟨led,rfl,rfl⟩) fun r s1 hr=>?_;cases r with
  | error e=>exact hr
  | ok fl=>
    cases fl with
    | ret ob=>
      obtain⟨led,rfl,rfl⟩:=hr;have new:(s.heap.push {cls:=.type "set",dict:=none,data:=.set #[] 0 (.fresh 0 0 led)}).get? s.heap.objs.size=some {cls:=.type "set",dict:=none,data:=.set #[] 0 (.fresh 0 0 led)}:=Heap.get?_push_size _ rfl;have ty:Shared.TypeIs {s with heap:=s.heap.push {cls:=.type "set",dict:=none,data:=.set #[] 0 (.fresh 0 0 led)}} (.ref s.heap.objs.size) "set" :=⟨_,new,rfl⟩;have q6:=PySem.F.called_set.init.lookup;have q7:=PySem.F.called_set.init.bind (.ref s.heap.objs.size)
      repeat (any_goals (first | assumption | wp_step))
      refine codeAny_mono (codeAny_call_builtin (R:=wants (fun r s2=>r = .none∧∃g tk,s2={s with heap:=g,toks:=tk}∧oK P w g s.heap.objs.size (yg val its.size)∧(∀b o,s.heap.get? b=some o→g.get? b=some o)) E)
        PySem.F.called_set.init.plain PySem.F.entry_set_init (check_set_init_1 ty ?_)) fun r2 s2 hr2=>?_
      · obtain⟨ol,ho,hcl,nl,hdl⟩:=hl;obtain⟨oc,od,odt,osl⟩:=ol;simp only at hcl hdl;subst hcl;subst hdl;have ho2:(s.heap.push {cls:=.type "set",dict:=none,data:=.set #[] 0 (.fresh 0 0 led)}).get? l=some {cls:=.type "tuple",dict:=od,data:=.seq its nl,slots:=osl}:=Heap.get?_push_of_some _ ho;have q8:=Bq;have q9:=wR;have q10:(Value.type "tuple" == Value.type "dict")=false:=by decide
        have hl1:(s.heap.push {cls:=.type "set",dict:=none,data:=.set #[] 0 (.fresh 0 0 led)}).IsTuple l its:=⟨_,ho2,rfl,nl,rfl⟩;unfold Builtin.«set.__init__» noKeywords Builtin.Frozenset.updateFrom;generalize hPI:pyIter=PI
        wp_walk
        subst hPI;refine wpAny_pyIter_tuple hl1 ?_;refine wpAny_bind (wpAny_runValue ?_);have Rb:l<s.heap.objs.size:=Heap.lt_size ho;have hh3:A.in1.in1.in1.handled=none:=by simp[hh]
        have ne1:l≠(s.heap.push {cls:=.type "set",dict:=none,data:=.set #[] 0 (.fresh 0 0 led)}).objs.size:=by
          rw[Heap.size_push];exact Nat.ne_of_lt (Nat.lt_succ_of_lt Rb)
        have nf:s.heap.objs.size∉[(s.heap.push {cls:=.type "set",dict:=none,data:=.set #[] 0 (.fresh 0 0 led)}).objs.size,l]:=by
          rw[Heap.size_push];simp only[List.mem_cons,List.mem_singleton,List.not_mem_nil,or_false,not_or];exact⟨Nat.ne_of_lt (Nat.lt_succ_self _),Nat.ne_of_gt Rb⟩
        refine J0 (Walks.tuple hh3 _ l ne1 its) s.heap.objs.size nf val hval hb (its.size - 0) 0 _ (by omega) (Nat.zero_le _) ⟨⟨_,Heap.get?_push_size _ rfl,rfl,rfl⟩,⟨_,Heap.get?_push_of_some _ ho2,rfl,nl,rfl⟩⟩ ?hS0 ?hR
        case hS0=>
          have hget:((s.heap.push {cls:=.type "set",dict:=none,data:=.set #[] 0 (.fresh 0 0 led)}).push {cls:=.type "tuple_iterator",data:=.fields #[.ref l,.int 0 0]}).get? s.heap.objs.size
              = some {cls:=.type "set",dict:=none,data:=.set #[] 0 (.fresh 0 0 led)}:=Heap.get?_push_of_some _ new
          exact FP hget
        case hR=>
          intro g tk hm hS;show wpAny _ _ _ _ _ _;refine wpAny_pure ?_;show wpAny _ _ (ret Value.none) _ _ _;refine wpAny_pure ⟨rfl,g,tk,rfl,hS,fun b o e=>?_⟩;have lb:b<s.heap.objs.size:=Heap.lt_size e;refine hm b o (Nat.ne_of_lt lb) ?_ (Heap.get?_push_of_some _ (Heap.get?_push_of_some _ e));simp only[List.mem_cons,List.not_mem_nil,or_false];rw[Heap.size_push];exact Nat.ne_of_lt (Nat.lt_succ_of_lt lb)
      · cases r2 with
        | error e=>exact hr2
        | ok fl2=>
          cases fl2 with
          | ret r=>
            obtain⟨rfl,g,tk,rfl,hS,hk⟩:=hr2
            repeat (any_goals (first | assumption | wp_step))
            exact h _ _ hS hk
          | _=>exact hr2.elim
    | _=>exact hr.elim
def X8 (P:Program) (w:World) (a:Addr) (l:List Key):HO:=.ext fun h=>oK P w h a l
section
variable {X:Cx}
def keysOf:List V→List Key
  | []=>[]
  | .int i::r=>.inl i::keysOf r
  | .str x::r=>.inr x::keysOf r
  | _::r=>keysOf r
def isKey:V→Bool
  | .int _=>true
  | .str _=>true
  | _=>false
theorem Hl:∀{xs:List V} {its:List Value},xs.all isKey=true→Vals xs its→(keysOf xs).length=its.length∧∀(i:Nat) (v:Value),its[i]? = some v→sG ((keysOf xs).getD i (.inl 0)) v=true
  | [],_,_,.nil=>⟨rfl,fun i v e=>by simp at e⟩
  | x::xs,u::us,h,.cons r1 r2=>by
    rw[List.all_cons,Bool.and_eq_true] at h;obtain⟨h1,h2⟩:=Hl h.2 r2;cases x with
    | int i=>
      obtain⟨t,rfl⟩:=r1;refine⟨by simp[keysOf,h1],fun j v e=>?_⟩;cases j with
      | zero=>simp at e;subst e;exact Fe i t
      | succ j=>simp at e;simpa [keysOf] using h2 j v e
    | str z=>
      obtain⟨t,rfl⟩:=r1;refine⟨by simp[keysOf,h1],fun j v e=>?_⟩;cases j with
      | zero=>simp at e;subst e;exact Fg z t
      | succ j=>simp at e;simpa [keysOf] using h2 j v e
    | _=>exact absurd (show false=true from h.1) Bool.false_ne_true
theorem uN (hc:X.calm=true):cu X (.type "set") (fun xs H Q=>∃a ys,xs=[.ref a]∧(bA X.K H a ys∨jK X.K H a ys)∧ys.all isKey=true∧ys.length+1<scanBound∧
    ∀p,H p=none→Q (.ref p) (upd H p (X8 X.prog X.w p (yg (fun i=>(keysOf ys).getD i (.inl 0)) ys.length)))):=by
  intro p_ s σ H xs us Q I r h;obtain⟨a,ys,rfl,hq,hk,hb,q⟩:=h;obtain⟨u,rfl,ru⟩:=r.one;obtain rfl:u=Value.ref a:=ru;have fin:∀(g:Heap) (tk:Nat),oK X.prog X.w g s.heap.objs.size (yg (fun i=>(keysOf ys).getD i (.inl 0)) ys.length)→(∀b o,s.heap.get? b=some o→g.get? b=some o)→EP X p_ σ Q (.ref s.heap.objs.size) {s with heap:=g,toks:=tk}:=fun g tk hS kk=>by
    have hn:H s.heap.objs.size=none:=I.hok.fresh (Nat.le_refl _);refine⟨.ref s.heap.objs.size,_,I.laid (o:=X8 X.prog X.w s.heap.objs.size (yg (fun i=>(keysOf ys).getD i (.inl 0)) ys.length)) (fun b o e=>kk b o e) (Nat.le_refl _) ⟨hS,?_,fun h1 h2 p k=>p.at k⟩,rfl,q _ hn⟩;obtain⟨o,_,_,_,e,_⟩:=hS;exact⟨o,e⟩
  rcases hq with hq | hq
  · obtain⟨its,rv,pl,hz⟩:=I.list hq;obtain⟨h1,h2⟩:=Hl hk rv;have hl:=rv.length;refine J1 (val:=fun i=>(keysOf ys).getD i (.inl 0)) (I.ok.hd hc) pl.isList (fun i v e=>h2 i v (by simpa using e)) (by rw[List.size_toArray];omega) fun g tk hS kk=>fin g tk ?_ kk;have ez:its.toArray.size=ys.length:=by rw[List.size_toArray,hl]
    rw[ez] at hS;exact hS
  · obtain⟨its,rv,pl,hz⟩:=I.tuple hq;obtain⟨h1,h2⟩:=Hl hk rv;have hl:=rv.length;refine Hj (val:=fun i=>(keysOf ys).getD i (.inl 0)) (I.ok.hd hc) (show s.heap.IsTuple a its.toArray from pl) (fun i v e=>h2 i v (by simpa using e)) (by rw[List.size_toArray];omega) fun g tk hS kk=>fin g tk ?_ kk;have ez:its.toArray.size=ys.length:=by rw[List.size_toArray,hl]
    rw[ez] at hS;exact hS
theorem uO:cu X (.builtin "len") (fun xs H Q=>∃a l,xs=[.ref a]∧H a=some (X8 X.prog X.w a l)∧Q (.int l.length) H):=by
  intro p_ s σ H xs us Q I r h;obtain⟨a,l,rfl,ha,q⟩:=h;obtain⟨u,rfl,ru⟩:=r.one;obtain rfl:u=Value.ref a:=ru;obtain⟨⟨o,es,ep,t,e,ex,hd,_,_,hsz,hf,hn⟩,_⟩:=(show cH X.prog X.w H s.heap a (X8 X.prog X.w a l) from I.hok a _ ha);refine call_len_set e ex hd hf (by unfold scanBound at hsz;omega) ⟨.int l.length,H,I.tok _,⟨_,by rw[hn]⟩,q⟩
end
section
variable {X:Cx}
def qcn:R2:=fun x y H Q=>∃i j,x = .str i∧y = .str j∧i.length+j.length≤sizeLine∧Q (.str (i++j)) H
def qe0:R2:=fun x y H Q=>∃i j,x = .str i∧y = .str j∧Q (.bl (!(Builtin.Str.occurrences j i 0 j.length 1).isEmpty)) H
def X_:R2:=fun x y H Q=>∃i j,x = .str i∧y = .str j∧Q (.bl (!(!(Builtin.Str.occurrences j i 0 j.length 1).isEmpty))) H
def Yb (K:W.Frag):R2:=fun x y H Q=>rIn K false x y H Q∨qe0 x y H Q
def Ho (K:W.Frag):R2:=fun x y H Q=>rIn K true x y H Q∨X_ x y H Q
theorem qaU:iZ X (compareOp .In) (Yb X.K):=Q5.or QL
theorem Rf:iZ X (compareOp .NotIn) (Ho X.K):=G4.or G5
def qaV (K:W.Frag):R2:=fun x y H Q=>∃p xs i v,x = .ref p∧y = .int i∧(bA K H p xs∨jK K H p xs)∧Fy xs i=some v∧Q v H
theorem ixQ:R8 X (qaV X.K):=by
  intro value slice p_ s σ H x y v u Q I rx ry h hs;obtain⟨p,xs,i,z,e1,e2,hq | hq,e3,q⟩:=h
  ·exact XQ value slice p_ s σ H x y v u Q I rx ry ⟨p,xs,i,z,e1,e2,hq,e3,q⟩ hs
  ·exact qaI value slice p_ s σ H x y v u Q I rx ry ⟨p,xs,i,z,e1,e2,hq,e3,q⟩ hs
def Zx (K:W.Frag):List V→Hp→VK→Prop:=fun xs H Q=>∃p ys,xs=[.ref p]∧(bA K H p ys∨jK K H p ys)∧Q (.int ys.length) H
def Zy:List V→Hp→VK→Prop:=fun xs H Q=>∃z,xs=[.str z]∧z.length≤sizeLine∧Q (.int z.length) H
variable {K:W.Frag}
theorem qe1 (hK:X.K=K):R8 X (qaV K):=by subst hK;exact ixQ
theorem inK (hK:X.K=K):iZ X (compareOp .In) (Yb K):=by subst hK;exact qaU
theorem qaW (hK:X.K=K):iZ X (compareOp .NotIn) (Ho K):=by subst hK;exact Rf
theorem qco (hK:X.K=K):cu X (.builtin "len") (Zx K):=by subst hK;exact G6
theorem qcp:cu X (.builtin "len") Zy:=G7
def Pj (K:W.Frag):List V→Hp→VK→Prop:=fun xs H Q=>∃p ys,xs=[.ref p]∧(bA K H p ys∨jK K H p ys)∧∀l,H l=none→Q (.ref l) (upd H l (.lst ys))
theorem Yc (hK:X.K=K):cu X (.type "list") (Pj K):=by subst hK;exact G8
def Zz (K:W.Frag):List V→Hp→VK→Prop:=fun xs H Q=>∃x n t b,xs=[x,.ty n]∧lX K H x t∧W.kitOne K t (.type n)=some b∧Q (.bl b) H
theorem qcq (hK:X.K=K):cu X (.builtin "isinstance") (Zz K):=by subst hK;exact Q8
def ZC (K:W.Frag):List V→Hp→VK→Prop:=fun xs H Q=>∃x p m n t b,xs=[x,.ref p]∧H p=some (.tup [.ty m,.ty n])∧lX K H x t∧W.kitAny K t [.type m,.type n]=some b∧Q (.bl b) H
theorem qcr (hK:X.K=K):cu X (.builtin "isinstance") (ZC K):=by subst hK;exact Q9
theorem qM (hK:X.K=K) {es:List Expr} {k:Nat} {pos:Pos} {t:Fl} {n:Nat} (hc:X.calm=true) (h:qJ X es t)
    (hn:(assignEach es X.env).length=n:=by rfl) (hst:(assignEach es X.env).findIdx? (·.1)=none:=by rfl):PG X (.Tuple es k pos) (Xw K n t):=by subst hK;exact qat hc h hn hst
theorem dG (hK:X.K=K) {tg l:Expr} {tl:TE} (hl:PE X l tl):PI X tg l (O5 K tl):=by subst hK;exact Xx hl
theorem Hq (hK:X.K=K) {e:Expr} {ta:TE} {f:Str} {pos:Pos} (he:PE X e ta) (hb:attributeBase e f X.env (eval e X.env)=eval e X.env):PE X (.Attribute e f pos) (XJ K ta f):=by subst hK;exact qaF he hb
theorem pQ (hK:X.K=K) {o e:Expr} {es:List Expr} {to:TE} {t:TA} {name:Str} {apos cpos:Pos} {T id:String} {r:V→List V→Hp→VK→Prop} (pa:PlainAttrs T) (slot:Slot T name id) (hty:typeOf (.builtin id)=pure (.type "method_descriptor")) (hm:Mv X id r) (ho:PE X o to) (ha:PA X (e::es) t)
    (hbase:attributeBase o name X.env (eval o X.env)=eval o X.env:=by rfl)
    (hfew:((backTo cpos (starEach (e::es) X.env)).all (fun x=>!x.1) && (backToKw cpos (keywordEach [] X.env)).all (fun x=>x.1.isSome)
      && decide ((e::es).length+([]:List Keyword).length+(if ([]:List Keyword).isEmpty then 0 else 1)<30))=true:=by rfl)
    (hline:(apos.endLine == cpos.line)=true:=by rfl) (hs:starEach (e::es) X.env=(false,eval e X.env)::starEach es X.env:=by rfl) (hplain:(backTo cpos (starEach es X.env)).any (·.1)=false:=by rfl) :
    PE X (.Call (.Attribute o name apos) (e::es) [] cpos) (tBM K T r to t):=by subst hK;exact qcg pa slot hty hm ho ha hbase hfew hline hs hplain
theorem dw:bootBuiltins "all" = some (.builtin "all"):=by decide+kernel
theorem boot_max:bootBuiltins "max" = some (.builtin "max"):=by decide+kernel
theorem boot_min:bootBuiltins "min" = some (.builtin "min"):=by decide+kernel
theorem boot_abs:bootBuiltins "abs" = some (.builtin "abs"):=by decide+kernel
theorem boot_divmod:bootBuiltins "divmod" = some (.builtin "divmod"):=by decide+kernel
end
structure Nm (mg:Str→Option Value):Prop where
  len:mg "len" = none
  max:mg "max" = none
  min:mg "min" = none
  abs:mg "abs" = none
  divmod:mg "divmod" = none
  range:mg "range" = none
  zip:mg "zip" = none
  list:mg "list" = none
  tuple:mg "tuple" = none
  int:mg "int" = none
  str:mg "str" = none
  set:mg "set" = none
  all:mg "all" = none
  isinstance:mg "isinstance" = none
section
variable {K:W.Frag} {own:List Str} {caps:List Nat} {g:TG} {tt:TT} {te:TE} {D:Addr} {σ:St} {H:Hp} {Q:Hp→Prop}
abbrev FQ (g:TG) (tt:TT) (te:TE) (D:Addr) (N:St→Hp→Prop) (x:V) (σ:St) (H:Hp):Prop:=
  g x σ H fun σ2 H3=>tt σ2 H3 fun b H4=>if b=true then te σ2 H4 fun y H5=>∃ys,H5 D=some (.lst ys)∧ys.length<sizeLine∧N σ2 (upd H5 D (.lst (ys++[y]))) else N σ2 H4
theorem FT {l:Addr} {xs:List V} (Pv:Nat→St→Hp→Prop) (h0:Pv 0 (stC own caps σ) H) (hl:∀i σ H,i≤xs.length→Pv i σ H→bA K H l xs)
    (hs:∀i x σ H,xs[i]? = some x→Pv i σ H→FQ g tt te D (Pv (i+1)) x σ H) (hd:∀σ H,Pv xs.length σ H→Q H):lg own caps (R7 K l) g tt te D σ H Q:=by
  refine⟨fun i m σ H=>m=xs.length - i∧i≤xs.length∧Pv i σ H,⟨xs.length,by simp,Nat.zero_le _,h0⟩,?_⟩;rintro i m σ H ⟨rfl,hi,p⟩;have q:=hl i σ H hi p
  by_cases hlt:i<xs.length
  ·refine .inr ⟨⟨xs,xs[i],q,by simp[hlt]⟩,Pv (i+1),fun σ' H' p'=>⟨xs.length - (i+1),by omega,rfl,hlt,p'⟩,fun x H' y=>?_⟩;obtain⟨e,y⟩:=y;subst e;exact hs i x σ _ (y xs q) p
  · have e:i=xs.length:=by omega
    subst e;exact .inl ⟨⟨xs,q,Nat.le_refl _⟩,hd σ H p⟩
theorem Uk {l:Addr} {xs:List V} (Pv:Nat→St→Hp→Prop) (h0:Pv 0 (stC own caps σ) H) (hl:∀i σ H,i≤xs.length→Pv i σ H→jK K H l xs)
    (hs:∀i x σ H,xs[i]? = some x→Pv i σ H→FQ g tt te D (Pv (i+1)) x σ H) (hd:∀σ H,Pv xs.length σ H→Q H):lg own caps (Itt K l) g tt te D σ H Q:=by
  refine⟨fun i m σ H=>m=xs.length - i∧i≤xs.length∧Pv i σ H,⟨xs.length,by simp,Nat.zero_le _,h0⟩,?_⟩;rintro i m σ H ⟨rfl,hi,p⟩;have q:=hl i σ H hi p
  by_cases hlt:i<xs.length
  ·refine .inr ⟨⟨xs,xs[i],q,by simp[hlt]⟩,Pv (i+1),fun σ' H' p'=>⟨xs.length - (i+1),by omega,rfl,hlt,p'⟩,fun x H' y=>?_⟩;obtain⟨e,y⟩:=y;subst e;exact hs i x σ _ (y xs q) p
  · have e:i=xs.length:=by omega
    subst e;exact .inl ⟨⟨xs,q,Nat.le_refl _⟩,hd σ H p⟩
theorem M5 {lo:Int} {n:Nat} (Pv:Nat→St→Hp→Prop) (h0:Pv 0 (stC own caps σ) H)
    (hs:∀i σ H,i<n→Pv i σ H→FQ g tt te D (Pv (i+1)) (.int (lo+i)) σ H) (hd:∀σ H,Pv n σ H→Q H):lg own caps (LK lo n) g tt te D σ H Q:=by
  refine⟨fun i m σ H=>m=n - i∧i≤n∧Pv i σ H,⟨n,by simp,Nat.zero_le _,h0⟩,?_⟩;rintro i m σ H ⟨rfl,hi,p⟩
  by_cases hlt:i<n
  ·refine .inr ⟨hlt,Pv (i+1),fun σ' H' p'=>⟨n - (i+1),by omega,rfl,hlt,p'⟩,fun x H' y=>?_⟩;obtain⟨e,y⟩:=y;subst e y;exact hs i σ _ hlt p
  · have e:i=n:=by omega
    subst e;exact .inl ⟨Nat.le_refl _,hd σ H p⟩
theorem Ul {z:Str} (Pv:Nat→St→Hp→Prop) (h0:Pv 0 (stC own caps σ) H)
    (hs:∀i c σ H,z.cps[i]? = some c→Pv i σ H→FQ g tt te D (Pv (i+1)) (.str ⟨#[c]⟩) σ H) (hd:∀σ H,Pv z.cps.size σ H→Q H):lg own caps (Its z) g tt te D σ H Q:=by
  refine⟨fun i m σ H=>m=z.cps.size - i∧i≤z.cps.size∧Pv i σ H,⟨z.cps.size,by simp,Nat.zero_le _,h0⟩,?_⟩;rintro i m σ H ⟨rfl,hi,p⟩
  by_cases hlt:i<z.cps.size
  ·refine .inr ⟨hlt,Pv (i+1),fun σ' H' p'=>⟨z.cps.size - (i+1),by omega,rfl,hlt,p'⟩,fun x H' y=>?_⟩;obtain⟨e,c,hc,rfl⟩:=y;subst e;exact hs i c σ _ hc p
  · have e:i=z.cps.size:=by omega
    subst e;exact .inl ⟨Nat.le_refl _,hd σ H p⟩
theorem Um {l1 l2:Addr} {xs ys:List V} (Pv:Nat→St→Hp→Prop) (h0:Pv 0 (stC own caps σ) H) (he:xs.length=ys.length) (hl:∀i σ H,i≤xs.length→Pv i σ H→bA K H l1 xs∧bA K H l2 ys)
    (hs:∀i x y t σ H,xs[i]? = some x→ys[i]? = some y→H t=none→Pv i σ H→FQ g tt te D (Pv (i+1)) (.ref t) σ (upd H t (.tup [x,y]))) (hd:∀σ H,Pv xs.length σ H→Q H):lg own caps (R9 K l1 l2) g tt te D σ H Q:=by
  refine⟨fun i m σ H=>m=xs.length - i∧i≤xs.length∧Pv i σ H,⟨xs.length,by simp,Nat.zero_le _,h0⟩,?_⟩;rintro i m σ H ⟨rfl,hi,p⟩;obtain⟨q1,q2⟩:=hl i σ H hi p
  by_cases hlt:i<xs.length
  · have hlt2:i<ys.length:=by omega
    refine .inr ⟨⟨xs,ys,xs[i],ys[i],q1,q2,by simp[hlt],by simp[hlt2]⟩,Pv (i+1),fun σ' H' p'=>⟨xs.length - (i+1),by omega,rfl,hlt,p'⟩,fun x H' y=>?_⟩;obtain⟨t,u,v,rfl,ht,rfl,e1,e2⟩:=y;exact hs i u v t σ H (e1 xs q1) (e2 ys q2) ht p
  · have e:i=xs.length:=by omega
    subst e;exact .inl ⟨⟨xs,ys,q1,q2,.inl (Nat.le_refl _)⟩,hd σ H p⟩
end
def ZF (b:Bool) (K:W.Frag) (H:Hp) (p:Addr) (xs:List V):Prop:=match b with | true=>bA K H p xs | false=>jK K H p xs
def Itq (b:Bool) (K:W.Frag) (p:Addr):It:=match b with | true=>R7 K p | false=>Itt K p
def qaX (K:W.Frag) (tl:TE):TI:=fun σ H R=>tl σ H fun x H1=>∃b p,x = .ref p∧(∃xs,ZF b K H1 p xs)∧R (Itq b K p) H1
theorem jN {X:Cx} {K:W.Frag} (hK:X.K=K) {tg l:Expr} {tl:TE} (hl:PE X l tl):PI X tg l (qaX K tl):=by
  intro p_ s σ H R I h;refine cY (hl p_ s σ H _ I h) fun v s1 zz=>?_;obtain⟨x,H1,I1,r1,q1⟩:=zz;obtain⟨b,p,e,hq,q⟩:=q1;subst e;subst hK;cases b with
  | true=>
    cases r1;obtain⟨xs,hq⟩:=hq;obtain⟨its,rv,pl,hz⟩:=I1.list hq;refine wpAny_pyIter_list pl.isList ?_;refine⟨s1.heap.objs.size,[s1.heap.objs.size],_,_,H1,rfl,I1.kept (t':=s1.toks) fun b o e=>Heap.get?_push_of_some _ e,Fp p _,⟨_,Heap.get?_push_size _ rfl,rfl,rfl⟩,fun b hb=>?_,q⟩;have e:b=s1.heap.objs.size:=by simpa using hb
    subst e;exact I1.Bg (Nat.le_refl _) (I1.hok.fresh (Nat.le_refl _))
  | false=>
    cases r1;obtain⟨xs,hq⟩:=hq;obtain⟨its,rv,pl,hz⟩:=I1.tuple hq;refine wpAny_pyIter_tuple (show s1.heap.IsTuple p its.toArray from pl) ?_;refine⟨s1.heap.objs.size,[s1.heap.objs.size],_,_,H1,rfl,I1.kept (t':=s1.toks) fun b o e=>Heap.get?_push_of_some _ e,Mh p _,⟨_,Heap.get?_push_size _ rfl,rfl,rfl⟩,fun b hb=>?_,q⟩;have e:b=s1.heap.objs.size:=by simpa using hb
    subst e;exact I1.Bg (Nat.le_refl _) (I1.hok.fresh (Nat.le_refl _))
section
variable {K:W.Frag} {own:List Str} {caps:List Nat} {g:TG} {tt:TT} {te:TE} {D:Addr} {σ:St} {H:Hp} {Q:Hp→Prop}
theorem Uo {b:Bool} {l:Addr} {xs:List V} (Pv:Nat→St→Hp→Prop) (h0:Pv 0 (stC own caps σ) H) (hl:∀i σ H,i≤xs.length→Pv i σ H→ZF b K H l xs)
    (hs:∀i x σ H,xs[i]? = some x→Pv i σ H→FQ g tt te D (Pv (i+1)) x σ H) (hd:∀σ H,Pv xs.length σ H→Q H):lg own caps (Itq b K l) g tt te D σ H Q:=by
  cases b with
  | true=>exact FT Pv h0 hl hs hd
  | false=>exact Uk Pv h0 hl hs hd
end
theorem aq {H:Hp} {p:Addr} {o:HO} (h:H p=none):Same H (upd H p o):=fun b u e=>by rw[aG (aN e h)];exact e
theorem aZ {H H':Hp} {p:Addr} {o:HO} (s:Same H H') (h:H p=none):Same H (upd H' p o):=fun b u e=>by rw[aG (aN e h)];exact s b u e
def Sq (H:Hp) (p:Addr) (xs:List V):Prop:=H p=some (.lst xs)∨H p=some (.tup xs)
theorem Sq.q {K:W.Frag} {H:Hp} {p:Addr} {xs:List V} (h:Sq H p xs):bA K H p xs∨jK K H p xs:=h.elim (fun e=>.inl (bA.of e)) fun e=>.inr (jK.of e)
theorem Sq.b {H:Hp} {p:Addr} {xs:List V} (h:Sq H p xs):∃b,∀K H',Same H H'→ZF b K H' p xs:=h.elim (fun e=>⟨true,fun _ _ s=>bA.of (s _ _ e)⟩) fun e=>⟨false,fun _ _ s=>jK.of (s _ _ e)⟩
theorem Sq.same {H H':Hp} {p:Addr} {xs:List V} (h:Sq H p xs) (s:Same H H'):Sq H' p xs:=h.elim (fun e=>.inl (s _ _ e)) fun e=>.inr (s _ _ e)
theorem Sq.ty {K:W.Frag} {H:Hp} {p:Addr} {xs:List V} (h:Sq H p xs):lX K H (.ref p) (.type "list")∨lX K H (.ref p) (.type "tuple"):=h.elim (fun e=>.inl (.lst e)) fun e=>.inr (.tup e)
theorem jC {α:Type} (f:α→Bool):∀l:List α,tO (l.map fun c=>.bl (f c)) (l.map f)
  | []=>rfl
  | c::l=>⟨f c,l.map f,rfl,rfl,jC f l⟩
theorem M6 {α:Type} (f:α→Bool) (l:List α):(l.map f).all id=l.all f:=by
  rw[List.all_map];rfl
theorem take_one {α:Type} {l:List α} {i:Nat} {x:α} (h:l[i]? = some x):l.take (i+1)=l.take i++[x]:=by
  rw[List.take_succ,h];rfl
def Pk:List V→Hp→VK→Prop:=fun xs H Q=>∃p ys,xs=[.ref p]∧Sq H p ys∧∀l H',H' l=some (.tup ys)→Same H H'→Q (.ref l) H'
theorem Uq {X:Cx}:cu X (.type "tuple") Pk:=by
  intro p_ s σ H xs us Q I r h;obtain⟨p,ys,rfl,hq,q⟩:=h;refine Eb p_ s σ H _ us Q I r ⟨p,ys,rfl,?_⟩
  rcases hq with e | e
  ·exact .inl ⟨bA.of e,fun l hl=>q l _ ao (aq hl)⟩
  ·exact .inr ⟨jK.of e,q p H e (Same.refl H)⟩
def qaY (J:It) (g:TG) (tb:TS):TS:=fun D σ H=>∃iH:Nat→Nat→St→Hp→Prop,(∃m,iH 0 m σ H)∧∀i m σ H,iH i m σ H→
      (J.stop i H∧D.nx σ H)∨(J.go i H∧∃N:St→Hp→Prop,(∀σ' H',N σ' H'→∃m',m'<m∧iH (i+1) m' σ' H')∧∀x H',J.S9 i H x H'→g x σ H' fun σ2 H2=>tb {D with nx:=N,ct:=N,bk:=D.nx} σ2 H2)
theorem eU {H:Hp} {b p:Addr} {o u:HO} (h:H b=some o) (n:H p=none):upd H p u b=some o:=by rw[aG (aN h n)];exact h
theorem Ad {H:Hp} {b p:Addr} {o o' u:HO} (h:H b=some o) (n:H p=some o') (d:o≠o'):upd H p u b=some o:=by
  rw[aG (fun e=>d (by subst e;rw[h] at n;exact Option.some.inj n))];exact h
theorem lJ {H H':Hp} {b:Addr} (s:Same H H') (h:H' b=none):H b=none:=by
  cases e:H b with
  | none=>rfl
  | some o=>rw[s b o e] at h;cases h
def But (p:Addr) (H H':Hp):Prop:=∀b o,b≠p→H b=some o→H' b=some o
theorem But.refl (p:Addr) (H:Hp):But p H H:=fun _ _ _ e=>e
theorem But.trans {p:Addr} {H H1 H2:Hp} (x:But p H H1) (y:But p H1 H2):But p H H2:=fun b o hb e=>y b o hb (x b o hb e)
theorem But.new {p q:Addr} {H H':Hp} {u:HO} (x:But p H H') (h:H q=none):But p H (upd H' q u):=fun b o hb e=>by
  rw[aG (aN e h)];exact x b o hb e
theorem But.of {p:Addr} {H H':Hp} (x:Same H H'):But p H H':=fun b o _ e=>x b o e
theorem But.same {p:Addr} {H H1 H2:Hp} (x:But p H H1) (y:Same H1 H2):But p H H2:=fun b o hb e=>y b o (x b o hb e)
theorem But.none {p b:Addr} {H H':Hp} {u:HO} (x:But p H H') (hp:H' p=some u) (h:H' b = .none):H b = .none:=by
  cases e:H b with
  | none=>rfl
  | some o=>
    have hb:b≠p:=fun z=>by subst z;rw[hp] at h;cases h
    rw[x b o hb e] at h;cases h
theorem Pn {α:Type} {xs:List α} {i:Int} (h0:0≤i) (h1:i<xs.length):∃v,xs[i.toNat]? = some v∧Fy xs i=some v:=by
  obtain⟨j,rfl⟩:∃j:Nat,i=j:=⟨i.toNat,by omega⟩;have hj:j<xs.length:=by omega
  exact⟨xs[j],by simp[hj],cJ (by simp[hj])⟩
theorem Hr {i:Int} {n:Nat} (h0:0≤i) (h1:i<n):seqIndex? i n=some i.toNat:=by
  have e:¬i<0:=by omega
  simp[seqIndex?,e,h0,h1]
theorem Rg {α β:Type} (f:α→β) (l:List α) (k:Nat):(l.map f).eraseIdx k=(l.eraseIdx k).map f:=by
  rw[List.eraseIdx_eq_take_drop_succ,List.eraseIdx_eq_take_drop_succ,List.map_append,List.map_take,List.map_drop]
theorem M7 {α:Type} {l:List α} {k:Nat} {x:α} (h:l[k]? = some x):(x::l.eraseIdx k).Perm l:=by
  obtain⟨hk,e⟩:=List.getElem?_eq_some_iff.mp h;rw[List.eraseIdx_eq_take_drop_succ];refine List.perm_middle.symm.trans ?_;rw[← e,List.getElem_cons_drop,List.take_append_drop]
theorem qaZ {d e n:Int} (h0:0≤d) (h1:d<n) (h2:0≤e) (h3:e<n - 1):0≤(d+1+e) % n∧(d+1+e) % n<n∧(d+1+e) % n≠d:=by
  refine⟨Int.emod_nonneg _ (by omega),Int.emod_lt_of_pos _ (by omega),?_⟩
  by_cases h:d+1+e<n
  ·rw[Int.emod_eq_of_lt (by omega) h];omega
  · have z:d+1+e=(d+1+e - n)+n * 1:=by omega
    rw[z,Int.add_mul_emod_self_left,Int.emod_eq_of_lt (by omega) (by omega)];omega
theorem qN {xs:List Str} {i:Nat} {x:V} (h:(xs.map V.str)[i]? = some x):∃z,xs[i]? = some z∧x = .str z:=by
  rw[List.getElem?_map] at h;cases e:xs[i]? with
  | none=>rw[e] at h;cases h
  | some z=>rw[e] at h;exact⟨z,rfl,(Option.some.inj h).symm⟩
theorem J2 {α:Type} {xs:List α} (h:xs.Nodup) {i j:Nat} {x:α} (hi:xs[i]? = some x) (hj:xs[j]? = some x):i=j:=by
  obtain⟨h1,e1⟩:=List.getElem?_eq_some_iff.mp hi;obtain⟨h2,e2⟩:=List.getElem?_eq_some_iff.mp hj;exact(List.getElem_inj h).mp (e1.trans e2.symm)
def Yd (c:Nat):Bool:=!(Builtin.Str.occurrences ("abcdefghijklmnopqrstuvwxyz" : Str) ⟨#[c]⟩ 0 ("abcdefghijklmnopqrstuvwxyz" : Str).length 1).isEmpty
def nameB (x:Str):Bool:=decide (1≤x.length) && decide (x.length≤4) && x.cps.toList.all Yd
theorem Ur:∀n<26,Yd (97+n)=true:=by decide+kernel
theorem M8:∀n:Nat,n<26→Fy (Str.ofString "abcdefghijklmnopqrstuvwxyz").cps.toList (n:Int)=some (97+n):=by decide+kernel
theorem tU:(Str.ofString "abcdefghijklmnopqrstuvwxyz").length≤sizeLine:=by decide+kernel
theorem oM {i:Int} (h0:0≤i) (h1:i<26):∃n:Nat,i=n∧n<26∧Fy (Str.ofString "abcdefghijklmnopqrstuvwxyz").cps.toList i=some (97+n):=
  ⟨i.toNat,by omega,by omega,by
    obtain⟨n,rfl⟩:∃n:Nat,i=n:=⟨i.toNat,by omega⟩;exact M8 n (by omega)⟩
def wU (c d:Nat):List Str:=
  let p:Str:=⟨#[c]⟩
  let q:Str:=⟨#[d]⟩
  [p,p++p,p++q,p++p++q,q,q++p,p++p++p,p++q++p,q++q,p++p++p++q,p++q++q,q++p++p]
theorem M9:∀n<26,(wU (97+n) (97+(n+1) % 26)).Nodup∧∀x∈wU (97+n) (97+(n+1) % 26),nameB x=true:=by decide+kernel
structure pR (c:Nat) (k:Nat) (x:Str):Prop where
  len:x.length=k
  fst:x.cps[0]? = some c
  all:x.cps.toList.all Yd=true
theorem pR.one {n:Nat} (h:n<26):pR (97+n) 1 ⟨#[97+n]⟩:=⟨rfl,rfl,by simp[Ur n h]⟩
theorem pR.snoc {c k n:Nat} {x:Str} (h:pR c k x) (hk:0<k) (hn:n<26):pR c (k+1) (x++(⟨#[97+n]⟩:Str)):=by
  obtain⟨h1,h2,h3⟩:=h;refine⟨?_,?_,?_⟩
  ·show(x.cps++#[97+n]).size=_;have:x.cps.size=k:=h1;simp[this]
  ·show(x.cps++#[97+n])[0]? = _;have:x.cps.size=k:=h1;rw[Array.getElem?_append_left (by omega)];exact h2
  ·show(x.cps++#[97+n]).toList.all Yd=true;simp at h3;simp[Ur n hn];exact h3
theorem pR.name {c k:Nat} {x:Str} (h:pR c k x) (h1:1≤k) (h4:k≤4):nameB x=true:=by
  unfold nameB;rw[h.len,h.all];simp;omega
section
variable {κ:Type} [DecidableEq κ]
def vP (kvs:List (κ×V)) (k:κ):Option V:=(kvs.find? fun kv=>decide (kv.1=k)).map (·.2)
theorem Br {p:κ×V} {r:List (κ×V)} {k:κ} (e:p.1=k):vP (p::r) k=some p.2:=by simp[vP,List.find?_cons,e]
theorem Bs {p:κ×V} {r:List (κ×V)} {k:κ} (e:¬p.1=k):vP (p::r) k=vP r k:=by simp[vP,List.find?_cons,e]
theorem KV.val {kvs:List (κ×V)} {vs:List (κ×Value)} (r:KV kvs vs) (k:κ):wJ (vP kvs k) (valueAt vs k):=by
  unfold KV at r
  induction r with
  | nil=>exact True.intro
  | @cons p q ps qs h t ih=>
    obtain⟨h1,h2⟩:=h
    by_cases e:p.1=k
    · have e':q.1=k:=h1.symm.trans e;have b:valueAt (q::qs) k=some q.2:=by simp[valueAt,List.find?_cons,e']
      rw[Br e,b];exact h2
    · have e':¬q.1=k:=fun z=>e (h1.trans z);have b:valueAt (q::qs) k=valueAt qs k:=by simp[valueAt,List.find?_cons,e']
      rw[Bs e,b];exact ih
theorem KV.length {kvs:List (κ×V)} {vs:List (κ×Value)} (r:KV kvs vs):kvs.length=vs.length:=Paired.length r
end
theorem ZG {P:Program} {w:World} {k:Key} {u:Value} (r:RelV (kV k) u):(bh P w).is k u=true:=by
  cases k with
  | inl i=>obtain⟨t,e⟩:=(show ∃t,u=Value.int i t from r);subst e;exact JG P w i t
  | inr x=>obtain⟨t,e⟩:=(show ∃t,u=Value.str x t from r);subst e;exact sY P w x t
theorem FW {P:Program} {w:World}:∀{ks:List Key} {us:List Value},Vals (ks.map kV) us→ItemsAre (bh P w) ks us
  | [],_,r=>by rw[List.map_nil] at r;cases r;exact .nil
  | k::ks,_,r=>by
    rw[List.map_cons] at r;cases r with
    | cons h t=>exact .cons (ZG h) (FW t)
abbrev KT (H:Hp):List (List Key×V)→List (List Key×Addr×Value)→Prop:=Paired fun p q=>p.1=q.1∧H q.2.1=some (.tup (p.1.map kV))∧RelV p.2 q.2.2
theorem KT.val {H:Hp} {kvs:List (List Key×V)} {xs:List (List Key×Addr×Value)} (r:KT H kvs xs) (k:List Key):wJ (vP kvs k) ((atKey xs k).map (·.2)):=by
  induction r with
  | nil=>exact True.intro
  | @cons p q ps qs h t ih=>
    obtain⟨h1,_,h2⟩:=h
    by_cases e:p.1=k
    · have e':q.1=k:=h1.symm.trans e;have b:atKey (q::qs) k=some q.2:=by simp[atKey,List.find?_cons,e']
      rw[Br e,b];exact h2
    · have e':¬q.1=k:=fun z=>e (h1.trans z);have b:atKey (q::qs) k=atKey qs k:=by simp[atKey,List.find?_cons,e']
      rw[Bs e,b];exact ih
section
variable {P:Program} {w:World} {H:Hp} {h:Heap} {a:Addr}
theorem ZJ {u:HO} (ok:qH P w H h) (e:Rd H a u):cH P w H h a u:=e.ok ok
theorem Bt {kvs:List (Key×V)} (ok:qH P w H h) (e:Rd H a (.dK kvs)):kvs.length≤sizeLine∧(a == sysModules)=false∧∃vs,KV kvs vs∧h.DictOf (bh P w) a vs:=
  show cH P w H h a (.dK kvs) from ZJ ok e
theorem Pq {kvs:List (Key×V)} (ok:qH P w H h) (e:H a=some (.dK kvs)):kvs.length≤sizeLine∧(a == sysModules)=false∧∃vs,KV kvs vs∧h.DictOf (bh P w) a vs:=Bt ok (.inl e)
theorem Us {ks:List Key} (ok:qH P w H h) (e:H a=some (.tup (ks.map kV))):(tupleKind (bh P w)).is h ks a:=by
  obtain⟨_,its,r,o,h1,h2,n,h3⟩:=(show cH P w H h a (.tup (ks.map kV)) from ok a _ e);exact⟨o,its.toArray,n,h1,h2,h3,by simpa using FW r⟩
theorem Pr {kvs:List (List Key×V)} (ok:qH P w H h) (e:Rd H a (.dT kvs)):kvs.length≤sizeLine∧(a == sysModules)=false∧
    ∃xs,KT H kvs xs∧h.DictOfH (tupleKind (bh P w)) a xs:=by
  obtain⟨z,y,xs,r,o,es,ep,h1,h2,h3,h4,h5⟩:=(show cH P w H h a (.dT kvs) from ZJ ok e);refine⟨z,y,xs,r,o,es,ep,h1,h2,h3,h4,fun x hx=>?_,h5⟩;have all:∀{l:List (List Key×V)} {m:List (List Key×Addr×Value)},KT H l m→∀x∈m,(tupleKind (bh P w)).is h x.1 x.2.1:=by
    intro l m q
    induction q with
    | nil=>intro x hx;exact nomatch hx
    | @cons p q ps qs hq t ih=>
      intro x hx
      rcases List.mem_cons.mp hx with e | hx
      ·subst e;exact Us ok (by rw[← hq.1];exact hq.2.1)
      ·exact ih x hx
  exact all r x hx
theorem qcs {kvs:List (List Key×V)} (ok:qH P w H h) (e:H a=some (.dT kvs)):kvs.length≤sizeLine∧(a == sysModules)=false∧
    ∃xs,KT H kvs xs∧h.DictOfH (tupleKind (bh P w)) a xs:=Pr ok (.inl e)
end
def Ed (H:Hp) (a:Addr) (y:V) (r:Option V):Prop:=
  (∃kvs k,Rd H a (.dK kvs)∧y=kV k∧r=vP kvs k)∨∃kvs k b,Rd H a (.dT kvs)∧y = .ref b∧H b=some (.tup (k.map kV))∧r=vP kvs k
section
variable {X:Cx} {p_:List (Addr×Obj)} {σ:St} {H:Hp} {s:Shared} {a:Addr} {y v:V} {u r:Value} {o:Option V} {A:Around} {E:Value→Shared→Prop}
theorem Inv.big (I:Inv X p_ σ H s):sysModules<s.heap.objs.size:=by
  have h:mainGlobals<s.heap.objs.size:=(I.mod.glob.keeps I.bk).lt;exact Nat.lt_trans (by decide) h
theorem Rh {Q:Value→Shared→Prop} (hu:A.units+1<cLine) (I:Inv X p_ σ H s) (g:Ed H a y (some v)) (ry:RelV y u) (h:∀w' s',Inv X p_ σ H s'→RelV v w'→Q w' s') :
    wpAny (model X.prog X.w) A (getItem (.ref a) u) Q E s:=by
  rcases g with⟨kvs,k,e,ey,l⟩ | ⟨kvs,k,b,e,ey,eb,l⟩
  ·subst ey;obtain⟨z,hd,vs,rel,dd⟩:=Bt I.hok e;obtain⟨w',hw,Mg⟩:=wJ.some_of (v:=v) (o:=valueAt vs k) (by rw[l];exact rel.val k);exact wpAny_getItem_of (ZG ry) dd.mapOf hw (h w' _ (I.tok _) Mg)
  · subst ey;cases (show u=Value.ref b from ry);obtain⟨z,hd,xs,rel,dd⟩:=Pr I.hok e;obtain⟨w',hw,Mg⟩:=wJ.some_of (v:=v) (o:=(atKey xs k).map (·.2)) (by rw[l];exact rel.val k);obtain⟨p,hp,hp2⟩:=Option.map_eq_some_iff.mp hw;refine wpAny_getItem_heap (tupleKind_room_in1 hu) (Us I.hok eb) dd hp ?_;rw[hp2];exact h w' _ (I.tok _) Mg
end
section
variable {X:Cx} {p_:List (Addr×Obj)} {σ:St} {H:Hp} {s:Shared} {a:Addr} {kvs:List (Key×V)} {k:Key} {u:Value} {A:Around} {E:Value→Shared→Prop}
theorem qct {Q:Value→Shared→Prop} (I:Inv X p_ σ H s) (e:Rd H a (.dK kvs)) (h:∀t s',Inv X p_ σ H s'→Q (.int kvs.length t) s'):wpAny (model X.prog X.w) A (call (.builtin "len") [.ref a]) Q E s:=by
  obtain⟨z,hd,vs,rel,dd⟩:=Bt I.hok e;refine call_len_dict hd dd (by rw[← rel.length];rw[sizeLine_eq] at z;omega) ?_;rw[← rel.length];exact h _ _ (I.tok _)
end
def qcu (i:Expr):Prop:=∀ov iv,subscripted i false ov iv=operate [ov,iv] (getItem ov iv)
theorem Ye {prog:Program} {w:World} {A:Around} {E:Value→Shared→Prop} {s:Shared} {env:Env} {value slice:Expr} {pos:Pos} {T id:String} {Q:Value→Shared→Prop}
    (hl:typeLookup (.type T) "__getitem__" = pure (some (.builtin id))) (hs:qcu slice)
    (h:wpAny (model prog w) A (eval value env) (fun o s₁=>wpAny (model prog w) A (eval slice env) (fun i s₂=>s₂.TypeIs o T∧wpAny (model prog w) A (getItem o i) Q E s₂) E s₁) E s) :
    wpAny (model prog w) A (eval (.Subscript value slice pos) env) Q E s:=by
  refine Subscript_ (wpAny_mono h (fun o s₁ h₁=>wpAny_mono h₁ (fun i s₂ h₂=>?_) fun _ _ x=>x) fun _ _ x=>x);obtain⟨hT,h₂⟩:=h₂;unfold subscriptTail;refine wpAny_bind ?_;rw[getitemInPython_of_ne hT.not_modules];refine wpAny_bind (wpAny_specialOf hT hl ?_);have fin:wpAny (model prog w) A (subscripted slice false o i) (fun r s₃=>wpAny (model prog w) A (letTemporaryGo value o r >>= fun _=>pure r) Q E s₃) E s₂:=by
    rw[hs o i];exact wpAny_operating (wpAny_mono h₂ (fun r s₃ h₃=>wpAny_bind (wpAny_letTemporaryGo (wpAny_pure h₃))) fun _ _ x=>x)
  first
    | exact wpAny_pure (wpAny_bind fin)
    | exact wpAny_bind (wpAny_pure (wpAny_bind fin))
    | exact wpAny_bind fin
theorem J3 {X:Cx} {p_:List (Addr×Obj)} {σ:St} {H:Hp} {s:Shared} {a:Addr} {y:V} {o:Option V} (I:Inv X p_ σ H s) (g:Ed H a y o):s.TypeIs (.ref a) "dict" :=by
  rcases g with⟨kvs,k,e,_,_⟩ | ⟨kvs,k,b,e,_,_,_⟩
  ·obtain⟨_,_,vs,_,dd⟩:=Bt I.hok e;exact dd.typeIs
  ·obtain⟨_,_,xs,_,dd⟩:=Pr I.hok e;exact dd.typeIs
def Ut (td ty:TE):TE:=fun σ H Q=>td σ H fun x H1=>ty σ H1 fun y H2=>∃a v,x = .ref a∧Ed H2 a y (some v)∧Q v H2
section
variable {X:Cx} {o i e value:Expr} {pos pos' tpos:Pos} {td ty tv:TE}
theorem g_ (hu:X.A.units+1<cLine) (ho:PE X o td) (hi:PE X i ty) (hs:qcu i):PE X (.Subscript o i pos) (Ut td ty):=by
  intro p_ s σ H Q I h;refine Ye PySem.F.slot_dict_getitem.lookup hs (cY (ho p_ s σ H _ I h) fun u s1 ⟨x,H1,I1,rx,q1⟩=>cY (hi p_ s1 σ H1 _ I1 q1) fun iv s2 ⟨y,H2,I2,ry,a,v,ex,g,q2⟩=>?_);subst ex;obtain rfl:u=Value.ref a:=rx;exact⟨J3 I2 g,Rh hu I2 g ry fun w' s3 I3 Mg=>⟨v,H2,I3,Mg,q2⟩⟩
end
theorem Uu {P:Program} {w:World} {H:Hp} (h:Heap) (hb:sysModules<h.objs.size):cH P w H (h.push {cls:=.type "dict",data:=.dict #[]}) h.objs.size (.dK []):=
  ⟨Nat.zero_le _,beq_eq_false_iff_ne.mpr (Ne.symm (Nat.ne_of_lt hb)),[],.nil,Heap.DictOf.new h⟩
def M_:TE:=fun _ H Q=>∀p,H p=none→Q (.ref p) (upd H p (.dK []))
section
variable {X:Cx} {pos:Pos}
theorem Uv:PE X (.Dict [] [] pos) M_:=fun p_ s σ H Q I h=>
  wpAny_Dict_empty ⟨.ref s.heap.objs.size,_,I.laid (a:=s.heap.objs.size) (o:=.dK []) (t':=s.toks) (fun _ _ q=>Heap.get?_push_of_some _ q) (Nat.le_refl _) (Uu s.heap I.big),rfl,h _ (I.hok.fresh (Nat.le_refl _))⟩
end
def IsD (H:Hp) (a:Addr):Prop:=(∃kvs,Rd H a (.dK kvs))∨∃kvs,Rd H a (.dT kvs)
theorem qa0 {X:Cx} {p_:List (Addr×Obj)} {σ:St} {H:Hp} {s:Shared} {a:Addr} (I:Inv X p_ σ H s) (d:IsD H a) :
    s.TypeIs (.ref a) "dict" ∧(∀b,Value.ref a = .ref b→∃ob,s.heap.get? b=some ob∧ob.dict=none)∧(a == sysModules)=false:=by
  rcases d with⟨kvs,e⟩ | ⟨kvs,e⟩
  ·obtain⟨_,hd,vs,_,dd⟩:=Bt I.hok e;refine⟨dd.typeIs,fun b q=>?_,hd⟩;cases q;obtain⟨ob,_,_,h1,h2,_⟩:=dd;exact⟨ob,h1,h2.2.1⟩
  ·obtain⟨_,hd,xs,_,dd⟩:=Pr I.hok e;refine⟨dd.typeIs,fun b q=>?_,hd⟩;cases q;obtain⟨ob,_,_,h1,h2,_⟩:=dd;exact⟨ob,h1,h2.2.1⟩
section
variable {X:Cx}
theorem Ri:cu X (.builtin "len") (fun xs H Q=>∃a kvs,xs=[V.ref a]∧H a=some (.dK kvs)∧Q (.int kvs.length) H):=by
  intro p_ s σ H xs us Q I r h;obtain⟨a,kvs,rfl,ha,q⟩:=h;obtain⟨u,rfl,ru⟩:=vals1 r;cases ru;exact qct I (.inl ha) fun t s' I'=>⟨.int kvs.length,H,I',⟨t,rfl⟩,q⟩
end
section
variable {κ:Type} [DecidableEq κ]
theorem wV:∀{l:List κ} {k:κ},l.Nodup→¬k∈l→(l++[k]).Nodup
  | [],k,_,_=>by simp
  | a::r,k,h,hk=>by
    obtain⟨h1,h2⟩:=List.nodup_cons.mp h;show(a::(r++[k])).Nodup;refine List.nodup_cons.mpr ⟨fun m=>?_,wV h2 fun m=>hk (List.mem_cons.mpr (Or.inr m))⟩
    rcases List.mem_append.mp m with q | q
    ·exact h1 q
    ·exact hk (List.mem_cons.mpr (Or.inl (List.mem_singleton.mp q).symm))
end
structure Nm2 (mg:Str→Option Value):Prop where
  enumerate:mg "enumerate" = none
  any:mg "any" = none
  dict:mg "dict" = none
  sorted:mg "sorted" = none
  repr:mg "repr" = none
  bool:mg "bool" = none
section
variable {X:Cx} {K:W.Frag} {tg:Expr}
theorem Yg (hK:X.K=K) {es:List Expr} {k:Nat} {pos':Pos} {a b:Expr} {ta:TA} {p pos:Pos} (hg:Gl X "zip") (hm:X.mg "zip" = none) (ha:PA X [a,b] ta)
    (hs:starEach [a,b] X.env=[(false,eval a X.env),(false,eval b X.env)]:=by rfl) (hs2:starEach [b] X.env=[(false,eval b X.env)]:=by rfl) :
    PI X (.Tuple es k pos') (.Call (.Name "zip" p) [a,b] [] pos) (X6 K ta):=by subst hK;exact qaR hg hm ha hs hs2
theorem Pu (hK:X.K=K) {o:Expr} {to:TE} {name:Str} {apos cpos:Pos} {T id:String} {r:V→List V→Hp→VK→Prop} (pa:PlainAttrs T) (slot:Slot T name id) (hty:typeOf (.builtin id)=pure (.type "method_descriptor")) (hm:Mv X id r) (ho:PE X o to)
    (hbase:attributeBase o name X.env (eval o X.env)=eval o X.env:=by rfl) (hline:(apos.endLine == cpos.line)=true:=by rfl):PE X (.Call (.Attribute o name apos) [] [] cpos) (qaM K T r to):=by subst hK;exact qaN pa slot hty hm ho hbase hline
theorem Ae (hK:X.K=K) {o value:Expr} {ta tv:TE} {f:Str} {pos pos':Pos} (ha:PE X o ta) (hv:PE X value tv) (hs:swapsWith value (some (.Attribute o f pos')) pos.line X.env=pure false):PS X (.Assign [.Attribute o f pos'] value pos) (qaE K ta tv f):=by subst hK;exact qaG ha hv hs
end
@[simp ↓] theorem qe2 (i:Nat) σ H Q:qam i σ H Q=(∃v,σ[i]? = some (some v)∧Q v H):=rfl
@[simp ↓] theorem qgC (v:V) z0 H Q:tC v z0 H Q=(Q v H):=rfl
@[simp ↓] theorem qgD (t:TE) σ H Q:tB t σ H Q=(t σ H fun x H1=>∃c,x = .bl c∧Q c H1):=rfl
@[simp ↓] theorem qe3 (t:TT) σ H Q:qb5 t σ H Q=(t σ H fun c H1=>Q (!c) H1):=rfl
@[simp ↓] theorem qdR (ta:TE) σ H Q:SM ta σ H Q=(ta σ H fun x H1=>∃c,x = .bl c∧Q (.bl (!c)) H1):=rfl
@[simp ↓] theorem qdS D σ H:Zn  D σ H=(D.nx σ H):=rfl
@[simp ↓] theorem qe4 (t u:TS) D σ H:qar t u D σ H=(t {D with nx:=u D} σ H):=rfl
@[simp ↓] theorem qdT (te:TE) D σ H:Zo te D σ H=(te σ H fun _ H1=>D.nx σ H1):=rfl
@[simp ↓] theorem qe5 (te:TE) D σ H:SN te D σ H=(te σ H D.rt):=rfl
@[simp ↓] theorem qcv z0 z1 z2:Ma  z0 z1 z2=(False):=rfl
@[simp ↓] theorem qdU (i:Nat) v σ H Q:Fo i v σ H Q=(Q (σ.set i (some v)) H):=rfl
@[simp ↓] theorem qe6 vs σ H Q:qas  vs σ H Q=(vs=[]∧Q σ H):=rfl
@[simp ↓] theorem qdV (t:TG) (u:Fl) vs σ H Q:SQ t u vs σ H Q=(∃v r,vs=v::r∧t v σ H fun σ' H'=>u r σ' H' Q):=rfl
@[simp ↓] theorem qe7 (K:W.Frag) (n:Nat) (t:Fl) v σ H Q:Xw K n t v σ H Q=(∃a xs,v = .ref a∧jK K H a xs∧xs.length=n∧t xs σ H Q):=rfl
@[simp ↓] theorem qe8 (to ti:TE) (t:QC) v σ H Q:qb7 to ti t v σ H Q=(to σ H fun o H1=>ti σ H1 fun i H2=>t o i v H2 fun H3=>Q σ H3):=rfl
@[simp ↓] theorem qe9 (te:TE) (g:TG) D σ H:QF te g D σ H=(te σ H fun x H1=>g x σ H1 D.nx):=rfl
@[simp ↓] theorem qe_ (i j:Nat) (ta:TA) D σ H:qau i j ta D σ H=(ta σ H fun vs H1=>∃v w,vs=[v,w]∧D.nx ((σ.set i (some v)).set j (some w)) H1):=rfl
@[simp ↓] theorem qdW (K:W.Frag) (tl:TE) σ H R:O5 K tl σ H R=(tl σ H fun x H1=>∃a,x = .ref a∧(∃xs,bA K H1 a xs)∧R (R7 K a) H1):=rfl
@[simp ↓] theorem qdX (ta:TA) σ H R:Tc ta σ H R=(ta σ H fun vs H1=>∃j:Int,vs=[.int j]∧-(2 ^ 62)≤j∧j<2 ^ 62∧R (LK 0 j.toNat) H1):=rfl
@[simp ↓] theorem qdY (ta:TA) σ H R:Td ta σ H R=(ta σ H fun vs H1=>∃i j:Int,vs=[.int i,.int j]∧(-(2 ^ 62)≤i∧i<2 ^ 62∧-(2 ^ 62)≤j∧j<2 ^ 62)∧R (LK i (j - i).toNat) H1):=rfl
@[simp ↓] theorem qga (r:R2) (ta tb:TE) σ H Q:Mj r ta tb σ H Q=(ta σ H fun x H1=>tb σ H1 fun y H2=>r x y H2 Q):=rfl
@[simp ↓] theorem qgb (r:V→Hp→VK→Prop) (ta:TE) σ H Q:tUn r ta σ H Q=(ta σ H fun x H1=>r x H1 Q):=rfl
@[simp ↓] theorem qdZ (t:TE) σ H Q:O9 t σ H Q=(t σ H fun x H'=>∃k,x = .bl k∧Q k H'):=rfl
@[simp ↓] theorem qfa (K:W.Frag) (ta:TE) (f:Str) σ H Q:XJ K ta f σ H Q=(ta σ H fun x H1=>∃a C dx fs v,x = .ref a∧H1 a=some (.ins C dx fs)∧Cls K C∧lW K C f∧fs.lookup f=some v∧Q v H1):=rfl
@[simp ↓] theorem qfb (K:W.Frag) (ta tv:TE) (f:Str) D σ H:qaE K ta tv f D σ H=(tv σ H fun y H1=>ta σ H1 fun x H2=>∃a C dx fs,x = .ref a∧H2 a=some (.ins C dx fs)∧Cls K C∧lW K C f∧fs.length<1000∧D.nx σ (upd H2 a (.ins C dx (qj f y fs)))):=rfl
@[simp ↓] theorem qfc z0 H Q:mZ  z0 H Q=(Q [] H):=rfl
@[simp ↓] theorem qd0 (ta:TE) (tr:TA) σ H Q:dW ta tr σ H Q=(ta σ H fun x H1=>tr σ H1 fun xs H2=>Q (x::xs) H2):=rfl
@[simp ↓] theorem qfd (t:TA) σ H Q:QZ t σ H Q=(t σ H fun xs H1=>xs.length≤sizeLine∧∀p,H1 p=none→Q (.ref p) (upd H1 p (.tup xs))):=rfl
@[simp ↓] theorem qfe (t:TA) σ H Q:Bh t σ H Q=(t σ H fun xs H1=>xs.length≤sizeLine∧∀p,H1 p=none→Q (.ref p) (upd H1 p (.lst xs))):=rfl
@[simp ↓] theorem qgc (r:List V→Hp→VK→Prop) (t:TA) σ H Q:XM r t σ H Q=(t σ H fun vs H1=>r vs H1 Q):=rfl
@[simp ↓] theorem qbU z0 H Q:Aa  z0 H Q=(Q none H):=rfl
@[simp ↓] theorem qd1 (t:TE) σ H Q:TQ t σ H Q=(t σ H fun x H1=>∃i,x = .int i∧Q (some i) H1):=rfl
@[simp ↓] theorem qgd (r:V→Option Int→Option Int→Hp→VK→Prop) (te:TE) (tl th:TO) σ H Q:tSl r te tl th σ H Q=(te σ H fun x H1=>tl σ H1 fun l H2=>th σ H2 fun u H3=>r x l u H3 Q):=rfl
@[simp ↓] theorem qff (K:W.Frag) (T:String) (r:V→List V→Hp→VK→Prop) (to:TE) σ H Q:qaM K T r to σ H Q=(to σ H fun x H1=>X3 K T x H1∧r x [] H1 Q):=rfl
@[simp ↓] theorem qge (K:W.Frag) (T:String) (r:V→List V→Hp→VK→Prop) (to:TE) (t:TA) σ H Q:tBM K T r to t σ H Q=(to σ H fun x H1=>X3 K T x H1∧t σ H1 fun xs H2=>r x xs H2 Q):=rfl
@[simp ↓] theorem qcw x vs H Q:T_  x vs H Q=(∃l xs i k y,x = .ref l∧vs=[.int i]∧H l=some (.lst xs)∧-(2 ^ 63)≤i∧i<2 ^ 63∧seqIndex? i xs.length=some k∧xs[k]? = some y∧Q y (upd H l (.lst (xs.eraseIdx k)))):=rfl
@[simp ↓] theorem qfg x y H Q:qci  x y H Q=(∃l k xs,x = .ref l∧y = .int k∧H l=some (.lst xs)∧-(2 ^ 63)≤k∧k<2 ^ 63∧xs.length * k.toNat≤sizeLine∧∀p,H p=none→Q (.ref p) (upd H p (.lst (List.replicate k.toNat xs).flatten))):=rfl
@[simp ↓] theorem qfh z0 H Q:qcm  z0 H Q=(Q true H):=rfl
@[simp ↓] theorem qfi (tl:TE) σ H R:qaQ tl σ H R=(tl σ H fun x H1=>∃z,x = .str z∧R (Its z) H1):=rfl
@[simp ↓] theorem qfj (K:W.Frag) (t:TA) σ H R:X6 K t σ H R=(t σ H fun vs H1=>∃a b xs ys,vs=[.ref a,.ref b]∧bA K H1 a xs∧bA K H1 b ys∧R (R9 K a b) H1):=rfl
@[simp ↓] theorem qfk (K:W.Frag) (tl:TE) σ H R:qaX K tl σ H R=(tl σ H fun x H1=>∃b p,x = .ref p∧(∃xs,ZF b K H1 p xs)∧R (Itq b K p) H1):=rfl
structure qfl (Q:VK) where
  n:Nat
structure qcx (g:TG) (tb:TS) (D:Ends) where
  n:Nat
structure qgE (c:TT) (tb:TS) (D:Ends) where
  n:Nat
structure Yh (g:TG) (tt:TT) (te:TE) (Q:Hp→Prop) where
  n:Nat
structure Nb (A B:Prop) where
  n:Nat
def Rj (sp:Sp) (vs:List V) (H:Hp) (Q:VK) (d:qfl Q) (E:XK):Prop:=sp vs H Q E
def tFr (J:It) (g:TG) (tb:TS) (D:Ends) (d:qcx g tb D) (σ:St) (H:Hp):Prop:=qaY J g tb D σ H
def ZK (own:List Str) (caps:List Nat) (J:It) (g:TG) (tt:TT) (te:TE) (Q:Hp→Prop) (d:Yh g tt te Q) (D:Addr) (σ:St) (H:Hp):Prop:=lg own caps J g tt te D σ H Q
def iI (b:Bool) (A B:Prop) (d:Nb A B):Prop:=if b=true then A else B
@[simp] theorem qgf (A B:Prop) (d:Nb A B):iI true A B d=A:=rfl
@[simp] theorem qgg (A B:Prop) (d:Nb A B):iI false A B d=B:=rfl
theorem iI.of {b:Bool} {A B:Prop} {d:Nb A B} (h1:b=true→A) (h2:b=false→B):iI b A B d:=by
  cases b with
  | true=>exact h1 rfl
  | false=>exact h2 rfl
theorem iI.pos {b:Bool} {A B:Prop} {d:Nb A B} (h:b=true) (h1:A):iI b A B d:=by subst h;exact h1
theorem iI.neg {b:Bool} {A B:Prop} {d:Nb A B} (h:b=false) (h1:B):iI b A B d:=by subst h;exact h1
@[simp ↓] theorem qd2 (sp:Sp) (yd:List V) (E:XK) (t:TA) (σ:St) (H:Hp) (Q:VK):Tt sp yd E t σ H Q=t σ H fun vs H1=>Rj sp (vs++yd) H1 Q ⟨0⟩ E:=rfl
@[simp ↓] theorem qd3 (C:Addr) (m:Str) (sp:Sp) (yd:List V) (E:XK) (ta:TE) (t:TA) (σ:St) (H:Hp) (Q:VK):Tw C m sp yd E ta t σ H Q=ta σ H fun x H1=>∃a dx fs,x = .ref a∧H1 a=some (.ins C dx fs)∧fs.lookup m=none∧t σ H1 fun vs H2=>Rj sp (x::(vs++yd)) H2 Q ⟨0⟩ E:=rfl
@[simp ↓] theorem qd4 (C:Addr) (sp:Sp) (yd:List V) (E:XK) (t:TA) (σ:St) (H:Hp) (Q:VK):Tz C sp yd E t σ H Q=t σ H fun vs H1=>∀x dx,H1 x=none→H1 dx=none→dx≠x→
  Rj sp (.ref x::(vs++yd)) (upd (upd H1 dx (.own x)) x (.ins C dx [])) (fun v H2=>v = .non∧Q (.ref x) H2) ⟨0⟩ E:=rfl
@[simp ↓] theorem qfm (wi:TI) (g:TG) (tb:TS) (D:Ends) (σ:St) (H:Hp):qb8 wi g tb D σ H=wi σ H fun J H1=>tFr J g tb D ⟨0⟩ σ H1:=rfl
@[simp ↓] theorem qd5 (own:List Str) (caps:List Nat) (wi:TI) (g:TG) (tt:TT) (te:TE) (σ:St) (H:Hp) (Q:VK):Pg own caps wi g tt te σ H Q=wi σ H fun J H1=>∀D,H1 D=none→ZK own caps J g tt te (Q (.ref D)) ⟨0⟩ D σ (upd H1 D (.lst [])):=rfl
@[simp ↓] theorem qfn (c:TT) (t u:TS) (D:Ends) (σ:St) (H:Hp):qb6 c t u D σ H=c σ H fun b H1=>iI b (t D σ H1) (u D σ H1) ⟨0⟩:=rfl
@[simp ↓] theorem qgh (c:TT) (t u:TE) (σ:St) (H:Hp) (Q:VK):tIf c t u σ H Q=c σ H fun b H1=>iI b (t σ H1 Q) (u σ H1 Q) ⟨0⟩:=rfl
@[simp ↓] theorem qgi (t u:TT) (σ:St) (H:Hp) (Q:Bool→Hp→Prop):tOr t u σ H Q=t σ H fun c H1=>iI c (Q true H1) (u σ H1 Q) ⟨0⟩:=rfl
@[simp ↓] theorem qd6 (ta tb:TE) (σ:St) (H:Hp) (Q:VK):SJ ta tb σ H Q=ta σ H fun x H1=>∃c,x = .bl c∧iI c (tb σ H1 Q) (Q (.bl false) H1) ⟨0⟩:=rfl
@[simp ↓] theorem qcy (r r':R2) (ta tb tc:TE) (σ:St) (H:Hp) (Q:VK):GR r r' ta tb tc σ H Q=ta σ H fun x H1=>tb σ H1 fun y H2=>r x y H2 fun z H3=>∃k,z = .bl k∧iI k (tc σ H3 fun z H4=>r' y z H4 Q) (Q (.bl false) H3) ⟨0⟩:=rfl
def zu (g:TG) (tt:TT) (te:TE) (D:Addr) (N:St→Hp→Prop) (x:V) (σ:St) (H:Hp):Prop:=
  g x σ H fun σ2 H3=>tt σ2 H3 fun b H4=>iI b (te σ2 H4 fun y H5=>∃ys,H5 D=some (.lst ys)∧ys.length<sizeLine∧N σ2 (upd H5 D (.lst (ys++[y])))) (N σ2 H4) ⟨0⟩
@[simp ↓] theorem qd7 (g:TG) (tt:TT) (te:TE) (D:Addr) (N:St→Hp→Prop) (x:V) (σ:St) (H:Hp):zu g tt te D N x σ H =
  (g x σ H fun σ2 H3=>tt σ2 H3 fun b H4=>iI b (te σ2 H4 fun y H5=>∃ys,H5 D=some (.lst ys)∧ys.length<sizeLine∧N σ2 (upd H5 D (.lst (ys++[y])))) (N σ2 H4) ⟨0⟩):=rfl
@[simp ↓] theorem qfo {α:Type} (a b:α) (R:α→α→Prop):(∃v w,[a,b]=[v,w]∧R v w)=R a b:=by
  refine propext ⟨?_,fun h=>⟨a,b,rfl,h⟩⟩;rintro⟨_,_,e,h⟩;cases e;exact h
@[simp] theorem qd8 {α β:Type} (a:α) (b:β) (R:α→β→Prop):(∃v w,(a=v∧b=w)∧R v w)=R a b:=by
  refine propext ⟨?_,fun h=>⟨a,b,⟨rfl,rfl⟩,h⟩⟩;rintro⟨_,_,⟨rfl,rfl⟩,h⟩;exact h
@[simp] theorem sz0:(0≤sizeLine)=True:=eq_true (by decide)
@[simp] theorem sz1:(1≤sizeLine)=True:=eq_true (by decide)
@[simp] theorem sz2:(2≤sizeLine)=True:=eq_true (by decide)
@[simp] theorem sz3:(3≤sizeLine)=True:=eq_true (by decide)
@[simp] theorem sz4:(4≤sizeLine)=True:=eq_true (by decide)
@[simp] theorem sz5:(5≤sizeLine)=True:=eq_true (by decide)
@[simp] theorem sz6:(6≤sizeLine)=True:=eq_true (by decide)
@[simp] theorem sz7:(7≤sizeLine)=True:=eq_true (by decide)
@[simp] theorem sz8:(8≤sizeLine)=True:=eq_true (by decide)
@[simp] theorem sz9:(9≤sizeLine)=True:=eq_true (by decide)
@[simp] theorem qgF:(10≤sizeLine)=True:=eq_true (by decide)
@[simp] theorem qgG:(11≤sizeLine)=True:=eq_true (by decide)
@[simp] theorem qfp:(12≤sizeLine)=True:=eq_true (by decide)
@[simp] theorem qgH:(13≤sizeLine)=True:=eq_true (by decide)
@[simp] theorem qgI:(14≤sizeLine)=True:=eq_true (by decide)
@[simp] theorem qgJ:(15≤sizeLine)=True:=eq_true (by decide)
@[simp] theorem qgK:(16≤sizeLine)=True:=eq_true (by decide)
@[simp] theorem qgL:(17≤sizeLine)=True:=eq_true (by decide)
@[simp] theorem qgM:(18≤sizeLine)=True:=eq_true (by decide)
@[simp] theorem qgN:(19≤sizeLine)=True:=eq_true (by decide)
@[simp] theorem Nf:(20≤sizeLine)=True:=eq_true (by decide)
@[simp] theorem qd9 (i j:Int):zY (.int i) (.int j)=true:=rfl
@[simp] theorem qd_ (i j:Str):zY (.str i) (.str j)=true:=rfl
@[simp] theorem qea (i j:Bool):zY (.bl i) (.bl j)=true:=rfl
@[simp] theorem qeb (i:Int) (j:Str):zY (.int i) (.str j)=true:=rfl
@[simp] theorem qec (i:Int) (j:Str):zY (.str j) (.int i)=true:=rfl
@[simp] theorem qcz (K:W.Frag) (p:Addr) (H:Hp):X3 K "list" (.ref p) H=(∃xs,bA K H p xs):=by simp[X3]
@[simp] theorem qee (K:W.Frag) (p:Str) (H:Hp):X3 K "str" (.str p) H=True:=by simp[X3]
section
variable {K:W.Frag} {l:Addr} {xs:List V} {g:TG} {tb:TS} {D:Ends} {d:qcx g tb D} {σ:St} {H:Hp}
theorem frL (xs:List V) (Pv:Nat→St→Hp→Prop) (h0:Pv 0 σ H) (hl:∀i σ H,i≤xs.length→Pv i σ H→bA K H l xs)
    (hs:∀i x σ H,xs[i]? = some x→Pv i σ H→g x σ H fun σ2 H2=>tb {D with nx:=Pv (i+1),ct:=Pv (i+1),bk:=D.nx} σ2 H2) (hd:∀σ H,Pv xs.length σ H→D.nx σ H):tFr (R7 K l) g tb D d σ H:=Tg Pv h0 hl hs hd
theorem frR {lo:Int} {n:Nat} (Pv:Nat→St→Hp→Prop) (h0:Pv 0 σ H)
    (hs:∀i σ H,i<n→Pv i σ H→g (.int (lo+i)) σ H fun σ2 H2=>tb {D with nx:=Pv (i+1),ct:=Pv (i+1),bk:=D.nx} σ2 H2) (hd:∀σ H,Pv n σ H→D.nx σ H):tFr (LK lo n) g tb D d σ H:=QJ Pv h0 hs hd
end
section
variable {K:W.Frag} {own:List Str} {caps:List Nat} {g:TG} {tt:TT} {te:TE} {D l l1 l2:Addr} {σ:St} {H:Hp} {Q:Hp→Prop} {d:Yh g tt te Q}
theorem Rk (xs:List V) (Pv:Nat→St→Hp→Prop) (h0:Pv 0 (stC own caps σ) H) (hl:∀i σ H,i≤xs.length→Pv i σ H→bA K H l xs)
    (hs:∀i x σ H,xs[i]? = some x→Pv i σ H→zu g tt te D (Pv (i+1)) x σ H) (hd:∀σ H,Pv xs.length σ H→Q H):ZK own caps (R7 K l) g tt te Q d D σ H:=FT Pv h0 hl hs hd
theorem Xg {b:Bool} (xs:List V) (Pv:Nat→St→Hp→Prop) (h0:Pv 0 (stC own caps σ) H) (hl:∀i σ H,i≤xs.length→Pv i σ H→ZF b K H l xs)
    (hs:∀i x σ H,xs[i]? = some x→Pv i σ H→zu g tt te D (Pv (i+1)) x σ H) (hd:∀σ H,Pv xs.length σ H→Q H):ZK own caps (Itq b K l) g tt te Q d D σ H:=Uo Pv h0 hl hs hd
theorem cmR {lo:Int} {n:Nat} (Pv:Nat→St→Hp→Prop) (h0:Pv 0 (stC own caps σ) H)
    (hs:∀i σ H,i<n→Pv i σ H→zu g tt te D (Pv (i+1)) (.int (lo+i)) σ H) (hd:∀σ H,Pv n σ H→Q H):ZK own caps (LK lo n) g tt te Q d D σ H:=M5 Pv h0 hs hd
theorem cmS {z:Str} (Pv:Nat→St→Hp→Prop) (h0:Pv 0 (stC own caps σ) H)
    (hs:∀i c σ H,z.cps[i]? = some c→Pv i σ H→zu g tt te D (Pv (i+1)) (.str ⟨#[c]⟩) σ H) (hd:∀σ H,Pv z.cps.size σ H→Q H):ZK own caps (Its z) g tt te Q d D σ H:=Ul Pv h0 hs hd
theorem cmZ (xs ys:List V) (Pv:Nat→St→Hp→Prop) (h0:Pv 0 (stC own caps σ) H) (he:xs.length=ys.length) (hl:∀i σ H,i≤xs.length→Pv i σ H→bA K H l1 xs∧bA K H l2 ys)
    (hs:∀i x y t σ H,xs[i]? = some x→ys[i]? = some y→H t=none→Pv i σ H→zu g tt te D (Pv (i+1)) (.ref t) σ (upd H t (.tup [x,y]))) (hd:∀σ H,Pv xs.length σ H→Q H):ZK own caps (R9 K l1 l2) g tt te Q d D σ H:=Um Pv h0 he hl hs hd
end
theorem J4 {c:Bool} {t u:TS} {D:Ends} {σ:St} {H:Hp} {d:Nb (t D σ H) (u D σ H)} (R:St→Hp→Prop) (hc:∀σ H,R σ H→D.nx σ H)
    (h:∀N:St→Hp→Prop,(∀σ H,R σ H→N σ H)→iI c (t {D with nx:=N} σ H) (u {D with nx:=N} σ H) ⟨0⟩):iI c (t D σ H) (u D σ H) d:=h D.nx hc
theorem qO {α β:Type} {f:α→β} {ys zs:List β} (h:ys.Perm zs):∀l:List α,zs=l.map f→∃l':List α,l'.Perm l∧ys=l'.map f:=by
  induction h with
  | nil=>
    intro l e;cases l with
    | nil=>exact⟨[],.nil,rfl⟩
    | cons a l=>cases e
  | cons x _ ih=>
    intro l e;cases l with
    | nil=>cases e
    | cons a l=>
      simp only[List.map_cons,List.cons.injEq] at e;obtain⟨l',p,e'⟩:=ih l e.2;exact⟨a::l',p.cons a,by rw[e',e.1,List.map_cons]⟩
  | swap x y _=>
    intro l e
    match l,e with
    | a::b::l,e=>
      simp only[List.map_cons,List.cons.injEq] at e;exact⟨b::a::l,.swap ..,by rw[e.1,e.2.1,e.2.2];rfl⟩
  | trans _ _ ih1 ih2=>
    intro l e;obtain⟨l',p,e'⟩:=ih2 l e;obtain⟨l2,p2,e2⟩:=ih1 l' e';exact⟨l2,p2.trans p,e2⟩
theorem Uw {α:Type} {xs:List α} {k:Nat} (h2:2≤xs.length) (hk:k<xs.length):∃j x,j≠k∧xs[j]? = some x∧Fy xs ((k:Int) - 1)=some x:=by
  cases k with
  | zero=>
    have hj:xs.length - 1<xs.length:=by omega
    refine⟨xs.length - 1,xs[xs.length - 1],by omega,by simp[hj],?_⟩;unfold Fy Xf;rw[if_neg (by omega),if_pos (by omega)];have e:(((0:Nat):Int) - 1+xs.length).toNat=xs.length - 1:=by omega
    show xs[(((0:Nat):Int) - 1+xs.length).toNat]? = _;rw[e];simp[hj]
  | succ k=>
    have hj:k<xs.length:=by omega
    have e:((k+1:Nat):Int) - 1=(k:Int):=by omega
    rw[e];exact⟨k,xs[k],by omega,by simp[hj],cJ (by simp[hj])⟩
end L2
namespace L2
open PySem
theorem Hs (K:W.Frag):W.kitOne K (.type "list") (.type "str")=some false:=by simp[W.kitOne];rfl
theorem Ht (K:W.Frag):W.kitOne K (.type "list") (.type "int")=some false:=by simp[W.kitOne];rfl
theorem Ef (K:W.Frag):W.kitOne K (.type "list") (.type "bool")=some false:=by simp[W.kitOne];rfl
theorem Eh (K:W.Frag):W.kitOne K (.type "list") (.type "dict")=some false:=by simp[W.kitOne];rfl
theorem Ei (K:W.Frag):W.kitOne K (.type "tuple") (.type "str")=some false:=by simp[W.kitOne];rfl
theorem Ej (K:W.Frag):W.kitOne K (.type "tuple") (.type "int")=some false:=by simp[W.kitOne];rfl
theorem Bu (K:W.Frag):W.kitOne K (.type "tuple") (.type "bool")=some false:=by simp[W.kitOne];rfl
theorem Bv (K:W.Frag):W.kitOne K (.type "tuple") (.type "dict")=some false:=by simp[W.kitOne];rfl
theorem zx (K:W.Frag):W.kitOne K (.type "str") (.type "str")=some true:=by simp[W.kitOne]
theorem J_ (K:W.Frag):W.kitOne K (.type "str") (.type "int")=some false:=by simp[W.kitOne];rfl
theorem Hu (K:W.Frag):W.kitOne K (.type "str") (.type "bool")=some false:=by simp[W.kitOne];rfl
theorem Hv (K:W.Frag):W.kitOne K (.type "str") (.type "dict")=some false:=by simp[W.kitOne];rfl
theorem Ka (K:W.Frag):W.kitOne K (.type "int") (.type "str")=some false:=by simp[W.kitOne];rfl
theorem zy (K:W.Frag):W.kitOne K (.type "int") (.type "int")=some true:=by simp[W.kitOne]
theorem wW (K:W.Frag):W.kitOne K (.type "int") (.type "bool")=some false:=by simp[W.kitOne];rfl
theorem Hw (K:W.Frag):W.kitOne K (.type "int") (.type "dict")=some false:=by simp[W.kitOne];rfl
theorem Hx (K:W.Frag):W.kitOne K (.type "bool") (.type "str")=some false:=by simp[W.kitOne];rfl
theorem Hy (K:W.Frag):W.kitOne K (.type "bool") (.type "int")=some true:=by simp[W.kitOne];rfl
theorem Ek (K:W.Frag):W.kitOne K (.type "bool") (.type "bool")=some true:=by simp[W.kitOne]
theorem El (K:W.Frag):W.kitOne K (.type "bool") (.type "dict")=some false:=by simp[W.kitOne];rfl
theorem Hz (K:W.Frag):W.kitOne K (.type "dict") (.type "str")=some false:=by simp[W.kitOne];rfl
theorem HF (K:W.Frag):W.kitOne K (.type "dict") (.type "int")=some false:=by simp[W.kitOne];rfl
theorem Em (K:W.Frag):W.kitOne K (.type "dict") (.type "bool")=some false:=by simp[W.kitOne];rfl
theorem vD (K:W.Frag):W.kitOne K (.type "dict") (.type "dict")=some true:=by simp[W.kitOne]
theorem yx (K:W.Frag):W.kitOne K (.type "NoneType") (.type "str")=some false:=by simp[W.kitOne];rfl
theorem yC (K:W.Frag):W.kitOne K (.type "NoneType") (.type "int")=some false:=by simp[W.kitOne];rfl
theorem wX (K:W.Frag):W.kitOne K (.type "NoneType") (.type "bool")=some false:=by simp[W.kitOne];rfl
theorem wY (K:W.Frag):W.kitOne K (.type "NoneType") (.type "dict")=some false:=by simp[W.kitOne];rfl
end L2
namespace L2
open PySem PySem.Spec PyProof.Rows
section
variable {X:Cx} {K:W.Frag}
def qcA (K:W.Frag):R2:=fun x y H Q=>∃d e,Is K H d x∧Is K H e y∧d.canLay0=true∧e.canLay0=true∧d.depth≤64∧Q (.bl (PyData.eqv d e)) H
def qcB (K:W.Frag):R2:=fun x y H Q=>∃d e,Is K H d x∧Is K H e y∧d.canLay0=true∧e.canLay0=true∧d.depth≤64∧Q (.bl (!PyData.eqv d e)) H
theorem qa1 (hK:X.K=K) (hu:X.A.units+64<cLine):iZ X (compareOp .Eq) (qcA K):=by
  subst hK;intro p_ s σ H x y v u Q I rx ry h;obtain⟨d,e,h1,h2,h3,h4,h5,q⟩:=h;exact qaS p_ s σ H x y v u Q I rx ry ⟨d,e,h1,h2,h3,h4,by omega,q⟩
theorem qa2 (hK:X.K=K) (hu:X.A.units+64<cLine):iZ X (compareOp .NotEq) (qcB K):=by
  subst hK;intro p_ s σ H x y v u Q I rx ry h;obtain⟨d,e,h1,h2,h3,h4,h5,q⟩:=h;exact qaT p_ s σ H x y v u Q I rx ry ⟨d,e,h1,h2,h3,h4,by omega,q⟩
end
def jD (xs:List Str):List PyData:=xs.map PyData.str
def eZ (ps:List (Str×Str)):List PyData:=ps.map fun e=>.tuple [.str e.1,.str e.2]
theorem HJ {K:W.Frag} {H:Hp}:∀xs:List Str,qm K H (jD xs) (xs.map V.str)
  | []=>rfl
  | x::xs=>⟨_,_,rfl,rfl,HJ xs⟩
theorem Yi (c:Nat):Yd c=decide (c∈("abcdefghijklmnopqrstuvwxyz" : Str).cps.toList):=PySem.StrLaws.found_one _ c
theorem Ux {c:Nat} (h:Yd c=true):c<128:=by
  rw[Yi] at h;have h':=of_decide_eq_true h;have key:∀x∈("abcdefghijklmnopqrstuvwxyz" : Str).cps.toList,x<128:=by decide+kernel
  exact key c h'
theorem Yj {x:Str} (h:nameB x=true):PyData.strOk x=true:=by
  unfold nameB at h;simp only[Bool.and_eq_true] at h;have h2:=h.2;unfold PyData.strOk;rw[← Array.all_toList];rw[List.all_eq_true] at h2 ⊢;intro c hc;have:=Ux (h2 c hc);exact decide_eq_true (by omega)
theorem Kc:∀xs:List Str,(∀x∈xs,PyData.strOk x=true)→PyData.canLayAll0 (jD xs)=true
  | [],_=>by simp[jD,PyData.canLayAll0]
  | x::xs,h=>by
    have:=Kc xs fun y hy=>h y (List.mem_cons_of_mem _ hy);simp[jD] at this;simp[jD,PyData.canLayAll0,PyData.canLay0,this,h x List.mem_cons_self]
theorem FZ:∀ps:List (Str×Str),(∀e∈ps,PyData.strOk e.1=true∧PyData.strOk e.2=true)→PyData.canLayAll0 (eZ ps)=true
  | [],_=>by simp[eZ,PyData.canLayAll0]
  | x::xs,h=>by
    have:=FZ xs fun y hy=>h y (List.mem_cons_of_mem _ hy);simp[eZ] at this;simp[eZ,PyData.canLayAll0,PyData.canLay0,this,h x List.mem_cons_self]
theorem Kd:∀xs:List Str,PyData.depthAll (jD xs)≤1
  | []=>by simp[jD,PyData.depthAll]
  | x::xs=>by
    have:=Kd xs;simp[jD] at this;simp[jD,PyData.depthAll,PyData.depth,this]
theorem Ga:∀ps:List (Str×Str),PyData.depthAll (eZ ps)≤2
  | []=>by simp[eZ,PyData.depthAll]
  | x::xs=>by
    have:=Ga xs;simp[eZ] at this;simp[eZ,PyData.depthAll,PyData.depth];omega
@[simp ↓] theorem qef (td ty:TE) (σ:St) (H:Hp) (Q:VK):Ut td ty σ H Q=(td σ H fun x H1=>ty σ H1 fun y H2=>∃a v,x = .ref a∧Ed H2 a y (some v)∧Q v H2):=rfl
@[simp ↓] theorem qcC (σ:St) (H:Hp) (Q:VK):M_ σ H Q=(∀p,H p=none→Q (.ref p) (upd H p (.dK []))):=rfl
end L2
namespace L2
open PySem
inductive RT {α:Type} (R:α→α→Prop):α→α→Prop where
  | refl (a:α):RT R a a
  | tail {a b c:α}:RT R a b→R b c→RT R a c
abbrev Stp:=Nat×Str×Str
def qcD (S:List Stp) (a b:Str):Prop:=∃n,(n,a,b)∈S
end L2
namespace L2
open PySem PySem.Spec PyProof.Rows
section
variable {β:Type} {R:Hp→V→β→Prop} {H H':Hp} {vs:List V} {bs:List β}
end
def lq (H H':Hp):Prop:=∀b xs,H b=some (.tup xs)→H' b=some (.tup xs)
end L2
namespace L2
open PySem
inductive Px (S:List Stp) (a:Str):List Nat→List Str→Str→Prop where
  | nil:Px S a [] [a] a
  | snoc {w:List Nat} {vs:List Str} {b c:Str} {n:Nat}:Px S a w vs b→(n,b,c)∈S→Px S a (w++[n]) (vs++[c]) c
inductive Walk (S:List Stp) (a:Str):Nat→Str→Prop where
  | nil:Walk S a 0 a
  | snoc {k:Nat} {b c:Str} {n:Nat}:Walk S a k b→(n,b,c)∈S→Walk S a (k+1) c
abbrev BR:=List (Str×List Nat)
structure Bfs (S:List Stp) (a:Str) (at_:Nat) (R:BR):Prop where
  st:R[0]? = some (a,[])
  nd:(R.map (·.1)).Nodup
  pth:∀y w,(y,w)∈R→∃vs,Px S a w vs y∧vs.Nodup∧∀v∈vs,v∈R.map (·.1)
  cl:∀(i:Nat) y w,i<at_→R[i]? = some (y,w)→∀n c,(n,y,c)∈S→∃w',(c,w')∈R∧w'.length≤w.length+1
  mono:∀(i j:Nat) y w z u,i≤j→R[i]? = some (y,w)→R[j]? = some (z,u)→w.length≤u.length
  bd:∀(y:Str) (w:List Nat) z u,R[at_]? = some (y,w)→(z,u)∈R→u.length≤w.length+1
theorem Gb {α:Type} [DecidableEq α]:∀{l xs:List α},l.Nodup→(∀y∈l,y∈xs)→l.length≤xs.length
  | [],_,_,_=>Nat.zero_le _
  | y::l,xs,hn,hs=>by
    obtain⟨h1,h2⟩:=List.nodup_cons.mp hn;have hy:y∈xs:=hs y List.mem_cons_self;have:=Gb (l:=l) (xs:=xs.erase y) h2 fun z hz=>(List.mem_erase_of_ne (fun(e:z=y)=>h1 (e▸hz))).mpr (hs z (List.mem_cons_of_mem _ hz));rw[List.length_erase_of_mem hy] at this;have h0:0<xs.length:=List.length_pos_of_mem hy;simp only[List.length_cons];omega
def qfq (H:Hp) (kv:Key×V) (yw:Str×List Nat):Prop:=kv.1=Sum.inr yw.1∧∃p,kv.2 = .ref p∧H p=some (.lst (yw.2.map fun n:Nat=>V.int n))
structure qfr (H:Hp) (kvs:List (Key×V)) (R:BR):Prop where
  len:kvs.length=R.length
  ok:∀(i:Nat) kv yw,kvs[i]? = some kv→R[i]? = some yw→qfq H kv yw
theorem oN (x:Str) (xs:List Str):inV (.str x) (xs.map V.str)=decide (x∈xs):=by
  unfold inV;rw[List.any_map,Bool.eq_iff_iff,List.any_eq_true,decide_eq_true_eq];constructor
  ·rintro⟨y,hy,e⟩;simp[TV] at e;exact e▸hy
  ·intro h;exact⟨x,h,by simp[TV]⟩
theorem uP (xs:List Str):(xs.map V.str).all j6=true:=by
  rw[List.all_map,List.all_eq_true];intro x _;rfl
end L2
namespace L2
open PySem PySem.Spec PyProof.Rows
@[simp] theorem qeg (i:Int):zY (.int i) .non=true:=rfl
@[simp] theorem qeh (i:Int):zY .non (.int i)=true:=rfl
@[simp] theorem qei (i:Str):zY (.str i) .non=true:=rfl
theorem Ke:∀a b:List Str,PyData.eqvAll (jD a) (jD b)=decide (a=b)
  | [],[]=>rfl
  | [],y::b=>by simp[jD,PyData.eqvAll]
  | x::a,[]=>by simp[jD,PyData.eqvAll]
  | x::a,y::b=>by
    show(PyData.eqv (.str x) (.str y) && PyData.eqvAll (jD a) (jD b))=_;rw[Ke a b,Bool.eq_iff_iff];simp[PyData.eqv]
end L2
namespace L2
open PySem
end L2
set_option maxHeartbeats 4000000
namespace L2
open PySem PySem.Spec PyProof.Rows
section
variable {prog:Program} {w:World} {A:Around} {E:Value→Shared→Prop} {s:Shared}
end
theorem mO:entryFor table "dict.update.loop" = some Builtin.«dict.update.loop»:=entryFor_of_fast (by kernel_rfl)
theorem dX:plainId "dict.update.loop" = true:=by decide+kernel
structure Nm3 (mg:Str→Option Value):Prop where
  sum:mg "sum" = none
section
variable {X:Cx} {K:W.Frag}
theorem qfs (hK:X.K=K):SlR X (XR K):=by subst hK;exact XS
@[simp ↓] theorem qej (K:W.Frag) x lo hi H Q:XR K x lo hi H Q=(∃a xs,x = .ref a∧bA K H a xs∧∀p,H p=none→Q (.ref p) (upd H p (.lst (yq xs lo hi)))):=rfl
end
def vG (ns:List Int):List PyData:=ns.map PyData.int
theorem Py {K:W.Frag} {H:Hp}:∀ns:List Int,qm K H (vG ns) (ns.map V.int)
  | []=>rfl
  | n::ns=>⟨_,_,rfl,rfl,Py ns⟩
theorem lay_ints:∀ns:List Int,PyData.canLayAll0 (vG ns)=true
  | []=>by simp[vG,PyData.canLayAll0]
  | x::xs=>by
    have:=lay_ints xs;simp[vG] at this;simp[vG,PyData.canLayAll0,PyData.canLay0,this]
theorem Kf:∀xs:List Int,PyData.depthAll (vG xs)≤1
  | []=>by simp[vG,PyData.depthAll]
  | x::xs=>by
    have:=Kf xs;simp[vG] at this;simp[vG,PyData.depthAll,PyData.depth,this]
section
variable {X:Cx} {K:W.Frag}
theorem boot_repr:bootBuiltins "repr" = some (.builtin "repr"):=by decide+kernel
end
def isInt (x:V) (R:Int→Prop):Prop:=match x with | .int i=>R i | _=>False
def isStr (x:V) (R:Str→Prop):Prop:=match x with | .str i=>R i | _=>False
def yD (x:V) (R:Bool→Prop):Prop:=match x with | .bl i=>R i | _=>False
def isRef (x:V) (R:Addr→Prop):Prop:=match x with | .ref i=>R i | _=>False
def Rm (x:V) (R:String→Prop):Prop:=match x with | .ty n=>R n | _=>False
def R_ (xs:List V) (R:Prop):Prop:=match xs with | []=>R | _=>False
def ar1 (xs:List V) (R:V→Prop):Prop:=match xs with | [x]=>R x | _=>False
def ar2 (xs:List V) (R:V→V→Prop):Prop:=match xs with | [x,y]=>R x y | _=>False
def arH (xs:List V) (R:V→List V→Prop):Prop:=match xs with | x::r=>R x r | []=>False
def getSt:St→Nat→(V→Prop)→Prop
  | [],_,_=>False
  | o::_,0,R=>match o with | some v=>R v | none=>False
  | _::σ,n+1,R=>getSt σ n R
@[simp ↓] theorem qek (i:Int) R:isInt (.int i) R=R i:=rfl
@[simp ↓] theorem qel (i:Str) R:isStr (.str i) R=R i:=rfl
@[simp ↓] theorem qft (i:Bool) R:yD (.bl i) R=R i:=rfl
@[simp ↓] theorem qem (i:Addr) R:isRef (.ref i) R=R i:=rfl
@[simp ↓] theorem qfu (i:String) R:Rm (.ty i) R=R i:=rfl
@[simp ↓] theorem qgj R:R_ [] R=R:=rfl
@[simp ↓] theorem qgk x R:ar1 [x] R=R x:=rfl
@[simp ↓] theorem qgl x y R:ar2 [x,y] R=R x y:=rfl
@[simp ↓] theorem qgm x r R:arH (x::r) R=R x r:=rfl
@[simp ↓] theorem qen v σ R:getSt (some v::σ) 0 R=R v:=rfl
@[simp ↓] theorem qeo o σ n R:getSt (o::σ) (n+1) R=getSt σ n R:=rfl
theorem isInt.out {x:V} {R} (h:isInt x R):∃i,x = .int i∧R i:=by cases x <;> first | exact⟨_,rfl,h⟩ | exact h.elim
theorem isStr.out {x:V} {R} (h:isStr x R):∃i,x = .str i∧R i:=by cases x <;> first | exact⟨_,rfl,h⟩ | exact h.elim
theorem yD.out {x:V} {R} (h:yD x R):∃i,x = .bl i∧R i:=by cases x <;> first | exact⟨_,rfl,h⟩ | exact h.elim
theorem isRef.out {x:V} {R} (h:isRef x R):∃i,x = .ref i∧R i:=by cases x <;> first | exact⟨_,rfl,h⟩ | exact h.elim
theorem Rm.out {x:V} {R} (h:Rm x R):∃i,x = .ty i∧R i:=by cases x <;> first | exact⟨_,rfl,h⟩ | exact h.elim
theorem R_.out {xs:List V} {R} (h:R_ xs R):xs=[]∧R:=by cases xs <;> first | exact⟨rfl,h⟩ | exact h.elim
theorem ar1.out {xs:List V} {R} (h:ar1 xs R):∃x,xs=[x]∧R x:=by
  match xs,h with
  | [x],h=>exact⟨x,rfl,h⟩
theorem ar2.out {xs:List V} {R} (h:ar2 xs R):∃x y,xs=[x,y]∧R x y:=by
  match xs,h with
  | [x,y],h=>exact⟨x,y,rfl,h⟩
theorem arH.out {xs:List V} {R} (h:arH xs R):∃x r,xs=x::r∧R x r:=by cases xs <;> first | exact⟨_,_,rfl,h⟩ | exact h.elim
theorem getSt.out:∀{σ:St} {i:Nat} {R},getSt σ i R→∃v,σ[i]? = some (some v)∧R v
  | [],_,_,h=>h.elim
  | some v::_,0,_,h=>⟨v,rfl,h⟩
  | none::_,0,_,h=>h.elim
  | _::σ,n+1,R,h=>by
    obtain⟨v,e,q⟩:=getSt.out (σ:=σ) (i:=n) h;exact⟨v,by simpa using e,q⟩
section
variable {X:Cx}
theorem PE.mono {e:Expr} {t t':TE} (o:PE X e t) (h:∀{σ H Q},t' σ H Q→t σ H Q):PE X e t':=fun p_ s σ H Q I q=>o p_ s σ H Q I (h q)
theorem qJ.mono {e:List Expr} {t t':Fl} (o:qJ X e t) (h:∀{v σ H Q},t' v σ H Q→t v σ H Q):qJ X e t':=fun p_ s σ H v u Q I r q=>o p_ s σ H v u Q I r (h q)
theorem iZ.mono {f:Value→Value→Sem Value} {r r':R2} (o:iZ X f r) (h:∀{x y H Q},r' x y H Q→r x y H Q):iZ X f r':=fun p_ s σ H x y v u Q I rx ry q=>o p_ s σ H x y v u Q I rx ry (h q)
theorem UnR.mono {f:Value→Sem Value} {r r':V→Hp→VK→Prop} (o:UnR X f r) (h:∀{x H Q},r' x H Q→r x H Q):UnR X f r':=fun p_ s σ H x v Q I rx q=>o p_ s σ H x v Q I rx (h q)
theorem cu.mono {f:Value} {r r':List V→Hp→VK→Prop} (o:cu X f r) (h:∀{x H Q},r' x H Q→r x H Q):cu X f r':=fun p_ s σ H x v Q I rx q=>o p_ s σ H x v Q I rx (h q)
theorem Mv.mono {f:String} {r r':V→List V→Hp→VK→Prop} (o:Mv X f r) (h:∀{x y H Q},r' x y H Q→r x y H Q):Mv X f r':=fun p_ s σ H x y v u Q I rx ry q=>o p_ s σ H x y v u Q I rx ry (h q)
theorem R8.mono {r r':R2} (o:R8 X r) (h:∀{x y H Q},r' x y H Q→r x y H Q):R8 X r':=fun a b p_ s σ H x y v u Q I rx ry q z=>o a b p_ s σ H x y v u Q I rx ry (h q) z
theorem SlR.mono {r r':V→Option Int→Option Int→Hp→VK→Prop} (o:SlR X r) (h:∀{x lo hi H Q},r' x lo hi H Q→r x lo hi H Q):SlR X r':=fun p_ s σ H x v vl vu lo hi sl Q I rx z1 z2 z3 q=>o p_ s σ H x v vl vu lo hi sl Q I rx z1 z2 z3 (h q)
theorem QD.mono {r r':QC} (o:QD X r) (h:∀{x y z H Q},r' x y z H Q→r x y z H Q):QD X r':=fun p_ s σ H o' i v ov iv u Q I a b c q=>o p_ s σ H o' i v ov iv u Q I a b c (h q)
end
def fVar (i:Nat):TE:=fun σ H Q=>getSt σ i fun v=>Q v H
@[simp ↓] theorem qfv (i:Nat) σ H Q:fVar i σ H Q=getSt σ i (fun v=>Q v H):=rfl
theorem qa3 {i:Nat} {σ H Q} (h:fVar i σ H Q):qam i σ H Q:=getSt.out h
def j_:List Str→List V→St
  | _::N,v::vs=>some v::j_ N vs
  | _::N,[]=>none::j_ N []
  | [],_=>[]
@[simp ↓] theorem qbV n N v vs:j_ (n::N) (v::vs)=some v::j_ N vs:=rfl
@[simp ↓] theorem qbW n N:j_ (n::N) []=none::j_ N []:=rfl
@[simp ↓] theorem qcE vs:j_ [] vs=[]:=by cases vs <;> rfl
theorem qt:∀(N:List Str) (vs:List V),vs.length≤N.length→j_ N vs=start N vs
  | [],[],_=>rfl
  | [],_::_,h=>by simp at h
  | n::N,[],_=>by
    rw[j_,qt N [] (by simp)];simp[start,List.replicate_succ]
  | n::N,v::vs,h=>by
    rw[j_,qt N vs (by simpa using h)];simp[start]
def fI0 (g:Int→Int→V):R2:=fun x y H Q=>isInt x fun i=>isInt y fun j=>Q (g i j) H
def fI (C:Int→Int→Prop) (g:Int→Int→V):R2:=fun x y H Q=>isInt x fun i=>isInt y fun j=>C i j∧Q (g i j) H
def fU (g:Int→V):V→Hp→VK→Prop:=fun x H Q=>isInt x fun i=>Q (g i) H
@[simp ↓] theorem qgn g x y H Q:fI0 g x y H Q=(isInt x fun i=>isInt y fun j=>Q (g i j) H):=rfl
@[simp ↓] theorem qgO C g x y H Q:fI C g x y H Q=(isInt x fun i=>isInt y fun j=>C i j∧Q (g i j) H):=rfl
@[simp ↓] theorem qgP g x H Q:fU g x H Q=(isInt x fun i=>Q (g i) H):=rfl
theorem Kg {g:Int→Int→V} {x y H Q} (h:fI0 g x y H Q):Zr g x y H Q:=by
  obtain⟨i,rfl,h1⟩:=isInt.out h;obtain⟨j,rfl,h2⟩:=isInt.out h1;exact⟨i,j,rfl,rfl,h2⟩
theorem Yk {C} {g:Int→Int→V} {x y H Q} (h:fI C g x y H Q):rI C g x y H Q:=by
  obtain⟨i,rfl,h1⟩:=isInt.out h;obtain⟨j,rfl,h2⟩:=isInt.out h1;exact⟨i,j,rfl,rfl,h2⟩
theorem qfw {g:Int→V} {x H Q} (h:fU g x H Q):rU g x H Q:=by
  obtain⟨i,rfl,h⟩:=isInt.out h;exact⟨i,rfl,h⟩
def fEq:R2:=fun x y H Q=>match x,y with
  | .int i,.int j=>Q (.bl (decide (i=j))) H
  | .str i,.str j=>Q (.bl (decide (i=j))) H
  | .bl i,.bl j=>Q (.bl (decide (i=j))) H
  | x,y=>zY x y=true∧Q (.bl (decide (x=y))) H
def fNe:R2:=fun x y H Q=>match x,y with
  | .int i,.int j=>∃k,decide (i=j) = !k∧Q (.bl k) H
  | .str i,.str j=>∃k,decide (i=j) = !k∧Q (.bl k) H
  | .bl i,.bl j=>∃k,decide (i=j) = !k∧Q (.bl k) H
  | x,y=>zY x y=true∧∃k,decide (x=y) = !k∧Q (.bl k) H
@[simp ↓] theorem qgo i j H Q:fEq (.int i) (.int j) H Q=Q (.bl (decide (i=j))) H:=rfl
@[simp ↓] theorem qgp i j H Q:fEq (.str i) (.str j) H Q=Q (.bl (decide (i=j))) H:=rfl
@[simp ↓] theorem qgq i j H Q:fEq (.bl i) (.bl j) H Q=Q (.bl (decide (i=j))) H:=rfl
@[simp ↓] theorem qgr i j H Q:fNe (.int i) (.int j) H Q=∃k,decide (i=j) = !k∧Q (.bl k) H:=rfl
@[simp ↓] theorem qgs i j H Q:fNe (.str i) (.str j) H Q=∃k,decide (i=j) = !k∧Q (.bl k) H:=rfl
@[simp ↓] theorem qgt i j H Q:fNe (.bl i) (.bl j) H Q=∃k,decide (i=j) = !k∧Q (.bl k) H:=rfl
theorem yE {b:Bool} {R:Bool→Prop} (h:∃k,b = !k∧R k):R (!b):=by
  obtain⟨k,e,q⟩:=h;rw[e,Bool.not_not];exact q
theorem qcF {x y H Q} (h:fEq x y H Q):rEq x y H Q:=by
  unfold fEq at h;split at h
  ·exact⟨rfl,by simpa using h⟩
  ·exact⟨rfl,by simpa using h⟩
  ·exact⟨rfl,by simpa using h⟩
  ·exact h
theorem qcG {x y H Q} (h:fNe x y H Q):rNe x y H Q:=by
  unfold fNe at h;split at h
  ·exact⟨rfl,by simpa using yE (R:=fun k=>Q (.bl k) H) h⟩
  ·exact⟨rfl,by simpa using yE (R:=fun k=>Q (.bl k) H) h⟩
  ·exact⟨rfl,by simpa using yE (R:=fun k=>Q (.bl k) H) h⟩
  ·exact⟨h.1,yE (R:=fun k=>Q (.bl k) H) h.2⟩
def Uy:R2:=fun x y H Q=>isStr x fun i=>isStr y fun j=>i.length+j.length≤sizeLine∧Q (.str (i++j)) H
@[simp ↓] theorem qep x y H Q:Uy x y H Q=(isStr x fun i=>isStr y fun j=>i.length+j.length≤sizeLine∧Q (.str (i++j)) H):=rfl
theorem Yl {x y H Q} (h:Uy x y H Q):qcn x y H Q:=by
  obtain⟨i,rfl,h1⟩:=isStr.out h;obtain⟨j,rfl,h2⟩:=isStr.out h1;exact⟨i,j,rfl,rfl,h2⟩
def HN:R2:=fun x y H Q=>isRef x fun l=>isRef y fun b=>∃xs,H l=some (.lst xs)∧∃zs,H b=some (.lst zs)∧xs.length+zs.length≤sizeLine∧∀p,H p=none→Q (.ref p) (upd H p (.lst (xs++zs)))
@[simp ↓] theorem qfx x y H Q:HN x y H Q=(isRef x fun l=>isRef y fun b=>∃xs,H l=some (.lst xs)∧∃zs,H b=some (.lst zs)∧xs.length+zs.length≤sizeLine∧∀p,H p=none→Q (.ref p) (upd H p (.lst (xs++zs)))):=rfl
theorem qa4 {x y H Q} (h:HN x y H Q):qch x y H Q:=by
  obtain⟨i,rfl,h0⟩:=isRef.out h;obtain⟨j,rfl,xs,h1,zs,h2,h3⟩:=isRef.out h0;exact⟨i,j,xs,zs,rfl,rfl,h1,h2,h3⟩
def Gd (t:TE):TT:=fun σ H Q=>t σ H fun x H'=>yD x fun k=>Q k H'
@[simp ↓] theorem qeq (t:TE) σ H Q:Gd t σ H Q=(t σ H fun x H'=>yD x fun k=>Q k H'):=rfl
def Uz (ta:TE):TE:=fun σ H Q=>ta σ H fun x H1=>yD x fun c=>Q (.bl (!c)) H1
@[simp ↓] theorem qer (ta:TE) σ H Q:Uz ta σ H Q=(ta σ H fun x H1=>yD x fun c=>Q (.bl (!c)) H1):=rfl
def UG (ta tb:TE):TE:=fun σ H Q=>ta σ H fun x H1=>yD x fun c=>iI c (tb σ H1 Q) (Q (.bl false) H1) ⟨0⟩
@[simp ↓] theorem qes (ta tb:TE) σ H Q:UG ta tb σ H Q=(ta σ H fun x H1=>yD x fun c=>iI c (tb σ H1 Q) (Q (.bl false) H1) ⟨0⟩):=rfl
def HS (r r':R2) (ta tb tc:TE):TE:=fun σ H Q=>ta σ H fun x H1=>tb σ H1 fun y H2=>r x y H2 fun z H3=>yD z fun k=>iI k (tc σ H3 fun w' H4=>r' y w' H4 Q) (Q (.bl false) H3) ⟨0⟩
@[simp ↓] theorem qcH (r r':R2) (ta tb tc:TE) σ H Q:HS r r' ta tb tc σ H Q=(ta σ H fun x H1=>tb σ H1 fun y H2=>r x y H2 fun z H3=>yD z fun k=>iI k (tc σ H3 fun w' H4=>r' y w' H4 Q) (Q (.bl false) H3) ⟨0⟩):=rfl
section
variable {X:Cx} {K:W.Frag} {a b c:Expr} {ta tb tc:TE} {tA:TT} {pos:Pos}
theorem aJ (i:Nat) {x:Str} {pos:Pos} (hN:X.N[i]? = some x:=by rfl) (hv:Vis X.env.scope x:=by first | exact Or.inl rfl | exact Or.inr (Or.inl rfl) | exact Or.inr (Or.inr rfl)) (hd:(x == ("__debug__" : Str))=false:=by decide)
    (hcd:(x == ("__classdict__" : Str))=false:=by decide):PE X (.Name x pos) (fVar i):=(qan hN hv hd hcd).mono qa3
theorem jo:iZ X (binaryOp .Add) (fI0 fun i j=>.int (i+j)):=qay.mono Kg
theorem Af:iZ X (binaryOp .Sub) (fI0 fun i j=>.int (i - j)):=qaz.mono Kg
theorem Bw:iZ X (compareOp .Lt) (fI0 fun i j=>.bl (decide (i<j))):=qcc.mono Kg
theorem pU:iZ X (compareOp .LtE) (fI0 fun i j=>.bl (decide (i≤j))):=qcd.mono Kg
theorem yF:iZ X (compareOp .Gt) (fI0 fun i j=>.bl (decide (j<i))):=qce.mono Kg
theorem m6:iZ X (compareOp .Eq) fEq:=qca.mono qcF
theorem m7:iZ X (compareOp .NotEq) fNe:=qcb.mono qcG
theorem bM:iZ X (binaryOp .Add) Uy:=Ml.mono Yl
theorem cX:iZ X (binaryOp .Add) HN:=qaO.mono qa4
theorem Pz:UnR X (unaryOp .USub) (fU fun i=>.int (-i)):=qaD.mono qfw
theorem wZ (x:V) (R:Bool→Prop):yD x R=(∃k,x = .bl k∧R k):=propext ⟨yD.out,fun⟨k,e,q⟩=>by subst e;exact q⟩
theorem UJ (x:V) (R:Int→Prop):isInt x R=(∃k,x = .int k∧R k):=propext ⟨isInt.out,fun⟨k,e,q⟩=>by subst e;exact q⟩
theorem UL (x:V) (R:Addr→Prop):isRef x R=(∃k,x = .ref k∧R k):=propext ⟨isRef.out,fun⟨k,e,q⟩=>by subst e;exact q⟩
theorem UW (x:V) (R:Str→Prop):isStr x R=(∃k,x = .str k∧R k):=propext ⟨isStr.out,fun⟨k,e,q⟩=>by subst e;exact q⟩
theorem qa5 (x:List V) (R:V→V→Prop):ar2 x R=(∃k j,x=[k,j]∧R k j):=propext ⟨ar2.out,fun⟨k,j,e,q⟩=>by subst e;exact q⟩
theorem qa6 (x:List V) (R:V→List V→Prop):arH x R=(∃k j,x=k::j∧R k j):=propext ⟨arH.out,fun⟨k,j,e,q⟩=>by subst e;exact q⟩
theorem Kh (t:TE):Gd t=O9 t:=by
  funext σ H Q
  exact congrArg (t σ H) (funext fun x=>funext fun H'=>wZ _ _)
theorem qcI (t:TE):Gd t=tB t:=by
  funext σ H Q
  exact congrArg (t σ H) (funext fun x=>funext fun H'=>wZ _ _)
theorem U0 (t:TE):Uz t=SM t:=by
  funext σ H Q
  exact congrArg (t σ H) (funext fun x=>funext fun H'=>wZ _ _)
theorem U3 (t u:TE):UG t u=SJ t u:=by
  funext σ H Q
  exact congrArg (t σ H) (funext fun x=>funext fun H'=>wZ _ _)
theorem Ge (r r':R2) (ta tb tc:TE):HS r r' ta tb tc=GR r r' ta tb tc:=by
  funext σ H Q
  exact congrArg (ta σ H) (funext fun x=>funext fun H1=>congrArg (tb σ H1) (funext fun y=>funext fun H2=>congrArg (r x y H2) (funext fun z=>funext fun H3=>wZ _ _)))
theorem bR {op:CmpOp} {r:R2} (ho:iZ X (compareOp op) r) (ha:PE X a ta) (hb:PE X b tb) (hm:behindInMarks op b=false):PT X (.Compare a [op] [b] pos) (Gd (Mj r ta tb)):=Kh _▸XD ho ha hb hm
theorem bK {e:Expr} {t:TE} (h:PE X e t) (he:∀whole,isTrue e X.env whole=(do let v ← whole;standAt e.pos;holding [v] (truthy v)):=by intro _;rfl):PT X e (Gd t):=qcI _▸qao h he
theorem Gf {op op':CmpOp} {r r':R2} (ho:iZ X (compareOp op) r) (ho':iZ X (compareOp op') r') (ha:PE X a ta) (hb:PE X b tb) (hc:PE X c tc)
    (hm:lastMarks [op,op'] [b,c]=false:=by with_unfolding_all rfl):PE X (.Compare a [op,op'] [b,c] pos) (HS r r' ta tb tc):=Ge _ _ _ _ _▸Tj ho ho' ha hb hc hm
theorem uQ {op op':CmpOp} {r r':R2} (ho:iZ X (compareOp op) r) (ho':iZ X (compareOp op') r') (ha:PE X a ta) (hb:PE X b tb) (hc:PE X c tc)
    (hm:lastMarks [op,op'] [b,c]=false:=by with_unfolding_all rfl):PT X (.Compare a [op,op'] [b,c] pos) (Gd (HS r r' ta tb tc)):=by
  rw[Kh,Ge];exact Tn ho ho' ha hb hc hm
theorem Ag (ha:PE X a ta):PE X (.UnaryOp .Not a pos) (Uz ta):=U0 _▸qaq ha
theorem jq {rest:List Expr} (ha:PE X a ta) (hb:PE X (.BoolOp .And (b::rest) pos) tb):PE X (.BoolOp .And (a::b::rest) pos) (UG ta tb):=U3 _ _▸qap ha hb
end
def U4 (K:W.Frag):R2:=fun x y H Q=>isRef x fun p=>isInt y fun i=>∃xs,(bA K H p xs∨jK K H p xs)∧∃v,Fy xs i=some v∧Q v H
@[simp ↓] theorem qfy (K:W.Frag) x y H Q:U4 K x y H Q=(isRef x fun p=>isInt y fun i=>∃xs,(bA K H p xs∨jK K H p xs)∧∃v,Fy xs i=some v∧Q v H):=rfl
theorem qa7 {K:W.Frag} {x y H Q} (h:U4 K x y H Q):qaV K x y H Q:=by
  obtain⟨p,rfl,h1⟩:=isRef.out h;obtain⟨i,rfl,xs,h2,v,h3,h4⟩:=isInt.out h1;exact⟨p,xs,i,v,rfl,rfl,h2,h3,h4⟩
def qa8  : R2:=fun x y H Q=>isStr x fun z=>isInt y fun i=>z.length≤sizeLine∧∃c,Fy z.cps.toList i=some c∧Q (.str ⟨#[c]⟩) H
@[simp ↓] theorem qfz  x y H Q:qa8 x y H Q=(isStr x fun z=>isInt y fun i=>z.length≤sizeLine∧∃c,Fy z.cps.toList i=some c∧Q (.str ⟨#[c]⟩) H):=rfl
theorem qa9  {x y H Q} (h:qa8 x y H Q):qcf x y H Q:=by
  obtain⟨z,rfl,h1⟩:=isStr.out h;obtain⟨i,rfl,h2,c,h3,h4⟩:=isInt.out h1;exact⟨z,i,c,rfl,rfl,h2,h3,h4⟩
def PB (K:W.Frag):List V→Hp→VK→Prop:=fun xs H Q=>ar1 xs fun x=>isRef x fun p=>∃ys,(bA K H p ys∨jK K H p ys)∧Q (.int ys.length) H
@[simp ↓] theorem qet (K:W.Frag) xs H Q:PB K xs H Q=(ar1 xs fun x=>isRef x fun p=>∃ys,(bA K H p ys∨jK K H p ys)∧Q (.int ys.length) H):=rfl
theorem Ym {K:W.Frag} {xs H Q} (h:PB K xs H Q):Zx K xs H Q:=by
  obtain⟨x,rfl,h1⟩:=ar1.out h;obtain⟨p,rfl,ys,h2,h3⟩:=isRef.out h1;exact⟨p,ys,rfl,h2,h3⟩
def U5  : List V→Hp→VK→Prop:=fun xs H Q=>ar1 xs fun x=>isStr x fun z=>z.length≤sizeLine∧Q (.int z.length) H
@[simp ↓] theorem qeu  xs H Q:U5 xs H Q=(ar1 xs fun x=>isStr x fun z=>z.length≤sizeLine∧Q (.int z.length) H):=rfl
theorem Yn  {xs H Q} (h:U5 xs H Q):Zy xs H Q:=by
  obtain⟨x,rfl,h1⟩:=ar1.out h;obtain⟨p,rfl,h2⟩:=isStr.out h1;exact⟨p,rfl,h2⟩
def Ah (K:W.Frag):List V→Hp→VK→Prop:=fun xs H Q=>ar1 xs fun x=>isRef x fun p=>∃ys,(bA K H p ys∨jK K H p ys)∧∀l,H l=none→Q (.ref l) (upd H l (.lst ys))
@[simp ↓] theorem qbX (K:W.Frag) xs H Q:Ah K xs H Q=(ar1 xs fun x=>isRef x fun p=>∃ys,(bA K H p ys∨jK K H p ys)∧∀l,H l=none→Q (.ref l) (upd H l (.lst ys))):=rfl
theorem Rn {K:W.Frag} {xs H Q} (h:Ah K xs H Q):Pj K xs H Q:=by
  obtain⟨x,rfl,h1⟩:=ar1.out h;obtain⟨p,rfl,ys,h2,h3⟩:=isRef.out h1;exact⟨p,ys,rfl,h2,h3⟩
def HW  : List V→Hp→VK→Prop:=fun xs H Q=>ar1 xs fun x=>isRef x fun p=>∃ys,Sq H p ys∧∀l H',H' l=some (.tup ys)→Same H H'→Q (.ref l) H'
@[simp ↓] theorem qbY  xs H Q:HW xs H Q=(ar1 xs fun x=>isRef x fun p=>∃ys,Sq H p ys∧∀l H',H' l=some (.tup ys)→Same H H'→Q (.ref l) H'):=rfl
theorem Ro  {xs H Q} (h:HW xs H Q):Pk xs H Q:=by
  obtain⟨x,rfl,h1⟩:=ar1.out h;obtain⟨p,rfl,ys,h2,h3⟩:=isRef.out h1;exact⟨p,ys,rfl,h2,h3⟩
def U6 (K:W.Frag):List V→Hp→VK→Prop:=fun xs H Q=>ar2 xs fun x y=>Rm y fun n=>∃t,lX K H x t∧∃b,W.kitOne K t (.type n)=some b∧Q (.bl b) H
@[simp ↓] theorem qev (K:W.Frag) xs H Q:U6 K xs H Q=(ar2 xs fun x y=>Rm y fun n=>∃t,lX K H x t∧∃b,W.kitOne K t (.type n)=some b∧Q (.bl b) H):=rfl
theorem Yo {K:W.Frag} {xs H Q} (h:U6 K xs H Q):Zz K xs H Q:=by
  obtain⟨x,y,rfl,h1⟩:=ar2.out h;obtain⟨n,rfl,t,h2,b,h3,h4⟩:=Rm.out h1;exact⟨x,n,t,b,rfl,h2,h3,h4⟩
def U7 (K:W.Frag):List V→Hp→VK→Prop:=fun xs H Q=>ar2 xs fun x y=>isRef y fun p=>∃m n,H p=some (.tup [.ty m,.ty n])∧∃t,lX K H x t∧∃b,W.kitAny K t [.type m,.type n]=some b∧Q (.bl b) H
@[simp ↓] theorem qew (K:W.Frag) xs H Q:U7 K xs H Q=(ar2 xs fun x y=>isRef y fun p=>∃m n,H p=some (.tup [.ty m,.ty n])∧∃t,lX K H x t∧∃b,W.kitAny K t [.type m,.type n]=some b∧Q (.bl b) H):=rfl
theorem Yp {K:W.Frag} {xs H Q} (h:U7 K xs H Q):ZC K xs H Q:=by
  obtain⟨x,y,rfl,h1⟩:=ar2.out h;obtain⟨p,rfl,m,n,h0,t,h2,b,h3,h4⟩:=isRef.out h1;exact⟨x,p,m,n,t,b,rfl,h0,h2,h3,h4⟩
def fIn (K:W.Frag):R2:=fun x y H Q=>isRef y fun p=>∃xs,(bA K H p xs∨jK K H p xs)∧j6 x=true∧(∀z∈xs,j6 z=true)∧Q (.bl (inV x xs)) H
@[simp ↓] theorem qgu (K:W.Frag) x y H Q:fIn K x y H Q=(isRef y fun p=>∃xs,(bA K H p xs∨jK K H p xs)∧j6 x=true∧(∀z∈xs,j6 z=true)∧Q (.bl (inV x xs)) H):=rfl
theorem qcJ {K:W.Frag} {x y H Q} (h:fIn K x y H Q):Yb K x y H Q:=by
  obtain⟨p,rfl,xs,h1,h2,h3,h4⟩:=isRef.out h;exact .inl ⟨p,xs,rfl,h1,h2,List.all_eq_true.mpr h3,h4⟩
def Ng (K:W.Frag):R2:=fun x y H Q=>isRef y fun p=>∃xs,(bA K H p xs∨jK K H p xs)∧j6 x=true∧(∀z∈xs,j6 z=true)∧∃k,inV x xs = !k∧Q (.bl k) H
@[simp ↓] theorem qcK (K:W.Frag) x y H Q:Ng K x y H Q=(isRef y fun p=>∃xs,(bA K H p xs∨jK K H p xs)∧j6 x=true∧(∀z∈xs,j6 z=true)∧∃k,inV x xs = !k∧Q (.bl k) H):=rfl
theorem U8 {K:W.Frag} {x y H Q} (h:Ng K x y H Q):Ho K x y H Q:=by
  obtain⟨p,rfl,xs,h1,h2,h3,h4⟩:=isRef.out h;exact .inl ⟨p,xs,rfl,h1,h2,List.all_eq_true.mpr h3,yE (R:=fun k=>Q (.bl k) H) h4⟩
def qa_ (K:W.Frag):R2:=fun x y H Q=>isStr x fun i=>isStr y fun j=>Q (.bl (!(Builtin.Str.occurrences j i 0 j.length 1).isEmpty)) H
@[simp ↓] theorem qfA (K:W.Frag) x y H Q:qa_ K x y H Q=(isStr x fun i=>isStr y fun j=>Q (.bl (!(Builtin.Str.occurrences j i 0 j.length 1).isEmpty)) H):=rfl
theorem qba {K:W.Frag} {x y H Q} (h:qa_ K x y H Q):Yb K x y H Q:=by
  obtain⟨i,rfl,h1⟩:=isStr.out h;obtain⟨j,rfl,h2⟩:=isStr.out h1;exact .inr ⟨i,j,rfl,rfl,h2⟩
def HX  : V→List V→Hp→VK→Prop:=fun x vs H Q=>isRef x fun l=>ar1 vs fun y=>∃xs,H l=some (.lst xs)∧xs.length<sizeLine∧Q .non (upd H l (.lst (xs++[y])))
@[simp ↓] theorem qbZ  x vs H Q:HX x vs H Q=(isRef x fun l=>ar1 vs fun y=>∃xs,H l=some (.lst xs)∧xs.length<sizeLine∧Q .non (upd H l (.lst (xs++[y])))):=rfl
theorem Rp  {x vs H Q} (h:HX x vs H Q):G9 x vs H Q:=by
  obtain⟨l,rfl,h1⟩:=isRef.out h;obtain⟨y,rfl,xs,h2,h3⟩:=ar1.out h1;exact⟨l,xs,y,rfl,rfl,h2,h3⟩
def HY  : V→List V→Hp→VK→Prop:=fun x vs H Q=>isRef x fun l=>ar2 vs fun j y=>isInt j fun i=>∃xs,H l=some (.lst xs)∧0≤i∧i≤xs.length∧xs.length<sizeLine∧Q .non (upd H l (.lst (xs.take i.toNat++y::xs.drop i.toNat)))
@[simp ↓] theorem qb0  x vs H Q:HY x vs H Q=(isRef x fun l=>ar2 vs fun j y=>isInt j fun i=>∃xs,H l=some (.lst xs)∧0≤i∧i≤xs.length∧xs.length<sizeLine∧Q .non (upd H l (.lst (xs.take i.toNat++y::xs.drop i.toNat)))):=rfl
theorem Rq  {x vs H Q} (h:HY x vs H Q):Hi x vs H Q:=by
  obtain⟨l,rfl,h1⟩:=isRef.out h;obtain⟨j,y,rfl,h2⟩:=ar2.out h1;obtain⟨i,rfl,xs,h3⟩:=isInt.out h2;exact⟨l,xs,i,y,rfl,rfl,h3⟩
def Nh  : V→List V→Hp→VK→Prop:=fun x vs H Q=>isRef x fun l=>R_ vs (∃xs,H l=some (.lst xs)∧Q .non (upd H l (.lst [])))
@[simp ↓] theorem qcL  x vs H Q:Nh x vs H Q=(isRef x fun l=>R_ vs (∃xs,H l=some (.lst xs)∧Q .non (upd H l (.lst [])))):=rfl
theorem U9  {x vs H Q} (h:Nh x vs H Q):Mz x vs H Q:=by
  obtain⟨l,rfl,h1⟩:=isRef.out h;obtain⟨rfl,xs,h2⟩:=R_.out h1;exact⟨l,xs,rfl,rfl,h2⟩
def qbb (K:W.Frag):R2:=fun x y H Q=>∃d,Is K H d x∧∃e,Is K H e y∧d.canLay0=true∧e.canLay0=true∧d.depth≤64∧∃k,PyData.eqv d e = !k∧Q (.bl k) H
@[simp ↓] theorem qfB (K:W.Frag) x y H Q:qbb K x y H Q=(∃d,Is K H d x∧∃e,Is K H e y∧d.canLay0=true∧e.canLay0=true∧d.depth≤64∧∃k,PyData.eqv d e = !k∧Q (.bl k) H):=rfl
theorem qbc {K:W.Frag} {x y H Q} (h:qbb K x y H Q):qcB K x y H Q:=by
  obtain⟨d,h1,e,h2,h3,h4,h5,h6⟩:=h;exact⟨d,e,h1,h2,h3,h4,h5,yE (R:=fun k=>Q (.bl k) H) h6⟩
def qbd (K:W.Frag):R2:=fun x y H Q=>∃d,Is K H d x∧∃e,Is K H e y∧d.canLay0=true∧e.canLay0=true∧d.depth≤64∧Q (.bl (PyData.eqv d e)) H
@[simp ↓] theorem qfC (K:W.Frag) x y H Q:qbd K x y H Q=(∃d,Is K H d x∧∃e,Is K H e y∧d.canLay0=true∧e.canLay0=true∧d.depth≤64∧Q (.bl (PyData.eqv d e)) H):=rfl
theorem qbe {K:W.Frag} {x y H Q} (h:qbd K x y H Q):qcA K x y H Q:=by
  obtain⟨d,h1,e,h2,h3,h4,h5,h6⟩:=h;exact⟨d,e,h1,h2,h3,h4,h5,h6⟩
def qbf  : List V→Hp→VK→Prop:=fun xs H Q=>ar1 xs fun x=>isInt x fun i=>Q (.int (if i<0 then -i else i)) H
@[simp ↓] theorem qfD  xs H Q:qbf xs H Q=(ar1 xs fun x=>isInt x fun i=>Q (.int (if i<0 then -i else i)) H):=rfl
theorem qbg  {xs H Q} (h:qbf xs H Q):(fun xs H Q=>∃i,xs=[.int i]∧Q (.int (if i<0 then -i else i)) H:List V→Hp→VK→Prop) xs H Q:=by
  obtain⟨x,rfl,h1⟩:=ar1.out h;obtain⟨i,rfl,h2⟩:=isInt.out h1;exact⟨i,rfl,h2⟩
def U_  : List V→Hp→VK→Prop:=fun xs H Q=>ar2 xs fun x y=>isInt x fun i=>isInt y fun j=>Q (.int (if j > i then j else i)) H
@[simp ↓] theorem qex  xs H Q:U_ xs H Q=(ar2 xs fun x y=>isInt x fun i=>isInt y fun j=>Q (.int (if j > i then j else i)) H):=rfl
theorem Yq  {xs H Q} (h:U_ xs H Q):(fun xs H Q=>∃i j,xs=[.int i,.int j]∧Q (.int (if j > i then j else i)) H:List V→Hp→VK→Prop) xs H Q:=by
  obtain⟨x,y,rfl,h1⟩:=ar2.out h;obtain⟨i,rfl,h2⟩:=isInt.out h1;obtain⟨j,rfl,h3⟩:=isInt.out h2;exact⟨i,j,rfl,h3⟩
def Va  : List V→Hp→VK→Prop:=fun xs H Q=>ar2 xs fun x y=>isInt x fun i=>isInt y fun j=>Q (.int (if j<i then j else i)) H
@[simp ↓] theorem qey  xs H Q:Va xs H Q=(ar2 xs fun x y=>isInt x fun i=>isInt y fun j=>Q (.int (if j<i then j else i)) H):=rfl
theorem Yr  {xs H Q} (h:Va xs H Q):(fun xs H Q=>∃i j,xs=[.int i,.int j]∧Q (.int (if j<i then j else i)) H:List V→Hp→VK→Prop) xs H Q:=by
  obtain⟨x,y,rfl,h1⟩:=ar2.out h;obtain⟨i,rfl,h2⟩:=isInt.out h1;obtain⟨j,rfl,h3⟩:=isInt.out h2;exact⟨i,j,rfl,h3⟩
def H_  : List V→Hp→VK→Prop:=fun xs H Q=>ar2 xs fun x y=>isInt x fun i=>isInt y fun j=>QK i j∧∀p,H p=none→Q (.ref p) (upd H p (.tup [.int (i / j),.int (i % j)]))
@[simp ↓] theorem qb1  xs H Q:H_ xs H Q=(ar2 xs fun x y=>isInt x fun i=>isInt y fun j=>QK i j∧∀p,H p=none→Q (.ref p) (upd H p (.tup [.int (i / j),.int (i % j)]))):=rfl
theorem Rr  {xs H Q} (h:H_ xs H Q):(fun xs H Q=>∃i j,xs=[.int i,.int j]∧QK i j∧∀p,H p=none→Q (.ref p) (upd H p (.tup [.int (i / j),.int (i % j)])):List V→Hp→VK→Prop) xs H Q:=by
  obtain⟨x,y,rfl,h1⟩:=ar2.out h;obtain⟨i,rfl,h2⟩:=isInt.out h1;obtain⟨j,rfl,h3⟩:=isInt.out h2;exact⟨i,j,rfl,h3⟩
def qbh  : List V→Hp→VK→Prop:=fun xs H Q=>ar1 xs fun x=>isRef x fun a=>∃ys,H a=some (.lst ys)∧∃bs,tO ys bs∧Q (.bl (bs.all id)) H
@[simp ↓] theorem qfE  xs H Q:qbh xs H Q=(ar1 xs fun x=>isRef x fun a=>∃ys,H a=some (.lst ys)∧∃bs,tO ys bs∧Q (.bl (bs.all id)) H):=rfl
theorem qbi  {xs H Q} (h:qbh xs H Q):(fun xs H Q=>∃a ys bs,xs=[.ref a]∧H a=some (.lst ys)∧tO ys bs∧Q (.bl (bs.all id)) H:List V→Hp→VK→Prop) xs H Q:=by
  obtain⟨x,rfl,h1⟩:=ar1.out h;obtain⟨a,rfl,ys,h2,bs,h3,h4⟩:=isRef.out h1;exact⟨a,ys,bs,rfl,h2,h3,h4⟩
def PJ:List V→Hp→VK→Prop:=fun xs H Q=>ar1 xs fun x=>match x with | .int i=>Q (.int i) H | .bl k=>Q (.int (if k=true then 1 else 0)) H | _=>False
@[simp ↓] theorem qez i H Q:PJ [.int i] H Q=Q (.int i) H:=rfl
@[simp ↓] theorem qeA k H Q:PJ [.bl k] H Q=Q (.int (if k=true then 1 else 0)) H:=rfl
theorem Ys {xs H Q} (h:PJ xs H Q):(fun xs H Q=>(∃i,xs=[.int i]∧Q (.int i) H)∨∃k,xs=[.bl k]∧Q (.int (if k then 1 else 0)) H:List V→Hp→VK→Prop) xs H Q:=by
  obtain⟨x,rfl,h1⟩:=ar1.out h;cases x with
  | int i=>exact .inl ⟨i,rfl,h1⟩
  | bl k=>exact .inr ⟨k,rfl,h1⟩
  | _=>exact h1.elim
def Vb:QC:=fun o i v H Q=>isRef o fun p=>isInt i fun k=>∃xs,H p=some (.lst xs)∧∃j,Xf xs.length k=some j∧Q (upd H p (.lst (xs.set j v)))
@[simp ↓] theorem qeB o i v H Q:Vb o i v H Q=(isRef o fun p=>isInt i fun k=>∃xs,H p=some (.lst xs)∧∃j,Xf xs.length k=some j∧Q (upd H p (.lst (xs.set j v)))):=rfl
theorem Yt {o i v H Q} (h:Vb o i v H Q):Zw o i v H Q:=by
  obtain⟨p,rfl,h1⟩:=isRef.out h;obtain⟨k,rfl,xs,h2,j,h3,h4⟩:=isInt.out h1;exact⟨p,xs,k,j,rfl,rfl,h2,h3,h4⟩
def Vc (K:W.Frag):V→Option Int→Option Int→Hp→VK→Prop:=fun x lo hi H Q=>isRef x fun a=>∃xs,bA K H a xs∧∀p,H p=none→Q (.ref p) (upd H p (.lst (yq xs lo hi)))
@[simp ↓] theorem qfF (K:W.Frag) x lo hi H Q:Vc K x lo hi H Q=(isRef x fun a=>∃xs,bA K H a xs∧∀p,H p=none→Q (.ref p) (upd H p (.lst (yq xs lo hi)))):=rfl
theorem qbj {K:W.Frag} {x lo hi H Q} (h:Vc K x lo hi H Q):XR K x lo hi H Q:=by
  obtain⟨a,rfl,xs,h1⟩:=isRef.out h;exact⟨a,xs,rfl,h1⟩
def qcM:Fl:=fun vs σ H Q=>R_ vs (Q σ H)
def ZL (t:TG) (u:Fl):Fl:=fun vs σ H Q=>arH vs fun v r=>t v σ H fun σ' H'=>u r σ' H' Q
def Yu (K:W.Frag) (n:Nat) (t:Fl):TG:=fun v σ H Q=>isRef v fun a=>∃xs,jK K H a xs∧xs.length=n∧t xs σ H Q
@[simp ↓] theorem qfG vs σ H Q:qcM vs σ H Q=R_ vs (Q σ H):=rfl
@[simp ↓] theorem qeC t u vs σ H Q:ZL t u vs σ H Q=(arH vs fun v r=>t v σ H fun σ' H'=>u r σ' H' Q):=rfl
@[simp ↓] theorem qfH K n t v σ H Q:Yu K n t v σ H Q=(isRef v fun a=>∃xs,jK K H a xs∧xs.length=n∧t xs σ H Q):=rfl
theorem qP {vs σ H Q} (h:qcM vs σ H Q):qas vs σ H Q:=R_.out h
theorem cO (t:TG) (u:Fl):ZL t u=SQ t u:=by
  funext vs σ H Q
  exact qa6 _ _
theorem qQ (K:W.Frag) (n:Nat) (t:Fl):Yu K n t=Xw K n t:=by
  funext v σ H Q
  refine propext ⟨fun h=>?_,fun⟨a,xs,e,h⟩=>by subst e;exact⟨xs,h⟩⟩;obtain⟨a,rfl,xs,h1⟩:=isRef.out h;exact⟨a,xs,rfl,h1⟩
def qcN (i j:Nat) (ta:TA):TS:=fun D σ H=>ta σ H fun vs H1=>ar2 vs fun v w=>D.nx ((σ.set i (some v)).set j (some w)) H1
@[simp ↓] theorem qfI i j ta D σ H:qcN i j ta D σ H=(ta σ H fun vs H1=>ar2 vs fun v w=>D.nx ((σ.set i (some v)).set j (some w)) H1):=rfl
theorem Yv (i j:Nat) (ta:TA):qcN i j ta=qau i j ta:=by
  funext D σ H
  exact congrArg (ta σ H) (funext fun vs=>funext fun H1=>qa5 _ _)
def Vd (K:W.Frag) (tl:TE):TI:=fun σ H R=>tl σ H fun x H1=>isRef x fun a=>(∃xs,bA K H1 a xs)∧R (R7 K a) H1
def ZM (K:W.Frag) (tl:TE):TI:=fun σ H R=>tl σ H fun x H1=>isRef x fun p=>∃b,(∃xs,ZF b K H1 p xs)∧R (Itq b K p) H1
def ZP (tl:TE):TI:=fun σ H R=>tl σ H fun x H1=>isStr x fun z=>R (Its z) H1
def Ve (ta:TA):TI:=fun σ H R=>ta σ H fun vs H1=>ar1 vs fun v=>isInt v fun j=>-(2 ^ 62)≤j∧j<2 ^ 62∧R (LK 0 j.toNat) H1
def Vf (ta:TA):TI:=fun σ H R=>ta σ H fun vs H1=>ar2 vs fun v w=>isInt v fun i=>isInt w fun j=>(-(2 ^ 62)≤i∧i<2 ^ 62∧-(2 ^ 62)≤j∧j<2 ^ 62)∧R (LK i (j - i).toNat) H1
def ZQ (K:W.Frag) (t:TA):TI:=fun σ H R=>t σ H fun vs H1=>ar2 vs fun x y=>isRef x fun a=>isRef y fun b=>(∃xs,bA K H1 a xs)∧(∃ys,bA K H1 b ys)∧R (R9 K a b) H1
@[simp ↓] theorem qcO K tl σ H R:Vd K tl σ H R=(tl σ H fun x H1=>isRef x fun a=>(∃xs,bA K H1 a xs)∧R (R7 K a) H1):=rfl
@[simp ↓] theorem qeD K tl σ H R:ZM K tl σ H R=(tl σ H fun x H1=>isRef x fun p=>∃b,(∃xs,ZF b K H1 p xs)∧R (Itq b K p) H1):=rfl
@[simp ↓] theorem qeE tl σ H R:ZP tl σ H R=(tl σ H fun x H1=>isStr x fun z=>R (Its z) H1):=rfl
@[simp ↓] theorem qcP ta σ H R:Ve ta σ H R=(ta σ H fun vs H1=>ar1 vs fun v=>isInt v fun j=>-(2 ^ 62)≤j∧j<2 ^ 62∧R (LK 0 j.toNat) H1):=rfl
@[simp ↓] theorem qcQ ta σ H R:Vf ta σ H R=(ta σ H fun vs H1=>ar2 vs fun v w=>isInt v fun i=>isInt w fun j=>(-(2 ^ 62)≤i∧i<2 ^ 62∧-(2 ^ 62)≤j∧j<2 ^ 62)∧R (LK i (j - i).toNat) H1):=rfl
@[simp ↓] theorem qeF K t σ H R:ZQ K t σ H R=(t σ H fun vs H1=>ar2 vs fun x y=>isRef x fun a=>isRef y fun b=>(∃xs,bA K H1 a xs)∧(∃ys,bA K H1 b ys)∧R (R9 K a b) H1):=rfl
theorem cP (K:W.Frag) (tl:TE):Vd K tl=O5 K tl:=by
  funext σ H R
  exact congrArg (tl σ H) (funext fun x=>funext fun H1=>UL _ _)
theorem gP (K:W.Frag) (tl:TE):ZM K tl=qaX K tl:=by
  funext σ H R
  refine congrArg (tl σ H) (funext fun x=>funext fun H1=>propext ⟨fun h=>?_,fun⟨b,p,e,h⟩=>by subst e;exact⟨b,h⟩⟩);obtain⟨p,rfl,b,h1⟩:=isRef.out h;exact⟨b,p,rfl,h1⟩
theorem Bx (tl:TE):ZP tl=qaQ tl:=by
  funext σ H R
  exact congrArg (tl σ H) (funext fun x=>funext fun H1=>UW _ _)
theorem mY (ta:TA):Ve ta=Tc ta:=by
  funext σ H R
  refine congrArg (ta σ H) (funext fun x=>funext fun H1=>propext ⟨fun h=>?_,fun⟨b,e,h⟩=>by subst e;exact h⟩);obtain⟨v,rfl,h1⟩:=ar1.out h;obtain⟨i,rfl,h2⟩:=isInt.out h1;exact⟨i,rfl,h2⟩
theorem Rt (ta:TA):Vf ta=Td ta:=by
  funext σ H R
  refine congrArg (ta σ H) (funext fun x=>funext fun H1=>propext ⟨fun h=>?_,fun⟨b,c,e,h⟩=>by subst e;exact h⟩);obtain⟨v,w,rfl,h1⟩:=ar2.out h;obtain⟨i,rfl,h2⟩:=isInt.out h1;obtain⟨j,rfl,h3⟩:=isInt.out h2;exact⟨i,j,rfl,h3⟩
theorem Vg (K:W.Frag) (t:TA):ZQ K t=X6 K t:=by
  funext σ H R
  refine congrArg (t σ H) (funext fun x=>funext fun H1=>propext ⟨fun h=>?_,fun⟨a,b,xs,ys,e,h1,h2,h3⟩=>by subst e;exact⟨⟨xs,h1⟩,⟨ys,h2⟩,h3⟩⟩);obtain⟨v,w,rfl,h1⟩:=ar2.out h;obtain⟨i,rfl,h2⟩:=isRef.out h1;obtain⟨j,rfl,⟨xs,h3⟩,⟨ys,h4⟩,h5⟩:=isRef.out h2;exact⟨i,j,xs,ys,rfl,h3,h4,h5⟩
def ZR (sp:Sp) (E:XK) (t:TA):TE:=fun σ H Q=>t σ H fun vs H1=>Rj sp vs H1 Q ⟨0⟩ E
@[simp ↓] theorem qeG sp E t σ H Q:ZR sp E t σ H Q=(t σ H fun vs H1=>Rj sp vs H1 Q ⟨0⟩ E):=rfl
theorem aM (sp:Sp) (E:XK) (t:TA):ZR sp E t=Tt sp [] E t:=by
  funext σ H Q
  exact congrArg (t σ H) (funext fun vs=>funext fun H1=>by rw[List.append_nil];rfl)
def ZS (C:Addr) (m:Str) (sp:Sp) (E:XK) (ta:TE) (t:TA):TE:=fun σ H Q=>ta σ H fun x H1=>isRef x fun a=>∃dx fs,H1 a=some (.ins C dx fs)∧fs.lookup m=none∧t σ H1 fun vs H2=>Rj sp (.ref a::vs) H2 Q ⟨0⟩ E
@[simp ↓] theorem qeH C m sp E ta t σ H Q:ZS C m sp E ta t σ H Q=(ta σ H fun x H1=>isRef x fun a=>∃dx fs,H1 a=some (.ins C dx fs)∧fs.lookup m=none∧t σ H1 fun vs H2=>Rj sp (.ref a::vs) H2 Q ⟨0⟩ E):=rfl
theorem fj (C:Addr) (m:Str) (sp:Sp) (E:XK) (ta:TE) (t:TA):ZS C m sp E ta t=Tw C m sp [] E ta t:=by
  funext σ H Q
  refine congrArg (ta σ H) (funext fun x=>funext fun H1=>propext ⟨fun h=>?_,fun⟨a,dx,fs,e,h1,h2,h3⟩=>?_⟩)
  ·obtain⟨a,rfl,dx,fs,h1,h2,h3⟩:=isRef.out h;refine⟨a,dx,fs,rfl,h1,h2,?_⟩;simp only[List.append_nil];exact h3
  ·subst e;refine⟨dx,fs,h1,h2,?_⟩;simp only[List.append_nil] at h3;exact h3
def ZV (C:Addr) (sp:Sp) (E:XK) (t:TA):TE:=fun σ H Q=>t σ H fun vs H1=>∀x dx,H1 x=none→H1 dx=none→dx≠x→
  Rj sp (.ref x::vs) (upd (upd H1 dx (.own x)) x (.ins C dx [])) (fun v H2=>v = .non∧Q (.ref x) H2) ⟨0⟩ E
@[simp ↓] theorem qeI C sp E t σ H Q:ZV C sp E t σ H Q=(t σ H fun vs H1=>∀x dx,H1 x=none→H1 dx=none→dx≠x→
  Rj sp (.ref x::vs) (upd (upd H1 dx (.own x)) x (.ins C dx [])) (fun v H2=>v = .non∧Q (.ref x) H2) ⟨0⟩ E):=rfl
theorem w5 (C:Addr) (sp:Sp) (E:XK) (t:TA):ZV C sp E t=Tz C sp [] E t:=by
  funext σ H Q
  refine congrArg (t σ H) (funext fun vs=>funext fun H1=>?_);simp only[List.append_nil];rfl
def qcR (K:W.Frag) (ta:TE) (f:Str):TE:=fun σ H Q=>ta σ H fun x H1=>isRef x fun a=>∃C dx fs,H1 a=some (.ins C dx fs)∧Cls K C∧lW K C f∧∃v,fs.lookup f=some v∧Q v H1
@[simp ↓] theorem qfJ K ta f σ H Q:qcR K ta f σ H Q=(ta σ H fun x H1=>isRef x fun a=>∃C dx fs,H1 a=some (.ins C dx fs)∧Cls K C∧lW K C f∧∃v,fs.lookup f=some v∧Q v H1):=rfl
theorem Ia (K:W.Frag) (ta:TE) (f:Str):qcR K ta f=XJ K ta f:=by
  funext σ H Q
  refine congrArg (ta σ H) (funext fun x=>funext fun H1=>propext ⟨fun h=>?_,fun⟨a,C,dx,fs,v,e,h1,h2,h3,h4⟩=>by subst e;exact⟨C,dx,fs,h1,h2,h3,v,h4⟩⟩);obtain⟨a,rfl,C,dx,fs,h1,h2,h3,v,h4⟩:=isRef.out h;exact⟨a,C,dx,fs,v,rfl,h1,h2,h3,h4⟩
def Vh (td ty:TE):TE:=fun σ H Q=>td σ H fun x H1=>ty σ H1 fun y H2=>isRef x fun a=>∃v,Ed H2 a y (some v)∧Q v H2
@[simp ↓] theorem qeJ td ty σ H Q:Vh td ty σ H Q=(td σ H fun x H1=>ty σ H1 fun y H2=>isRef x fun a=>∃v,Ed H2 a y (some v)∧Q v H2):=rfl
theorem qbk {x:V} {β:Type} {R:Addr→β→Prop}:(isRef x fun a=>∃b,R a b)=(∃a b,x = .ref a∧R a b):=propext ⟨fun h=>by obtain⟨a,rfl,b,h1⟩:=isRef.out h;exact⟨a,b,rfl,h1⟩,fun⟨a,b,e,h⟩=>by subst e;exact⟨b,h⟩⟩
theorem fu (td ty:TE):Vh td ty=Ut td ty:=by
  funext σ H Q
  exact congrArg (td σ H) (funext fun x=>funext fun H1=>congrArg (ty σ H1) (funext fun y=>funext fun H2=>qbk))
def PK (t:TE):TO:=fun σ H Q=>t σ H fun x H1=>isInt x fun i=>Q (some i) H1
@[simp ↓] theorem qeK t σ H Q:PK t σ H Q=(t σ H fun x H1=>isInt x fun i=>Q (some i) H1):=rfl
theorem m8 (t:TE):PK t=TQ t:=by
  funext σ H Q
  exact congrArg (t σ H) (funext fun x=>funext fun H1=>UJ _ _)
section
variable {X:Cx} {K:W.Frag}
theorem PE.eqv {e:Expr} {t t':TE} (o:PE X e t) (h:t'=t):PE X e t':=h▸o
theorem PS.eqv {e:Stmt} {t t':TS} (o:PS X e t) (h:t'=t):PS X e t':=h▸o
theorem PG.eqv {e:Expr} {t t':TG} (o:PG X e t) (h:t'=t):PG X e t':=h▸o
theorem qJ.eqv {e:List Expr} {t t':Fl} (o:qJ X e t) (h:t'=t):qJ X e t':=h▸o
theorem PI.eqv {tg e:Expr} {t t':TI} (o:PI X tg e t) (h:t'=t):PI X tg e t':=h▸o
theorem PO.eqv {e:Option Expr} {t t':TO} (o:PO X e t) (h:t'=t):PO X e t':=h▸o
theorem Ai:iZ X (binaryOp .Mult) (fI Xy fun i j=>.int (i * j)):=qaA.mono Yk
theorem Vi:iZ X (binaryOp .FloorDiv) (fI QK fun i j=>.int (i / j)):=Xz.mono Yk
theorem oO:iZ X (binaryOp .Mod) (fI (fun _ j=>0<j) fun i j=>.int (i % j)):=qaB.mono Yk
theorem Yw:iZ X (binaryOp .Pow) (fI qb_ fun i j=>.int (i ^ j.toNat)):=qaC.mono Yk
theorem dO (hK:X.K=K):R8 X (U4 K):=(qe1 hK).mono qa7
theorem Aj:R8 X qa8:=qaJ.mono qa9
theorem Vj (hK:X.K=K):iZ X (compareOp .In) (fIn K):=(inK hK).mono qcJ
theorem qcS (hK:X.K=K):iZ X (compareOp .In) (qa_ K):=(inK hK).mono qba
theorem Yx (hK:X.K=K):iZ X (compareOp .NotIn) (Ng K):=(qaW hK).mono U8
theorem Vk (hK:X.K=K) (hu:X.A.units+64<cLine):iZ X (compareOp .Eq) (qbd K):=(qa1 hK hu).mono qbe
theorem Ni (hK:X.K=K) (hu:X.A.units+64<cLine):iZ X (compareOp .NotEq) (qbb K):=(qa2 hK hu).mono qbc
theorem bU (hK:X.K=K):cu X (.builtin "len") (PB K):=(qco hK).mono Ym
theorem Vl:cu X (.builtin "len") U5:=qcp.mono Yn
theorem BJ (hK:X.K=K):cu X (.type "list") (Ah K):=(Yc hK).mono Rn
theorem qu:cu X (.type "tuple") HW:=Uq.mono Ro
theorem qR (hK:X.K=K):cu X (.builtin "isinstance") (U6 K):=(qcq hK).mono Yo
theorem Vm (hK:X.K=K):cu X (.builtin "isinstance") (U7 K):=(qcr hK).mono Yp
theorem dz (hc:X.calm=true):cu X (.builtin "all") qbh:=(Ra hc).mono qbi
theorem BK:cu X (.type "int") PJ:=QT.mono Ys
theorem Gg:cu X (.builtin "abs") qbf:=Tp.mono qbg
theorem BL (hc:X.calm=true):cu X (.builtin "max") U_:=(QM hc).mono Yq
theorem Nj (hc:X.calm=true):cu X (.builtin "min") Va:=(QS hc).mono Yr
theorem Ib:cu X (.builtin "divmod") H_:=JM.mono Rr
theorem ju:Mv X "list.append" HX:=Mv.mono (r:=G9) yr Rp
theorem Nk:Mv X "list.insert" HY:=Mv.mono (r:=Hi) Q_ Rq
theorem Ru:Mv X "list.clear" Nh:=Mv.mono (r:=Mz) Ub U9
theorem BP (hK:X.K=K):SlR X (Vc K):=(qfs hK).mono qbj
theorem Gh:QD X Vb:=set_list.mono Yt
end
theorem getSt.imp {σ:St} {i:Nat} {R R':V→Prop} (f:∀v,R v→R' v):getSt σ i R→getSt σ i R':=by
  induction σ generalizing i with
  | nil=>exact fun h=>h.elim
  | cons o σ ih=>
    cases i with
    | zero=>cases o with
      | none=>exact fun h=>h.elim
      | some v=>exact f v
    | succ n=>exact ih
theorem gK.sX {P:Program} {w:World} {K:W.Frag} {mg:Str→Option Value} {base:Heap} {x qual:Str} {st:Stmt} {f:Addr} {fd:FuncData} {N ps:List Str} {k:Nat} {sp:Sp} (F:gK K x qual st f fd) (S:bH N ps (aB st)) (len:∀vs H Q E,sp vs H Q E→vs.length=ps.length)
    (hbody:∀(cdv:Value) (A:Around) (outer:List Env) (s:Shared) (H:Hp) (vs:List V) (Q:VK) (E:XK),jc k (A.deeper (envOfC qual (aB st) s.heap.objs.size f cdv))→sp vs H Q E→
      ∃t,D_ (au lH P w K mg base N qual (aB st) f cdv A outer s H E).R6 (jm st) t∧t {nx:=fun _ H'=>Q .non H',rt:=Q} (j_ N vs) H):bZ P w K mg base lH (k+1) f fd ps sp:=by
  refine F.ok S len fun cdv A outer s H vs Q E hr h=>?_;obtain⟨t,h1,h2⟩:=hbody cdv A outer s H vs Q E hr h;refine⟨t,h1,?_⟩;have hl:=len _ _ _ _ h;have hp:ps.length≤N.length:=by have:=congrArg List.length S.pre;rw[List.length_take] at this;omega
  rw[qt N vs (by omega)] at h2;exact h2
end L2
namespace L2
open PySem
structure Rch (S:List Stp) (x:Str) (f:List Str):Prop where
  st:x∈f
  nd:f.Nodup
  rt:∀y∈f,RT (qcD S) x y
theorem qfK {m:Nat} (h:1≤m):(0:Int)<m:=by omega
theorem zlt {m b:Nat} {c:Int} (h:m≤b) (hb:(b:Int)<c):(m:Int)<c:=by omega
theorem zlo {f:Int} (h:0≤f) : -4611686018427387904≤f:=by omega
theorem qfL {f:Nat} : -4611686018427387904≤(f:Int):=by omega
theorem ztn {d:Int} {m b:Nat} (h0:0≤d) (h:d<m) (hb:m≤b):d.toNat+1≤b:=by omega
theorem qfM {d:Int} (h:0≤d) (c:Int):c+d=max d 0+c:=by omega
theorem zsz {a b:Nat} (h:a<b) (hb:b≤20):a<sizeLine:=Nat.lt_of_lt_of_le h (Nat.le_trans hb (of_eq_true Nf))
theorem z01 {d:Int} (h:0≤d) (h2:d<2):d=0∨d=1:=by omega
theorem z2 {n:Nat} (h:(1:Int)<n):2≤n:=by omega
theorem zk1 {k t:Nat} (h:t≤k):(0:Int)<k - t+1:=by omega
theorem zk2 {k t:Nat} {c:Int} (h:k≤20) (hc:21<c):(k:Int) - t+1<c:=by omega
theorem zk3 {f:Int} {k t p:Nat} (h0:0≤f) (h:f<k - t+1) (e:t=p):p+f.toNat≤k+0:=by omega
theorem zk4 {t p f k i:Nat} (e:t=p) (h:p+f≤k+i) (hi:i<f) (hk:k≤20):t<sizeLine:=by
  have:=of_eq_true Nf;omega
theorem zk5 {p f k i:Nat} (h:p+f≤k+i) (hi:i<f) (hk:k≤20):p≤19:=by omega
theorem zk6 {p f k i:Nat} (h:p+f≤k+i):p+1+f≤k+(i+1):=by omega
theorem zk7 {p f k:Nat} (h:p+f≤k+f):p≤k:=Nat.le_of_add_le_add_right h
theorem qfN {lo i n:Nat} (h:i<n - lo):lo+i<n:=by omega
theorem zpa (c:Int):0≤if 1000000000000000000<c then c - 1000000000000000000 else 0:=by split <;> omega
theorem zpb (c:Int) (k:Nat):0≤c % 2147483629+977 * (k:Int)+1:=by omega
theorem zpc (c:Int) {k:Nat} (h:k<100):c % 2147483629+977 * (k:Int)+1<4294967296:=by omega
end L2
namespace L2
open PySem PySem.Spec PyProof.Rows
mutual
def cL (H:Hp):PyData→V→Prop
  | .none,v=>v = .non
  | .bool b,v=>v = .bl b
  | .int i,v=>v = .int i
  | .str x,v=>v = .str x
  | .list ds,v=>∃a xs,v = .ref a∧H a=some (.lst xs)∧aU H ds xs
  | .tuple ds,v=>∃a xs,v = .ref a∧H a=some (.tup xs)∧aU H ds xs
  | .dict kvs,v=>kvs=[]∧∃a,v = .ref a∧H a=some (.dK [])
def aU (H:Hp):List PyData→List V→Prop
  | [],vs=>vs=[]
  | d::ds,vs=>∃v r,vs=v::r∧cL H d v∧aU H ds r
end
mutual
theorem cL.same {H H':Hp} (s:Same H H'):∀(d:PyData) (v:V),cL H d v→cL H' d v
  | .none,v,h=>by simp only[cL] at h ⊢;exact h
  | .bool b,v,h=>by simp only[cL] at h ⊢;exact h
  | .int i,v,h=>by simp only[cL] at h ⊢;exact h
  | .str x,v,h=>by simp only[cL] at h ⊢;exact h
  | .list ds,v,h=>by
    simp only[cL] at h ⊢;obtain⟨a,xs,e,h1,h2⟩:=h;exact⟨a,xs,e,s _ _ h1,aU.same s ds xs h2⟩
  | .tuple ds,v,h=>by
    simp only[cL] at h ⊢;obtain⟨a,xs,e,h1,h2⟩:=h;exact⟨a,xs,e,s _ _ h1,aU.same s ds xs h2⟩
  | .dict kvs,v,h=>by
    simp only[cL] at h ⊢;obtain⟨e0,a,e,h1⟩:=h;exact⟨e0,a,e,s _ _ h1⟩
theorem aU.same {H H':Hp} (s:Same H H'):∀(ds:List PyData) (vs:List V),aU H ds vs→aU H' ds vs
  | [],vs,h=>by simp only[aU] at h ⊢;exact h
  | d::ds,vs,h=>by
    simp only[aU] at h ⊢;obtain⟨v,r,e,h1,h2⟩:=h;exact⟨v,r,e,cL.same s d v h1,aU.same s ds r h2⟩
end
theorem aU.append {H:Hp}:∀{ds es:List PyData} {xs ys:List V},aU H ds xs→aU H es ys→aU H (ds++es) (xs++ys)
  | [],_,_,_,h,q=>by simp only[aU] at h;subst h;exact q
  | d::ds,_,_,_,h,q=>by
    simp only[aU] at h;obtain⟨v,r,rfl,h1,h2⟩:=h;simp only[List.cons_append,aU];exact⟨_,_,rfl,h1,aU.append h2 q⟩
theorem aU.length {H:Hp}:∀{ds:List PyData} {xs:List V},aU H ds xs→ds.length=xs.length
  | [],_,h=>by simp only[aU] at h;subst h;rfl
  | d::ds,_,h=>by
    simp only[aU] at h;obtain⟨v,r,rfl,h1,h2⟩:=h;simp[aU.length h2]
def hid (p:Addr) (H:Hp):Hp:=fun b=>if b=p then none else H b
theorem fB {p:Addr} {H:Hp}:Same (hid p H) H:=fun b o e=>by
  unfold hid at e;split at e
  ·cases e
  ·exact e
theorem uR {p:Addr} {H H':Hp} (s:But p H H'):Same (hid p H) (hid p H'):=fun b o e=>by
  unfold hid at e ⊢;split at e
  ·cases e
  ·rename_i h;rw[if_neg h];exact s b o h e
theorem bV {p:Addr} {H H':Hp} (s:Same H H'):Same (hid p H) (hid p H'):=uR fun b o _ e=>s b o e
theorem cj {p b:Addr} {H:Hp} {o:HO} (h:b≠p) (e:H b=some o):hid p H b=some o:=by
  unfold hid;rw[if_neg h];exact e
section
variable {X:Cx} {p_:List (Addr×Obj)} {σ:St} {H:Hp} {s:Shared} {K:W.Frag}
theorem vQ {P:Program} {w:World} {h:Heap} {a:Addr} (ok:qH P w H h) (e:H a=some (.dK [])):Reads h (.ref a) (.dict []) [a]∧(a == sysModules)=false:=by
  obtain⟨_,hd,vs,kv,o,es,ep,h1,h2,h3,_,h5,_⟩:=Pq ok e;refine⟨?_,hd⟩;have ev:vs=[]:=by cases kv;rfl
  subst ev;have el:es.toList=[]:=by
    generalize es.toList=l at h5;cases h5;rfl
  have:=Reads.dict (kvs:=[]) (as:=[]) (bs:=[]) h1 h2.1 h3 (by rw[el];exact .nil) (by rw[el];exact .nil);exact this
mutual
theorem cL.reads (I:Inv X p_ σ H s):∀(d:PyData) (v:V) (u:Value),cL H d v→RelV v u→∃as,Reads s.heap u d as
  | .none,v,u,h,r=>by
    simp only[cL] at h;subst h;cases r;exact⟨_,.none⟩
  | .bool b,v,u,h,r=>by
    simp only[cL] at h;subst h;cases r;exact⟨_,.bool b⟩
  | .int i,v,u,h,r=>by
    simp only[cL] at h;subst h;obtain⟨t,rfl⟩:=r;exact⟨_,.int i t⟩
  | .str x,v,u,h,r=>by
    simp only[cL] at h;subst h;obtain⟨t,rfl⟩:=r;exact⟨_,.str x t⟩
  | .list ds,v,u,h,r=>by
    simp only[cL] at h;obtain⟨a,xs,rfl,hq,hs⟩:=h;cases r;obtain⟨its,rv,pl,hz⟩:=I.list (bA.of hq);obtain⟨o,e,c,n,dt⟩:=pl.isList;obtain⟨as,ra⟩:=aU.reads I ds xs its hs rv;exact⟨_,.list e c dt (by simpa using ra)⟩
  | .tuple ds,v,u,h,r=>by
    simp only[cL] at h;obtain⟨a,xs,rfl,hq,hs⟩:=h;cases r;obtain⟨its,rv,pl,hz⟩:=I.tuple (jK.of hq);obtain⟨o,e,c,n,dt⟩:=pl;obtain⟨as,ra⟩:=aU.reads I ds xs its hs rv;exact⟨_,.tuple e c dt (by simpa using ra)⟩
  | .dict kvs,v,u,h,r=>by
    simp only[cL] at h;obtain⟨rfl,a,rfl,h1⟩:=h;cases r;exact⟨_,(vQ I.hok h1).1⟩
theorem aU.reads (I:Inv X p_ σ H s):∀(ds:List PyData) (vs:List V) (us:List Value),aU H ds vs→Vals vs us→∃as,ReadsAll s.heap us ds as
  | [],vs,us,h,r=>by
    simp only[aU] at h;subst h;cases r;exact⟨_,.nil⟩
  | d::ds,vs,us,h,r=>by
    simp only[aU] at h;obtain⟨v,vr,rfl,h1,h2⟩:=h;cases r with
    | cons r1 r2=>
      obtain⟨as,ra⟩:=cL.reads I d v _ h1 r1;obtain⟨bs,rb⟩:=aU.reads I ds vr _ h2 r2;exact⟨_,.cons ra rb⟩
end
def PyData.lone (d:PyData):Prop:=d.hasDict=false∨d = .dict []
def Flat (d:PyData):Prop:=PyData.lone d∨∃ds,d = .list ds∧∀c∈ds,PyData.lone c
theorem cL.vH (I:Inv X p_ σ H s) {d:PyData} {v:V} {u:Value} (h:cL H d v) (r:RelV v u) (hl:PyData.lone d) (hs:d.showable=true) (hz:d.shown.length≤sizeLine) :
    ∃bs,ReadAtMost s.heap d.depth bs∧ReprK X.prog X.w bs s.heap d.depth u d.shown:=by
  rcases hl with hl | rfl
  ·obtain⟨as,ra⟩:=cL.reads I d v u h r;exact ReprK.of_reads ra hs (PyData.noDict_hsm hl) hz
  ·simp only[cL] at h;obtain⟨_,a,rfl,h1⟩:=h;cases r;obtain⟨ra,hd⟩:=vQ I.hok h1;refine ReprK.of_reads ra hs (fun _ hm=>?_) hz;rw[List.mem_singleton] at hm;rw[← hm] at hd;simp at hd
theorem aU.vH (I:Inv X p_ σ H s):∀{ds:List PyData} {vs:List V} {us:List Value},aU H ds vs→Vals vs us→(∀c∈ds,PyData.lone c)→PyData.showableAll ds=true→(∀t∈PyData.shownAll ds,t.length≤sizeLine)→
    ∃bs,ReadAtMost s.heap (PyData.depthAll ds) bs∧ReprAllK X.prog X.w bs s.heap (PyData.depthAll ds) us (PyData.shownAll ds)
  | [],vs,us,h,r,_,_,_=>by
    simp only[aU] at h;subst h;cases r;exact⟨[],(fun _ h=>nomatch h),.nil⟩
  | d::ds,vs,us,h,r,hl,hs,hz=>by
    simp only[aU] at h;obtain⟨v,vr,rfl,h1,h2⟩:=h;simp only[PyData.showableAll,Bool.and_eq_true] at hs;simp only[PyData.shownAll,List.mem_cons,forall_eq_or_imp] at hz;cases r with
    | cons r1 r2=>
      obtain⟨b1,m1,k1⟩:=cL.vH I h1 r1 (hl d List.mem_cons_self) hs.1 hz.1;obtain⟨b2,m2,k2⟩:=aU.vH I h2 r2 (fun c hc=>hl c (List.mem_cons_of_mem _ hc)) hs.2 hz.2;refine⟨b1++b2,(m1.mono ?_).append (m2.mono ?_),?_⟩
      ·simp only[PyData.depthAll];exact Nat.le_max_left ..
      ·simp only[PyData.depthAll];exact Nat.le_max_right ..
      · simp only[PyData.shownAll];refine .cons ((k1.more fun b hb=>List.mem_append_left _ hb).level_le ?_) (k2.more_le (fun b hb=>List.mem_append_right _ hb) ?_)
        ·simp only[PyData.depthAll];exact Nat.le_max_left ..
        ·simp only[PyData.depthAll];exact Nat.le_max_right ..
def BW:List V→Hp→VK→Prop:=fun xs H Q=>ar1 xs fun v=>∃d:PyData,cL H d v∧Flat d∧d.showable=true∧d.depth≤32∧d.shown.length≤sizeLine∧Q (.str d.shown) H
@[simp ↓] theorem qcT xs H Q:BW xs H Q=(ar1 xs fun v=>∃d:PyData,cL H d v∧Flat d∧d.showable=true∧d.depth≤32∧d.shown.length≤sizeLine∧Q (.str d.shown) H):=rfl
theorem Vn {xs H Q} (h:BW xs H Q):∃(v:V) (d:PyData),xs=[v]∧cL H d v∧Flat d∧d.showable=true∧d.depth≤32∧d.shown.length≤sizeLine∧Q (.str d.shown) H:=by
  unfold BW ar1 at h;split at h
  ·obtain⟨d,q⟩:=h;exact⟨_,d,rfl,q⟩
  ·exact h.elim
theorem Kl (hg:X.A.guards=some []) (hu:X.A.units+64<cLine):cu X (.builtin "repr") BW:=by
  intro p_ s σ H xs us Q I r h;obtain⟨v,d,rfl,hi,hf,hs,hd,hz,q⟩:=Vn h;obtain⟨u,rfl,ru⟩:=r.one;have Np:PyData.lone d→∀a:Addr,u = .ref a→wpAny (model X.prog X.w) X.A (call (.builtin "repr") [u]) (EP X p_ σ Q) X.xe s:=by
    rintro hl a rfl;have done:∀as,Reads s.heap (.ref a) d as→(d.hasDict=true→sysModules∉as)→wpAny (model X.prog X.w) X.A (call (.builtin "repr") [.ref a]) (EP X p_ σ Q) X.xe s:=fun as rd hm=>
      repr_of_reads' (h₀:=s.heap) rd hs hm hg (by omega) (fun _ _ e=>e) (fun h' u tk hk=>⟨.str _,H,I.kept (t':=tk) hk,⟨u,rfl⟩,q⟩) hz
    rcases hl with hl | rfl
    ·obtain⟨as,rd⟩:=cL.reads I d v (.ref a) hi ru;exact done as rd (PyData.noDict_hsm hl)
    ·simp only[cL] at hi;obtain⟨_,b,rfl,h1⟩:=hi;cases ru;obtain⟨ra,hd⟩:=vQ I.hok h1;refine done _ ra fun _ hm=>?_;rw[List.mem_singleton] at hm;rw[← hm] at hd;simp at hd
  rcases hf with hl | ⟨ds,rfl,hc⟩
  · cases d with
    | none=>
      simp only[cL] at hi;subst hi;cases ru;exact PySem.P.repr_of_none ⟨.str _,H,I.tok _,⟨_,rfl⟩,by simpa only[PyData.shown] using q⟩
    | bool b=>
      simp only[cL] at hi;subst hi;cases ru;exact PySem.P.repr_of_bool ⟨.str _,H,I.tok _,⟨_,rfl⟩,by simpa only[PyData.shown] using q⟩
    | int i=>
      simp only[cL] at hi;subst hi;obtain⟨t,rfl⟩:=ru;exact PySem.P.repr_of_int (by simpa [PyData.showable] using hs) ⟨.str _,H,I.tok _,⟨_,rfl⟩,by simpa only[PyData.shown] using q⟩
    | str x=>
      simp only[cL] at hi;subst hi;obtain⟨t,rfl⟩:=ru;exact PySem.P.repr_of_str ⟨.str _,H,I.tok _,⟨_,rfl⟩,by simpa only[PyData.shown] using q⟩ (by simpa only[PyData.shown] using hz)
    | list ds=>simp only[cL] at hi;obtain⟨a,_,rfl,_⟩:=id hi;exact Np hl a (by cases ru;rfl)
    | tuple ds=>simp only[cL] at hi;obtain⟨a,_,rfl,_⟩:=id hi;exact Np hl a (by cases ru;rfl)
    | dict kvs=>simp only[cL] at hi;obtain⟨_,a,rfl,_⟩:=id hi;exact Np hl a (by cases ru;rfl)
  · have hi0:=hi;simp only[cL] at hi;obtain⟨a,xs,rfl,hq,hall⟩:=hi;cases ru;obtain⟨its,rv,pl,hzz⟩:=I.list (bA.of hq);obtain⟨o,e,c,n,dt⟩:=pl.isList;have hzL:(listText (PyData.shownAll ds)).length≤sizeLine:=by simpa only[PyData.shown] using hz
    obtain⟨as,ra⟩:=cL.reads I (.list ds) (.ref a) (.ref a) hi0 rfl;obtain⟨bs,mb,kb⟩:=aU.vH I hall rv hc (by simpa [PyData.showable] using hs) (fun t ht=>Nat.le_trans (listText_mem_le ht) hzL);have nab:a∉bs:=not_mem_of_deeper ra (by simp only[PyData.depth];exact Nat.lt_succ_self _) mb;simp only[PyData.depth] at hd;simp only[PyData.shown] at q;refine call_repr_slot (by omega) ⟨o,e,c⟩ F.slot_list_repr.toG ?_;cases its with
    | nil=>
      cases rv;have e2:ds=[]:=by
        cases ds with
        | nil=>rfl
        | cons d ds=>simp only[aU] at hall;obtain⟨_,_,z,_⟩:=hall;cases z
      subst e2;simp only[PyData.shownAll,listText_nil] at q;exact call_list_repr_empty ⟨o,e,c⟩ e dt ⟨_,_,rfl,.str _,H,I.tok _,⟨_,rfl⟩,q⟩
    | cons x l=>
      refine call_list_reprK e c dt nab (by simpa using kb.length_eq) (fun i y z=>kb.item i y (by simpa using z)) hg (fun b _=>Clear.nil b) ?_ (fun _ _ z=>z) (fun h' u tk hk=>⟨_,_,rfl,.str _,H,I.kept (t':=tk) hk,⟨u,rfl⟩,q⟩) hzL;show X.A.units+1+_<_;omega
def tLR (ta:TA):TE:=fun σ H Q=>ta σ H fun vs H1=>ar1 vs fun v=>isInt v fun n=>0≤n∧n≤1000∧∀p,H1 p=none→Q (.ref p) (upd H1 p (.lst ((List.range n.toNat).map fun i=>V.int (i:Nat))))
@[simp ↓] theorem qgv ta σ H Q:tLR ta σ H Q=ta σ H fun vs H1=>ar1 vs fun v=>isInt v fun n=>0≤n∧n≤1000∧∀p,H1 p=none→Q (.ref p) (upd H1 p (.lst ((List.range n.toNat).map fun i=>V.int (i:Nat)))):=rfl
theorem BX:∀(n lo:Nat) (l:List Value),l.length=n→(∀(j:Nat) v,l[j]? = some v→∃t,v = .int (((lo+j:Nat):Int)) t)→Vals ((List.range' lo n).map fun i=>V.int (i:Nat)) l
  | 0,lo,l,h,_=>by
    cases l with
    | nil=>exact .nil
    | cons _ _=>cases h
  | n+1,lo,l,h,q=>by
    cases l with
    | nil=>cases h
    | cons x r=>
      rw[List.range'_succ,List.map_cons];refine .cons ?_ (BX n (lo+1) r (by simpa using h) fun j v e=>?_)
      ·obtain⟨t,rfl⟩:=q 0 x rfl;exact⟨t,rfl⟩
      ·obtain⟨t,rfl⟩:=q (j+1) v (by simpa using e);exact⟨t,by rw[show lo+(j+1)=lo+1+j by omega]⟩
theorem Ie (hc:X.calm=true) {a:Expr} {ta:TA} {p p2 pos pos2:Pos} (hg1:Gl X "list") (hm1:X.mg "list" = none) (hg2:Gl X "range") (hm2:X.mg "range" = none) (ha:PA X [a] ta)
    (hs:starEach [a] X.env=[(false,eval a X.env)]:=by rfl)
    (hs1:starEach [.Call (.Name "range" p2) [a] [] pos2] X.env=[(false,eval (.Call (.Name "range" p2) [a] [] pos2) X.env)]:=by rfl) :
    PE X (.Call (.Name "list" p) [.Call (.Name "range" p2) [a] [] pos2] [] pos) (tLR ta):=by
  intro p_ s σ H Q I h;refine wpAny_Call_Name_kw (lU I hg1 hm1 boot_list ?_ (by decide) (by decide));refine PyProof.Rows.callWith_type1 ?_ (by rw[hs1];rfl) (by rfl);rw[hs1];show wpAny _ _ (spliced ((false,eval (.Call (.Name "range" p2) [a] [] pos2) X.env)::[])) _ _ s;refine Calls.spliced_cons ?_;refine wpAny_Call_Name_kw (lU I hg2 hm2 boot_range ?_ (by decide) (by decide));refine PyProof.Rows.callWith_type1 (cY (ha pos2 p_ s σ H _ I h) fun us s1 z=>?_) (by rw[hs];rfl) (by rfl);obtain⟨vs,H1,I1,r1,q1⟩:=z;obtain⟨v,rfl,q2⟩:=ar1.out q1;obtain⟨n,rfl,h0,h1,q⟩:=isInt.out q2;obtain⟨u,rfl,r⟩:=vals1 r1;obtain⟨t,rfl⟩:=r;refine call_range_1 (Calls.spliced_nil ?_);have hsz:(1000:Nat)≤sizeLine:=by decide
  have en:Builtin.Range.rangeSize 0 n 1=(n.toNat:Int):=by
    rw[rangeSize_one];split <;> omega
  refine call_list_range (n:=n.toNat) (I1.ok.hd hc) (IsRange.new ..) (small_one (by decide) (by decide) (by omega) (by omega)) en (by omega) fun h' tk acc' c' hk hD hit=>?_;have hle:s1.heap.objs.size≤(s1.heap.push {cls:=.type "range",data:=.fields #[.int 0 s1.toks,.int n t,.int 1 (s1.toks+1)]}).objs.size:=by rw[Heap.size_push];exact Nat.le_succ _
  have hf:=I1.hok.fresh hle;refine⟨.ref _,_,I1.laid (t':=tk) (fun b o e=>hk b o (Heap.get?_push_of_some _ e)) hle ?_,rfl,q _ hf⟩;refine(show cH _ _ _ _ _ (.lst _) from⟨by simp;omega,acc'.toList,c',?_,by simpa using hD⟩);rw[List.range_eq_range'];refine BX _ 0 _ (by simpa using hit.1) fun j v e=>?_;obtain⟨t,rfl⟩:=hit.2 j v (by simpa using e);exact⟨t,by simp⟩
end
theorem BZ {f:Array Value→Array Value} {o:Obj}:(Obj.mapFields f o).dict=o.dict:=by
  obtain⟨c,d,dat,sl⟩:=o;cases dat <;> rfl
def Trc (base h:Heap) (e:Addr) (cls:Value×Option Addr) (fl:Value) (T:Addr):Prop:=
  ∃oe vs oT ts,h.get? e=some oe∧(oe.cls,oe.dict)=cls∧oe.data = .fields vs∧vs[2]? = some .none∧vs[1]? = some (.ref T)∧base.get? T=none∧T≠e∧h.get? T=some oT∧oT.data = .fields ts∧ts[3]? = some fl
structure Stn (base:Heap) (l:List Env) (e:Addr) (cls:Value×Option Addr) (fl:Value) (h h':Heap):Prop where
  stays:base.StaysIn h'
  frames:h'.FunFrames base l
  trc:∃T,Trc base h' e cls fl T
  slots:h.UpToSlots h'
section
variable {M:Model} {A:Around} {E:Value→Shared→Prop} {s:Shared} {base:Heap} {env:Env} {outer l:List Env} {L e:Addr} {Q:Unit→Shared→Prop}
theorem PL {oe:Obj} {vs:Array Value} {head:Value} {had:Bool} (fr:A.frames=some (env::outer)) (ff:s.heap.FunFrames base (env::outer)) (lf:env.frame=some L) (ee:s.heap.get? e=some oe)
    (st:base.StaysIn s.heap) (nb:base.get? e=none) (de:oe.data = .fields vs) (v2:vs[2]? = some .none) (hq:∀h',Stn base (env::outer) e (oe.cls,oe.dict) (rawInt L) s.heap h'→Q () {s with heap:=h'}) :
    wpAny M A (do let a ← frameOf env;let pl ← entryPlaceOf L had;let b ← EntryCells.newEntry head a .none (rawInt L) .none pl;setField (.ref e) 1 b) Q E s:=by
  have sz2:2<vs.size:=(Array.getElem?_eq_some_iff.mp v2).1;have ne:e∉frs (env::outer):=fun z=>by
    obtain⟨_,o,y,d⟩:=ff.mem z;rw[ee] at y;cases y;exact d vs de
  refine wpAny_bind (wpAny_frameOf_fun fr ff lf fun g1 x1=>?_);refine wpAny_bind (wpAny_entryPlaceOf fun pl okp=>?_);unfold EntryCells.newEntry newFields;refine wpAny_bind (wpAny_newObj_type ?_ (okp.sizeOk5 _ _ _ _ _));have e1:g1.get? e=some oe:=(x1.2.1 e ne).trans ee;have st1:base.StaysIn g1:=fun b o z=>(x1.2.1 b fun y=>by rw[(ff.mem y).1] at z;cases z).trans (st b o z);generalize hR:({cls:=.type "traceback",dict:=none,data:=.fields ([head,.ref L,.none,rawInt L,.none]++(if pl.isEmpty then List.replicate 6 Value.none else pl)).toArray}:Obj)=R
  have dR:∃ts,R.data = .fields ts∧ts[3]? = some (rawInt L)∧R.isFreed=false:=by
    subst hR;exact⟨_,rfl,by simp,rfl⟩
  obtain⟨ts,dR,tR,fR⟩:=dR;have e2:=Heap.get?_push_of_some (h:=g1) R e1;refine wpAny_setField e2 de (Nat.lt_of_succ_lt sz2) (hq _ ?_);have Te:g1.objs.size≠e:=Nat.ne_of_gt (Heap.lt_size e1);have keep:∀{b o},b≠e→g1.get? b=some o→((g1.push R).update e (Obj.mapFields (·.setIfInBounds 1 (Value.ref g1.objs.size)))).get? b=some o:=fun {b o} nb z=>by
    rw[Heap.get?_update_other _ _ (Ne.symm nb)];exact Heap.get?_push_of_some _ z
  have nr:∀{b o},s.heap.get? b=some o→(∀us,o.data≠.fields us)→b≠e:=fun {b o} z d y=>by
    rw[y,ee] at z;cases z;exact d vs de
  have d3:=Obj.data_mapFields de (·.setIfInBounds 1 (Value.ref g1.objs.size));refine⟨fun b o z=>keep (fun y=>by rw[y,nb] at z;cases z) (st1 b o z),ff.of_keeps fun b o z d=>?_,⟨g1.objs.size,?_⟩,fun b o z d=>?_⟩
  ·obtain⟨sl,y⟩:=x1.2.2 b o z;exact⟨_,keep (nr z d) y,rfl⟩
  · refine⟨_,_,R,ts,Heap.get?_update_self _ e2 (Obj.isFreed_of_fields d3),by rw[Obj.cls_mapFields,BZ],d3,?_,?_,st1.fresh,Te,?_,dR,tR⟩
    ·rw[Array.getElem?_setIfInBounds_ne (by decide)];exact v2
    ·simp[Nat.lt_of_succ_lt sz2]
    ·rw[Heap.get?_update_other _ _ (Ne.symm Te)];exact Heap.get?_push_size g1 fR
  ·obtain⟨sl,y⟩:=x1.2.2 b o z;exact⟨sl,keep (nr z d) y⟩
theorem Nq {oe:Obj} {vs:Array Value} (fr:A.frames=some (env::outer)) (ff:s.heap.FunFrames base (env::outer)) (lf:env.frame=some L) (ee:s.heap.get? e=some oe)
    (st:base.StaysIn s.heap) (nb:base.get? e=none) (de:oe.data = .fields vs) (v1:vs[1]? = some .none) (v2:vs[2]? = some .none) (hq:∀h',Stn base (env::outer) e (oe.cls,oe.dict) (rawInt L) s.heap h'→Q () {s with heap:=h'}) :
    wpAny M A (noteFrame (.ref e) env) Q E s:=by
  unfold noteFrame;simp only[lf];refine wpAny_bind (wpAny_field ee de v1 ?_);rw[if_neg (by decide)];exact PL fr ff lf ee st nb de v2 hq
theorem Gi {cls:Value×Option Addr} {T:Addr} (fr:A.frames=some (env::outer)) (ff:s.heap.FunFrames base (env::outer)) (lf:env.frame=some L) (tr:Trc base s.heap e cls .none T)
    (st:base.StaysIn s.heap) (nb:base.get? e=none) (hq:∀h',Stn base (env::outer) e cls (rawInt L) s.heap h'→Q () {s with heap:=h'}) :
    wpAny M A (noteFrame (.ref e) env) Q E s:=by
  obtain⟨oe,vs,oT,ts,ee,rfl,de,v2,v1,nT,Te,eT,dT,t3⟩:=tr;unfold noteFrame;simp only[lf];refine wpAny_bind (wpAny_field ee de v1 ?_);rw[if_pos (by simp)];refine wpAny_bind (wpAny_field eT dT t3 ?_);rw[if_neg (by simp[rawInt])];refine wpAny_bind (wpAny_setField eT dT (Array.getElem?_eq_some_iff.mp t3).1 ?_);have oth:∀{b},b≠T→(s.heap.update T (Obj.mapFields (·.setIfInBounds 3 Value.none))).get? b=s.heap.get? b:=fun n=>Heap.get?_update_other _ _ (Ne.symm n);have nr:∀{b o},s.heap.get? b=some o→(∀us,o.data≠.fields us)→b≠T:=fun {b o} z d y=>by
    rw[y,eT] at z;cases z;exact d ts dT
  refine PL (s:={s with heap:=s.heap.update T (Obj.mapFields (·.setIfInBounds 3 Value.none))}) fr (ff.of_keeps fun b o z d=>⟨o,(oth (nr z d)).trans z,rfl⟩) lf ((oth (Ne.symm Te)).trans ee) (fun b o z=>(oth fun y=>by rw[y,nT] at z;cases z).trans (st b o z)) nb de v2 fun h' x=>hq h' ⟨x.stays,x.frames,x.trc,fun b o z d=>x.slots b o ((oth (nr z d)).trans z) d⟩
theorem B_ {cls:Value×Option Addr} {fl:Value} {T:Addr} (ff:s.heap.FunFrames base l) (tr:Trc base s.heap e cls fl T) (st:base.StaysIn s.heap) (hq:∀h',Stn base l e cls .none s.heap h'→Q () {s with heap:=h'}) :
    wpAny M A (setFlight (.ref e) none) Q E s:=by
  obtain⟨oe,vs,oT,ts,ee,rfl,de,v2,v1,nT,Te,eT,dT,t3⟩:=tr;have z3:3<ts.size:=(Array.getElem?_eq_some_iff.mp t3).1;unfold setFlight;refine wpAny_bind (wpAny_field ee de v1 ?_);rw[if_pos (by simp)];refine wpAny_setField eT dT z3 (hq _ ?_);have oth:∀{b} (f:Obj→Obj),b≠T→(s.heap.update T f).get? b=s.heap.get? b:=fun f n=>Heap.get?_update_other _ _ (Ne.symm n);have nr:∀{b o},s.heap.get? b=some o→(∀us,o.data≠.fields us)→b≠T:=fun {b o} z d y=>by
    rw[y,eT] at z;cases z;exact d ts dT
  refine⟨fun b o z=>(oth _ fun y=>by rw[y,nT] at z;cases z).trans (st b o z),ff.of_keeps fun b o z d=>⟨o,(oth _ (nr z d)).trans z,rfl⟩,⟨T,oe,vs,_,_,(oth _ (Ne.symm Te)).trans ee,rfl,de,v2,v1,nT,Te,Heap.get?_update_self _ eT (Obj.isFreed_of_fields (Obj.data_mapFields dT _)),Obj.data_mapFields dT _,?_⟩,fun b o z d=>⟨o.slots,(oth _ (nr z d)).trans z⟩⟩;simp[z3]
theorem PN {cls:Value×Option Addr} (note:∀Q':Unit→Shared→Prop,(∀h',Stn base (env::outer) e cls (rawInt L) s.heap h'→Q' () {s with heap:=h'})→wpAny M A (noteFrame (.ref e) env) Q' E s)
    (hq:∀h',Stn base (env::outer) e cls .none s.heap h'→Q () {s with heap:=h'}):wpAny M A (leaving env (.ref e)) Q E s:=by
  unfold leaving;refine wpAny_bind (note _ fun h1 x1=>?_);obtain⟨T,tr⟩:=x1.trc;exact B_ (s:={s with heap:=h1}) x1.frames tr x1.stays fun h2 x2=>hq h2 ⟨x2.stays,x2.frames,x2.trc,x1.slots.trans x2.slots⟩
end
structure Gj (h0 h:Heap) (H:Hp) (a C:Addr) (od:Option Addr):Prop where
  new:h0.get? a=none
  un:H a=none
  ob:∃oe vs,h.get? a=some oe∧(oe.cls,oe.dict)=(Value.ref C,od)∧oe.data = .fields vs∧vs[2]? = some .none∧(vs[1]? = some .none∨
    ∃T oT ts,vs[1]? = some (.ref T)∧T≠a∧h0.get? T=none∧H T=none∧h.get? T=some oT∧oT.data = .fields ts∧ts[3]? = some .none)
structure Vo (h0 h:Heap) (H:Hp) (a C:Addr) (od:Option Addr) (T:Addr):Prop where
  new:h0.get? a=none
  newT:h0.get? T=none
  un:H a=none
  unT:H T=none
  ob:∃oe vs oT ts,h.get? a=some oe∧(oe.cls,oe.dict)=(Value.ref C,od)∧oe.data = .fields vs∧vs[2]? = some .none∧vs[1]? = some (.ref T)∧T≠a∧h.get? T=some oT∧oT.data = .fields ts∧ts[3]? = some .none
theorem Vo.in {h0 h:Heap} {H:Hp} {a C T:Addr} {od:Option Addr} (x:Vo h0 h H a C od T):Gj h0 h H a C od:=by
  obtain⟨h1,h2,h3,h4,oe,vs,oT,ts,t1,t2,t3,t4,t5,t6,t7⟩:=x;exact⟨h1,h3,oe,vs,t1,t2,t3,t4,.inr ⟨T,oT,ts,t5,t6,h2,h4,t7⟩⟩
def Km (P:Program) (w:World):Q0:=fun outer H s E e s'=>∃(a C:Addr) (od:Option Addr) (H':Hp),e = .ref a∧s'.os=s.os∧AllBare s'.gens∧Un (frs outer) [] H H' s.heap s'.heap∧qH P w H' s'.heap∧(∃T,Vo s.heap s'.heap H' a C od T)∧E (.ref C) od H'
theorem Vp {P:Program} {w:World} {H:Hp} {h:Heap} (x:qH P w H h) {b:Addr} (e:h.get? b=none):H b=none:=by
  cases q:H b with
  | none=>rfl
  | some u=>
    obtain⟨o,eo⟩:∃o,h.get? b=some o:=by
      have:=x b u q;cases u with
      | lst xs=>obtain⟨_,_,_,_,e⟩:=this;exact⟨_,e⟩
      | tup xs=>obtain⟨_,_,_,o,e,_⟩:=this;exact⟨_,e⟩
      | dK kvs=>obtain⟨_,_,_,_,o,_,_,e,_⟩:=this;exact⟨_,e⟩
      | dT kvs=>obtain⟨_,_,_,_,o,_,_,e,_⟩:=this;exact⟨_,e⟩
      | set S n=>obtain⟨o,_,_,_,e,_⟩:=this;exact⟨_,e⟩
      | ins C dx fs=>obtain⟨_,_,_,e,_⟩:=this;exact⟨_,e⟩
      | own y=>obtain⟨_,e⟩:=this;exact⟨_,e⟩
      | xd fs=>obtain⟨_,⟨_,_,_,e,_⟩,_⟩:=this;exact⟨_,e⟩
      | rng lo hi=>obtain⟨_,_,_,e⟩:=this;exact⟨_,e⟩
      | jM ob u=>obtain⟨e,_⟩:=this;exact⟨_,e⟩
      | Zm ps=>exact⟨_,(show h.get? b=some _ from this)⟩
      | met f y=>exact⟨_,(show h.get? b=some _ from this)⟩
      | ext φ=>obtain⟨_,⟨o,e⟩,_⟩:=this;exact⟨_,e⟩
    rw[e] at eo;cases eo
section
variable {X:Cx} {p_:List (Addr×Obj)} {σ:St} {H:Hp} {s:Shared}
theorem Inv.old (I:Inv X p_ σ H s) (hex:X.ex=[]) {b:Addr} (e:s.heap.get? b=none):X.s₀.heap.get? b=none:=by
  cases q:X.s₀.heap.get? b with
  | none=>rfl
  | some o=>
    obtain⟨o',eo⟩:=I.base.there b o q (by rw[hex];simp);rw[e] at eo;cases eo
theorem PX (I:Inv X p_ σ H s) (hex:X.ex=[]) {a C:Addr} {od:Option Addr} {l:List Addr} (hl:∀b∈l,b∈frs X.stack∨(X.s₀.heap.get? b=none∧H b=none)) (ha:X.s₀.heap.get? a=none) (hH:H a=none) (hs:∀b∈frs X.stack,b∈l)
    {E:XK} (hE:E (.ref C) od H) {h':Heap} (x:Stn (W.hideAll s.heap l) X.stack a (.ref C,od) .none s.heap h'):Km X.prog X.w X.outer X.H₀ X.s₀ E (.ref a) {s with heap:=h'}:=by
  obtain⟨k1,k2,⟨T,oe,vs,oT,ts,t1,t2,t3,t4,tt,t5,t6,t7,t8,t9⟩,k4⟩:=x;have nl:∀{b:Addr} {o:Obj},b∉l→s.heap.get? b=some o→h'.get? b=some o:=fun hb e=>k1 _ _ (W.hideAll_get _ e hb);have qcU:∀{b:Addr} {o:Obj},X.s₀.heap.get? b=some o→b∉X.fs→b∉l:=fun {b o} e hb hm=>by
    rcases hl b hm with z | ⟨z,_⟩
    · rcases List.mem_cons.mp (I.vN b z) with z | z
      ·rw[z] at e;exact absurd (Heap.lt_size e) (Nat.not_lt.mpr I.ok.above)
      ·exact hb z
    ·rw[z] at e;cases e
  have trL:∀{b:Addr} {u:HO},H b=some u→b∉l:=fun {b u} e hm=>by
    rcases hl b hm with z | ⟨_,z⟩
    ·rw[I.z9 b z] at e;cases e
    ·rw[z] at e;cases e
  have fsl:∀{b:Addr} {o:Obj},b∈X.fs→s.heap.get? b=some o→∃sl,h'.get? b=some {o with slots:=sl}:=fun {b o} hb e=>by
    obtain⟨_,o2,e2,hd⟩:=I.tu.mem hb;rw[e] at e2;cases e2;exact k4 b o e hd
  have R6:∀b:Addr,b∉X.ex:=fun b=>by rw[hex];simp
  refine⟨a,C,od,H,rfl,I.os,I.bare,⟨fun b o e n hb _=>?_,fun b o e n hb _=>?_,fun b o e n _=>I.base.free b o e n (R6 b),fun b o e _=>?_,I.base.tups,I.base.sW,I.base.sZ⟩,fun b u e=>?_,⟨T,ha,?_,hH,?_,oe,vs,oT,ts,t1,t2,t3,t4,tt,t6,t7,t8,t9⟩,hE⟩
  ·exact nl (qcU e hb) (I.base.keep b o e n hb (R6 b))
  ·obtain⟨sl,e2⟩:=I.base.slot b o e n hb (R6 b);obtain⟨sl',e3⟩:=fsl hb e2;exact⟨sl',e3⟩
  · obtain⟨o',e2⟩:=I.base.there b o e (R6 b)
    by_cases hb:b∈X.fs
    ·obtain⟨sl,e3⟩:=fsl hb e2;exact⟨_,e3⟩
    ·exact⟨o',nl (qcU e hb) e2⟩
  · refine(I.hok b u e).stay (fun c v hc q=>?_) (fun c q=>q) fun c xs q=>q
    rcases hc with rfl | hc
    ·exact nl (trL e) q
    ·exact nl (trL hc) q
  all_goals
    have hT:T∉frs X.stack:=fun hm=>by
      obtain⟨_,o2,e2,hd⟩:=k2.mem hm;rw[t7] at e2;cases e2;exact hd _ t8
    have cs:s.heap.get? T=none∨(X.s₀.heap.get? T=none∧H T=none):=by
      cases q:s.heap.get? T with
      | none=>exact .inl rfl
      | some o=>
        by_cases hm:T∈l
        ·exact .inr ((hl T hm).resolve_left hT)
        ·rw[W.hideAll_get _ q hm] at t5;cases t5
  ·exact cs.elim (fun z=>I.old hex z) fun z=>z.1
  ·exact cs.elim (fun z=>Vp I.hok z) fun z=>z.2
theorem Vq (I:Inv X p_ σ H s) (hst:X.stack=X.env::X.outer) (hfr:X.env.frame=some X.env.locals) (hex:X.ex=[]) {a C:Addr} {od:Option Addr} (x:Gj X.s₀.heap s.heap H a C od) {E:XK} (hE:E (.ref C) od H) {E':Value→Shared→Prop} :
    wpAny (model X.prog X.w) X.A (leaving X.env (.ref a)) (fun _ s''=>Km X.prog X.w X.outer X.H₀ X.s₀ E (.ref a) s'') E' s:=by
  obtain⟨new,un,oe,vs,he,hc,hd,h0,hT⟩:=x;have fr:=I.ok.frames;rw[hst] at fr;have ZW:∀l:List Addr,s.heap.FunFrames (W.hideAll s.heap (frs X.stack++l)) (X.env::X.outer):=fun l=>by
    rw[← hst];exact W.funFrames_hide I.stack fun env he b hb=>List.mem_append_left _ (List.mem_filterMap.mpr ⟨env,he,hb⟩)
  rcases hT with h1 | ⟨T,oT,ts,h1,h2,h3,h4,h5,h6,h7⟩
  · refine PN (base:=W.hideAll s.heap (frs X.stack++[a])) (fun Q' q=>Nq fr (ZW _) hfr he (fun b o e=>W.of_hideAll _ e) (W.hideAll_none _ (by simp)) hd h1 h0 q) fun h' hL=>?_;rw[hc,← hst] at hL;refine PX I hex (fun b hb=>?_) new un (fun b hb=>List.mem_append_left _ hb) hE hL
    rcases List.mem_append.mp hb with z | z
    ·exact .inl z
    ·rw[List.mem_singleton.mp z];exact .inr ⟨new,un⟩
  · refine PN (base:=W.hideAll s.heap (frs X.stack++[a,T])) (cls:=(.ref C,od)) (fun Q' q=>Gi fr (ZW _) hfr (T:=T) ⟨oe,vs,oT,ts,he,hc,hd,h0,h1,W.hideAll_none _ (by simp),h2,h5,h6,h7⟩ (fun b o e=>W.of_hideAll _ e) (W.hideAll_none _ (by simp)) q) fun h' hL=>?_;rw[← hst] at hL;refine PX I hex (fun b hb=>?_) new un (fun b hb=>List.mem_append_left _ hb) hE hL
    rcases List.mem_append.mp hb with z | z
    ·exact .inl z
    · simp only[List.mem_cons,List.not_mem_nil,or_false] at z
      rcases z with rfl | rfl
      ·exact .inr ⟨new,un⟩
      ·exact .inr ⟨h3,h4⟩
theorem Gj.back {h0 h1 h:Heap} {H:Hp} {a C:Addr} {od:Option Addr} (x:Gj h1 h H a C od) (k:∀b,h1.get? b=none→h0.get? b=none):Gj h0 h H a C od:=by
  obtain⟨new,un,oe,vs,he,hc,hd,h2,hT⟩:=x;refine⟨k _ new,un,oe,vs,he,hc,hd,h2,?_⟩
  rcases hT with h1 | ⟨T,oT,ts,h1,h2,h3,h4,h5⟩
  ·exact .inl h1
  ·exact .inr ⟨T,oT,ts,h1,h2,k _ h3,h4,h5⟩
def Lets (X:Cx) (E:XK):Prop:=∀(p_:List (Addr×Obj)) (σ:St) (H:Hp) (s:Shared) (a C:Addr) (od:Option Addr),Inv X p_ σ H s→Gj X.s₀.heap s.heap H a C od→E (.ref C) od H→X.xe (.ref a) s
theorem oR {P:Program} {w:World} {K:W.Frag} {mg:Str→Option Value} {base:Heap} {N:List Str} {qual:Str} {scope:Scope} {f:Addr} {cd:Value} {A:Around} {outer:List Env} {s:Shared} {H:Hp} {E:XK} :
    Lets (au (Km P w) P w K mg base N qual scope f cd A outer s H E) E:=fun p_ σ H1 s1 a C od I x hE=>Vq I rfl rfl rfl x hE
theorem Lets.passes {X:Cx} {E:XK} (h:Lets X E) (hex:X.ex=[]):Passes (Km X.prog X.w) X E:=fun p_ σ H s e s' I hx=>by
  obtain⟨a,C,od,H',rfl,ho,hg,un,hok,⟨T,ex⟩,hE⟩:=hx;have I':Inv X p_ σ H' s':=I.call' (ch:=[]) ho un hok hg fun b z=>(nomatch z);exact h p_ σ H' s' a C od I' (ex.in.back fun b e=>I.old hex e) hE
theorem Ig {K:W.Frag} {h:Heap} {C:Addr} {bmB:List Value} {newId:String} (X:K.In h) (q:W.excIn K C bmB newId=true) :
    ∃bm N nm q bs hdct sn sub ab col dd k0 k1 k2 k3 k5 mN,h.get? C=some (excClassObj nm q C N bs bm hdct sn sub ab col dd k0 k1 k2 k3 k5 newId)∧h.Ns N mN∧mN "__init__" = none∧OwnTail h bmB bm∧∀v b,W.mroIn K C v=some b→(Value.ref C::bm).contains v=b:=by
  unfold W.excIn at q;split at q
  · rename_i dd cd sl ho;split at q
    · rename_i C' bm k0 k1 k2 k3 n k5 hm hs;simp only[Bool.and_eq_true,beq_iff_eq,Bool.not_eq_true'] at q;obtain⟨⟨⟨⟨⟨rfl,rfl⟩,hdel⟩,ht⟩,hok⟩,hni⟩:=q;obtain⟨nm,bs,mro,ns,qn,hd,sn,sub,ab,col,del⟩:=cd;dsimp only at hm hdel hok hni;subst hm hdel;obtain rfl:sl = #[k0,k1,k2,k3,some (.builtin n),k5]:=by
        obtain⟨l⟩:=sl;simp only at hs;rw[hs]
      exact⟨bm,ns,nm,qn,bs,hd,sn,sub,ab,col,dd,k0,k1,k2,k3,k5,_,X _ _ ho,.of_isNs (W.isNs_of_in X hok),W.nsMap_none_of_in X hok hni,W.tail_of_in X ht,fun v b e=>by
        unfold W.mroIn W.clsIn at e;rw[ho] at e;simpa using e⟩
    ·cases q
  ·cases q
abbrev zA:List Value:=[.type "ValueError",.type "Exception",.type "BaseException",.type "object"]
def vR (K:W.Frag) (C:Addr):Prop:=W.excIn K C zA "ValueError.__new__" = true
def Vr (C:Addr) (E:XK) (ta:TA):TS:=fun _ σ H=>ta σ H fun vs H1=>vs.length≤sizeLine∧E (.ref C) none H1
@[simp ↓] theorem qcV C E ta D σ H:Vr C E ta D σ H=ta σ H fun vs H1=>vs.length≤sizeLine∧E (.ref C) none H1:=rfl
theorem m9 {X:Cx} {E:XK} {C:Addr} {x:Str} {np cpos pos:Pos} {e:Expr} {es:List Expr} {ta:TA} (hL:Lets X E) (hex:X.ex=[]) (hc:X.calm=true) (cl:vR X.K C) (hg:Gl X x) (hm:X.mg x=some (.ref C)) (ha:PA X (e::es) ta)
    (hdb:(x == ("__debug__" : Str))=false:=by decide) (hs:starEach (e::es) X.env=(false,eval e X.env)::starEach es X.env:=by rfl) (hpl:(backTo cpos (starEach (e::es) X.env)).any (·.1)=false:=by rfl) :
    PS X (.Raise (some (.Call (.Name x np) (e::es) [] cpos)) none pos) (Vr C E ta):=by
  intro p_ s σ H D I h;obtain⟨bm,N,nm,q,bs,hdct,sn,sub,ab,col,dd,k0,k1,k2,k3,k5,mN,hC0,hN0,hni,T0,_⟩:=Ig I.ok.mod.R5 cl;refine wpAny_Raise_call_subT (bm:=bm) (N:=N) (nm:=nm) (q:=q) (bs:=bs) (hdct:=hdct) (sn:=sn) (sub:=sub) (ab:=ab) (col:=col) (dd:=dd) (k0:=k0) (k1:=k1) (k2:=k2) (k3:=k3) (k5:=k5) (mN:=mN) (C:=C) PySem.F.excBase_ValueError (T0.hasType (by decide)) (I.ok.hd hc) hpl hni ?_;refine qI I hg hm ⟨rfl,?_⟩ hdb;have hp:=fun Q q=>ha cpos p_ s σ H Q I q;rw[hs] at hp ⊢;show wpAny _ _ (evalArgs (.ref C) true ((false,eval e X.env)::backTo cpos (starEach es X.env)) []) _ _ s;refine Calls.evalArgs_plain (cY (hp _ h) fun us s1 zz=>?_);obtain⟨vs,H1,I1,r1,hz,hE⟩:=zz;refine⟨rfl,by rw[← r1.length];exact hz,I1.bk _ _ hC0,hN0.keeps I1.bk,T0.keeps I1.bk,fun h' a mk=>?_⟩;obtain⟨t,ht,htn,htt⟩:=mk.there;have I2:Inv X p_ σ H1 {s1 with heap:=h',toks:=s1.toks}:=I1.kept mk.keeps;exact hL p_ σ H1 _ a C none I2 ⟨I1.old hex mk.new,Vp I1.hok mk.new,_,_,ht,rfl,rfl,rfl,.inl rfl⟩ hE
theorem gK.okE {P:Program} {w:World} {K:W.Frag} {mg:Str→Option Value} {base:Heap} {x qual:Str} {st:Stmt} {f:Addr} {fd:FuncData} {N ps:List Str} {k:Nat} {sp:Sp} (F:gK K x qual st f fd) (S:bH N ps (aB st)) (len:∀vs H Q E,sp vs H Q E→vs.length=ps.length)
    (hbody:∀(cdv:Value) (A:Around) (outer:List Env) (s:Shared) (H:Hp) (vs:List V) (Q:VK) (E:XK),jc k (A.deeper (envOfC qual (aB st) s.heap.objs.size f cdv))→sp vs H Q E→
      ∃t,D_ (au (Km P w) P w K mg base N qual (aB st) f cdv A outer s H E) (jm st) t∧t {nx:=fun _ H'=>Q .non H',rt:=Q} (start N vs) H):bZ P w K mg base (Km P w) (k+1) f fd ps sp:=by
  obtain⟨oc,od,kV,doc,pm,an,cdv,ct,osl,rfl,lk,hcd⟩:=F.ex;exact Zv lk hcd S len fun A outer s H vs Q E hr hsp=>hbody cdv A outer s H vs Q E hr hsp
theorem Inv.gone {X:Cx} {p_:List (Addr×Obj)} {σ:St} {H:Hp} {s:Shared} {h':Heap} {t':Nat} {ch:List Addr} (I:Inv X p_ σ H s) (hex:X.ex=[])
    (hch:∀b∈ch,X.s₀.heap.get? b=none∧H b=none∧(∀vs o,s.heap.get? b=some o→o.data = .fields vs→True)∧(∃o vs,s.heap.get? b=some o∧o.data = .fields vs)∧∀p∈X.pn++p_,p.1≠b)
    (k1:∀b o,b∉frs X.stack→b∉ch→s.heap.get? b=some o→h'.get? b=some o) (k2:∀b o,s.heap.get? b=some o→(∀vs,o.data≠.fields vs)→∃sl,h'.get? b=some {o with slots:=sl}) :
    Inv X p_ σ H {s with heap:=h',toks:=t'}:=by
  have nf:∀{b o},s.heap.get? b=some o→(∀vs,o.data≠.fields vs)→b∉ch:=fun {b o} e hd hb=>by
    obtain⟨_,_,_,⟨o2,vs,e2,d2⟩,_⟩:=hch b hb;rw[e] at e2;cases e2;exact hd vs d2
  have fsl:∀{b:Addr} {o:Obj},b∈frs X.stack→s.heap.get? b=some o→∃sl,h'.get? b=some {o with slots:=sl}:=fun {b o} hb e=>by
    obtain⟨_,o2,e2,hd⟩:=I.stack.mem hb;rw[e] at e2;cases e2;exact k2 b o e hd
  have ex1:∀{b:Addr} {o:Obj},b∉ch→s.heap.get? b=some o→∃o',h'.get? b=some o':=fun {b o} hb e=>by
    by_cases hf:b∈frs X.stack
    ·obtain⟨sl,z⟩:=fsl hf e;exact⟨_,z⟩
    ·exact⟨o,k1 b o hf hb e⟩
  have old:∀{b:Addr} {o:Obj},X.s₀.heap.get? b=some o→b∉ch:=fun e hb=>by
    rw[(hch _ hb).1] at e;cases e
  have qfO:∀{b:Addr} {o:Obj},X.s₀.heap.get? b=some o→b∉X.fs→b∉frs X.stack:=fun {b o} e hb hm=>by
    rcases List.mem_cons.mp (I.vN b hm) with z | z
    ·rw[z] at e;exact absurd (Heap.lt_size e) (Nat.not_lt.mpr I.ok.above)
    ·exact hb z
  have R6:∀b:Addr,b∉X.ex:=fun b=>by rw[hex];simp
  have cells:∀{c:Addr} {v:Option Value},s.heap.IsCell c v→h'.IsCell c v:=fun {c v} ⟨o,e,d⟩=>by
    obtain⟨sl,z⟩:=k2 c o e (fun vs q=>by rw[d] at q;cases q);exact⟨_,z,d⟩
  have subs:∀{b:Addr},b∈X.fs→b∈frs X.stack:=fun {b} hb=>by
    rcases I.ok.stk with e | ⟨e,hf⟩
    ·rw[e];exact hb
    ·rw[e];show b∈List.filterMap _ (X.env::X.outer);rw[List.filterMap_cons,hf];exact List.mem_cons_of_mem _ hb
  refine⟨I.ok,I.os,I.bare,⟨fun b o e n hb hx=>?_,fun b o e n hb hx=>?_,I.base.free,fun b o e hx=>?_,I.base.tups,I.base.sW,I.base.sZ⟩,?_,fun x c e=>?_,I.free,I.i_,fun p hp=>?_,fun b u e=>?_,I.len⟩
  ·exact k1 b o (qfO e hb) (old e) (I.base.keep b o e n hb hx)
  ·obtain⟨sl,z⟩:=I.base.slot b o e n hb hx;obtain⟨sl',z'⟩:=fsl (subs hb) z;exact⟨sl',z'⟩
  ·obtain⟨o',z⟩:=I.base.there b o e hx;exact ex1 (old e) z
  · obtain⟨m,⟨o,es,ep,e,d,r⟩,q⟩:=I.loc;obtain⟨sl,z⟩:=k2 _ o e (fun vs y=>by rw[d] at y;cases y);refine⟨m,⟨_,es,ep,z,d,r⟩,fun i x v e1 e2 e3=>?_⟩;obtain⟨u,rv,l⟩:=q i x v e1 e2 e3;refine⟨u,rv,?_⟩
    rcases l with l | ⟨kd,c,ec,y⟩
    ·exact .inl l
    ·exact .inr ⟨kd,c,ec,cells y⟩
  ·obtain⟨v,z⟩:=I.cell x c e;exact⟨v,cells z⟩
  · obtain⟨e,n,ne,nfs,d⟩:=I.pin p hp;refine⟨k1 _ _ (fun hm=>?_) (fun hm=>(hch _ hm).2.2.2.2 p hp rfl) e,n,ne,nfs,d⟩
    rcases List.mem_cons.mp (I.vN _ hm) with z | z
    ·exact ne z
    ·exact nfs z
  · have no:∀{c:Addr} {u:HO},H c=some u→c∉frs X.stack∧c∉ch:=fun {c u} q=>⟨fun hm=>(by rw[I.z9 _ hm] at q;cases q),fun hm=>(by rw[(hch _ hm).2.1] at q;cases q)⟩;refine(I.hok b u e).stay (fun c v hc q=>?_) (fun c q=>q) fun c xs q=>q
    rcases hc with rfl | hc
    ·exact k1 _ _ (no e).1 (no e).2 q
    ·exact k1 _ _ (no hc).1 (no hc).2 q
end
end L2
namespace L2
open PySem PySem.Spec PySem.W PyProof.Rows
section
variable {prog:Program} {w:World} {A:Around} {E:Value→Shared→Prop} {K:W.Frag} {h:Heap} {g:Array GenState} {d:Drawn} {t:Nat} {os:OsState} {x C:Addr}
structure qT (K:W.Frag) (C:Addr):Prop where
  ga:findIn K (.ref C) "__getattribute__" = some (some (.builtin "BaseException.__getattribute__"))
  gn:findIn K (.ref C) "__getattr__" = some none
  cl:findIn K (.ref C) "__class__" = some (some (.builtin "object.__class__"))
  sp:specialIn K (.builtin "object.__class__") "__get__" = some (some (.builtin "getset_descriptor.__get__"))
  tk:takesIn K (.builtin "object.__class__")=some true
  mo:mroIn K C (.type "object")=some true
  mb:mroIn K C (.type "BaseException")=some true
def qU (x C:Addr) (h:Heap):Prop:=∃ox vs,h.get? x=some ox∧ox.cls = .ref C∧ox.data = .fields vs∧vs[2]? = some .none
theorem qU.type {M:Model} (e:qU x C h):Looks M h (typeOf (.ref x)) (.ref C):=by
  obtain⟨ox,vs,h1,h2,_⟩:=e;exact h2▸(Looks.ld h1).andThen .now
theorem Yy {R:Result→Shared→Prop} {tp:Value} (X:K.In h) (I:qU x C h) (L:qT K C) (hq:R (.ok (.ret (.ref C))) ⟨h,g,d,t,os⟩) :
    codeAny (model prog w) A (.call (.builtin "getset_descriptor.__get__") ⟨[.builtin "object.__class__",.ref x,tp],[]⟩) R ⟨h,g,d,t,os⟩:=by
  have L0:=I.type (M:=model prog w);have L1:=looks_mroIn (M:=model prog w) X L.mo;have hT5:(⟨h,g,d,t,os⟩:Shared).TypeIs (.builtin "object.__class__") "getset_descriptor" :=F.typeOf_object_class;refine codeAny_call_builtin F.slot_gs_get.plain F.entry_gs_get (F.slot_gs_get.check _ _ _ _ _ _ _ _ hT5 (F.args_gs_get _ _ _) ?_)
  repeat (any_goals (first | assumption | with_reducible refine L0.at ?_ | with_reducible refine L1.at ?_ | wp_step))
  rw[show(".".intercalate ("object.__class__".cutAt '.').dropLast) = "object" by decide+kernel];refine L1.at ?_
  repeat (any_goals (first | assumption | with_reducible refine L0.at ?_ | wp_step))
  refine⟨Code.quiet_builtin _ (by decide+kernel),codeAny_builtin KF.entry_class ?_⟩;unfold Builtin.«object.__class__»
  repeat (any_goals (first | assumption | with_reducible refine L0.at ?_ | wp_step))
theorem Rv {tk:Tok} {Q:PySem.Fin→Shared→Prop} (X:K.In h) (I:qU x C h) (L:qT K C) (hq:Q (.done (.ret (.ref C))) ⟨h,g,d,t,os⟩) :
    wpAny (model prog w) A (Builtin.«object.__getattribute__» ⟨[.ref x,.str "__class__" tk],[]⟩) Q E ⟨h,g,d,t,os⟩:=by
  have L0:=I.type (M:=model prog w);have L1:=looks_findIn (M:=model prog w) X L.cl;have hT5:(⟨h,g,d,t,os⟩:Shared).TypeIs (.builtin "object.__class__") "getset_descriptor" :=F.typeOf_object_class;have f5:=F.typeOf_object_class;have f6:=F.slot_gs_get.lookup;have f7:=F.slot_gs_set.lookup
  repeat (any_goals (first | assumption | with_reducible refine L0.at ?_ | with_reducible refine L1.at ?_ | wp_step))
  refine Yy X I L ?_
  repeat (any_goals (first | assumption | wp_step))
theorem Rw {M:Model} {nameV:Value} {Q:Unit→Shared→Prop} (X:K.In h) (I:qU x C h) (L:qT K C) (hq:Q () ⟨h,g,d,t,os⟩) :
    wpAny M A (checkBuiltinCall "BaseException.__getattribute__" ⟨[.ref x,nameV],[]⟩) Q E ⟨h,g,d,t,os⟩:=by
  have hk:builtinKind "BaseException.__getattribute__" = some .slot:=by decide+kernel
  have hs:splitId "BaseException.__getattribute__" = some ("BaseException", "__getattribute__"):=by decide+kernel
  have L0:=I.type (M:=M);have L1:=looks_mroIn (M:=M) X L.mb;have ha:=F.args_bexc_ga (.ref x) nameV;simp only[checkBuiltinCall,hk,hs];refine wpAny_bind ?_;unfold isInstance
  repeat (first | with_reducible refine L0.at ?_ | with_reducible refine L1.at ?_ | wp_step)
  exact hq
theorem qbl {tk:Tok} {fill:Bool} {Q:Value→Shared→Prop} (X:K.In h) (I:qU x C h) (L:qT K C) (hq:Q (.ref C) ⟨h,g,d,t,os⟩) :
    wpAny (model prog w) A (getAttrBy (.ref x) (.str "__class__" tk) fill) Q E ⟨h,g,d,t,os⟩:=by
  have L0:=I.type (M:=model prog w);have L1:=looks_findIn (M:=model prog w) X L.ga;have L2:=looks_findIn (M:=model prog w) X L.gn;have f3:=(F.attrBase_ValueError.ga).bind (.ref x);have hx2:(Value.builtin "BaseException.__getattribute__" == Value.builtin "object.__getattribute__")=false:=by decide+kernel
  have hx1:(onTheHeap (Value.ref C) && Value.builtin "BaseException.__getattribute__" == Value.builtin "object.__getattribute__")=false:=by rw[hx2];rfl
  repeat (any_goals (first | assumption | with_reducible refine L0.at ?_ | with_reducible refine L1.at ?_ | with_reducible refine L2.at ?_ | wp_step))
  refine codeAny_call_builtin F.attrBase_ValueError.ga.plain F.entry_bexc_ga (Rw X I L (Rv X I L ?_))
  repeat (any_goals (first | assumption | wp_step))
theorem Rx {s:Shared} {Q:Option Value→Shared→Prop} (X:K.In s.heap) (I:qU x C s.heap) (L:qT K C) (hq:Q (some (.ref C)) {s with toks:=s.toks+1}) :
    wpAny (model prog w) A (getAttr? (.ref x) "__class__") Q E s:=by
  obtain⟨h,g,d,t,os⟩:=s;unfold getAttr? getAttrBy?
  repeat (any_goals (first | assumption | with_reducible apply qbl X I L | wp_step))
end
theorem Vs {K:W.Frag} {x C:Addr} {cd:ClassData} (hcd:clsIn K C=some cd) (L:qT K C):KitX K (.ref x) (.ref C) (qU x C) where
  ty:=fun M h _ e=>e.type
  it:=fun _ _ X _=>by
    unfold clsIn at hcd;split at hcd
    ·rename_i c' d' cd' sl' ho;intro A' Q' E' s' k q;unfold isType loadHead;exact wpAny_bind (wpAny_loadPart (k _ _ (X _ _ ho)) (wpAny_pure q))
    ·cases hcd
  ne:=fun h tp dd its n sl X htp=>by
    refine Bool.eq_false_iff.mpr fun q=>?_;have e:C=tp:=Value.ref.inj (beq_iff_eq.mp q);subst e;unfold clsIn at hcd;split at hcd
    ·rename_i c' d' cd' sl' ho;have z:=(X _ _ ho).symm.trans htp;cases z
    ·cases hcd
  ca:=fun X e k=>Rx X e L k
end L2
namespace L2
open PySem PySem.Spec PyProof.Rows
def Cx.caught (X:Cx) (a:Addr):Cx:={X with A:=X.A.mark (some (.ref a)),calm:=false,xe:=fun _ _=>False}
def Cx.tried (X:Cx) (pn:List (Addr×Obj)) (xe:Value→Shared→Prop):Cx:={X with pn:=pn,xe:=xe}
section
variable {X:Cx} {p_:List (Addr×Obj)} {σ:St} {H:Hp} {s:Shared}
theorem Inv.caught (I:Inv X p_ σ H s) (a:Addr):Inv (X.caught a) p_ σ H s:=
  ⟨⟨I.ok.mod,I.ok.kind,I.ok.glob,I.ok.blt,I.ok.above,I.ok.inj,I.ok.has,I.ok.cab,fun z=>(nomatch z),I.ok.frames,I.ok.stk,I.ok.Xu,I.ok.bs,I.ok.O2,I.ok.JK,I.ok.GQ,I.ok.tu,I.ok.Sy⟩,I.os,I.bare,I.base,I.loc,I.cell,I.free,I.i_,I.pin,I.hok,I.len⟩
theorem Inv.uncaught {a:Addr} {s':Shared} (I:Inv X p_ σ H s) {σ':St} {H':Hp} (J:Inv (X.caught a) p_ σ' H' s'):Inv X p_ σ' H' s':=
  ⟨I.ok,J.os,J.bare,J.base,J.loc,J.cell,J.free,J.i_,J.pin,J.hok,J.len⟩
theorem Inv.tried (I:Inv X p_ σ H s) (xe:Value→Shared→Prop):Inv (X.tried (X.pn++p_) xe) [] σ H s:=
  ⟨⟨I.ok.mod,I.ok.kind,I.ok.glob,I.ok.blt,I.ok.above,I.ok.inj,I.ok.has,I.ok.cab,I.ok.hd,I.ok.frames,I.ok.stk,I.ok.Xu,I.ok.bs,I.ok.O2,I.ok.JK,I.ok.GQ,I.ok.tu,I.ok.Sy⟩,I.os,I.bare,I.base,I.loc,I.cell,I.free,I.i_,fun p hp=>I.pin p (by rw[List.append_nil] at hp;exact hp),I.hok,I.len⟩
theorem Inv.xg {xe:Value→Shared→Prop} {zc:List (Addr×Obj)} {s':Shared} (I:Inv X p_ σ H s) {σ':St} {H':Hp} (J:Inv (X.tried (X.pn++p_) xe) zc σ' H' s'):Inv X p_ σ' H' s':=
  ⟨I.ok,J.os,J.bare,J.base,J.loc,J.cell,J.free,J.i_,fun p hp=>J.pin p (List.mem_append_left _ hp),J.hok,J.len⟩
def Takes (X:Cx) (pn:List (Addr×Obj)) (xe:Value→Shared→Prop) (R:St→Addr→Option Addr→Hp→Prop):Prop:=
  ∀(p_:List (Addr×Obj)) (σ:St) (H:Hp) (s:Shared) (a C:Addr) (od:Option Addr) (T:Addr),Inv (X.tried pn xe) p_ σ H s→Vo X.s₀.heap s.heap H a C od T→(∀p∈pn,p.1≠a∧p.1≠T)→R σ C od H→xe (.ref a) s
def Vt (sp:Sp) (R:St→Addr→Option Addr→Hp→Prop) (t:TA):TE:=fun σ H Q=>t σ H fun vs H1=>Rj sp vs H1 Q ⟨0⟩ (fun v od H'=>∃C,v = .ref C∧R σ C od H')
@[simp ↓] theorem qcW sp R t σ H Q:Vt sp R t σ H Q=t σ H fun vs H1=>Rj sp vs H1 Q ⟨0⟩ (fun v od H'=>∃C,v = .ref C∧R σ C od H'):=rfl
theorem Ko {k:Nat} {f:Addr} {fd:FuncData} {ps:List Str} {sp:Sp} {x:Str} {p pos:Pos} {e:Expr} {es:List Expr} {t:TA} {pn:List (Addr×Obj)} {xe:Value→Shared→Prop} {R:St→Addr→Option Addr→Hp→Prop}
    (hx:Takes X pn xe R) (hex:X.ex=[]) (F:bZ X.prog X.w X.K X.mg X.base (Km X.prog X.w) k f fd ps sp) (hr:jc k X.A) (hg:Gl X x) (hm:X.mg x=some (.ref f)) (hk:W.keepIn X.K (.ref f)=true) (hb:Binds X.K fd ps [])
    (ha:PA (X.tried pn xe) (e::es) t) (hdb:(x == ("__debug__" : Str))=false:=by decide) (he:starEach (e::es) X.env=(false,eval e X.env)::starEach es X.env:=by rfl) (hpl:(backTo pos (starEach es X.env)).any (·.1)=false:=by rfl) :
    PE (X.tried pn xe) (.Call (.Name x p) (e::es) [] pos) (Vt sp R t):=by
  intro p_ s σ H Q I h;refine wpAny_Call_Name_kw (qI I hg hm ?_ hdb);refine W.callWith_K (h₀:=X.base) I.ok.mod.R5 hk (cY (ha pos p_ s σ H _ I h) fun us s1 zz=>?_) he hpl;obtain⟨vs,H1,I1,r,q⟩:=zz;refine⟨I1.vC,?_⟩;have hl:us.length=ps.length:=by rw[← r.length];exact F.len _ _ _ _ q
  have hbd:=hb s1 us I1.vC (by rw[List.append_nil];exact hl);rw[List.append_nil] at hbd;refine wpAny_call (codeAny_mono (F.run X.A X.stack s1 H1 ⟨us,[]⟩ us vs Q _ hr I1.env0 hbd r q) fun rr s' hq=>?_);cases rr with
  | error e=>
    obtain⟨a,C,od,H',rfl,ho,hgn,un,hok,⟨T,ex⟩,C',e2,hR⟩:=hq;cases e2;have I':Inv (X.tried pn xe) p_ σ H' s':=I1.call' (ch:=[]) ho un hok hgn fun b z=>(nomatch z);have old:∀b,s1.heap.get? b=none→X.s₀.heap.get? b=none:=fun b z=>I1.old hex z;refine hx p_ σ H' s' a C od T I' ⟨old _ ex.new,old _ ex.newT,ex.un,ex.unT,ex.ob⟩ (fun p hp=>?_) hR;have e1:=(I1.pin p (List.mem_append_left _ hp)).1;exact⟨fun z=>(by rw[z,ex.new] at e1;cases e1),fun z=>(by rw[z,ex.newT] at e1;cases e1)⟩
  | ok fl=>
    cases fl with
    | ret u=>exact I1.after hq
    | next=>exact False.elim hq
    | brk=>exact False.elim hq
    | cont=>exact False.elim hq
def Ih (x C:Addr) (od:Option Addr) (h:Heap):Prop:=∃ox vs,h.get? x=some ox∧(ox.cls,ox.dict)=(Value.ref C,od)∧ox.data = .fields vs∧vs[2]? = some .none
theorem Ih.at {x C:Addr} {od:Option Addr} {h:Heap} (e:Ih x C od h):qU x C h:=by
  obtain⟨ox,vs,h1,h2,h3,h4⟩:=e;exact⟨ox,vs,h1,congrArg Prod.fst h2,h3,h4⟩
def Yz (a C:Addr) (od:Option Addr):HO:=.ext fun h=>Ih a C od h
abbrev xq (a C:Addr):HO:=Yz a C none
def Gk (K:W.Frag) (C:Addr):Prop:=∀h,K.In h→∃bm N nm q bs hdct sn sub ab col dd k0 k1 k2 k3 k5,h.get? C=some (excClassObj nm q C N bs bm hdct sn sub ab col dd k0 k1 k2 k3 k5 "ValueError.__new__")∧∀v b,W.mroIn K C v=some b→(Value.ref C::bm).contains v=b
theorem Gk.of {K:W.Frag} {C:Addr} (c:vR K C):Gk K C:=fun h X=>by
  obtain⟨bm,N,nm,q,bs,hdct,sn,sub,ab,col,dd,k0,k1,k2,k3,k5,mN,hC,_,_,_,hmro⟩:=Ig X c;exact⟨bm,N,nm,q,bs,hdct,sn,sub,ab,col,dd,k0,k1,k2,k3,k5,hC,hmro⟩
theorem Inv.track {a C:Addr} {od:Option Addr} (I:Inv X p_ σ H s) (hex:X.ex=[]) (new:X.s₀.heap.get? a=none) (un:H a=none) (e:Ih a C od s.heap) (hp:∀p∈X.pn++p_,p.1≠a):Inv X p_ σ (upd H a (Yz a C od)) s:=by
  have nf:∀{b o},s.heap.get? b=some o→(∀vs,o.data≠.fields vs)→b≠a:=fun {b o} eb hd z=>by
    subst z;obtain⟨ox,vs,h1,_,h3,_⟩:=e;rw[eb] at h1;cases h1;exact hd vs h3
  have R6:∀b:Addr,b∉X.ex:=fun b=>by rw[hex];simp
  have old:∀{b o},X.s₀.heap.get? b=some o→b≠a:=fun {b o} eb z=>by
    rw[z,new] at eb;cases eb
  have ne:∀{b:Addr} {u:HO},H b=some u→b≠a:=fun {b u} q z=>by
    rw[z,un] at q;cases q
  refine⟨I.ok,I.os,I.bare,⟨fun b o eb n hb hx=>I.base.keep b o eb n hb hx,I.base.slot,fun b o eb n hx=>?_,I.base.there,fun b xs q=>?_,fun b o u q=>?_,fun b ps q=>?_⟩,I.loc,I.cell,?_,fun x c q=>?_,fun p hpp=>?_,fun b u q=>?_,I.len⟩
  ·rw[aG (old eb)];exact I.base.free b o eb n hx
  ·have z:=I.base.tups b xs q;rw[aG (ne z)];exact z
  ·have z:=I.base.sW b o u q;rw[aG (ne z)];exact z
  ·obtain⟨m,z⟩:=I.base.sZ b ps q;exact⟨m,by rw[aG (ne z)];exact z⟩
  ·obtain⟨m,⟨o,es,ep,eo,d,r⟩,_⟩:=I.loc;rw[aG (nf eo fun vs y=>by rw[d] at y;cases y)];exact I.free
  ·obtain⟨v,o,eo,d⟩:=I.cell x c q;rw[aG (nf eo fun vs y=>by rw[d] at y;cases y)];exact I.i_ x c q
  ·obtain⟨f1,f2,f3⟩:=I.pin p hpp;refine⟨f1,?_,f3⟩;rw[aG (hp p hpp)];exact f2
  · by_cases hb:b=a
    ·subst hb;rw[ao] at q;cases q;obtain⟨ox,vs,h1,h2,h3,_⟩:=id e;exact⟨e,⟨ox,h1⟩,fun h1 h2 ⟨ox,vs,a1,a2,a3⟩ k=>⟨ox,vs,k _ a1,a2,a3⟩⟩
    · rw[aG hb] at q;refine(I.hok b u q).stay (fun c v _ z=>z) (fun c z=>?_) fun c xs z=>?_
      ·rw[aG (ne z)];exact z
      ·rw[aG (ne z)];exact z
theorem Ry {M:Model} {A:Around} {E:Value→Shared→Prop} {i:Nat} {n:Str} {v:V} {Q:Unit→Shared→Prop} (I:Inv X p_ σ H s) (hN:X.N.Nodup) (hi:X.N[i]? = some n) (hl:X.env.scope.names.lookup n=some .local) (hv:σ[i]? = some (some v))
    (h:∀s',Inv X p_ (σ.set i none) H s'→Q () s'):wpAny M A (unbindName X.env n) Q E s:=by
  obtain⟨m,hn,q⟩:=id I.loc;obtain⟨u,rv,l⟩:=q i n v hi hv (.inl hl);have hm:m n=some u:=by
    rcases l with⟨_,l⟩ | ⟨k,c,_⟩
    ·exact l
    · rcases k with k | k
      ·have:X.env.kindOf n=some .local:=hl;rw[k] at this;cases this
      ·have:X.env.kindOf n=some .local:=hl;rw[k] at this;cases this
  have hcls:(X.env.scope.kind == .class || (X.env.scope.kind == .module && X.env.locals != X.env.globals))=false:=by rw[I.ok.kind];rfl
  have hiσ:i<σ.length:=by rw[I.len];exact(List.getElem?_eq_some_iff.mp hi).1
  refine wpAny_unbindName_local hl hn hm hcls fun h' u' hn' hs=>?_;obtain⟨oL,_,_,hoL,_⟩:=id hn;have loc:∀b o,X.s₀.heap.get? b=some o→b≠X.env.locals:=fun b o e=>Nat.ne_of_lt (Nat.lt_of_lt_of_le (Heap.lt_size e) I.ok.above);refine h _ ⟨I.ok,I.os,I.bare,⟨fun b o e n hb hx=>?_,fun b o e n hb hx=>?_,I.base.free,fun b o e hx=>?_,I.base.tups,I.base.sW,I.base.sZ⟩,⟨_,hn',fun j y v' e1 e2 e3=>?_⟩,fun y c e=>?_,I.free,I.i_,fun p hp=>?_,fun b ob e=>?_,by simpa using I.len⟩
  ·exact(hs.2 b (loc b o e)).trans (I.base.keep b o e n hb hx)
  ·obtain⟨sl,z⟩:=I.base.slot b o e n hb hx;exact⟨sl,(hs.2 b (loc b o e)).trans z⟩
  ·obtain⟨o',z⟩:=I.base.there b o e hx;exact⟨o',(hs.2 b (loc b o e)).trans z⟩
  · have hj:j≠i:=fun z=>by
      subst z;rw[List.getElem?_set_self hiσ] at e2;cases e2
    rw[List.getElem?_set_ne (Ne.symm hj)] at e2;obtain⟨u2,r2,l2⟩:=q j y v' e1 e2 e3;refine⟨u2,r2,?_⟩
    rcases l2 with⟨k,e⟩ | ⟨k,c,e,z⟩
    ·have:y≠n:=fun e=>hj (Bc hN e1 (e▸hi));exact .inl ⟨k,by simp[this,e]⟩
    ·exact .inr ⟨k,c,e,z.sameBut hs (I.Xv y c e)⟩
  ·obtain⟨w',z⟩:=I.cell y c e;exact⟨w',z.sameBut hs (I.Xv y c e)⟩
  ·obtain⟨e,n,ne,nf,d⟩:=I.pin p hp;exact⟨(hs.2 p.1 ne).trans e,n,ne,nf,d⟩
  · have no:∀{c:Addr} {u:HO},H c=some u→c≠X.env.locals:=fun {c u} q z=>by
      rw[z,I.free] at q;cases q
    refine(I.hok b ob e).stay (fun c w' hc q=>(hs.2 c ?_).trans q) (fun _ q=>q) fun _ _ q=>q
    rcases hc with rfl | hc
    ·exact no e
    ·exact no hc
end
section
variable {M:Model} {A:Around} {E:Value→Shared→Prop} {h:Heap} {g:Array GenState} {d:Drawn} {t:Nat} {os:OsState}
variable {nm q:Str} {C N:Addr} {bs bm:List Value} {hdct:Bool} {sn:List Str} {sub:List Value} {ab:Bool} {col:Option Bool} {dd:Option Addr} {k0 k1 k2 k3 k5:Option Value} {newId:String}
variable {nm' q':Str} {D N':Addr} {bs' bm':List Value} {ZX:Bool} {sn':List Str} {sub':List Value} {ab':Bool} {col':Option Bool} {dd':Option Addr} {j0 j1 j2 j3 j5:Option Value} {newId':String}
theorem Rz {e:Addr} {oe:Obj} {Q:Bool→Shared→Prop} (hC:h.get? C=some (excClassObj nm q C N bs bm hdct sn sub ab col dd k0 k1 k2 k3 k5 newId))
    (hD:h.get? D=some (excClassObj nm' q' D N' bs' bm' ZX sn' sub' ab' col' dd' j0 j1 j2 j3 j5 newId')) (he:h.get? e=some oe) (hcls:oe.cls = .ref C) (hbase:bm'.contains (.type "BaseException")=true) (hin:bm.contains (.ref D)=true)
    (hq:Q true ⟨h,g,d,t,os⟩):wpAny M A (excMatches (.ref e) (.ref D)) Q E ⟨h,g,d,t,os⟩:=by
  have hDB:(Value.ref D::bm').contains (.type "BaseException")=true:=by rw[List.contains_cons,hbase,Bool.or_true]
  have hCD:(Value.ref C::bm).contains (.ref D)=true:=by rw[List.contains_cons,hin,Bool.or_true]
  have f:=tc_notTuple;unfold excMatches
  repeat (first | (with_reducible refine wpAny_loadPart_at he ?_;rw[hcls]) | with_reducible refine wpAny_loadPart_at hD ?_ | (with_reducible refine wpAny_isSubtype_exc hD ?_;rw[hDB]) | (with_reducible refine wpAny_isSubtype_exc hC ?_;rw[hCD]) | wp_step)
  exact hq
end
def Vu (i:Nat) (K:W.Frag) (D:Addr) (ts:Addr→TS) (Dn:Ends):St→Addr→Option Addr→Hp→Prop:=fun σ1 C od H1=>(Gk K C∧W.mroIn K C (.ref D)=some true∧C≠D)∧∀a,H1 a=none→
    ts a {nx:=fun σ2 H2=>Dn.nx (σ2.set i none) H2,rt:=Dn.rt,bk:=fun σ2 H2=>Dn.bk (σ2.set i none) H2,ct:=fun σ2 H2=>Dn.ct (σ2.set i none) H2} (σ1.set i (some (.ref a))) (upd H1 a (Yz a C od))
def qcX (i:Nat) (K:W.Frag) (D:Addr) (ts:Addr→TS) (tb:(St→Addr→Option Addr→Hp→Prop)→TS):TS:=fun Dn σ H=>tb (Vu i K D ts Dn) Dn σ H
section
variable {X:Cx} {body suite:List Stmt} {b₀:Stmt} {i:Nat} {n cls:Str} {np hpos pos:Pos} {D:Addr} {ts:Addr→TS} {tb:(St→Addr→Option Addr→Hp→Prop)→TS}
theorem qbm (hst:X.stack=X.env::X.outer) (hfr:X.env.frame=some X.env.locals) (hex:X.ex=[]) (hN:X.N.Nodup) (hi:X.N[i]? = some n) (hl:X.env.scope.names.lookup n=some .local)
    (hb:∀R pn xe,Takes X pn xe R→D_ (X.tried pn xe) body (tb R)) (hg:Gl X cls) (hm:X.mg cls=some (.ref D)) (clD:vR X.K D) (hsu:∀a,D_ (X.caught a) (b₀::suite) (ts a))
    (hdb:(cls == ("__debug__" : Str))=false:=by decide) :
    PS X (.Try body [.ExceptHandler (some (.Name cls np)) (some n) (b₀::suite) hpos] [] [] pos) (qcX i X.K D ts tb):=by
  intro p_ s σ H Dn I h;have hiσ:∀{σ':St} {H':Hp} {s':Shared},Inv X p_ σ' H' s'→i<σ'.length:=fun J=>by rw[J.len];exact(List.getElem?_eq_some_iff.mp hi).1
  refine wpAny_Try_except (wpAny_mono (hb (Vu i X.K D ts Dn) (X.pn++p_) (fun e s1=>∃a C od T σ1 H1,e = .ref a∧Inv X p_ σ1 H1 s1∧Vo X.s₀.heap s1.heap H1 a C od T∧(∀p∈X.pn++p_,p.1≠a∧p.1≠T)∧Vu i X.K D ts Dn σ1 C od H1) ?_ [] s σ H Dn (I.tried _) h) (fun f s1 hf=>?_) fun e s1 hx=>?_)
  ·intro zc σ1 H1 s1 a C od T J ex hp hR;exact⟨a,C,od,T,σ1,H1,rfl,I.xg J,ex,hp,hR⟩
  · cases f with
    | next=>obtain⟨σ',H',J,q⟩:=hf;exact wpAny_execs_nil ⟨σ',H',I.xg J,q⟩
    | brk=>obtain⟨σ',H',J,q⟩:=hf;exact⟨σ',H',I.xg J,q⟩
    | cont=>obtain⟨σ',H',J,q⟩:=hf;exact⟨σ',H',I.xg J,q⟩
    | ret u=>obtain⟨v,σ',H',J,r,q⟩:=hf;exact⟨v,σ',H',I.xg J,r,q⟩
  · obtain⟨a,C,od,T,σ1,H1,rfl,J,ex,hp,⟨clC,hCD,hne⟩,hR⟩:=hx;obtain⟨new,newT,un,unT,oe,vs,oT,tts,t1,t2,t3,t4,t5,t6,t7,t8,t9⟩:=ex;have fr:=J.ok.frames;rw[hst] at fr;have st0:(W.hideAll s1.heap (frs X.stack++[a,T])).StaysIn s1.heap:=fun b o e=>W.of_hideAll _ e;have na:(W.hideAll s1.heap (frs X.stack++[a,T])).get? a=none:=W.hideAll_none _ (by simp);have ff:s1.heap.FunFrames (W.hideAll s1.heap (frs X.stack++[a,T])) (X.env::X.outer):=by
      rw[← hst];exact W.funFrames_hide J.stack fun env he b hb=>List.mem_append_left _ (List.mem_filterMap.mpr ⟨env,he,hb⟩)
    have tr0:Trc (W.hideAll s1.heap (frs X.stack++[a,T])) s1.heap a (.ref C,od) .none T:=⟨oe,vs,oT,tts,t1,t2,t3,t4,t5,W.hideAll_none _ (by simp),t6,t7,t8,t9⟩;have gone:∀(h':Heap),(W.hideAll s1.heap (frs X.stack++[a,T])).StaysIn h'→s1.heap.UpToSlots h'→Inv X p_ σ1 H1 {s1 with heap:=h'}:=fun h' k1 k2=>by
      refine J.gone (t':=s1.toks) (ch:=[a,T]) hex (fun b hb=>?_) (fun b o hf hc e=>k1 b o (W.hideAll_get _ e (by rw[List.mem_append];exact fun z=>z.elim hf hc))) fun b o e hd=>k2 b o e hd;simp only[List.mem_cons,List.not_mem_nil,or_false] at hb
      rcases hb with rfl | rfl
      ·exact⟨new,un,fun _ _ _ _=>trivial,⟨oe,vs,t1,t3⟩,fun p q=>(hp p q).1⟩
      ·exact⟨newT,unT,fun _ _ _ _=>trivial,⟨oT,tts,t7,t8⟩,fun p q=>(hp p q).2⟩
    refine Gi fr ff hfr tr0 st0 na fun h4 x4=>?_;obtain⟨T4,tr4⟩:=x4.trc;refine B_ (s:={s1 with heap:=h4}) x4.frames tr4 x4.stays fun h5 x5=>?_;obtain⟨T5,tr5⟩:=x5.trc;have J5:=gone h5 x5.stays (x4.slots.trans x5.slots);refine wpAny_handleBy_cons (codeAny_handlers_test (qI (J5.caught a) hg hm ?_ hdb)) (by intro q;cases q);obtain⟨oe5,vs5,oT5,ts5,u1,u2,u3,_⟩:=id tr5;obtain⟨bm,N,nm,q,bs,hdct,sn,sub,ab,col,dd,k0,k1,k2,k3,k5,hC,hmro⟩:=clC _ J5.vC;obtain⟨bm',N',nm',q',bs',ZX,sn',sub',ab',col',dd',j0,j1,j2,j3,j5,mN',hD,qgQ,qgR,T0',_⟩:=Ig J5.vC clD;have hin:bm.contains (.ref D)=true:=by
      have z:=hmro _ _ hCD;rw[List.contains_cons] at z
      rcases Bool.or_eq_true_iff.mp z with z | z
      ·exact absurd (Value.ref.inj (beq_iff_eq.mp z)).symm hne
      ·exact z
    refine Rz hC hD u1 (congrArg Prod.fst u2) (T0'.hasType (by decide)) hin ?_;refine codeAny_handlers_suite_as ?_;refine B_ (s:={s1 with heap:=h5}) x5.frames tr5 x5.stays fun h6 x6=>?_;have J6:=gone h6 x6.stays ((x4.slots.trans x5.slots).trans x6.slots);obtain⟨T6,oe6,vs6,oT6,ts6,v1,v2,v3,v4,_⟩:=x6.trc;have J7:=J6.track hex new un ⟨oe6,vs6,v1,v2,v3,v4⟩ fun p q=>(hp p q).1;refine uJ J7 hN hi (.inl hl) (v:=.ref a) rfl (fun s8 J8 _=>?_) (.inr hl);refine wpAny_mono (hsu a p_ s8 _ _ _ (J8.caught a) (hR a un)) (fun f s9 hf=>?_) fun _ _ z=>False.elim z;show wpAny (model X.prog X.w) X.A (do bindName X.env n .none;unbindBehindTheSuite X.env n hpos) (fun _ s₃=>SP X p_ Dn f s₃) X.xe s9
    have go:∀{σ':St} {H':Hp} (Q':Shared→Prop),Inv X p_ σ' H' s9→(∀s',Inv X p_ (σ'.set i none) H' s'→Q' s')→wpAny (model X.prog X.w) X.A (do bindName X.env n .none;unbindBehindTheSuite X.env n hpos) (fun _ s₃=>Q' s₃) X.xe s9:=fun {σ' H'} Q' J9 hq=>by
      refine wpAny_bind ?_;unfold bindName;refine wpAny_bind (wpAny_holding (wpAny_point (wpAny_bind (uJ J9 hN hi (.inl hl) (v:=.non) rfl (fun LQ J10 _=>wpAny_point ?_) (.inr hl)))));unfold unbindBehindTheSuite;refine wpAny_onRaise (Ry (v:=.non) J10 hN hi hl (List.getElem?_set_self (hiσ J9)) fun s11 J11=>?_);rw[List.set_set] at J11;exact hq s11 J11
    cases f with
    | next=>obtain⟨σ',H',J9,q⟩:=hf;exact go _ (I.uncaught J9) fun s' J'=>⟨_,H',J',q⟩
    | brk=>obtain⟨σ',H',J9,q⟩:=hf;exact go _ (I.uncaught J9) fun s' J'=>⟨_,H',J',q⟩
    | cont=>obtain⟨σ',H',J9,q⟩:=hf;exact go _ (I.uncaught J9) fun s' J'=>⟨_,H',J',q⟩
    | ret u=>obtain⟨v,σ',H',J9,r,q⟩:=hf;exact go _ (I.uncaught J9) fun s' J'=>⟨v,_,H',J',r,q⟩
end
theorem yG:entryFor table "proto.unchain" = some Builtin.«proto.unchain»:=entryFor_of_tree (by kernel_rfl)
def En (a:Addr) (h:Heap):Prop:=∃oa us,h.get? a=some oa∧oa.data = .fields us∧us[2]? = some .none
theorem En.to {a:Addr} {h h':Heap} (x:En a h) (k:∀o,h.get? a=some o→h'.get? a=some o):En a h':=by
  obtain⟨oa,us,e,d,u⟩:=x;exact⟨oa,us,k _ e,d,u⟩
section
variable {prog:Program} {w:World} {A:Around} {E:Value→Shared→Prop} {s:Shared} {a:Addr}
theorem YB {α:Type} {e:Addr} {ox:Obj} {vs:Array Value} {Q:α→Shared→Prop} (hh:A.handled=some (.ref a)) (la:En a s.heap)
    (ex:s.heap.get? e=some ox) (dx:ox.data = .fields vs) (sz:2<vs.size) (ne:e≠a) (hE:∀h',Heap.SameBut e s.heap h'→(∃o',h'.get? e=some o'∧o'.cls=ox.cls)→E (.ref e) {s with heap:=h'}) :
    wpAny (model prog w) A (raiseNew (.ref e):Sem α) Q E s:=by
  obtain⟨oa,us,ha,da,ua⟩:=la;unfold raiseNew;refine wpAny_bind (wpAny_handled ?_);rw[hh];dsimp only;rw[if_pos (by simpa using Ne.symm ne)];refine wpAny_bind (wpAny_holding (wpAny_runValue (codeAny_builtin yG ?_)));unfold Builtin.«proto.unchain»;refine wpAny_bind (wpAny_field ha da ua ?_);rw[if_pos (by rfl)];refine wpAny_bind (wpAny_pure (wpAny_pure ?_));show wpAny (model prog w) A (do updateField e 2 (.ref a);throw (.ref e)) Q E s
  refine wpAny_bind ?_;unfold updateField;refine wpAny_bind (wpAny_load ex ?_);rw[dx];dsimp only;rw[if_pos sz];refine wpAny_update ex ?_;refine wpAny_throw (hE _ (Heap.SameBut.update ..) ⟨_,Heap.get?_update_self _ ex (Obj.isFreed_of_fields (Obj.data_mapFields dx _)),?_⟩);obtain⟨c,d,dt,sl⟩:=ox;cases dt <;> rfl
theorem Vv {α:Type} {Q:α→Shared→Prop} (hh:A.handled=some (.ref a)) (la:En a s.heap)
    (hE:∀h' e,(∀b o,s.heap.get? b=some o→h'.get? b=some o)→(∃o,h'.get? e=some o∧o.cls = .type "StopIteration")→E (.ref e) {s with heap:=h'}) :
    wpAny (model prog w) A (newExc (.type "StopIteration") [] >>= fun e=>(raiseNew e:Sem α)) Q E s:=by
  refine wpAny_bind ?_;unfold newExc newTuple;refine wpAny_bind (wpAny_newObj_type ?_ (by size_fits));refine wpAny_bind (m:=firstArgMember _ _) (wpAny_of_eq (a:=Value.none) (by first | rfl | (unfold firstArgMember;rfl)) ?_)
  refine wpAny_newObj_type ?_ (by size_fits);have lt:∀{b:Addr} {o:Obj} (o1:Obj),s.heap.get? b=some o→(s.heap.push o1).objs.size≠b:=fun {b o} o1 z=>by
    have q:=Heap.lt_size z;rw[Heap.size_push];exact Nat.ne_of_gt (Nat.lt_succ_of_lt q)
  have kk:∀(o1 o2:Obj) {b:Addr} {o:Obj},s.heap.get? b=some o→((s.heap.push o1).push o2).get? b=some o:=fun o1 o2 {b o} z=>Heap.get?_push_of_some _ (Heap.get?_push_of_some _ z);obtain⟨oa,us,ha,da,ua⟩:=la;refine YB hh ⟨oa,us,kk _ _ ha,da,ua⟩ (Heap.get?_push_size _ rfl) rfl (Nat.lt_of_lt_of_le (by decide) (Nat.le_trans (Nat.le_refl 6) ?_)) (lt _ ha) fun h' sb eo=>hE h' _ (fun b o z=>(sb.2 b (Ne.symm (lt _ z))).trans (kk _ _ z)) eo;simp
theorem Kp {it l:Addr} {items:Array Value} {i:Nat} {Q:Value→Shared→Prop} (hh:A.handled=some (.ref a)) (la:En a s.heap) (nit:a≠it)
    (hit:s.heap.IsListIter it l i) (hl:s.heap.IsList l items) (hx:items[i]? = none) (hE:∀h' e,Heap.ExtBut it s.heap h'→(∃o,h'.get? e=some o∧o.cls = .type "StopIteration")→E (.ref e) {s with heap:=h'}) :
    wpAny (model prog w) A (Builtin.SmallTypes.nextOf (.ref it)) Q E s:=by
  obtain⟨oi,ei,ci,di⟩:=id hit;obtain⟨ol,el,_,nl,dl⟩:=hl;unfold Builtin.SmallTypes.nextOf;refine wpAny_bind (wpAny_callSpecial?_slot (name:=Str.ofString "__next__") hit.typeIs slot_listiter_next (wpAny_call_entry slot_listiter_next hit.typeIs entry_listiter_next ?_ (args_listiter_next _)));show wpAny (model prog w) _ (field (.ref it) 0 >>= _) _ _ s;refine wpAny_bind (wpAny_field ei di (x:=.ref l) rfl ?_);show wpAny (model prog w) _ (if (Value.ref l == Value.none)=true then _ else _) _ _ s
  rw[if_neg (fun z=>by cases z)];show wpAny (model prog w) _ (field (.ref it) 1 >>= _) _ _ s;refine wpAny_bind (wpAny_field ei di (x:=.int i 0) rfl ?_);show wpAny (model prog w) _ (seqItems? (.ref l) >>= _) _ _ s;refine wpAny_bind (wpAny_seqItems el dl ?_);simp only[Int.toNat_natCast,hx];refine wpAny_bind (wpAny_rule (wpAny_bind (wpAny_setField ei di (by simp) ?_)));have eb:=(Heap.SameBut.update s.heap it (Obj.mapFields (·.setIfInBounds 0 Value.none))).extBut;exact Vv (A:=A.in1) hh (la.to fun o z=>eb _ _ nit z) fun h' e k eo=>hE h' e (fun b o nb z=>k _ _ (eb b o nb z)) eo
theorem Vw {it t:Addr} {i:Nat} {items} {Q:Option Value→Shared→Prop} (hh:A.handled=some (.ref a)) (la:En a s.heap) (nit:a≠it)
    (hit:IsTupIter s.heap it t i) (ht:IsTup s.heap t items) (hx:items[i]? = none)
    (hQ:∀h',Heap.ExtBut it s.heap h'→Q none {s with heap:=h'}):wpAny (model prog w) A (pyNext (.ref it)) Q E s:=by
  obtain⟨oi,ei,ci,di⟩:=id hit;obtain⟨ol,el,_,nl,dl⟩:=ht;unfold pyNext;refine wpAny_bind (wpAny_attempt (wpAny_callSpecial?_slot (name:=Str.ofString "__next__") hit.typeIs slot_tupleiter_next (wpAny_call_entry slot_tupleiter_next hit.typeIs entry_tupleiter_next ?_ (args_tupleiter_next _))));show wpAny (model prog w) _ (field (.ref it) 0 >>= _) _ _ s;refine wpAny_bind (wpAny_field ei di (x:=.ref t) rfl ?_);show wpAny (model prog w) _ (if (Value.ref t == Value.none)=true then _ else _) _ _ s
  rw[if_neg (fun z=>by cases z)];show wpAny (model prog w) _ (field (.ref it) 1 >>= _) _ _ s;refine wpAny_bind (wpAny_field ei di (x:=.int i 0) rfl ?_);show wpAny (model prog w) _ (seqItems? (.ref t) >>= _) _ _ s;refine wpAny_bind (wpAny_seqItems el dl ?_);simp only[Int.toNat_natCast,hx];refine wpAny_bind (wpAny_rule (wpAny_bind (wpAny_setField ei di (by simp) ?_)));have eb:=(Heap.SameBut.update s.heap it (Obj.mapFields (·.setIfInBounds 0 Value.none))).extBut;refine Vv (A:=A.in1) hh (la.to fun o z=>eb _ _ nit z) fun h' e k eo=>?_;obtain⟨o,eo,co⟩:=eo;refine wpAny_bind (wpAny_isInstance (b:=true) ⟨o,eo,co⟩ isSubtype_stop (wpAny_pure ?_));exact hQ _ fun b o nb z=>k _ _ (eb b o nb z)
theorem Vx {env:Env} {es:List Expr} {k1} {pos:Pos} {t:Addr} {items:Array Value} {Q:Unit→Shared→Prop} (hh:A.handled=some (.ref a)) (la:En a s.heap) (ht:IsTup s.heap t items)
    (hn:(assignEach es env).length=items.size) (hst:(assignEach es env).findIdx? (·.1)=none)
    (h:∀h',Heap.ExtBut s.heap.objs.size s.heap h'→wpAny (model prog w) A (assignInOrder ((assignEach es env).map (·.2)) items.toList) Q E {s with heap:=h'}) :
    wpAny (model prog w) A (assign (.Tuple es k1 pos) env (.ref t)) Q E s:=by
  rw[PyProof.Rows.assign_Tuple];refine wpAny_bind (wpAny_standAt ?_);unfold unpack;rw[hn,hst];refine wpAny_bind (wpAny_holding ?_);obtain⟨oa,us,ha,da,ua⟩:=id la;have tl:t≠s.heap.objs.size:=by
    obtain⟨o,z,_⟩:=ht;exact Nat.ne_of_lt (Heap.lt_size z)
  have al:a≠s.heap.objs.size:=Nat.ne_of_lt (Heap.lt_size ha);unfold unpackItems notIterableAtAll;refine wpAny_bind (wpAny_bind (wpAny_specialOf ht.typeIs slot_tuple_iter.lookup (wpAny_pure ?_)));simp only[Bool.false_eq_true,if_false];refine wpAny_bind (wpAny_holding (iter_tuple ht ?_));refine wpAny_bind (wpAny_holding (draw_tuple tl items.size 0 _ _ ⟨_,Heap.get?_push_size _ rfl,rfl,rfl⟩ (ht.push _) (by omega) fun h1 it1 sb1=>?_));have all:(items.toList.drop 0).take items.size=items.toList:=by
    rw[List.drop_zero];exact List.take_of_length_le (by simp)
  rw[all,if_neg (by simp)];refine wpAny_bind (wpAny_holding (Vw hh (la.to fun o z=>sb1.extBut a o al (Heap.get?_push_of_some _ z)) al it1 ((ht.push _).extBut sb1.extBut tl) (by simp) fun h2 eb2=>?_));simp only[Option.isSome_none,Bool.false_eq_true,if_false];exact wpAny_pure (h h2 fun b o hb z=>eb2 b o hb (sb1.extBut b o hb (Heap.get?_push_of_some _ z)))
theorem Vy {z TI TO i1 i2 l1 l2:Addr} {k1 k2:Nat} {xs ys:Array Value} {p q:Value} {Q:Option Value→Shared→Prop} (hh:A.handled=some (.ref a)) (la:En a s.heap) (D:ZipApart z TI TO i1 i2 l1 l2)
    (nz:a≠z) (nTO:a≠TO) (n1:a≠i1) (n2:a≠i2) (hz:IsZip s.heap z TI TO .none) (hTI:IsPair s.heap TI (.ref i1) (.ref i2)) (hTO:IsPair s.heap TO p q)
    (h1:s.heap.IsListIter i1 l1 k1) (h2:s.heap.IsListIter i2 l2 k2) (hl1:s.heap.IsList l1 xs) (hl2:s.heap.IsList l2 ys) (hend:xs[k1]? = none∨ys[k2]? = none)
    (hQ:∀h',(∀c o,c≠z→c≠TO→c≠i1→c≠i2→s.heap.get? c=some o→h'.get? c=some o)→Q none {s with heap:=h'}):wpAny (model prog w) A (pyNext (.ref z)) Q E s:=by
  have hT:s.TypeIs (.ref z) "zip" :=⟨_,hz,rfl⟩;unfold pyNext;refine wpAny_bind (wpAny_attempt (wpAny_callSpecial?_slot (name:=Str.ofString "__next__") hT F.slot_zip_next (wpAny_call_entry F.slot_zip_next hT F.entry_zip_next ?_ (F.args_zip_next_1 _))));show wpAny (model prog w) _ (field (.ref z) 2 >>= _) _ _ _;refine wpAny_bind (wpAny_field hz rfl (x:=.bool false) rfl ?_);show wpAny (model prog w) _ (field (.ref z) 3 >>= _) _ _ _;refine wpAny_bind (wpAny_field hz rfl (x:=.ref TI) rfl (wpAny_bind (wpAny_seqItems hTI rfl ?_)));show wpAny (model prog w) _ (Builtin.SmallTypes.ownedTupleIsFree (.ref z) >>= _) _ _ _;refine wpAny_bind ?_;unfold Builtin.SmallTypes.ownedTupleIsFree;refine wpAny_bind (wpAny_field hz rfl (x:=.none) rfl (wpAny_pure ?_));simp only[if_true];refine wpAny_bind (wpAny_rule (wpAny_bind (wpAny_field hz rfl (x:=.ref TO) rfl (wpAny_bind (wpAny_setField_rec hz (by simp) fun g1 z1 s1=>?_)))));replace z1:IsZip g1 z TI TO .ellipsis:=z1;have b1:=s1.extBut;refine wpAny_bind ?_;simp only[List.zipIdx_cons,List.zipIdx_nil,List.forIn_cons,List.forIn_nil];refine wpAny_bind (wpAny_bind (wpAny_onRaise ?_));show wpAny (model prog w) _ (Builtin.SmallTypes.nextOf (.ref i1) >>= _) _ _ _;cases hx:xs[k1]? with
  | none=>
    refine wpAny_bind (Kp (A:=A.in1) hh (la.to fun o y=>b1 a o nz y) n1 (h1.extBut b1 D.i1z) (hl1.extBut b1 D.l1z) hx fun g2 e b2 eo=>?_);obtain⟨oe,eo,co⟩:=eo;have z2:IsZip g2 z TI TO .ellipsis:=b2 _ _ D.i1z.symm z1;have ez:e≠z:=fun y=>by
      subst y;rw[z2] at eo;cases eo;simp at co
    refine wpAny_setField_rec z2 (by simp) fun g3 _ s3=>wpAny_bind (wpAny_isInstance (b:=true) ⟨oe,s3.extBut _ _ ez eo,co⟩ isSubtype_stop (wpAny_pure ?_));exact hQ g3 fun c o c1 _ c3 _ y=>s3.extBut _ _ c1 (b2 _ _ c3 (b1 _ _ c1 y))
  | some x=>
    have hy:ys[k2]? = none:=hend.resolve_left fun y=>by rw[hx] at y;cases y
    refine wpAny_bind (wpAny_nextOf_list_item (h1.extBut b1 D.i1z) (hl1.extBut b1 D.l1z) hx fun g2 it2 s2=>wpAny_pure ?_);have b2:=s2.extBut;have to2:IsPair g2 TO p q:=b2 _ _ D.TOi1 (b1 _ _ D.TOz hTO);refine wpAny_bind (wpAny_seqItems to2 rfl (wpAny_bind (wpAny_updateSeq_pair to2 fun g3 to3 s3=>?_)));have b3:=s3.extBut;refine wpAny_bind (wpAny_letGo (wpAny_pure (wpAny_bind (wpAny_bind (wpAny_onRaise ?_)))));show wpAny (model prog w) _ (Builtin.SmallTypes.nextOf (.ref i2) >>= _) _ _ _;refine wpAny_bind (Kp (A:=A.in1) hh (la.to fun o y=>b3 a o nTO (b2 a o n1 (b1 a o nz y))) n2 (((h2.extBut b1 D.i2z).extBut b2 D.i12.symm).extBut b3 D.TOi2.symm) (((hl2.extBut b1 D.l2z).extBut b2 D.l2i1).extBut b3 D.l2TO) hy fun g4 e b4 eo=>?_);obtain⟨oe,eo,co⟩:=eo;have z4:IsZip g4 z TI TO .ellipsis:=b4 _ _ D.i2z.symm (b3 _ _ D.TOz.symm (b2 _ _ D.i1z.symm z1));have ez:e≠z:=fun y=>by
      subst y;rw[z4] at eo;cases eo;simp at co
    refine wpAny_setField_rec z4 (by simp) fun g5 _ s5=>wpAny_bind (wpAny_isInstance (b:=true) ⟨oe,s5.extBut _ _ ez eo,co⟩ isSubtype_stop (wpAny_pure ?_));exact hQ g5 fun c o c1 c2 c3 c4 y=>s5.extBut _ _ c1 (b4 _ _ c4 (b3 _ _ c2 (b2 _ _ c3 (b1 _ _ c1 y))))
end
section
variable {X:Cx} {p_:List (Addr×Obj)} {σ:St} {H:Hp} {s:Shared} {a:Addr}
def Cau (H:Hp) (a:Addr):Prop:=∃C od,H a=some (Yz a C od)
theorem Inv.lone (I:Inv X p_ σ H s) (e:Cau H a):En a s.heap:=by
  obtain⟨C,od,e⟩:=e;obtain⟨⟨ox,vs,h1,h2,h3,h4⟩,_⟩:=I.hok a _ e;exact⟨ox,vs,h1,h3,h4⟩
theorem Cau.ne {b:Addr} (e:Cau H a) (h:H b=none):a≠b:=fun z=>by
  obtain⟨C,od,e⟩:=e;rw[z,h] at e;cases e
def Z0 (a:Addr) (K:W.Frag) (n:Nat) (t:Fl):TG:=fun v σ H Q=>Cau H a∧Yu K n t v σ H Q
@[simp ↓] theorem qeL a K n t v σ H Q:Z0 a K n t v σ H Q=(Cau H a∧Yu K n t v σ H Q):=rfl
theorem P0 {K:W.Frag} (hK:X.K=K) (hh:X.A.handled=some (.ref a)) {es:List Expr} {k:Nat} {pos:Pos} {t:Fl} {n:Nat} (h:qJ X es t)
    (hn:(assignEach es X.env).length=n:=by rfl) (hst:(assignEach es X.env).findIdx? (·.1)=none:=by rfl):PG X (.Tuple es k pos) (Z0 a K n t):=by
  subst hK;intro p_ s σ H v u Q I r hw;obtain⟨ca,hw⟩:=hw;obtain⟨p,rfl,xs,hq,hl,hw⟩:=isRef.out hw;cases r;obtain⟨its,rv,ht,hz⟩:=I.tuple hq;refine Vx hh (I.lone ca) ht (by simp[hn,← hl,rv.length]) hst fun h' hx=>?_;have I1:Inv X p_ σ H {s with heap:=h'}:=I.kept (t':=s.toks) fun b o e=>hx b o (Nat.ne_of_lt (Heap.lt_size e)) e;exact h p_ _ σ H xs _ Q I1 (by simpa using rv) hw
end
structure Vz (c:Addr) (P:Program) (w:World) (K:W.Frag) (tg:Expr) (J:It) (fp:List Addr) (it:Addr) (tn:Nat→Heap→Prop):Prop where
  mem:it∈fp
  obj:∀i h,tn i h→∀b∈fp,∃o,h.get? b=some o∧∀v,o.data≠.cell v
  keep:∀i h h',tn i h→(∀b∈fp,∀o,h.get? b=some o→h'.get? b=some o)→tn i h'
  item:∀(X:Cx),X.prog=P→X.w=w→X.K=K→∀(i:Nat) (p_:List (Addr×Obj)) (s:Shared) (σ:St) (H:Hp) (E:Value→Shared→Prop),Inv X p_ σ H s→(∀b∈fp,j8 X p_ H b)→tn i s.heap→J.go i H→
    wpAny (model P w) X.A (pyNext (.ref it)) (fun r s1=>∃u,r=some u∧
      wpAny (model P w) X.A (letOwnedTupleGo tg (.ref it) u) (fun _ s2=>∃x H',Inv X p_ σ H' s2∧RelV x u∧J.S9 i H x H'∧tn (i+1) s2.heap∧∀b∈fp,H' b=none) E s1) E s
  done:∀(X:Cx),X.prog=P→X.w=w→X.K=K→X.A.handled=some (.ref c)→∀(i:Nat) (p_:List (Addr×Obj)) (s:Shared) (σ:St) (H:Hp) (E:Value→Shared→Prop),Inv X p_ σ H s→(∀b∈fp,j8 X p_ H b)→tn i s.heap→J.stop i H→
    wpAny (model P w) X.A (pyNext (.ref it)) (fun r s1=>r=none∧Inv X p_ σ H s1) E s
  self:∀(A:Around) (i:Nat) (s:Shared) (Q:Value→Shared→Prop) (E:Value→Shared→Prop),tn i s.heap→Q (.ref it) s→wpAny (model P w) A (pyIter (.ref it)) Q E s
def PIH (c:Addr) (X:Cx) (tg iter:Expr) (wi:TI):Prop:=
  ∀(p_:List (Addr×Obj)) (s:Shared) (σ:St) (H:Hp) (R:It→Hp→Prop),Inv X p_ σ H s→wi σ H R→
    wpAny (model X.prog X.w) X.A (eval iter X.env) (fun v s1=>wpAny (model X.prog X.w) X.A (pyIter v) (fun itv s2=>∃(it:Addr) (fp:List Addr) (tn:Nat→Heap→Prop) (J:It) (H':Hp),itv = .ref it∧Inv X p_ σ H' s2∧Vz c X.prog X.w X.K tg J fp it tn∧tn 0 s2.heap∧(∀b∈fp,j8 X p_ H' b)∧R J H') X.xe s1) X.xe s
theorem VB {X:Cx} {es:List Expr} {k:Nat} {pos:Pos} {z TI TO i1 i2 a b:Addr} (n12:i1≠i2) (nT:TI≠TO) {i:Nat} {p_:List (Addr×Obj)} {s:Shared} {σ:St} {H:Hp} {E:Value→Shared→Prop} (I:Inv X p_ σ H s)
    (hf:∀c∈[z,TI,TO,i1,i2],j8 X p_ H c) (st:Ph z TI TO i1 i2 a b i s.heap) (hg:(R9 X.K a b).go i H) :
    wpAny (model X.prog X.w) X.A (pyNext (.ref z)) (fun r s1=>∃u,r=some u∧
      wpAny (model X.prog X.w) X.A (letOwnedTupleGo (.Tuple es k pos) (.ref z) u) (fun _ s2=>∃x H',Inv X p_ σ H' s2∧RelV x u∧(R9 X.K a b).S9 i H x H'∧Ph z TI TO i1 i2 a b (i+1) s2.heap∧∀c∈[z,TI,TO,i1,i2],H' c=none) E s1) E s:=by
  obtain⟨xs,ys,x,y,qa,qb,hx,hy⟩:=hg;obtain⟨its,rv,pl,hz1⟩:=I.list qa;obtain⟨its',rv',Hh,hz2⟩:=I.list qb;obtain⟨u,hu,ru⟩:=rv.get hx;obtain⟨u',hu',ru'⟩:=rv'.get hy;obtain⟨p,q,hTO⟩:=st.hO;obtain⟨oa,ea,ca,_⟩:=id pl.isList;obtain⟨ob,eb,cb,_⟩:=id Hh.isList;obtain⟨o1,e1,c1,_⟩:=id st.h1;obtain⟨o2,e2,c2,_⟩:=id st.h2;have D:ZipApart z TI TO i1 i2 a b:=
    ⟨bG st.hI st.hz rfl rfl (by decide),bG hTO st.hz rfl rfl (by decide),bG e1 st.hz c1 rfl (by decide),bG e2 st.hz c2 rfl (by decide),nT,bG st.hI e1 rfl c1 (by decide),bG st.hI e2 rfl c2 (by decide),
      bG hTO e1 rfl c1 (by decide),bG hTO e2 rfl c2 (by decide),n12,bG ea st.hz ca rfl (by decide),bG ea hTO ca rfl (by decide),bG ea e1 ca c1 (by decide),bG ea e2 ca c2 (by decide),
      bG eb st.hz cb rfl (by decide),bG eb hTO cb rfl (by decide),bG eb e1 cb c1 (by decide),bG eb e2 cb c2 (by decide)⟩
  refine wpAny_pyNext_zip_item D st.hz st.hI hTO st.h1 st.h2 pl.isList Hh.isList (x:=u) (y:=u') (by simpa using hu) (by simpa using hu') fun h' a1 a2 a3 a4 a5 a6 kk=>?_;refine⟨_,rfl,wpAny_letOwnedTupleGo_zip a1 fun h2 b1 sb=>?_⟩;have lt:∀{c o},s.heap.get? c=some o→s.heap.objs.size≠c:=fun e=>Nat.ne_of_gt (Heap.lt_size e);have hn:H s.heap.objs.size=none:=I.hok.fresh (Nat.le_refl _);have kk2:∀c o,c∉[z,TI,TO,i1,i2]→s.heap.get? c=some o→h2.get? c=some o:=fun c o hc e=>by
    simp only[List.mem_cons,List.not_mem_nil,or_false,not_or] at hc;exact(sb.2 c hc.1).trans (kk c o hc.1 hc.2.2.1 hc.2.2.2.1 hc.2.2.2.2 e)
  have I1:Inv X p_ σ H {s with heap:=h2,toks:=s.toks}:=I.Ac kk2 hf;have Ui:IsPair h2 s.heap.objs.size u u':=sb.extBut _ _ (lt st.hz) a5;have I2:Inv X p_ σ (upd H s.heap.objs.size (.tup [x,y])) {s with heap:=h2,toks:=s.toks}:=by
    have hfr:H s.heap.objs.size=none:=hn;refine⟨I1.ok,I1.os,I1.bare,⟨I1.base.keep,I1.base.slot,fun c o e n hx=>?_,I1.base.there,fun c zs e=>?_,fun c o v e=>?_,fun c qs e=>?_⟩,I1.loc,I1.cell,?_,fun v c e=>?_,fun v hv=>?_,?_,I1.len⟩
    · rw[aG (fun e'=>?_)]
      ·exact I1.base.free c o e n hx
      ·exact absurd (Nat.lt_of_lt_of_le (Heap.lt_size e) I.sz) (by rw[e'];exact Nat.lt_irrefl _)
    ·have e':=I1.base.tups c zs e;rw[aG (aN e' hfr)];exact e'
    ·have e':=I1.base.sW c o v e;rw[aG (aN e' hfr)];exact e'
    ·obtain⟨m,e'⟩:=I1.base.sZ c qs e;exact⟨m,by rw[aG (aN e' hfr)];exact e'⟩
    ·rw[aG (Nat.ne_of_lt I.lt)];exact I1.free
    ·obtain⟨w',qc⟩:=I.cell v c e;rw[aG (Nat.ne_of_lt qc.lt)];exact I1.i_ v c e
    ·obtain⟨f1,f2,f3⟩:=I1.pin v hv;refine⟨f1,?_,f3⟩;rw[aG (Nat.ne_of_lt (Heap.lt_size (I.pin v hv).1))];exact f2
    · intro c v e
      by_cases hcs:c=s.heap.objs.size
      ·subst hcs;rw[ao] at e;cases e;exact⟨by show 2≤sizeLine;rw[sizeLine_eq];decide,[u,u'],.cons ru (.cons ru' .nil),⟨_,Ui,rfl,0,rfl⟩⟩
      · rw[aG hcs] at e;refine(I1.hok c v e).stay (fun _ _ _ qq=>qq) (fun d qd=>?_) fun d zs qd=>?_
        ·rw[aG (aN qd hfr)];exact qd
        ·rw[aG (aN qd hfr)];exact qd
  refine⟨.ref s.heap.objs.size,_,I2,rfl,⟨s.heap.objs.size,x,y,rfl,hn,rfl,fun xs' q'=>by rw[I.tE q' qa];exact hx,fun ys' q'=>by rw[I.tE q' qb];exact hy⟩,?_,fun c hcm=>?_⟩
  ·exact⟨b1,sb.extBut _ _ D.TIz (kk _ _ D.TIz D.TITO D.TIi1 D.TIi2 st.hI),⟨_,_,sb.extBut _ _ D.TOz a2⟩,a3.extBut sb.extBut D.i1z,a4.extBut sb.extBut D.i2z⟩
  · have hne:c≠s.heap.objs.size:=by
      simp only[List.mem_cons,List.not_mem_nil,or_false] at hcm
      rcases hcm with rfl | rfl | rfl | rfl | rfl
      ·exact(lt st.hz).symm
      ·exact(lt st.hI).symm
      ·exact(lt hTO).symm
      ·exact(lt e1).symm
      ·exact(lt e2).symm
    rw[aG hne];exact(hf c hcm).1
def YC (c:Addr) (K:W.Frag) (a b:Addr):It:=⟨(R9 K a b).go,(R9 K a b).S9,fun i H=>(R9 K a b).stop i H∧Cau H c⟩
theorem RB {c:Addr} {P:Program} {w:World} {K:W.Frag} {es:List Expr} {k:Nat} {pos:Pos} {z TI TO i1 i2 a b:Addr} (n12:i1≠i2) (nT:TI≠TO) :
    Vz c P w K (.Tuple es k pos) (YC c K a b) [z,TI,TO,i1,i2] z (Ph z TI TO i1 i2 a b) where
  mem:=by simp
  obj:=fun i h st c hc=>by
    simp only[List.mem_cons,List.not_mem_nil,or_false] at hc
    rcases hc with rfl | rfl | rfl | rfl | rfl
    ·exact⟨_,st.hz,fun v e=>nomatch e⟩
    ·exact⟨_,st.hI,fun v e=>nomatch e⟩
    ·obtain⟨p,q,e⟩:=st.hO;exact⟨_,e,fun v e=>nomatch e⟩
    ·obtain⟨o,e,_,d⟩:=st.h1;exact⟨o,e,fun v y=>by rw[d] at y;cases y⟩
    ·obtain⟨o,e,_,d⟩:=st.h2;exact⟨o,e,fun v y=>by rw[d] at y;cases y⟩
  keep:=fun i h h' st kk=>by
    obtain⟨p,q,e⟩:=st.hO;exact⟨kk z (by simp) _ st.hz,kk TI (by simp) _ st.hI,⟨p,q,kk TO (by simp) _ e⟩,st.h1.at fun o e=>kk i1 (by simp) o e,st.h2.at fun o e=>kk i2 (by simp) o e⟩
  item:=by
    intro X hP hw hK i p_ s σ H E I hf st hg;subst hP hw hK;exact VB n12 nT I hf st hg
  done:=by
    intro X hP hw hK hh i p_ s σ H E I hf st hg;subst hP hw hK;obtain⟨⟨xs,ys,qa,qb,hl⟩,cau⟩:=hg;have fne:∀d∈[z,TI,TO,i1,i2],c≠d:=fun d hd=>cau.ne (hf d hd).1;obtain⟨its,rv,pl,hz1⟩:=I.list qa;obtain⟨its',rv',Hh,hz2⟩:=I.list qb;obtain⟨p,q,hTO⟩:=st.hO;obtain⟨oa,ea,ca,_⟩:=id pl.isList;obtain⟨ob,eb,cb,_⟩:=id Hh.isList;obtain⟨o1,e1,c1,_⟩:=id st.h1;obtain⟨o2,e2,c2,_⟩:=id st.h2;have D:ZipApart z TI TO i1 i2 a b:=
      ⟨bG st.hI st.hz rfl rfl (by decide),bG hTO st.hz rfl rfl (by decide),bG e1 st.hz c1 rfl (by decide),bG e2 st.hz c2 rfl (by decide),nT,bG st.hI e1 rfl c1 (by decide),bG st.hI e2 rfl c2 (by decide),
        bG hTO e1 rfl c1 (by decide),bG hTO e2 rfl c2 (by decide),n12,bG ea st.hz ca rfl (by decide),bG ea hTO ca rfl (by decide),bG ea e1 ca c1 (by decide),bG ea e2 ca c2 (by decide),
        bG eb st.hz cb rfl (by decide),bG eb hTO cb rfl (by decide),bG eb e1 cb c1 (by decide),bG eb e2 cb c2 (by decide)⟩
    have l1:=rv.length;have l2:=rv'.length;refine Vy hh (I.lone cau) D (fne _ (by simp)) (fne _ (by simp)) (fne _ (by simp)) (fne _ (by simp)) st.hz st.hI hTO st.h1 st.h2 pl.isList Hh.isList ?_ fun h' kk=>⟨rfl,I.Ac (t':=s.toks) (fun c o hcm e=>?_) hf⟩
    · rcases hl with hl | hl
      ·exact .inl (by simp;omega)
      ·exact .inr (by simp;omega)
    ·simp only[List.mem_cons,List.not_mem_nil,or_false,not_or] at hcm;exact kk c o hcm.1 hcm.2.2.1 hcm.2.2.2.1 hcm.2.2.2.2 e
  self:=fun _ _ _ _ _ st h=>wpAny_pyIter_zip st.hz h
section
variable {X:Cx} {c:Addr}
def VD (c:Addr) (K:W.Frag) (t:TA):TI:=fun σ H R=>t σ H fun vs H1=>ar2 vs fun x y=>isRef x fun a=>isRef y fun b=>(∃xs,bA K H1 a xs)∧(∃ys,bA K H1 b ys)∧R (YC c K a b) H1
@[simp ↓] theorem qcY c K t σ H R:VD c K t σ H R=(t σ H fun vs H1=>ar2 vs fun x y=>isRef x fun a=>isRef y fun b=>(∃xs,bA K H1 a xs)∧(∃ys,bA K H1 b ys)∧R (YC c K a b) H1):=rfl
theorem P_ {K:W.Frag} (hK:X.K=K) {es:List Expr} {k:Nat} {pos':Pos} {a b:Expr} {ta:TA} {p pos:Pos} (hg:Gl X "zip") (hm:X.mg "zip" = none) (ha:PA X [a,b] ta)
    (hs:starEach [a,b] X.env=[(false,eval a X.env),(false,eval b X.env)]:=by rfl) (hs2:starEach [b] X.env=[(false,eval b X.env)]:=by rfl) :
    PIH c X (.Tuple es k pos') (.Call (.Name "zip" p) [a,b] [] pos) (VD c K ta):=by
  subst hK;intro p_ s σ H R I h;refine Call_ (lU I hg hm boot_zip (PyProof.Rows.callWith_type1 (cY (ha pos p_ s σ H _ I h) fun us s1 zz=>?_) (by rw[hs,hs2]) (by rw[hs2];rfl)));obtain⟨vs,H1,I1,r1,q1⟩:=zz;obtain⟨v1,v2,rfl,q1⟩:=ar2.out q1;obtain⟨l1,rfl,q1⟩:=isRef.out q1;obtain⟨l2,rfl,⟨xs,qa⟩,⟨ys,qb⟩,q⟩:=isRef.out q1;obtain⟨u,v,rfl,r,r'⟩:=r1.two;obtain rfl:u=Value.ref l1:=r;obtain rfl:v=Value.ref l2:=r';obtain⟨its,rv,pl,hz1⟩:=I1.list qa;obtain⟨its',rv',Hh,hz2⟩:=I1.list qb;refine call_zip_2 pl.isList Hh.isList fun h' b1 b2 b3 b4 b5 b6 kk=>?_;refine wpAny_pyIter_zip (s:={s1 with heap:=h'}) b1 ?_;have I2:Inv X p_ σ H1 {s1 with heap:=h'}:=I1.kept (t':=s1.toks) kk;refine⟨s1.heap.objs.size+4,[s1.heap.objs.size+4,s1.heap.objs.size+2,s1.heap.objs.size+3,s1.heap.objs.size,s1.heap.objs.size+1],_,_,H1,rfl,I2,RB (Nat.ne_of_lt (Nat.lt_succ_self _)) (Nat.ne_of_lt (Nat.lt_succ_self (s1.heap.objs.size+2))),⟨b1,b2,⟨_,_,b3⟩,b4,b5⟩,fun c hc=>?_,q⟩;have hle:s1.heap.objs.size≤c:=by
    simp only[List.mem_cons,List.not_mem_nil,or_false] at hc
    rcases hc with rfl | rfl | rfl | rfl | rfl <;> first | exact Nat.le_add_right _ _ | exact Nat.le_refl _
  exact I1.Bg hle (I1.hok.fresh hle)
end
section
variable {X:Cx} {c:Addr} {ps sc:Scope} {own pN:List Str} {caps:List Nat} {N:List Str}
theorem Kq {p_:List (Addr×Obj)} {σ:St} {H:Hp} {s:Shared} {E:Value→Shared→Prop} {elt tg iter:Expr} {ifs:List Expr} {pos:Pos} {J:It} {fp:List Addr} {it D:Addr} {tn:Nat→Heap→Prop} {g:TG} {tt:TT} {te:TE} {Q:Hp→Prop}
    (I:Inv X p_ σ H s) (hps:X.env.scope=ps) (hpN:X.N=pN) (S:aR ps sc pN own caps N) (T:Vz c X.prog X.w X.K tg J fp it tn) (st:tn 0 s.heap) (hf:∀b∈fp,j8 X p_ H b) (hh:X.A.handled=some (.ref c))
    (hg:∀C s H fp pn,PG (b_ X sc N C s H fp pn) tg g) (ht:∀C s H fp pn,PTs (b_ X sc N C s H fp pn) ifs tt) (he:∀C s H fp pn,PE (b_ X sc N C s H fp pn) elt te)
    (h:lg own caps J g tt te D σ H Q) :
    wpAny (model X.prog X.w) X.A (newFunctionEnv sc X.env.globals (G_ X.env sc.names) [] X.env.qual none .none (some X.env)) (fun cenv s4=>
      codeAny (model X.prog X.w) X.A (.compStart (.ListComp elt [⟨tg,iter,ifs,0⟩] sc pos) 0 (.ref it) (.ref D) {cenv with scope:=relabel sc X.env}) (wQ X p_ σ Q cenv.locals) s4) E s:=by
  obtain⟨iH,⟨m0,w0⟩,turn⟩:=h;refine wO ?_;have ho:=T.obj 0 _ st;have I0:=JX I hps hpN S hf ho;have ok':=Hg I hps S hf ho;have hk:∀b o,s.heap.get? b=some o→(blockAt sc s).heap.get? b=some o:=fun b o e=>pushCells_keeps _ _ b o (Heap.get?_push_of_some _ e);have st0:tn 0 (blockAt sc s).heap:=T.keep 0 _ _ st fun b _ o e=>hk b o e;have stat:∀{H':Hp},(∀b∈fp,H' b=none)→∀b∈fp,j8 (b_ X sc N s.heap.objs.size s H fp (X.pn++p_)) [] H' b:=fun hn b hb=>
    ⟨hn b hb,(ok'.Xu b hb).1,ok'.GQ b hb,.inl hb,(ok'.Xu b hb).2,fun p hp=>(hf b hb).2.2.2.2.2 p (by rw[List.append_nil] at hp;exact hp)⟩
  have loop:codeAny (model X.prog X.w) X.A (.compLoop (.ListComp elt [⟨tg,iter,ifs,0⟩] sc pos) 0 (.ref it) (.ref D) (b_ X sc N s.heap.objs.size s H fp (X.pn++p_)).env) (wQ X p_ σ Q s.heap.objs.size) (blockAt sc s):=by
    refine zq (fun n s'=>∃i σ' H',Inv (b_ X sc N s.heap.objs.size s H fp (X.pn++p_)) [] σ' H' s'∧tn i s'.heap∧(∀b∈fp,H' b=none)∧iH i n σ' H') ?_ m0 ⟨0,_,H,I0,st0,fun b hb=>(hf b hb).1,w0⟩;rintro n s3 ⟨i,σ3,H3,I3,st3,Zq,w3⟩
    rcases turn i n σ3 H3 w3 with⟨stop,qn⟩ | ⟨go,N',hN,step⟩
    ·refine cY (T.done (b_ X sc N s.heap.objs.size s H fp (X.pn++p_)) rfl rfl rfl hh i [] s3 σ3 H3 Ue I3 (stat Zq) st3 stop) fun r s4 zz=>?_;obtain⟨hr,I4⟩:=zz;subst hr;obtain⟨m,hn,_⟩:=I4.loc;exact⟨H3,rfl,FN I hf I4,⟨m,hn⟩,I.Bg (Nat.le_refl _) I4.free,qn⟩
    · refine cY (T.item (b_ X sc N s.heap.objs.size s H fp (X.pn++p_)) rfl rfl rfl i [] s3 σ3 H3 Ue I3 (stat Zq) st3 go) fun r s4 zz=>?_;obtain⟨u,hr,h4⟩:=zz;subst hr;refine cY h4 fun _ s5 zz=>?_;obtain⟨x,H5,I5,r5,y5,Tf,fr5⟩:=zz;have I5':=I5.pinned (stat fr5) (T.obj _ _ Tf);refine cY (hg _ _ _ _ _ _ s5 σ3 H5 x u _ I5' r5 (step x H5 y5)) fun _ s6 zz=>?_;obtain⟨σ6,H6,I6,q6⟩:=zz;refine cY (ht _ _ _ _ _ _ s6 σ6 H6 _ I6 q6) fun b s7 zz=>?_;obtain⟨H7,I7,q7⟩:=zz;have again:∀{σ8:St} {H8:Hp} {s8:Shared},Inv (b_ X sc N s.heap.objs.size s H fp (X.pn++p_)) ([]++yh fp s5.heap) σ8 H8 s8→N' σ8 H8→
          ∃m,m<n∧∃i σ' H',Inv (b_ X sc N s.heap.objs.size s H fp (X.pn++p_)) [] σ' H' s8∧tn i s8.heap∧(∀b∈fp,H' b=none)∧iH i m σ' H':=fun {σ8 H8 s8} I8 n8=>by
        obtain⟨m',hm,w8⟩:=hN σ8 H8 n8;refine⟨m',hm,i+1,σ8,H8,I8.tK,T.keep _ _ _ Tf fun b hb o e=>(I8.pin (b,o) (List.mem_append_right _ (List.mem_append_right _ (j9 hb e)))).1,fun b hb=>?_,w8⟩;obtain⟨o,e,d⟩:=T.obj _ _ Tf b hb;exact(I8.pin (b,o) (List.mem_append_right _ (List.mem_append_right _ (j9 hb e)))).2.1
      cases b with
      | false=>
        rw[if_neg Bool.false_ne_true] at q7 ⊢;exact again I7 q7
      | true=>
        rw[if_pos rfl] at q7 ⊢;refine cY (he _ _ _ _ _ _ s7 σ6 H7 _ I7 q7) fun v s8 zz=>?_;obtain⟨y,H8,I8,r8,ys,hD,hz,n8⟩:=zz;refine cY (yr (X:=b_ X sc N s.heap.objs.size s H fp (X.pn++p_)) _ s8 σ6 H8 (.ref D) [y] (.ref D) [v] (fun _ H9=>N' σ6 H9) I8 rfl (.cons r8 .nil) ⟨D,ys,y,rfl,rfl,hD,hz,n8⟩) fun _ s9 zz=>?_;obtain⟨_,H9,I9,_,n9⟩:=zz;exact again I9 n9
  exact codeAny_compStart_list loop (T.self X.A 0 _ _ _ st0 loop)
variable {elt tg iter:Expr} {ifs:List Expr} {pos:Pos} {wi:TI} {g:TG} {tt:TT} {te:TE}
theorem Kr (hps:X.env.scope=ps) (hpN:X.N=pN) (S:aR ps sc pN own caps N) (hh:X.A.handled=some (.ref c)) (hi:PIH c X tg iter wi)
    (hg:∀C s H fp pn,PG (b_ X sc N C s H fp pn) tg g) (ht:∀C s H fp pn,PTs (b_ X sc N C s H fp pn) ifs tt) (he:∀C s H fp pn,PE (b_ X sc N C s H fp pn) elt te)
    (hs:∀x,foldedSetIterable iter X.env x=pure x:=by intro _;rfl):PE X (.ListComp elt [⟨tg,iter,ifs,0⟩] sc pos) (Pg own caps wi g tt te):=by
  intro p_ s σ H Q I h;rw[eval_ListComp];refine wpAny_comprehension_free (use:=none) rfl hs (lY (S.cells hps I.ok)) S.kind S.locs (cY (hi p_ s σ H _ I h) fun v s1 h1=>cY h1 fun itv s2 h2=>?_);obtain⟨it,fp,tn,J,H2,e,I2,T,st2,f2,q⟩:=h2;subst e;have fr:H2 s2.heap.objs.size=none:=I2.fresh;refine wpAny_newObj_type ?_;have I3:Inv X p_ σ (upd H2 s2.heap.objs.size (.lst [])) {s2 with heap:=s2.heap.push {cls:=.type "list",data:=.seq ([]:List Value).toArray},toks:=s2.toks}:=I2.T7 (its:=[]) (ys:=[]) .nil (Nat.zero_le _);have f3:∀b∈fp,j8 X p_ (upd H2 s2.heap.objs.size (.lst [])) b:=fun b hb=>by
    obtain⟨o,e,_⟩:=T.obj 0 _ st2 b hb;exact⟨by rw[aG (Nat.ne_of_lt (Heap.lt_size e))];exact(f2 b hb).1,(f2 b hb).2⟩
  refine cY (Kq (iter:=iter) (pos:=pos) I3 hps hpN S T (T.keep 0 _ _ st2 fun b _ o e=>Heap.get?_push_of_some _ e) f3 hh hg ht he (q _ fr)) fun cenv s4 h4=>?_;refine codeAny_mono h4 fun r s5 ⟨H5,hr,I5,⟨m,hn⟩,f5,q5⟩=>?_;subst hr;refine⟨m,hn,fun h' hs'=>?_⟩;have I6:Inv X p_ σ H5 {s5 with heap:=h',toks:=s5.toks}:=I5.turned (it:=cenv.locals) (fun b o hb e=>(hs'.2 b hb).trans e) f5.1 f5.2.1 f5.2.2.2.1 f5.2.2.2.2.1 f5.2.2.2.2.2;exact⟨.ref s2.heap.objs.size,H5,I6,rfl,q5⟩
end
structure tV (P:Program) (w:World) (K:W.Frag) (mg:Str→Option Value) (base:Heap) (k:Nat) (f:Addr) (fd:FuncData) (ps:List Str) (sp:Addr→Sp):Prop where
  len:∀a vs H Q E,sp a vs H Q E→vs.length=ps.length
  run:∀(a:Addr) (A:Around) (outer:List Env) (s:Shared) (H:Hp) (args:Args) (us:List Value) (vs:List V) (Q:VK),jc k A→JQ P w K mg base A outer s H→BindsTo s fd args (ps.zip us)→Vals vs us→sp a vs H Q E0→
    codeAny (model P w) (A.mark (some (.ref a))) (.call (.ref f) args) (CR lH outer P w H s Q E0) s
theorem gK.okH {P:Program} {w:World} {K:W.Frag} {mg:Str→Option Value} {base:Heap} {x qual:Str} {st:Stmt} {f:Addr} {fd:FuncData} {N ps:List Str} {k:Nat} {sp:Addr→Sp} (F:gK K x qual st f fd) (S:bH N ps (aB st)) (len:∀a vs H Q E,sp a vs H Q E→vs.length=ps.length)
    (hbody:∀(a:Addr) (cdv:Value) (A:Around) (outer:List Env) (s:Shared) (H:Hp) (vs:List V) (Q:VK),jc k (A.deeper (envOfC qual (aB st) s.heap.objs.size f cdv))→sp a vs H Q E0→
      ∃t,D_ ((au lH P w K mg base N qual (aB st) f cdv A outer s H E0).caught a) (jm st) t∧t {nx:=fun _ H'=>Q .non H',rt:=Q} (start N vs) H):tV P w K mg base (k+1) f fd ps sp:=by
  obtain⟨oc,od,kV,doc,pm,an,cdv,ct,osl,rfl,lk,hcd⟩:=F.ex;refine⟨len,fun a A outer s H args us vs Q hr e0 hb r hsp=>?_⟩;have hl:=len _ _ _ _ _ hsp;have KX:K.In s.heap:=e0.mod.R5.keeps fun b o e=>(e0.bs b o e).1;have lim:s.heap.NoLimit:=e0.mod.nolimit.keeps fun b o e=>(e0.bs b o e).1;have hkind:∀y∈ps.zip us,(aB st).names.lookup y.1=some .local∨((aB st).names.lookup y.1=some .cell∧((cellsFrom (s.heap.objs.size+1) (aB st).names []).lookup y.1).isSome=true):=fun⟨n,v⟩ hy=>by
    rcases S.par n (List.of_mem_zip hy).1 with q | q
    ·exact .inl q
    ·exact .inr ⟨q,W.cellsFrom_some _ _ _ (.inl q)⟩
  refine codeAny_call_function (A:=A.mark (some (.ref a))) hr.depth (KX _ _ lk) rfl S.co S.gen rfl (W.codeRec_of KX hcd) (hb _ _ _ _ ?_);refine wpAny_newFunctionEnv_cells S.kind hkind fun env he s1 x=>?_;subst he;refine⟨lim.keeps x.toInCall.keep,codeAny_func ?_⟩;obtain⟨t,ht,hq⟩:=hbody a cdv A outer s H vs Q (hr.deeper _) hsp;have I:Inv (au lH P w K mg base N qual (aB st) f cdv A outer s H E0) [] (start N vs) H s1:=Fx S hr.hd e0 hl r x;refine wpAny_mono (ht [] s1 (start N vs) H _ (I.caught a) hq) (fun fl s' hs=>?_) fun e s' hs=>hs.elim;have fin:∀{σ':St} {H':Hp} {v:V} {u:Value},Inv ((au lH P w K mg base N qual (aB st) f cdv A outer s H E0).caught a) [] σ' H' s'→RelV v u→Q v H'→CE outer P w H s Q u s':=
    fun {σ' H' v u} J rv q=>⟨v,H',J.os,J.bare,J.base,J.hok,rv,q⟩
  cases fl with
  | ret u=>
    obtain⟨v,σ',H',J,rv,q⟩:=hs;exact fin J rv q
  | next=>
    obtain⟨σ',H',J,q⟩:=hs;exact fin (v:=V.non) (u:=Value.none) J rfl q
  | brk=>obtain⟨σ',H',J,q⟩:=hs;exact False.elim q
  | cont=>obtain⟨σ',H',J,q⟩:=hs;exact False.elim q
section
variable {X:Cx} {a:Addr}
def Nr (sp:Sp) (t:TA):TE:=fun σ H Q=>t σ H fun vs H1=>Rj sp vs H1 Q ⟨0⟩ E0
@[simp ↓] theorem qcZ sp t σ H Q:Nr sp t σ H Q=t σ H fun vs H1=>Rj sp vs H1 Q ⟨0⟩ E0:=rfl
theorem VF {k:Nat} {f:Addr} {fd:FuncData} {ps:List Str} {sp:Addr→Sp} {x:Str} {p pos:Pos} {e:Expr} {es:List Expr} {t:TA}
    (F:tV X.prog X.w X.K X.mg X.base k f fd ps sp) (hr:jc k X.A) (hg:Gl X x) (hm:X.mg x=some (.ref f)) (hk:W.keepIn X.K (.ref f)=true) (hb:Binds X.K fd ps [])
    (ha:PA (X.caught a) (e::es) t) (hdb:(x == ("__debug__" : Str))=false:=by decide) (he:starEach (e::es) X.env=(false,eval e X.env)::starEach es X.env:=by rfl) (hpl:(backTo pos (starEach es X.env)).any (·.1)=false:=by rfl) :
    PE (X.caught a) (.Call (.Name x p) (e::es) [] pos) (Nr (sp a) t):=by
  intro p_ s σ H Q I h;refine wpAny_Call_Name_kw (qI I hg hm ?_ hdb);refine W.callWith_K (h₀:=X.base) I.ok.mod.R5 hk (cY (ha pos p_ s σ H _ I h) fun us s1 zz=>?_) he hpl;obtain⟨vs,H1,I1,r,q⟩:=zz;refine⟨I1.vC,?_⟩;have hl:us.length=ps.length:=by rw[← r.length];exact F.len _ _ _ _ _ q
  have hbd:=hb s1 us I1.vC (by rw[List.append_nil];exact hl);rw[List.append_nil] at hbd;have e0:=I1.env0;refine wpAny_call (codeAny_mono (F.run a X.A X.stack s1 H1 ⟨us,[]⟩ us vs Q hr ⟨e0.frames,e0.mod,e0.bs,e0.O2,e0.tu,e0.Sy,e0.hok,e0.bare⟩ hbd r q) fun rr s' hq=>?_);cases rr with
  | error e=>exact hq.elim
  | ok fl=>
    cases fl with
    | ret u=>exact I1.after hq
    | next=>exact False.elim hq
    | brk=>exact False.elim hq
    | cont=>exact False.elim hq
end
def Ca (K:W.Frag) (C:Addr):Prop:=qT K C∧∃cd,W.clsIn K C=some cd
def m_ (K:W.Frag) (C:Addr):V→Option Bool
  | .ref D=>W.kitOne K (.ref C) (.ref D)
  | .ty n=>W.kitOne K (.ref C) (.type n)
  | _=>none
def Z1 (K:W.Frag):List V→Hp→VK→Prop:=fun xs H Q=>ar2 xs fun x y=>isRef x fun a=>∃C b,H a=some (xq a C)∧Ca K C∧m_ K C y=some b∧Q (.bl b) H
@[simp ↓] theorem qeM K xs H Q:Z1 K xs H Q=(ar2 xs fun x y=>isRef x fun a=>∃C b,H a=some (xq a C)∧Ca K C∧m_ K C y=some b∧Q (.bl b) H):=rfl
theorem qc0 {X:Cx} {K:W.Frag} (hK:X.K=K):cu X (.builtin "isinstance") (Z1 K):=by
  subst hK;intro p_ s σ H xs us Q I r h;obtain⟨v1,v2,rfl,h⟩:=ar2.out h;obtain⟨a,rfl,C,b,e,⟨L,cd,hcd⟩,hk,q⟩:=isRef.out h;obtain⟨u,v,rfl,r1,r2⟩:=r.two;obtain rfl:u=Value.ref a:=r1;obtain⟨ex,_⟩:=I.hok a _ e;have go:∀{c:Value},W.kitOne X.K (.ref C) c=some b→wpAny (model X.prog X.w) X.A (call (.builtin "isinstance") [.ref a,c]) (EP X p_ σ Q) X.xe s:=fun {c} hc=>
    W.kia_one (Vs hcd L) I.vC ex.at hc (fun z=>by cases z) fun tk=>⟨.bl b,H,I.kept (fun _ _ e=>e),rfl,q⟩
  cases v2 with
  | ref D=>obtain rfl:v=Value.ref D:=r2;exact go hk
  | ty n=>obtain rfl:v=Value.type n:=r2;exact go hk
  | _=>cases hk
theorem gK.YD {P:Program} {w:World} {K:W.Frag} {mg:Str→Option Value} {base:Heap} {x qual:Str} {st:Stmt} {f:Addr} {fd:FuncData} {N ps:List Str} {k:Nat} {sp:Sp} (F:gK K x qual st f fd) (S:bH N ps (aB st)) (len:∀vs H Q E,sp vs H Q E→vs.length=ps.length)
    (hbody:∀(cdv:Value) (A:Around) (outer:List Env) (s:Shared) (H:Hp) (vs:List V) (Q:VK) (E:XK),jc k (A.deeper (envOfC qual (aB st) s.heap.objs.size f cdv))→sp vs H Q E→
      ∃t,D_ (au (Km P w) P w K mg base N qual (aB st) f cdv A outer s H E) (jm st) t∧t {nx:=fun _ H'=>Q .non H',rt:=Q} (j_ N vs) H):bZ P w K mg base (Km P w) (k+1) f fd ps sp:=by
  refine F.okE S len fun cdv A outer s H vs Q E hr h=>?_;obtain⟨t,h1,h2⟩:=hbody cdv A outer s H vs Q E hr h;refine⟨t,h1,?_⟩;have hl:=len _ _ _ _ h;have hp:ps.length≤N.length:=by have:=congrArg List.length S.pre;rw[List.length_take] at this;omega
  rw[qt N vs (by omega)] at h2;exact h2
theorem gK.qc1 {P:Program} {w:World} {K:W.Frag} {mg:Str→Option Value} {base:Heap} {x qual:Str} {st:Stmt} {f:Addr} {fd:FuncData} {N ps:List Str} {k:Nat} {sp:Addr→Sp} (F:gK K x qual st f fd) (S:bH N ps (aB st)) (len:∀a vs H Q E,sp a vs H Q E→vs.length=ps.length)
    (hbody:∀(a:Addr) (cdv:Value) (A:Around) (outer:List Env) (s:Shared) (H:Hp) (vs:List V) (Q:VK),jc k (A.deeper (envOfC qual (aB st) s.heap.objs.size f cdv))→sp a vs H Q E0→
      ∃t,D_ ((au lH P w K mg base N qual (aB st) f cdv A outer s H E0).caught a) (jm st) t∧t {nx:=fun _ H'=>Q .non H',rt:=Q} (j_ N vs) H):tV P w K mg base (k+1) f fd ps sp:=by
  refine F.okH S len fun a cdv A outer s H vs Q hr h=>?_;obtain⟨t,h1,h2⟩:=hbody a cdv A outer s H vs Q hr h;refine⟨t,h1,?_⟩;have hl:=len _ _ _ _ _ h;have hp:ps.length≤N.length:=by have:=congrArg List.length S.pre;rw[List.length_take] at this;omega
  rw[qt N vs (by omega)] at h2;exact h2
@[simp ↓] theorem qfP i K D ts tb Dn σ H:qcX i K D ts tb Dn σ H=tb (Vu i K D ts Dn) Dn σ H:=rfl
theorem Qa:bootBuiltins "ValueError" = some (.type "ValueError"):=by decide+kernel
section
variable {K:W.Frag} {own:List Str} {caps:List Nat} {g:TG} {tt:TT} {te:TE} {D l1 l2 c:Addr} {σ:St} {H:Hp} {Q:Hp→Prop}
theorem qc2 {d:Yh g tt te Q} (xs ys:List V) (Pv:Nat→St→Hp→Prop) (h0:Pv 0 (stC own caps σ) H) (he:xs.length=ys.length) (hl:∀i σ H,i≤xs.length→Pv i σ H→(bA K H l1 xs∧bA K H l2 ys)∧Cau H c)
    (hs:∀i x y t σ H,xs[i]? = some x→ys[i]? = some y→H t=none→Pv i σ H→zu g tt te D (Pv (i+1)) (.ref t) σ (upd H t (.tup [x,y]))) (hd:∀σ H,Pv xs.length σ H→Q H):ZK own caps (YC c K l1 l2) g tt te Q d D σ H:=by
  refine⟨fun i m σ H=>m=xs.length - i∧i≤xs.length∧Pv i σ H,⟨xs.length,by simp,Nat.zero_le _,h0⟩,?_⟩;rintro i m σ H ⟨rfl,hi,p⟩;obtain⟨⟨q1,q2⟩,ca⟩:=hl i σ H hi p
  by_cases hlt:i<xs.length
  ·have hlt2:i<ys.length:=he▸hlt;refine .inr ⟨⟨xs,ys,xs[i],ys[i],q1,q2,by simp[hlt],by simp[hlt2]⟩,Pv (i+1),fun σ' H' p'=>⟨xs.length - (i+1),by omega,rfl,hlt,p'⟩,fun x H' y=>?_⟩;obtain⟨t,u,v,rfl,ht,rfl,e1,e2⟩:=y;exact hs i u v t σ H (e1 xs q1) (e2 ys q2) ht p
  · have e:i=xs.length:=by omega
    subst e;exact .inl ⟨⟨⟨xs,ys,q1,q2,.inl (Nat.le_refl _)⟩,ca⟩,hd σ H p⟩
end
section
variable {X:Cx} {K:W.Frag} {C D:Addr} {b:Bool}
def qc3 (i:Nat) (C:Addr) (b:Bool):TE:=fun σ H Q=>getSt σ i fun x=>isRef x fun p=>H p=some (xq p C)∧Q (.bl b) H
@[simp ↓] theorem qfQ i C b σ H Q:qc3 i C b σ H Q=getSt σ i fun x=>isRef x fun p=>H p=some (xq p C)∧Q (.bl b) H:=rfl
theorem fC {i:Nat} {v:V} {e c:Expr} {p pos:Pos} (hK:X.K=K) (hg:Gl X "isinstance") (hm:X.mg "isinstance" = none) (L:Ca K C) (hk:m_ K C v=some b) (ha:PA X [e,c] (dW (fVar i) (dW (tC v) mZ)))
    (hs:starEach [e,c] X.env=(false,eval e X.env)::starEach [c] X.env:=by rfl) (hpl:(backTo pos (starEach [c] X.env)).any (·.1)=false:=by rfl) :
    PE X (.Call (.Name "isinstance" p) [e,c] [] pos) (qc3 i C b):=
  PE.mono (aH (qc0 hK) hg hm boot_isinstance ha (by decide) (by decide) hs hpl) fun {σ H Q} h=>getSt.imp (fun x h1=>by
    obtain⟨q,rfl,h2,h3⟩:=isRef.out h1;exact⟨C,b,h2,L,hk,h3⟩) h
end
inductive Lf:V→PyData→Prop
  | non:Lf .non .none
  | bl (b):Lf (.bl b) (.bool b)
  | int (i):Lf (.int i) (.int i)
  | str (x):Lf (.str x) (.str x)
inductive Cd:List (Str×V)→List (PyData×PyData)→Prop
  | nil:Cd [] []
  | cons {x v d ks kvs}:Lf v d→Cd ks kvs→Cd ((x,v)::ks) ((.str x,d)::kvs)
section
variable {X:Cx} {p_:List (Addr×Obj)} {σ:St} {H:Hp} {s:Shared}
theorem Lf.reads {v:V} {d:PyData} {u:Value} {h:Heap} (l:Lf v d) (r:RelV v u):Reads h u d []:=by
  cases l with
  | non=>cases r;exact .none
  | bl b=>cases r;exact .bool b
  | int i=>obtain⟨t,rfl⟩:=r;exact .int i t
  | str x=>obtain⟨t,rfl⟩:=r;exact .str x t
theorem Ks {P:Program} {w:World} {h:Heap}:∀{ks:List (Str×V)} {kvs:List (PyData×PyData)} {vs:List (Key×Value)} {es:List DictEntry},Cd ks kvs→KV (ks.map fun e=>((Sum.inr e.1:Key),e.2)) vs→Pairs (bh P w) es vs→
    ReadsAll h (es.map (·.key)) (kvs.map (·.1)) []∧ReadsAll h (es.map (·.val)) (kvs.map (·.2)) []
  | _,_,_,_,.nil,kv,ps=>by
    cases kv;cases ps;exact⟨.nil,.nil⟩
  | _,_,_,_,.cons l ls,kv,ps=>by
    cases kv with
    | cons r rs=>
      cases ps with
      | cons h1 h2 h3=>
        obtain⟨i1,i2⟩:=Ks (h:=h) ls rs h3;obtain⟨r1,r2⟩:=r;simp only at r1 r2;rw[← r1] at h1;rw[Ba] at h1
        rcases cG h1 with⟨i,t,e,_⟩ | ⟨x,t,e,ek⟩
        ·cases e
        ·cases e;simp only[List.map_cons];rw[ek,h2];exact⟨.cons (.str _ t) i1,.cons (l.reads r2) i2⟩
theorem zB {P:Program} {w:World} {h:Heap} {a:Addr} {ks:List (Str×V)} {kvs:List (PyData×PyData)} (ok:qH P w H h) (l:Cd ks kvs) (e:H a=some (.dK (ks.map fun e=>((Sum.inr e.1:Key),e.2)))):Reads h (.ref a) (.dict kvs) [a]∧(a == sysModules)=false:=by
  obtain⟨_,hd,vs,kv,o,es,ep,h1,h2,h3,_,h5,_⟩:=Pq ok e;refine⟨?_,hd⟩;obtain⟨r1,r2⟩:=Ks (h:=h) l kv h5;exact Reads.dict (as:=[]) (bs:=[]) h1 h2.1 h3 r1 r2
inductive Z2 (H:Hp):PyData→V→Prop
  | thg {d v}:cL H d v→d.hasDict=false→Z2 H d v
  | dic {a ks kvs}:Cd ks kvs→H a=some (.dK (ks.map fun e=>((Sum.inr e.1:Key),e.2)))→Z2 H (.dict kvs) (.ref a)
theorem Z2.same {H H':Hp} {d:PyData} {v:V} (h:Z2 H d v) (s:Same H H'):Z2 H' d v:=by
  cases h with
  | thg h1 h2=>exact .thg (cL.same s d v h1) h2
  | dic h1 h2=>exact .dic h1 (s _ _ h2)
def Nt:List V→Hp→VK→Prop:=fun xs H Q=>ar1 xs fun v=>∃d:PyData,Z2 H d v∧d.showable=true∧d.depth≤32∧d.shown.length≤sizeLine∧Q (.str d.shown) H
@[simp ↓] theorem qc4 xs H Q:Nt xs H Q=(ar1 xs fun v=>∃d:PyData,Z2 H d v∧d.showable=true∧d.depth≤32∧d.shown.length≤sizeLine∧Q (.str d.shown) H):=rfl
theorem Ku (hg:X.A.guards=some []) (hu:X.A.units+64<cLine):cu X (.builtin "repr") Nt:=by
  intro p_ s σ H xs us Q I r h;obtain⟨v,rfl,d,hs,h1,h2,h3,q⟩:=ar1.out h;cases hs with
  | thg ht hd=>exact Kl hg hu p_ s σ H [v] us Q I r (show BW [v] H Q from⟨d,ht,.inl (.inl hd),h1,h2,h3,q⟩)
  | dic hl he=>
    rename_i a ks kvs;obtain⟨u,rfl,ru⟩:=r.one;cases ru;obtain⟨ra,hd⟩:=zB I.hok hl he;refine repr_of_reads' (h₀:=s.heap) ra h1 (fun _ hm=>?_) hg (by omega) (fun _ _ e=>e) (fun h' u tk hk=>⟨.str _,H,I.kept (t':=tk) hk,⟨u,rfl⟩,q⟩) h3;rw[List.mem_singleton] at hm;rw[← hm] at hd;simp at hd
end
structure oF (k n:Nat) (d:PyData):Prop where
  sh:d.showable=true
  dp:d.depth≤k
  ln:d.shown.length≤n
theorem oF.mono {k n k' n':Nat} {d:PyData} (h:oF k n d) (hk:k≤k') (hn:n≤n'):oF k' n' d:=⟨h.sh,Nat.le_trans h.dp hk,Nat.le_trans h.ln hn⟩
theorem Qc {k n:Nat}:∀{ds:List PyData},(∀c∈ds,oF k n c)→PyData.showableAll ds=true∧PyData.depthAll ds≤k∧(PyData.shownAll ds).length=ds.length∧((PyData.shownAll ds).map (·.length)).sum≤n * ds.length
  | [],_=>by simp[PyData.showableAll,PyData.depthAll,PyData.shownAll]
  | c::ds,h=>by
    obtain⟨h1,h2,h3⟩:=h c List.mem_cons_self;obtain⟨i1,i2,i3,i4⟩:=Qc fun e he=>h e (List.mem_cons_of_mem _ he);simp only[PyData.showableAll,PyData.depthAll,PyData.shownAll,h1,i1,List.length_cons,List.map_cons,List.sum_cons,i3];refine⟨rfl,Nat.max_le.mpr ⟨h2,i2⟩,trivial,?_⟩;rw[Nat.mul_succ];omega
theorem oF.list {k n m:Nat} {ds:List PyData} (h:∀c∈ds,oF k n c) (hl:n * ds.length+2 * ds.length+3≤m):oF (k+1) m (.list ds):=by
  obtain⟨h1,h2,h3,h4⟩:=Qc h;have:=listText_len_le (PyData.shownAll ds);refine⟨by simpa [PyData.showable] using h1,by simp only[PyData.depth];omega,?_⟩;simp only[PyData.shown];omega
theorem oF.str {x:Str} {n:Nat} (hx:∀c∈x.cps.toList,c<16 ^ 8) (hn:10 * x.length+2≤n):oF 0 n (.str x):=by
  refine⟨rfl,Nat.le_of_eq rfl,?_⟩;simp only[PyData.shown];exact Nat.le_trans (StrLaws.reprText_len x hx) hn
theorem bZ.or {P:Program} {w:World} {K:W.Frag} {mg:Str→Option Value} {base:Heap} {CX:Q0} {k:Nat} {f:Addr} {fd:FuncData} {ps:List Str} {sp Zu:Sp} (F:bZ P w K mg base CX k f fd ps sp) (F':bZ P w K mg base CX k f fd ps Zu) :
    bZ P w K mg base CX k f fd ps (fun vs H Q E=>sp vs H Q E∨Zu vs H Q E):=
  ⟨fun vs H Q E h=>h.elim (F.len vs H Q E) (F'.len vs H Q E),fun A outer s H args us vs Q E hr he hb hv h=>h.elim (F.run A outer s H args us vs Q E hr he hb hv) (F'.run A outer s H args us vs Q E hr he hb hv)⟩
end L2
namespace L2
open PySem PySem.Spec
section
variable {σ:St} {H:Hp} {p:Addr}
def GD (p:Addr) (t:TE) (σ:St) (H:Hp) (d:PyData):Prop:=∀(H1:Hp) (Q:VK),(∃o,H p=some o)→Same H H1→(∀v H2,Same H1 H2→cL (hid p H2) d v→Q v H2)→t σ H1 Q
def GDs (p:Addr) (t:TA) (σ:St) (H:Hp) (ds:List PyData):Prop:=∀(H1:Hp) (Q:List V→Hp→Prop),(∃o,H p=some o)→Same H H1→(∀vs H2,Same H1 H2→aU (hid p H2) ds vs→Q vs H2)→t σ H1 Q
theorem fY {H1:Hp} {b:Addr} (h:∃o,H p=some o) (s:Same H H1) (hb:H1 b=none):b≠p:=fun z=>by
  obtain⟨o,e⟩:=h;have:=s _ _ e;rw[← z,hb] at this;cases this
theorem uT:GDs p mZ σ H []:=fun H1 Q _ _ q=>q [] H1 (Same.refl _) (by simp[aU])
theorem qw {ta:TE} {tr:TA} {d:PyData} {ds:List PyData} (h1:GD p ta σ H d) (h2:GDs p tr σ H ds):GDs p (dW ta tr) σ H (d::ds):=fun H1 Q hp s q=>
  h1 H1 _ hp s fun v H2 s2 hv=>h2 H2 _ hp (s.trans s2) fun vs H3 s3 hvs=>q _ H3 (s2.trans s3) (by simp only[aU];exact⟨v,vs,rfl,cL.same (bV s3) d v hv,hvs⟩)
theorem yH {t:TA} {ds:List PyData} (h:GDs p t σ H ds) (hl:ds.length≤sizeLine):GD p (Bh t) σ H (.list ds):=fun H1 Q hp s q=>
  h H1 _ hp s fun vs H2 s2 hv=>⟨by rw[← hv.length];exact hl,fun b hb=>q _ _ (s2.trans (aq hb)) (by simp only[cL];exact⟨b,vs,rfl,cj (fY hp (s.trans s2) hb) ao,aU.same (bV (aq hb)) ds vs hv⟩)⟩
theorem Nu:GD p (tC .non) σ H .none:=fun H1 Q _ s q=>q _ H1 (Same.refl _) (by simp[cL])
theorem Ce {i:Int}:GD p (tC (.int i)) σ H (.int i):=fun H1 Q _ s q=>q _ H1 (Same.refl _) (by simp[cL])
theorem qc5 {i:Bool}:GD p (tC (.bl i)) σ H (.bool i):=fun H1 Q _ s q=>q _ H1 (Same.refl _) (by simp[cL])
theorem Nv {i:Str}:GD p (tC (.str i)) σ H (.str i):=fun H1 Q _ s q=>q _ H1 (Same.refl _) (by simp[cL])
theorem getSt.of:∀{σ:St} {i:Nat} {v:V} {R:V→Prop},σ[i]? = some (some v)→R v→getSt σ i R
  | [],_,_,_,h,_=>by simp at h
  | o::_,0,v,R,h,r=>by simp at h;subst h;exact r
  | _::σ,n+1,v,R,h,r=>getSt.of (σ:=σ) (i:=n) (by simpa using h) r
theorem Ny {i:Nat} {d:PyData} {v:V} (h:σ[i]? = some (some v)) (hv:cL (hid p H) d v):GD p (fVar i) σ H d:=fun H1 Q _ s q=>getSt.of h (q v H1 (Same.refl _) (cL.same (bV s) d v hv))
variable {φ:PyData→Prop}
structure big (t:TE) (σ:St) (H:Hp) (Q:VK):Prop where
  out:t σ H Q
theorem Cg {X:Cx} {e:Expr} {t:TE} (h:PE X e t):PE X e (big t):=PE.mono h fun h=>h.out
end
end L2
namespace PySem
open Sem (wp)
theorem xr:typeLookup (.type "list") "keys" = pure none:=by rw[typeLookup_type,builtinLookup_eq_fast];kernel_rfl
theorem Eo {prog:Program} {w:World} {A:Around} {E:Value→Shared→Prop} {s:Shared} {a:Addr} {o:Obj} {xs:Array Value} {k:Nat} {Q:Option Value→Shared→Prop}
    (hx:s.heap.get? a=some o) (hc:o.cls = .type "list") (hdat:o.data = .seq xs k) (hd:o.dict=none) (hA:A.handled=none)
    (h:∀h' tk,(∀b o,s.heap.get? b=some o→h'.get? b=some o)→Q none {s with heap:=h',toks:=tk}) :
    wpAny (model prog w) A (getAttr? (.ref a) "keys") Q E s:=by
  obtain⟨c,dct,dat,sl⟩:=o;simp only at hc hdat hd;subst hc hdat hd;obtain⟨hp,g,d,tk,os⟩:=s;have hT:∀tk',(⟨hp,g,d,tk',os⟩:Shared).TypeIs (.ref a) "list" :=fun _=>⟨_,hx,rfl⟩;have f1:=sub_AttributeError;have f3:=F.slot_list_getattribute.lookup;have f4:=F.slot_list_getattribute.bind (.ref a);have f5:=am_list_getattr_none;have hname:(["__module__", "__name__", "__qualname__", "__doc__", "__annotations__"]:List Str).contains "keys" = false:=by decide
  unfold getAttr? getAttrBy? getAttrBy
  repeat (any_goals (first | assumption | exact hT _ | ((with_reducible show wpAny _ _ (call (Value.builtin "list.__getattribute__") _ _) _ _ _);refine call_meets F.slot_list_getattribute (hT _) am_entry_list_getattribute (F.args_list_getattribute_2 _ _) (meets_getattribute_miss_list a xs k sl "keys" _ xr hname) ⟨hx,hA,fun h' tk' e hx'=>?_⟩) | wp_step))
  obtain⟨t',u',he⟩:=hx'.there;show wpAny _ _ (getattributeRaised _ _ _ _ _ _ _) _ _ _;unfold getattributeRaised
  repeat (any_goals (first | assumption | wp_step))
  exact h _ _ hx'.of.keeps
end PySem
namespace L2
open PySem PySem.Spec PyProof.Rows
section
variable {P:Program} {w:World} {A:Around} {R:Result→Shared→Prop} {it l D:Addr}
def fP {α:Type} (ks:List (Str×α)):List (Key×α):=ks.map fun e=>(Sum.inr e.1,e.2)
theorem Qd {α:Type} {ks:List (Str×α)} {x:Str} (h:(fP ks).any (fun kv=>decide (kv.1=(Sum.inr x:Key)))=true):x∈ks.map (·.1):=by
  obtain⟨kv,h1,h2⟩:=List.any_eq_true.mp h;obtain⟨e,h3,rfl⟩:=List.mem_map.mp h1;have h4:=of_decide_eq_true h2;injection h4 with h4;exact List.mem_map.mpr ⟨e,h3,h4⟩
theorem YF {its:List Value} {ks:List (Str×Value)} (hh:A.handled=none) (h2:D≠it) (h3:D≠l) (h4:l≠it) (hs:its.length≤sizeLine) (hk:its.length=ks.length) (hn:(ks.map (·.1)).Nodup) :
    ∀(k i:Nat) (s:Shared),its.length - i=k→i≤its.length→s.heap.IsListIter it l i→s.heap.IsList l its.toArray→s.heap.DictOf (bh P w) D (fP (ks.take i))→
      (∀(j:Nat) (e:Str×Value),ks[j]? = some e→∃t u,its[j]? = some (.ref t)∧t≠D∧t≠it∧s.heap.IsTuple t #[.str e.1 u,e.2])→
      (∀h' tk,(∀c o,c≠D→c≠it→s.heap.get? c=some o→h'.get? c=some o)→h'.DictOf (bh P w) D (fP ks)→R (.ok (.ret .none)) {s with heap:=h',toks:=tk})→
      codeAny (model P w) A (.builtin "dict.update.loop" ⟨[.ref D,.ref it,rawInt i,.none],[]⟩) R s:=by
  intro k
  induction k with
  | zero=>
    intro i s hk0 hi hE hl hD hT hR;obtain rfl:i=its.length:=by omega
    refine codeAny_builtin mO ?_;rw[Around.under_plainId dX _];show wpAny _ A.in1 (pyNext (.ref it) >>= _) _ _ s;refine wpAny_bind (wpAny_pyNext_list_end (A:=A.in1) hh hE hl (by simp) fun h' hm=>?_);refine wpAny_bind (wpAny_pure ?_);refine wpAny_pure (hR h' s.toks (fun c o c1 c2 z=>hm c o c2 z) ?_);rw[hk,List.take_length] at hD;exact hD.extBut hm h2
  | succ k ih=>
    intro i s hk0 hi hE hl hD hT hR;have hlt:i<its.length:=by omega
    have hlt2:i<ks.length:=by omega
    obtain⟨t,u,hit,htD,hti,htt⟩:=hT i ks[i] (List.getElem?_eq_getElem hlt2);refine codeAny_builtin mO ?_;rw[Around.under_plainId dX _];show wpAny _ A.in1 (pyNext (.ref it) >>= _) _ _ s;refine wpAny_bind (wpAny_pyNext_list_item hE hl (x:=.ref t) (by simpa using hit) fun h' hE' hsb'=>?_);have km:∀c o,c≠it→s.heap.get? c=some o→h'.get? c=some o:=fun c o c1 z=>(hsb'.2 c c1).trans z;obtain⟨ot,hot,hct,nt,hdt⟩:=id htt;have qc6:=km _ _ hti hot;have hT':(Shared.mk h' s.gens s.drawn s.toks s.os).TypeIs (.ref t) "tuple" :=⟨_,qc6,hct⟩;show wpAny _ A.in1 (holding _ _ >>= _) _ _ _;refine wpAny_bind (wpAny_holding ?_);refine wpAny_bind (wpAny_tryCatch ?_);unfold Builtin.Dict.pairItems;refine wpAny_bind (wpAny_typeOf hT' ?_);rw[if_pos (by decide)];refine wpAny_bind (wpAny_seqItems qc6 hdt ?_);refine wpAny_pure ?_;show wpAny _ A.in1 (holding _ (dictSet D (.str ks[i].1 u) ks[i].2)) _ _ _;refine wpAny_holding ?_;have hD':h'.DictOf (bh P w) D (fP (ks.take i)):=by
      obtain⟨o,es,ep,ho,r⟩:=hD;exact⟨o,es,ep,km D o h2 ho,r⟩
    refine wpAny_dictSet_pairs (knd:=bh P w) (k:=Sum.inr ks[i].1) (s:=Shared.mk h' s.gens s.drawn s.toks s.os) (sY P w _ u) hD' (fun h2' hD2 hsb=>?_) (by rw[fP,List.length_map,List.length_take];omega);have est:stored (fP (ks.take i)) (Sum.inr ks[i].1) ks[i].2=fP (ks.take (i+1)):=by
      unfold stored;rw[if_neg (fun z=>?_)]
      ·rw[List.take_succ_eq_append_getElem hlt2,fP,fP,List.map_append];rfl
      · have h5:=Qd z;rw[List.map_take] at h5;have h6:(ks.map (·.1))[i]? = some ks[i].1:=by rw[List.getElem?_map,List.getElem?_eq_getElem hlt2];rfl
        obtain⟨j,hj⟩:=List.getElem?_of_mem h5;rw[List.getElem?_take] at hj;split at hj
        ·rename_i hji;have hj1:=List.getElem?_eq_some_iff.mp hj;have hi1:=List.getElem?_eq_some_iff.mp h6;have:=(List.getElem?_inj hj1.1 hn).mp (hj.trans h6.symm);omega
        ·cases hj
    rw[est] at hD2;refine wpAny_pure ⟨plainId_quiet dX _,?_⟩;show codeAny _ A (.builtin "dict.update.loop" ⟨[.ref D,.ref it,rawInt ((i:Int)+1),.none],[]⟩) _ _;have ei:(i:Int)+1=((i+1:Nat):Int):=by omega
    rw[ei];have kk:∀c o,c≠D→c≠it→s.heap.get? c=some o→h2'.get? c=some o:=fun c o c1 c2 z=>(hsb.2 c c1).trans (km c o c2 z);refine ih (i+1) _ (by omega) hlt ?_ ?_ hD2 (fun j e he=>?_) fun h3' tk hm3 DY=>?_
    ·obtain⟨o,ho,hc,hd⟩:=hE';exact⟨o,(hsb.2 _ h2.symm).trans ho,hc,hd⟩
    ·obtain⟨o,ho,r⟩:=hl;exact⟨o,kk _ _ h3.symm h4 ho,r⟩
    ·obtain⟨t,u,q1,q2,q3,o,ho,r⟩:=hT j e he;exact⟨t,u,q1,q2,q3,o,kk _ _ q2 q3 ho,r⟩
    ·exact hR h3' tk (fun c o c1 c2 z=>hm3 c o c1 c2 (kk c o c1 c2 z)) DY
end
section
variable {P:Program} {w:World} {A:Around} {E:Value→Shared→Prop} {s:Shared} {l:Addr}
theorem YG {its:List Value} {ks:List (Str×Value)} {Q:Value→Shared→Prop} (hh:A.handled=none) (hl:PlainL s.heap l its.toArray) (hs:its.length≤sizeLine) (hk:its.length=ks.length) (hn:(ks.map (·.1)).Nodup)
    (hT:∀(j:Nat) (e:Str×Value),ks[j]? = some e→∃t u,its[j]? = some (.ref t)∧s.heap.IsTuple t #[.str e.1 u,e.2])
    (h:∀h' tk,(∀c o,s.heap.get? c=some o→h'.get? c=some o)→h'.DictOf (bh P w) s.heap.objs.size (fP ks)→Q (.ref s.heap.objs.size) {s with heap:=h',toks:=tk}) :
    wpAny (model P w) A (call (.type "dict") [.ref l]) Q E s:=by
  obtain⟨ol,nl,hol,hcl,hdl,hdat⟩:=id hl;refine callType_codes (Q₁:=fun obj s₁=>obj = .ref s.heap.objs.size∧s₁={s with heap:=s.heap.push {cls:=.type "dict",data:=.dict #[]}}) F.kt_called_dict (F.kt_typeCall_dict_1 _) F.entry_dict_init (kt_code_dict_new _ ⟨rfl,rfl⟩) ?_;rintro obj s₁ ⟨rfl,rfl⟩;have hnew:(s.heap.push {cls:=.type "dict",data:=.dict #[]}).DictOf (bh P w) s.heap.objs.size []:=Heap.DictOf.new s.heap;have kp:∀c o,s.heap.get? c=some o→(s.heap.push {cls:=.type "dict",data:=.dict #[]}).get? c=some o:=fun c o z=>Heap.get?_push_of_some _ z;have ne:∀{c o},s.heap.get? c=some o→s.heap.objs.size≠c:=fun z=>Nat.ne_of_gt (Heap.lt_size z);have hTy:(Shared.mk (s.heap.push {cls:=.type "dict",data:=.dict #[]}) s.gens s.drawn s.toks s.os).TypeIs (.ref l) "list" :=⟨_,kp _ _ hol,hcl⟩;refine⟨hnew.typeIs,F.args_dict_init_2 _ _,?_⟩;unfold Builtin.«dict.__init__»;refine wpAny_bind ?_;unfold Builtin.Dict.selfAndRest;refine wpAny_bind (wpAny_notOrdered_dict hnew.typeIs ?_);show wpAny _ _ (pure (s.heap.objs.size,[Value.ref l])) _ _ _;refine wpAny_pure ?_;show wpAny _ _ (Builtin.Dict.updateFrom "dict.__init__" s.heap.objs.size (.ref l) [] .none) _ _ _;unfold Builtin.Dict.updateFrom;refine wpAny_bind (wpAny_typeOf hTy ?_);rw[if_pos (by decide)];show wpAny (model P w) A.in1.in1 (getAttr? (.ref l) "keys" >>= _) _ _ _;refine wpAny_bind (Eo (A:=A.in1.in1) (kp _ _ hol) hcl hdat hdl hh fun h1 tk1 k1=>?_);have hl1:h1.IsList l its.toArray:=⟨ol,k1 _ _ (kp _ _ hol),hcl,nl,hdat⟩;simp only[Option.isNone_none,if_true];refine wpAny_bind (wpAny_rule ?_);refine wpAny_bind (wpAny_pyIter_list (s:=Shared.mk h1 s.gens s.drawn tk1 s.os) hl1 ?_);refine wpAny_pure ⟨plainId_quiet dX _,?_⟩;have kp2:∀c o,s.heap.get? c=some o→(h1.push {cls:=.type "list_iterator",data:=.fields #[.ref l,.int 0 0]}).get? c=some o:=fun c o z=>Heap.get?_push_of_some _ (k1 _ _ (kp _ _ z));have hD1:(h1.push {cls:=.type "list_iterator",data:=.fields #[.ref l,.int 0 0]}).DictOf (bh P w) s.heap.objs.size []:=by
    obtain⟨o,es,ep,ho,r⟩:=hnew;exact⟨o,es,ep,Heap.get?_push_of_some _ (k1 _ o ho),r⟩
  have ltD:s.heap.objs.size<h1.objs.size:=by
    obtain⟨o,es,ep,ho,r⟩:=hnew;exact Heap.lt_size (k1 _ o ho)
  have Rb:∀{c o},s.heap.get? c=some o→c≠h1.objs.size:=fun z=>Nat.ne_of_lt (Nat.lt_trans (Heap.lt_size z) ltD);refine YF (A:=A.in1) (l:=l) (it:=h1.objs.size) hh (Nat.ne_of_lt ltD) (ne hol) (Rb hol) hs hk hn its.length 0 _ (by omega) (Nat.zero_le _) ⟨_,Heap.get?_push_size _ rfl,rfl,rfl⟩ ⟨ol,kp2 _ _ hol,hcl,nl,hdat⟩ (by simpa [fP] using hD1) (fun j e he=>?_) fun h' tk hm hD=>⟨rfl,h h' tk (fun c o z=>hm c o (ne z).symm (Rb z) (kp2 _ _ z)) hD⟩;obtain⟨t,u,q1,o,ho,r⟩:=hT j e he;exact⟨t,u,q1,(ne ho).symm,Rb ho,o,kp2 _ _ ho,r⟩
end
section
variable {X:Cx} {K:W.Frag}
def vI (H:Hp) (tv:List V) (ks:List (Str×V)):Prop:=tv.length=ks.length∧∀(i:Nat) (e:Str×V),ks[i]? = some e→∃t,tv[i]? = some (.ref t)∧H t=some (.tup [.str e.1,e.2])
theorem Ci {α β:Type}:∀(ks:List α) (R:Nat→α→β→Prop),(∀j e,ks[j]? = some e→∃e',R j e e')→∃ks':List β,ks'.length=ks.length∧∀j e,ks[j]? = some e→∃e',ks'[j]? = some e'∧R j e e'
  | [],R,h=>⟨[],rfl,fun j e z=>by simp at z⟩
  | x::ks,R,h=>by
    obtain⟨y,hy⟩:=h 0 x rfl;obtain⟨ks',h1,h2⟩:=Ci ks (fun j=>R (j+1)) fun j e z=>h (j+1) e z;refine⟨y::ks',by simp[h1],fun j e z=>?_⟩
    match j with
    | 0=>cases z;exact⟨y,rfl,hy⟩
    | j+1=>exact h2 j e z
theorem Nz:∀{ks:List (Str×V)} {ks':List (Str×Value)},ks'.length=ks.length→(∀(j:Nat) e e',ks[j]? = some e→ks'[j]? = some e'→e'.1=e.1∧RelV e.2 e'.2)→KV (fP ks) (fP ks')
  | [],[],_,_=>.nil
  | [],_::_,h,_=>by simp at h
  | _::_,[],h,_=>by simp at h
  | e::ks,e'::ks',h,hr=>by
    obtain⟨h1,h2⟩:=hr 0 e e' rfl rfl;exact .cons ⟨congrArg Sum.inr h1.symm,h2⟩ (Nz (by simpa using h) fun j x y p q=>hr (j+1) x y p q)
def rDP (K:W.Frag):List V→Hp→VK→Prop:=fun xs H Q=>∃l tv ks,xs=[.ref l]∧bA K H l tv∧vI H tv ks∧(ks.map (·.1)).Nodup∧∀p,H p=none→Q (.ref p) (upd H p (.dK (fP ks)))
theorem NK (hK:X.K=K) (hc:X.calm=true):cu X (.type "dict") (rDP K):=by
  subst hK;intro p_ s σ H xs us Q I r h;obtain⟨l,tv,ks,rfl,hl,hp,hn,q⟩:=h;obtain⟨u,rfl,ru⟩:=r.one;obtain rfl:u=Value.ref l:=ru;obtain⟨its,rv,pl,hz⟩:=I.list hl;obtain⟨ks',hl',hr⟩:=Ci ks (fun j (e:Str×V) (e':Str×Value)=>e'.1=e.1∧RelV e.2 e'.2∧∃t u,its[j]? = some (.ref t)∧s.heap.IsTuple t #[.str e'.1 u,e'.2]) fun j e he=>by
    obtain⟨t,h1,h2⟩:=hp.2 j e he;obtain⟨v,e1,e2⟩:=Vals.get rv h1;obtain rfl:v=Value.ref t:=e2;obtain⟨ws,Mg,pw,_⟩:=I.tuple (jK.of h2);obtain⟨a,b,rfl,ra,rb⟩:=vals2 Mg;obtain⟨u,rfl⟩:=(show ∃u,a=Value.str e.1 u from ra);exact⟨(e.1,b),rfl,rb,t,u,e1,pw⟩
  have hlen:its.length=tv.length:=rv.length.symm;have hkey:ks'.map (·.1)=ks.map (·.1):=by
    refine List.ext_getElem? fun j=>?_;rw[List.getElem?_map,List.getElem?_map];cases e:ks[j]? with
    | none=>
      have:ks'[j]? = none:=by
        rw[List.getElem?_eq_none_iff] at e ⊢;omega
      rw[this];rfl
    | some x=>
      obtain⟨x',h1,h2,_⟩:=hr j x e;rw[h1];simp[h2]
  refine YG (ks:=ks') (I.ok.hd hc) pl (by omega) (by have:=hp.1;omega) (by rw[hkey];exact hn) (fun j e he=>?_) fun h' tk kk hD=>?_
  · have hj:j<ks.length:=by
      have:=(List.getElem?_eq_some_iff.mp he).1;omega
    obtain⟨e',h1,_,_,t,u,h2,h3⟩:=hr j ks[j] (List.getElem?_eq_getElem hj);rw[he] at h1;cases h1;exact⟨t,u,h2,h3⟩
  · have hf:H s.heap.objs.size=none:=I.hok.fresh (Nat.le_refl _);refine⟨.ref s.heap.objs.size,_,I.laid (o:=.dK (fP ks)) (t':=tk) kk (Nat.le_refl _) ?_,rfl,q _ hf⟩;refine(show cH _ _ _ _ _ (.dK (fP ks)) from⟨by have:=hp.1;rw[fP,List.length_map];omega,?_,fP ks',Nz hl' fun j x y h1 h2=>?_,hD⟩)
    ·exact beq_eq_false_iff_ne.mpr (Nat.ne_of_gt I.big)
    ·obtain⟨x',h3,h4,h5,_⟩:=hr j x h1;rw[h2] at h3;cases h3;exact⟨h4,h5⟩
end
section
variable {X:Cx} {K:W.Frag}
def fDP (K:W.Frag):List V→Hp→VK→Prop:=fun xs H Q=>ar1 xs fun x=>isRef x fun l=>∃tv,bA K H l tv∧∃ks,vI H tv ks∧(ks.map (·.1)).Nodup∧∀p,H p=none→Q (.ref p) (upd H p (.dK (fP ks)))
@[simp ↓] theorem qgw (K:W.Frag) xs H Q:fDP K xs H Q=(ar1 xs fun x=>isRef x fun l=>∃tv,bA K H l tv∧∃ks,vI H tv ks∧(ks.map (·.1)).Nodup∧∀p,H p=none→Q (.ref p) (upd H p (.dK (fP ks)))):=rfl
theorem qc7 {K:W.Frag} {xs H Q} (h:fDP K xs H Q):rDP K xs H Q:=by
  obtain⟨x,rfl,h⟩:=ar1.out h;obtain⟨l,rfl,h⟩:=isRef.out h;obtain⟨tv,h1,ks,h2⟩:=h;exact⟨l,tv,ks,rfl,h1,h2⟩
def Z4:List V→Hp→VK→Prop:=fun xs H Q=>ar1 xs fun x=>isRef x fun a=>∃kvs,H a=some (.dK kvs)∧Q (.int kvs.length) H
@[simp ↓] theorem qeN xs H Q:Z4 xs H Q=(ar1 xs fun x=>isRef x fun a=>∃kvs,H a=some (.dK kvs)∧Q (.int kvs.length) H):=rfl
theorem yI (hK:X.K=K) (hc:X.calm=true):cu X (.type "dict") (fDP K):=(NK hK hc).mono qc7
theorem VG:cu X (.builtin "len") Z4:=Ri.mono fun h=>by
  obtain⟨x,rfl,h⟩:=ar1.out h;obtain⟨l,rfl,h⟩:=isRef.out h;obtain⟨kvs,h1,h2⟩:=h;exact⟨l,kvs,rfl,h1,h2⟩
end
section
variable {X:Cx} {K:W.Frag}
end
def qc8:Key→PyData
  | .inl i=>.int i
  | .inr x=>.str x
inductive LfT:List (List Key×V)→List (PyData×PyData)→Prop
  | nil:LfT [] []
  | cons {k v d ks kvs}:Lf v d→LfT ks kvs→LfT ((k,v)::ks) ((.tuple (k.map qc8),d)::kvs)
def VH (H:Hp) (a:Addr) (kvs:List (PyData×PyData)):Prop:=(∃ks,Cd ks kvs∧H a=some (.dK (ks.map fun e=>((Sum.inr e.1:Key),e.2))))∨∃ks,LfT ks kvs∧H a=some (.dT ks)
theorem VH.same {H H':Hp} {a:Addr} {kvs:List (PyData×PyData)} (s:Same H H') (h:VH H a kvs):VH H' a kvs:=by
  rcases h with⟨ks,h1,h2⟩ | ⟨ks,h1,h2⟩
  ·exact .inl ⟨ks,h1,s _ _ h2⟩
  ·exact .inr ⟨ks,h1,s _ _ h2⟩
theorem Gm {h:Heap}:∀{ks:List Key} {us:List Value},Vals (ks.map kV) us→ReadsAll h us (ks.map qc8) []
  | [],_,r=>by rw[List.map_nil] at r;cases r;exact .nil
  | k::ks,_,r=>by
    rw[List.map_cons] at r;cases r with
    | cons r1 r2=>
      refine ReadsAll.cons (as:=[]) (bs:=[]) ?_ (Gm r2);cases k with
      | inl i=>obtain⟨t,rfl⟩:=r1;exact .int i t
      | inr x=>obtain⟨t,rfl⟩:=r1;exact .str x t
theorem Gn {P:Program} {w:World} {H:Hp} {h:Heap} (ok:qH P w H h):∀{ks:List (List Key×V)} {kvs:List (PyData×PyData)} {xs:List (List Key×Addr×Value)},LfT ks kvs→KT H ks xs→
    ReadsAll h ((xs.map (entryOfKey (tupleKind (bh P w)))).map (·.key)) (kvs.map (·.1)) []∧ReadsAll h ((xs.map (entryOfKey (tupleKind (bh P w)))).map (·.val)) (kvs.map (·.2)) []
  | _,_,_,.nil,kt=>by
    cases kt;exact⟨.nil,.nil⟩
  | _,_,_,.cons (k:=k) l ls,kt=>by
    cases kt with
    | @cons _ q _ qs r rs=>
      obtain⟨i1,i2⟩:=Gn ok ls rs;obtain⟨r1,r2,r3⟩:=r;simp only at r1 r2 r3;obtain⟨_,its,rv,o,h1,h2,n,h3⟩:=(show cH P w H h _ (.tup _) from ok _ _ r2);simp only[List.map_cons];refine⟨ReadsAll.cons (as:=[]) (bs:=[]) ?_ i1,ReadsAll.cons (as:=[]) (bs:=[]) ?_ i2⟩
      ·exact Reads.tuple h1 h2 h3 (by simpa using Gm rv)
      ·exact l.reads r3
theorem Cj {P:Program} {w:World} {H:Hp} {h:Heap} {a:Addr} {kvs:List (PyData×PyData)} (ok:qH P w H h) (l:VH H a kvs):Reads h (.ref a) (.dict kvs) [a]∧(a == sysModules)=false:=by
  rcases l with⟨ks,h1,h2⟩ | ⟨ks,h1,h2⟩
  ·exact zB ok h1 h2
  ·obtain⟨_,hd,xs,kt,o,es,ep,q1,q2,q3,q4,q5,q6⟩:=qcs ok h2;obtain⟨r1,r2⟩:=Gn ok h1 kt;rw[← q4] at r1 r2;exact⟨Reads.dict (as:=[]) (bs:=[]) q1 q2.1 q3 r1 r2,hd⟩
mutual
def bC (H:Hp):PyData→V→Prop
  | .none,v=>v = .non
  | .bool b,v=>v = .bl b
  | .int i,v=>v = .int i
  | .str x,v=>v = .str x
  | .list ds,v=>∃a xs,v = .ref a∧H a=some (.lst xs)∧aW H ds xs
  | .tuple ds,v=>∃a xs,v = .ref a∧H a=some (.tup xs)∧aW H ds xs
  | .dict kvs,v=>∃a,v = .ref a∧VH H a kvs
def aW (H:Hp):List PyData→List V→Prop
  | [],vs=>vs=[]
  | d::ds,vs=>∃v r,vs=v::r∧bC H d v∧aW H ds r
end
mutual
theorem bC.same {H H':Hp} (s:Same H H'):∀(d:PyData) (v:V),bC H d v→bC H' d v
  | .none,v,h=>by simp only[bC] at h ⊢;exact h
  | .bool b,v,h=>by simp only[bC] at h ⊢;exact h
  | .int i,v,h=>by simp only[bC] at h ⊢;exact h
  | .str x,v,h=>by simp only[bC] at h ⊢;exact h
  | .list ds,v,h=>by
    simp only[bC] at h ⊢;obtain⟨a,xs,e,h1,h2⟩:=h;exact⟨a,xs,e,s _ _ h1,aW.same s ds xs h2⟩
  | .tuple ds,v,h=>by
    simp only[bC] at h ⊢;obtain⟨a,xs,e,h1,h2⟩:=h;exact⟨a,xs,e,s _ _ h1,aW.same s ds xs h2⟩
  | .dict kvs,v,h=>by
    simp only[bC] at h ⊢;obtain⟨a,e,h1⟩:=h;exact⟨a,e,h1.same s⟩
theorem aW.same {H H':Hp} (s:Same H H'):∀(ds:List PyData) (vs:List V),aW H ds vs→aW H' ds vs
  | [],vs,h=>by simp only[aW] at h ⊢;exact h
  | d::ds,vs,h=>by
    simp only[aW] at h ⊢;obtain⟨v,r,e,h1,h2⟩:=h;exact⟨v,r,e,bC.same s d v h1,aW.same s ds r h2⟩
end
theorem aW.length {H:Hp}:∀{ds:List PyData} {xs:List V},aW H ds xs→ds.length=xs.length
  | [],_,h=>by simp only[aW] at h;subst h;rfl
  | d::ds,_,h=>by
    simp only[aW] at h;obtain⟨v,r,rfl,h1,h2⟩:=h;simp[aW.length h2]
theorem aW.at {H:Hp}:∀{ds:List PyData} {xs:List V} {i:Nat} {v:V},aW H ds xs→xs[i]? = some v→∃d,ds[i]? = some d∧bC H d v
  | [],_,i,v,h,e=>by simp only[aW] at h;subst h;simp at e
  | d::ds,_,0,v,h,e=>by
    simp only[aW] at h;obtain⟨w,r,rfl,h1,h2⟩:=h;simp at e;subst e;exact⟨d,rfl,h1⟩
  | d::ds,_,i+1,v,h,e=>by
    simp only[aW] at h;obtain⟨w,r,rfl,h1,h2⟩:=h;obtain⟨c,h3,h4⟩:=aW.at (i:=i) h2 (by simpa using e);exact⟨c,by simpa using h3,h4⟩
section
variable {X:Cx} {p_:List (Addr×Obj)} {σ:St} {H:Hp} {s:Shared}
mutual
theorem bC.reads (I:Inv X p_ σ H s):∀(d:PyData) (v:V) (u:Value),bC H d v→RelV v u→∃as,Reads s.heap u d as
  | .none,v,u,h,r=>by
    simp only[bC] at h;subst h;cases r;exact⟨_,.none⟩
  | .bool b,v,u,h,r=>by
    simp only[bC] at h;subst h;cases r;exact⟨_,.bool b⟩
  | .int i,v,u,h,r=>by
    simp only[bC] at h;subst h;obtain⟨t,rfl⟩:=r;exact⟨_,.int i t⟩
  | .str x,v,u,h,r=>by
    simp only[bC] at h;subst h;obtain⟨t,rfl⟩:=r;exact⟨_,.str x t⟩
  | .list ds,v,u,h,r=>by
    simp only[bC] at h;obtain⟨a,xs,rfl,hq,hs⟩:=h;cases r;obtain⟨its,rv,pl,hz⟩:=I.list (bA.of hq);obtain⟨o,e,c,n,dt⟩:=pl.isList;obtain⟨as,ra⟩:=aW.reads I ds xs its hs rv;exact⟨_,.list e c dt (by simpa using ra)⟩
  | .tuple ds,v,u,h,r=>by
    simp only[bC] at h;obtain⟨a,xs,rfl,hq,hs⟩:=h;cases r;obtain⟨its,rv,pl,hz⟩:=I.tuple (jK.of hq);obtain⟨o,e,c,n,dt⟩:=pl;obtain⟨as,ra⟩:=aW.reads I ds xs its hs rv;exact⟨_,.tuple e c dt (by simpa using ra)⟩
  | .dict kvs,v,u,h,r=>by
    simp only[bC] at h;obtain⟨a,rfl,h1⟩:=h;cases r;exact⟨_,(Cj I.hok h1).1⟩
theorem aW.reads (I:Inv X p_ σ H s):∀(ds:List PyData) (vs:List V) (us:List Value),aW H ds vs→Vals vs us→∃as,ReadsAll s.heap us ds as
  | [],vs,us,h,r=>by
    simp only[aW] at h;subst h;cases r;exact⟨_,.nil⟩
  | d::ds,vs,us,h,r=>by
    simp only[aW] at h;obtain⟨v,vr,rfl,h1,h2⟩:=h;cases r with
    | cons r1 r2=>
      obtain⟨as,ra⟩:=bC.reads I d v _ h1 r1;obtain⟨bs,rb⟩:=aW.reads I ds vr _ h2 r2;exact⟨_,.cons ra rb⟩
end
mutual
theorem bC.vH (I:Inv X p_ σ H s):∀(d:PyData) (v:V) (u:Value),bC H d v→RelV v u→d.showable=true→d.shown.length≤sizeLine→
    ∃bs,ReadAtMost s.heap d.depth bs∧ReprK X.prog X.w bs s.heap d.depth u d.shown
  | .none,v,u,h,r,hs,hz=>by
    obtain⟨as,ra⟩:=bC.reads I _ v u h r;exact ReprK.of_reads ra hs (PyData.noDict_hsm rfl) hz
  | .bool b,v,u,h,r,hs,hz=>by
    obtain⟨as,ra⟩:=bC.reads I _ v u h r;exact ReprK.of_reads ra hs (PyData.noDict_hsm rfl) hz
  | .int i,v,u,h,r,hs,hz=>by
    obtain⟨as,ra⟩:=bC.reads I _ v u h r;exact ReprK.of_reads ra hs (PyData.noDict_hsm rfl) hz
  | .str x,v,u,h,r,hs,hz=>by
    obtain⟨as,ra⟩:=bC.reads I _ v u h r;exact ReprK.of_reads ra hs (PyData.noDict_hsm rfl) hz
  | .list ds,v,u,h,r,hs,hz=>by
    obtain⟨as,ra⟩:=bC.reads I (.list ds) v u h r;simp only[bC] at h;obtain⟨a,xs,rfl,hq,hall⟩:=h;cases r;obtain⟨its,rv,pl,hzz⟩:=I.list (bA.of hq);obtain⟨o,e,c,n,dt⟩:=pl.isList;have hzL:(listText (PyData.shownAll ds)).length≤sizeLine:=by simpa only[PyData.shown] using hz
    obtain⟨bs,mb,kb⟩:=aW.vH I ds xs its hall rv (by simpa [PyData.showable] using hs) (fun t ht=>Nat.le_trans (listText_mem_le ht) hzL);have nab:a∉bs:=not_mem_of_deeper ra (by simp only[PyData.depth];exact Nat.lt_succ_self _) mb;refine⟨a::bs,ReadAtMost.cons ra (by simp only[PyData.depth];omega) mb,?_⟩;simp only[PyData.depth,PyData.shown];cases its with
    | nil=>
      cases rv;have e2:ds=[]:=List.eq_nil_of_length_eq_zero hall.length;subst e2;simp only[PyData.shownAll,listText_nil];exact ReprK.listEmpty e c dt
    | cons x l=>exact ReprK.list e c dt nab (by simpa using kb.length_eq) (fun i y z=>kb.item i y (by simpa using z))
  | .tuple ds,v,u,h,r,hs,hz=>by
    obtain⟨as,ra⟩:=bC.reads I (.tuple ds) v u h r;simp only[bC] at h;obtain⟨a,xs,rfl,hq,hall⟩:=h;cases r;obtain⟨its,rv,pl,hzz⟩:=I.tuple (jK.of hq);obtain⟨o,e,c,n,dt⟩:=pl;have hzL:(tupleText (PyData.shownAll ds)).length≤sizeLine:=by simpa only[PyData.shown] using hz
    obtain⟨bs,mb,kb⟩:=aW.vH I ds xs its hall rv (by simpa [PyData.showable] using hs) (fun t ht=>Nat.le_trans (tupleText_mem_le ht) hzL);have nab:a∉bs:=not_mem_of_deeper ra (by simp only[PyData.depth];exact Nat.lt_succ_self _) mb;refine⟨a::bs,ReadAtMost.cons ra (by simp only[PyData.depth];omega) mb,?_⟩;simp only[PyData.depth,PyData.shown];exact ReprK.tuple e c dt nab (by simpa using kb)
  | .dict kvs,v,u,h,r,hs,hz=>by
    simp only[bC] at h;obtain⟨a,rfl,h1⟩:=h;cases r;obtain⟨ra,hd⟩:=Cj I.hok h1;refine ReprK.of_reads ra hs (fun _ hm=>?_) hz;rw[List.mem_singleton] at hm;rw[← hm] at hd;simp at hd
theorem aW.vH (I:Inv X p_ σ H s):∀(ds:List PyData) (vs:List V) (us:List Value),aW H ds vs→Vals vs us→PyData.showableAll ds=true→(∀t∈PyData.shownAll ds,t.length≤sizeLine)→
    ∃bs,ReadAtMost s.heap (PyData.depthAll ds) bs∧ReprAllK X.prog X.w bs s.heap (PyData.depthAll ds) us (PyData.shownAll ds)
  | [],vs,us,h,r,_,_=>by
    simp only[aW] at h;subst h;cases r;exact⟨[],(fun _ h=>nomatch h),.nil⟩
  | d::ds,vs,us,h,r,hs,hz=>by
    simp only[aW] at h;obtain⟨v,vr,rfl,h1,h2⟩:=h;simp only[PyData.showableAll,Bool.and_eq_true] at hs;simp only[PyData.shownAll,List.mem_cons,forall_eq_or_imp] at hz;cases r with
    | cons r1 r2=>
      obtain⟨b1,m1,k1⟩:=bC.vH I d v _ h1 r1 hs.1 hz.1;obtain⟨b2,m2,k2⟩:=aW.vH I ds vr _ h2 r2 hs.2 hz.2;refine⟨b1++b2,(m1.mono ?_).append (m2.mono ?_),?_⟩
      ·simp only[PyData.depthAll];exact Nat.le_max_left ..
      ·simp only[PyData.depthAll];exact Nat.le_max_right ..
      · simp only[PyData.shownAll];refine .cons ((k1.more fun b hb=>List.mem_append_left _ hb).level_le ?_) (k2.more_le (fun b hb=>List.mem_append_right _ hb) ?_)
        ·simp only[PyData.depthAll];exact Nat.le_max_left ..
        ·simp only[PyData.depthAll];exact Nat.le_max_right ..
end
end
section
variable {X:Cx} {e:Expr} {es:List Expr} {te:TE} {t:TA}
structure PAq (X:Cx) (es:List Expr) (t:TA):Prop where
  out:PA X es t
theorem RD {env:Env} (h:∀a b,e≠.Starred a b):starEach (e::es) env=(false,eval e env)::starEach es env:=by
  cases e <;> first | rfl | exact absurd rfl (h _ _)
theorem Ak:PAq X [] mZ:=⟨ak⟩
theorem bw (ha:PE X e te) (hr:PAq X es t) (hn:∀a b,e≠.Starred a b:=by(intro _ _ h;cases h)):PAq X (e::es) (dW te t):=⟨aj ha hr.out (RD hn)⟩
end
structure Z5 (X:Cx) (e:Expr) (te:TE):Prop where
  out:PE X e te
theorem Al {X:Cx} {es:List Expr} {t:TA} {pos:Pos} (h:PAq X es t):Z5 X (.List es pos) (Bh t):=⟨cC h.out⟩
structure VJ (X:Cx) (st:Stmt) (t:TS):Prop where
  out:PS X st t
structure Kv (X:Cx) (st:List Stmt) (t:TS):Prop where
  out:D_ X st t
section
variable {X:Cx} {st:Stmt} {rest:List Stmt} {t u:TS} {e a b:Expr} {te ta tb:TE} {pos:Pos}
theorem dD (h1:VJ X st t) (h2:Kv X rest u):Kv X (st::rest) (qar t u):=⟨aF h1.out h2.out⟩
theorem Am {i:Nat} {x:Str} {pos':Pos} (hN:X.N.Nodup) (hi:X.N[i]? = some x) (hx:Loc X.env.scope x) (he:Z5 X e te) (hs:swapsWith e (some (.Name x pos')) pos.line X.env=pure false:=by rfl) (hf:X.fn x=true∨X.env.scope.names.lookup x=some .local:=by first | exact .inl rfl | exact .inr rfl | assumption) :
    VJ X (.Assign [.Name x pos'] e pos) (QF te (Fo i)):=⟨bJ hN hi hx he.out hs hf⟩
theorem qbn {r:R2} (hr:R8 X r) (ha:Z5 X a ta) (hb:Z5 X b tb) (hs:Pa b):Z5 X (.Subscript a b pos) (Mj r ta tb):=⟨cW hr ha.out hb.out hs⟩
theorem Qe (h:Z5 X e te):Z5 X e (big te):=⟨Cg h.out⟩
end
end L2
namespace L2
open PySem PySem.Spec PySem.W PyProof.Rows
section
variable {prog:Program} {w:World} {A:Around} {E:Value→Shared→Prop} {K:W.Frag} {h:Heap} {g:Array GenState} {d:Drawn} {t:Nat} {os:OsState}
variable {nm q:Str} {C N:Addr} {bs bm:List Value} {hdct:Bool} {sn:List Str} {sub:List Value} {ab:Bool} {col:Option Bool} {dd:Option Addr} {k0 k1 k2 k3 k5:Option Value}
structure qfR (K:W.Frag) (C:Addr):Prop where
  ga:findIn K (.ref C) "__getattribute__" = some (some (.builtin "BaseException.__getattribute__"))
  gn:findIn K (.ref C) "__getattr__" = some none
  mb:mroIn K C (.type "BaseException")=some true
  hd:hasDictIn K C=true
structure qfS (K:W.Frag) (C PE:Addr):Prop where
  sa:findIn K (.ref C) "__setattr__" = some (some (.builtin "object.__setattr__"))
  mo:mroIn K C (.type "object")=some true
  cl:∃cd,clsIn K C=some cd∧cd.mro = .ref C::.ref PE::zA∧cd.hasDict=true
end
end L2
namespace L2
open PySem PySem.Spec PyProof.Rows
section
variable {P:Program} {w:World} {H:Hp} {h:Heap} {x C dx:Addr} {od:Option Addr} {fs:List (Str×V)}
theorem qbo {o:HO} (e:H x=some o):upd H x o=H:=funext fun b=>by
  by_cases hb:b=x
  ·subst hb;rw[ao,e]
  ·rw[aG hb]
end
structure XMk (K:W.Frag) (C B f:Addr):Prop where
  ob:∃nm q N bs hdct sn sub ab col dd k0 k1 k2 k3 k5,K.lookup C=some (excClassObj nm q C N bs (.ref B::zA) hdct sn sub ab col dd k0 k1 k2 k3 k5 "ValueError.__new__")
  pe:vR K B
  pm:∃cd,W.clsIn K B=some cd∧cd.mro = .ref B::zA
  init:W.findIn K (.ref C) "__init__" = some (some (.ref f))
  fn:W.typeIn K (.ref f)=some (.type "function")
  kp:W.keepIn K (.ref C)=true
end L2
namespace L2
open PySem
theorem Kw {K:W.Frag} {C:Addr}:W.kitOne K (.ref C) (.ref C)=some true:=by
  unfold W.kitOne;simp
theorem eV {K:W.Frag} {C D:Addr} {b:Bool} (ne:(C == D)=false) (i:W.isClsIn K D=true) (t:W.typeIn K (.ref D)=some (.type "type")) (s:W.subIn K (.ref C) (.ref D)=some b):W.kitOne K (.ref C) (.ref D)=some b:=by
  have i':(W.clsIn K D).isSome=true:=i;have ne':C≠D:=by simpa using ne
  unfold W.kitOne W.kitCls;rw[if_neg (by simpa using ne')];show(if _ then _ else _)=_
  rw[if_pos (by rw[i',t];rfl)];exact s
theorem VL:W.kitMeta "ValueError" = true:=by decide+kernel
theorem VN {K:W.Frag} {C:Addr} {T:String} {b:Bool} (m:W.kitMeta T=true) (s:W.subIn K (.ref C) (.type T)=some b):W.kitOne K (.ref C) (.type T)=some b:=by
  unfold W.kitOne W.kitCls;rw[if_neg (by simp)];show(if _ then _ else _)=_
  rw[if_pos m];exact s
theorem Qf {C D:Addr} (h:(C == D)=false):C≠D:=by simpa using h
end L2
namespace L2
open PySem PySem.Spec PyProof.Rows PySem.SeqAt
structure XC (K:W.Frag) (C B:Addr):Prop where
  cl:∃cd,W.clsIn K C=some cd∧cd.mro = .ref C::.ref B::zA∧cd.hasDict=true
  ty:W.typeIn K (.ref C)=some (.type "type")
  ga:W.findIn K (.ref C) "__getattribute__" = some (some (.builtin "BaseException.__getattribute__"))
  gn:W.findIn K (.ref C) "__getattr__" = some none
  gc:W.findIn K (.ref C) "__class__" = some (some (.builtin "object.__class__"))
  kp:W.keepIn K (.ref C)=true
section
variable {K:W.Frag} {C D B:Addr}
end
def ar3 (vs:List V) (R:V→V→V→Prop):Prop:=match vs with
  | [u,v,w]=>R u v w
  | _=>False
@[simp ↓] theorem qgx u v w R:ar3 [u,v,w] R=R u v w:=rfl
end L2
namespace L2
open PySem PySem.Spec PyProof.Rows
end L2
namespace L2
open PySem PySem.Spec
section
variable {σ:St} {H:Hp} {p:Addr}
variable {φ:PyData→Prop}
end
theorem VP {n j:Nat} {d:Nat}:HT.GX n d (some (j:Int))=min j n:=by
  simp[HT.GX];intro h;omega
theorem VR {xs:List V} {j:Nat}:yq xs none (some (j:Int))=xs.take j:=by
  unfold yq;rw[VP];simp[HT.GX,List.take_eq_take_iff]
theorem Ky {xs:List V} {j:Nat}:yq xs (some (j:Int)) none=xs.drop j:=by
  unfold yq;rw[VP];simp[HT.GX];rw[List.take_of_length_le (by simp)]
  by_cases h:j≤xs.length
  ·rw[Nat.min_eq_left h]
  ·rw[Nat.min_eq_right (by omega),List.drop_of_length_le (Nat.le_refl _),List.drop_of_length_le (by omega)]
structure Ltr (n:Nat) (x:Str):Prop where
  cp:∀c∈x.cps.toList,c<16 ^ 8
  ln:x.length≤n
def jO:List Str:=(Str.ofString "abcdefghijklmnopqrstuvwxyz").cps.toList.map fun c=>⟨#[c]⟩
theorem RG:jO.Nodup:=by decide+kernel
theorem Ck:jO.length=26:=by decide+kernel
theorem YH {α:Type} [DecidableEq α] {l xs:List α} (h:l.Nodup):l.length≤(l.filter fun x=>!decide (x∈xs)).length+xs.length:=by
  have h1:=Gb (l:=l.filter fun x=>decide (x∈xs)) (xs:=xs) (List.Pairwise.filter _ h) fun y hy=>by simpa using (List.mem_filter.mp hy).2
  have h2:∀l:List α,l.length=(l.filter fun x=>!decide (x∈xs)).length+(l.filter fun x=>decide (x∈xs)).length:=by
    intro l
    induction l with
    | nil=>rfl
    | cons a l ih=>
      by_cases ha:a∈xs <;> simp[ha] <;> omega
  have:=h2 l;omega
theorem dictText_len_le (ts:List Str):(dictText ts).length≤(ts.map (·.length)).sum+2 * ts.length+3:=by
  have la:∀x y:Str,(x++y).length=x.length+y.length:=fun x y=>Array.size_append;unfold dictText;rw[la,la,show("{" : Str).length=1 from rfl,show("}" : Str).length=1 from rfl];have h:(Str.join ", " ts).length≤(ts.map (·.length)).sum+ts.length * 2:=StrLaws.join_length_le ", " ts;omega
theorem V0 {kvs:List (PyData×PyData)} {k n m:Nat} (h:∀e∈kvs,oF k n e.1∧oF k n e.2) (hl:(2 * n+4) * kvs.length+3≤m):oF (k+1) m (.dict kvs):=by
  have la:∀x y:Str,(x++y).length=x.length+y.length:=fun x y=>Array.size_append;have key:∀kvs:List (PyData×PyData),(∀e∈kvs,oF k n e.1∧oF k n e.2)→PyData.showableKv kvs=true∧PyData.depthKv kvs≤k∧(PyData.shownKv kvs).length=kvs.length∧((PyData.shownKv kvs).map (·.length)).sum≤(2 * n+2) * kvs.length:=by
    intro kvs
    induction kvs with
    | nil=>intro _;simp[PyData.showableKv,PyData.depthKv,PyData.shownKv]
    | cons e r ih=>
      intro h;obtain⟨⟨a1,a2,a3⟩,b1,b2,b3⟩:=h e List.mem_cons_self;obtain⟨i1,i2,i3,i4⟩:=ih fun e he=>h e (List.mem_cons_of_mem _ he);obtain⟨x,y⟩:=e;simp only at a1 a2 a3 b1 b2 b3;simp only[PyData.showableKv,PyData.depthKv,PyData.shownKv,a1,b1,i1,List.length_cons,List.map_cons,List.sum_cons,i3,la];refine⟨rfl,by simp only[Nat.max_le];omega,trivial,?_⟩;rw[show(": " : Str).length=2 from rfl,Nat.mul_succ];omega
  obtain⟨h1,h2,h3,h4⟩:=key kvs h;have:=dictText_len_le (PyData.shownKv kvs);refine⟨by simpa [PyData.showable] using h1,by simp only[PyData.depth];omega,?_⟩;simp only[PyData.shown];rw[h3] at this;have e:(2 * n+4) * kvs.length=(2 * n+2) * kvs.length+2 * kvs.length:=by rw[← Nat.add_mul]
  omega
section
variable {σ:St} {H:Hp} {p:Addr} {K:W.Frag}
theorem Ao {vs:List V} {k:Int} {n:Nat} (h:vs.length=n) (h0:0≤k) (h1:k<n):∃v,v∈vs∧Fy vs k=some v:=by
  obtain⟨v,hv⟩:∃v,vs[k.toNat]? = some v:=⟨_,List.getElem?_eq_getElem (show k.toNat<vs.length by omega)⟩;refine⟨v,List.mem_of_getElem? hv,?_⟩;rw[show k=(k.toNat:Int) by omega];exact cJ hv
end
theorem vI.snoc {H H':Hp} {tv:List V} {ks:List (Str×V)} {x:Str} {v:V} {t:Addr} (h:vI H tv ks) (s:∀b ys,H b=some (.tup ys)→H' b=some (.tup ys)) (ht:H' t=some (.tup [.str x,v])):vI H' (tv++[.ref t]) (ks++[(x,v)]):=by
  obtain⟨h1,h2⟩:=h;refine⟨by simp[h1],fun i e he=>?_⟩
  rcases Nat.lt_or_ge i ks.length with hi | hi
  ·rw[List.getElem?_append_left hi] at he;obtain⟨u,q1,q2⟩:=h2 i e he;exact⟨u,by rw[List.getElem?_append_left (by omega)];exact q1,s _ _ q2⟩
  · rw[List.getElem?_append_right hi] at he;have hz:i - ks.length=0:=by
      rcases Nat.eq_zero_or_pos (i - ks.length) with z | z
      ·exact z
      ·rw[List.getElem?_eq_none (by simp;omega)] at he;cases he
    rw[hz] at he;cases he;exact⟨t,by rw[List.getElem?_append_right (by omega),h1,hz];rfl,ht⟩
section
variable {σ:St} {H:Hp} {p:Addr} {K:W.Frag}
mutual
theorem cL.x {H:Hp}:∀(d:PyData) (v:V),cL H d v→bC H d v
  | .none,v,h=>by simp only[cL,bC] at h ⊢;exact h
  | .bool b,v,h=>by simp only[cL,bC] at h ⊢;exact h
  | .int i,v,h=>by simp only[cL,bC] at h ⊢;exact h
  | .str x,v,h=>by simp only[cL,bC] at h ⊢;exact h
  | .list ds,v,h=>by
    simp only[cL,bC] at h ⊢;obtain⟨a,xs,e,h1,h2⟩:=h;exact⟨a,xs,e,h1,aU.x ds xs h2⟩
  | .tuple ds,v,h=>by
    simp only[cL,bC] at h ⊢;obtain⟨a,xs,e,h1,h2⟩:=h;exact⟨a,xs,e,h1,aU.x ds xs h2⟩
  | .dict kvs,v,h=>by
    simp only[cL,bC] at h ⊢;obtain⟨rfl,a,e,h1⟩:=h;exact⟨a,e,.inl ⟨[],.nil,h1⟩⟩
theorem aU.x {H:Hp}:∀(ds:List PyData) (vs:List V),aU H ds vs→aW H ds vs
  | [],vs,h=>by simp only[aU,aW] at h ⊢;exact h
  | d::ds,vs,h=>by
    simp only[aU,aW] at h ⊢;obtain⟨v,r,e,h1,h2⟩:=h;exact⟨v,r,e,cL.x d v h1,aU.x ds r h2⟩
end
theorem V1:GD p M_ σ H (.dict []):=fun H1 Q hp s q b hb=>q _ _ (aq hb) (by simp only[cL];exact⟨trivial,b,rfl,cj (fY hp s hb) ao⟩)
theorem Gp {H:Hp}:∀{ds:List PyData} {xs:List V} (j:Nat),aU H ds xs→aU H (ds.take j) (xs.take j)
  | ds,xs,0,h=>by simp[aU]
  | [],xs,j+1,h=>by simp only[aU] at h;subst h;simp[aU]
  | d::ds,xs,j+1,h=>by
    simp only[aU] at h;obtain⟨v,r,rfl,h1,h2⟩:=h;simp only[List.take_succ_cons,aU];exact⟨v,_,rfl,h1,Gp j h2⟩
theorem Gq {H:Hp}:∀{ds:List PyData} {xs:List V} (j:Nat),aU H ds xs→aU H (ds.drop j) (xs.drop j)
  | ds,xs,0,h=>by simpa using h
  | [],xs,j+1,h=>by simp only[aU] at h;subst h;simp[aU]
  | d::ds,xs,j+1,h=>by
    simp only[aU] at h;obtain⟨v,r,rfl,h1,h2⟩:=h;simp only[List.drop_succ_cons];exact Gq j h2
theorem tW {ta tb:TE} {ds es:List PyData} (h1:GD p ta σ H (.list ds)) (h2:GD p tb σ H (.list es)) (hl:ds.length+es.length≤sizeLine):GD p (Mj HN ta tb) σ H (.list (ds++es)):=fun H1 Q hp s q=>
  h1 H1 _ hp s fun v H2 s2 hv=>h2 H2 _ hp (s.trans s2) fun u H3 s3 hu=>by
    have hv:=cL.same (bV s3) _ _ hv;simp only[cL] at hv hu;obtain⟨a,xs,rfl,a1,a2⟩:=hv;obtain⟨b,ys,rfl,b1,b2⟩:=hu;have l1:=a2.length;have l2:=b2.length;refine⟨xs,fB _ _ a1,ys,fB _ _ b1,by omega,fun c hc=>q _ _ (s2.trans (s3.trans (aq hc))) ?_⟩;simp only[cL];exact⟨c,_,rfl,cj (fY hp (s.trans (s2.trans s3)) hc) ao,aU.same (bV (aq hc)) _ _ (aU.append a2 b2)⟩
theorem V2 {t tj:TE} {ds:List PyData} {j:Nat} (h1:GD p t σ H (.list ds)) (h2:GD p tj σ H (.int j)):GD p (tSl (Vc K) t Aa (PK tj)) σ H (.list (ds.take j)):=fun H1 Q hp s q=>
  h1 H1 _ hp s fun v H2 s2 hv=>h2 H2 _ hp (s.trans s2) fun u H3 s3 hu=>by
    have hv:=cL.same (bV s3) _ _ hv;simp only[cL] at hv hu;subst hu;obtain⟨a,xs,rfl,a1,a2⟩:=hv;refine⟨xs,bA.of (fB _ _ a1),fun c hc=>q _ _ (s2.trans (s3.trans (aq hc))) ?_⟩;rw[VR];simp only[cL];exact⟨c,_,rfl,cj (fY hp (s.trans (s2.trans s3)) hc) ao,aU.same (bV (aq hc)) _ _ (Gp j a2)⟩
theorem Qg {t tj:TE} {ds:List PyData} {j:Nat} (h1:GD p t σ H (.list ds)) (h2:GD p tj σ H (.int j)):GD p (tSl (Vc K) t (PK tj) Aa) σ H (.list (ds.drop j)):=fun H1 Q hp s q=>
  h1 H1 _ hp s fun v H2 s2 hv=>h2 H2 _ hp (s.trans s2) fun u H3 s3 hu=>by
    have hv:=cL.same (bV s3) _ _ hv;simp only[cL] at hv hu;subst hu;obtain⟨a,xs,rfl,a1,a2⟩:=hv;refine⟨xs,bA.of (fB _ _ a1),fun c hc=>q _ _ (s2.trans (s3.trans (aq hc))) ?_⟩;rw[Ky];simp only[cL];exact⟨c,_,rfl,cj (fY hp (s.trans (s2.trans s3)) hc) ao,aU.same (bV (aq hc)) _ _ (Gq j a2)⟩
theorem V3 {ta:TE} {i:Int} (h1:GD p ta σ H (.int i)):GD p (tUn (fU fun i=>.int (-i)) ta) σ H (.int (-i)):=fun H1 Q hp s q=>
  h1 H1 _ hp s fun v H2 s2 hv=>by
    simp only[cL] at hv;subst hv;exact q _ H2 s2 (by simp[cL])
theorem V4 {t:TE} {ds:List PyData} (h1:GD p t σ H (.list ds)):GD p (XM (PB K) (dW t mZ)) σ H (.int ds.length):=fun H1 Q hp s q=>
  h1 H1 _ hp s fun v H2 s2 hv=>by
    simp only[cL] at hv;obtain⟨a,xs,rfl,a1,a2⟩:=hv;refine⟨xs,.inl (bA.of (fB _ _ a1)),q _ _ s2 ?_⟩;rw[a2.length];simp[cL]
def xu (φ:PyData→Prop) (H:Hp) (vs:List V):Prop:=∀v∈vs,∃d,cL H d v∧φ d
theorem xu.same {φ:PyData→Prop} {H H':Hp} {vs:List V} (h:xu φ H vs) (s:Same H H'):xu φ H' vs:=fun v hv=>by
  obtain⟨d,h1,h2⟩:=h v hv;exact⟨d,cL.same s d v h1,h2⟩
theorem xu.app {φ:PyData→Prop} {H:Hp} {vs us:List V} (h:xu φ H vs) (k:xu φ H us):xu φ H (vs++us):=fun v hv=>(List.mem_append.mp hv).elim (h v) (k v)
def GT (φ:PyData→Prop) (p:Addr) (t:TE) (σ:St) (H:Hp):Prop:=∀(H1:Hp) (Q:VK),(∃o,H p=some o)→Same H H1→(∀v d H2,Same H1 H2→cL (hid p H2) d v→φ d→Q v H2)→t σ H1 Q
def GTs (φ:PyData→Prop) (p:Addr) (n:Nat) (t:TA) (σ:St) (H:Hp):Prop:=∀(H1:Hp) (Q:List V→Hp→Prop),(∃o,H p=some o)→Same H H1→(∀vs H2,Same H1 H2→vs.length=n→xu φ (hid p H2) vs→Q vs H2)→t σ H1 Q
variable {φ:PyData→Prop}
theorem Aq:GTs φ p 0 mZ σ H:=fun H1 Q _ _ q=>q [] H1 (Same.refl _) rfl fun v hv=>absurd hv (by simp)
theorem cU {ta:TE} {tr:TA} {n:Nat} (h1:GT φ p ta σ H) (h2:GTs φ p n tr σ H):GTs φ p (n+1) (dW ta tr) σ H:=fun H1 Q hp s q=>
  h1 H1 _ hp s fun v d H2 s2 hv hd=>h2 H2 _ hp (s.trans s2) fun vs H3 s3 hl hvs=>q _ H3 (s2.trans s3) (by simp[hl]) fun u hu=>by
    rcases List.mem_cons.mp hu with rfl | hu
    ·exact⟨d,cL.same (bV s3) d _ hv,hd⟩
    ·exact hvs u hu
theorem lK {t:TE} {d:PyData} (h:GD p t σ H d) (hf:φ d):GT φ p t σ H:=fun H1 Q hp s q=>h H1 Q hp s fun v H2 s2 hv=>q v d H2 s2 hv hf
theorem xG {t:TA} {n:Nat} (h:GTs φ p n t σ H) (hp:∃o,H p=some o) (hl:n≤sizeLine) {Q:VK} (q:∀b vs H2,H b=none→Same H H2→vs.length=n→H2 b=some (.lst vs)→xu φ (hid p H2) vs→Q (.ref b) H2):big (Bh t) σ H Q:=
  ⟨h H _ hp (Same.refl _) fun vs H2 s2 hn hv=>⟨by rw[hn];exact hl,fun b hb=>q b vs _ (lJ s2 hb) (s2.trans (aq hb)) hn ao (hv.same (bV (aq hb)))⟩⟩
end
end L2
namespace L2
open PySem PySem.Spec PyProof.Rows
section
variable {X:Cx} {p_ zc:List (Addr×Obj)} {σ σ':St} {H H':Hp} {s s':Shared} {a:Addr} {kvs:List (Key×V)} {o:Obj}
theorem Inv.freeze (I:Inv X p_ σ H s) (e:H a=some (.dK kvs)) (ho:s.heap.get? a=some o):Inv X p_ σ (upd H a (.jM o (.dK kvs))) s:=by
  have nn:∀b,H b=none→upd H a (.jM o (.dK kvs)) b=none:=fun b hb=>by rw[aG (fun z=>by rw[z,e] at hb;cases hb)];exact hb
  refine⟨I.ok,I.os,I.bare,⟨I.base.keep,I.base.slot,fun c q h1 h2 h3=>nn c (I.base.free c q h1 h2 h3),I.base.there,fun c zs h=>?_,fun c q v h=>?_,fun c qs h=>?_⟩,I.loc,I.cell,nn _ I.free,fun x c h=>nn c (I.i_ x c h),fun p hp=>?_,?_,I.len⟩
  ·have h':=I.base.tups c zs h;rw[aG (fun z=>by rw[z,e] at h';cases h')];exact h'
  ·have h':=I.base.sW c q v h;rw[aG (fun z=>by rw[z,e] at h';cases h')];exact h'
  ·obtain⟨m,h'⟩:=I.base.sZ c qs h;exact⟨m,by rw[aG (fun z=>by rw[z,e] at h';cases h')];exact h'⟩
  ·obtain⟨f1,f2,f3⟩:=I.pin p hp;exact⟨f1,nn _ f2,f3⟩
  · have st:∀c v,cH X.prog X.w H s.heap c v→cH X.prog X.w (upd H a (.jM o (.dK kvs))) s.heap c v:=fun c v x=>
      x.stay (fun _ _ _ q=>q) (fun b q=>by rw[aG (fun z=>by rw[z,e] at q;cases q)];exact q) fun b zs q=>by rw[aG (fun z=>by rw[z,e] at q;cases q)];exact q
    intro c v h
    by_cases hc:c=a
    ·subst hc;rw[ao] at h;cases h;exact⟨ho,st _ _ (I.hok _ _ e)⟩
    ·rw[aG hc] at h;exact st _ _ (I.hok _ _ h)
def jL (H H':Hp):Hp:=fun b=>match H' b,H b with
  | some (.jM o u),some (.jM _ _)=>some (.jM o u)
  | some (.jM o u),none=>some (.jM o u)
  | some (.jM _ u),some _=>some u
  | x,_=>x
theorem uU {b:Addr} (h:H' b=none):jL H H' b=none:=by unfold jL;rw[h]
theorem Cm {b:Addr} {o o':Obj} {u u':HO} (h:H' b=some (.jM o u)) (h0:H b=some (.jM o' u')):jL H H' b=some (.jM o u):=by unfold jL;rw[h,h0]
theorem RJ {b:Addr} {o:Obj} {u:HO} (h:H' b=some (.jM o u)) (h0:H b=none):jL H H' b=some (.jM o u):=by unfold jL;rw[h,h0]
theorem Qh {b:Addr} {o:Obj} {u v:HO} (h:H' b=some (.jM o u)) (h0:H b=some v) (hv:∀o' u',v≠.jM o' u'):jL H H' b=some u:=by
  unfold jL;rw[h,h0];cases v <;> first | rfl | exact absurd rfl (hv _ _)
theorem je {b:Addr} {v:HO} (h:H' b=some v) (hv:∀o u,v≠.jM o u):jL H H' b=some v:=by
  unfold jL;rw[h];cases v <;> first | rfl | exact absurd rfl (hv _ _)
theorem YJ {b:Addr} {v:HO} (h:jL H H' b=some v):H' b=some v∨∃o,H' b=some (.jM o v):=by
  cases q:H' b with
  | none=>rw[uU q] at h;cases h
  | some x=>
    by_cases hx:∃o u,x = .jM o u
    · obtain⟨o,u,rfl⟩:=hx;cases q0:H b with
      | none=>rw[RJ q q0] at h;exact .inl h
      | some y=>
        by_cases hy:∃o u,y = .jM o u
        ·obtain⟨o',u',rfl⟩:=hy;rw[Cm q q0] at h;exact .inl h
        ·rw[Qh q q0 fun o' u' z=>hy ⟨o',u',z⟩] at h;cases h;exact .inr ⟨o,rfl⟩
    ·rw[je q fun o u z=>hx ⟨o,u,z⟩] at h;exact .inl h
end
theorem KV.get {κ:Type}:∀{kvs:List (κ×V)} {vs:List (κ×Value)},KV kvs vs→∀{i:Nat} {k:κ} {x:V},kvs[i]? = some (k,x)→∃u,vs[i]? = some (k,u)∧RelV x u
  | _,_,.nil,_,_,_,h=>by simp at h
  | _,_,.cons (b:=(_,u)) ⟨e,r⟩ _,0,_,_,h=>by
    simp only[List.getElem?_cons_zero,Option.some.injEq] at h;subst h;cases e;exact⟨u,rfl,r⟩
  | _,_,.cons _ t,i+1,_,_,h=>KV.get (κ:=κ) t (i:=i) (by simpa using h)
theorem KV.len {κ:Type}:∀{kvs:List (κ×V)} {vs:List (κ×Value)},KV kvs vs→vs.length=kvs.length
  | _,_,.nil=>rfl
  | _,_,.cons _ t=>congrArg (· + 1) (KV.len t)
theorem Gs {P:Program} {w:World} {k:Key} {u:Value} (h:(bh P w).is k u=true):RelV (kV k) u:=by
  rcases cG h with⟨i,t,rfl,rfl⟩ | ⟨x,t,rfl,rfl⟩
  ·exact⟨t,rfl⟩
  ·exact⟨t,rfl⟩
section
variable {P:Program} {w:World} {H H':Hp} {h h':Heap}
theorem qH.jL (J:qH P w H' h'):qH P w (jL H H') h':=fun c v e=>by
  have st:cH P w H' h' c v→cH P w (L2.jL H H') h' c v:=fun x=>
    x.stay (fun _ _ _ q=>q) (fun b q=>je q (fun _ _ z=>nomatch z)) fun b zs q=>je q (fun _ _ z=>nomatch z)
  rcases YJ e with e | ⟨o,e⟩
  ·exact st (J _ _ e)
  ·obtain⟨_,x⟩:=J _ _ e;exact st x
theorem Un.jL {fs ex:List Addr} (u:Un fs ex H H' h h'):Un fs ex H (jL H H') h h':=
  ⟨u.keep,u.slot,fun c q h1 h2 h3=>uU (u.free c q h1 h2 h3),u.there,fun c zs e=>je (u.tups c zs e) (fun _ _ z=>nomatch z),fun c q v e=>Cm (u.sW c q v e) e,fun c qs e=>by
    obtain⟨m,e'⟩:=u.sZ c qs e;exact⟨m,je e' (fun _ _ z=>nomatch z)⟩⟩
def V5 (sp:Sp):Sp:=fun vs H Q E=>sp vs H (fun v H'=>Q v (jL H H')) fun C od H'=>E C od (jL H H')
theorem bZ.jL {K:W.Frag} {mg:Str→Option Value} {base:Heap} {k:Nat} {f:Addr} {fd:FuncData} {ps:List Str} {sp:Sp} (F:bZ P w K mg base (Km P w) k f fd ps sp):bZ P w K mg base (Km P w) k f fd ps (V5 sp):=
  ⟨fun vs H Q E h=>F.len vs H _ _ h,fun A outer s H args us vs Q E hr h0 hb hv h=>codeAny_mono (F.run A outer s H args us vs _ _ hr h0 hb hv h) fun r s' q=>by
    cases r with
    | ok fl=>cases fl with
      | ret u=>
        obtain⟨v,H',q1,q2,q3,q4,q5,q6⟩:=q;exact⟨v,_,q1,q2,q3.jL,q4.jL,q5,q6⟩
      | _=>exact q
    | error e=>
      obtain⟨a,C,od,H',q1,q2,q3,q4,q5,⟨T,q6⟩,q7⟩:=q;exact⟨a,C,od,_,q1,q2,q3,q4.jL,q5.jL,⟨T,q6.new,q6.newT,uU q6.un,uU q6.unT,q6.ob⟩,q7⟩⟩
theorem Gu {H H':Hp} (h:∀b u,H b=some u→H' b=some u∨((∀o v,u≠.jM o v)∧∃o,H' b=some (.jM o u))):Same H (jL H H'):=fun b u e=>by
  rcases h b u e with q | ⟨hu,o,q⟩
  · by_cases hx:∃o v,u = .jM o v
    ·obtain⟨o,v,rfl⟩:=hx;exact Cm q e
    ·exact je q fun o v z=>hx ⟨o,v,z⟩
  ·exact Qh q e hu
end
abbrev Z6 (h:Heap) (z TI TO:Addr) (f0:Value) (b:Bool):Prop:=
  h.get? z=some {cls:=.type "zip",dict:=none,data:=.fields #[f0,.bool b,.bool false,.ref TI,.ref TO],slots:=#[]}
section
variable {prog:Program} {w:World} {A:Around} {E:Value→Shared→Prop} {s:Shared}
theorem Kz {a:Addr} {Q:Option Obj→Shared→Prop} (h:Q (s.heap.get? a) s):wpAny (model prog w) A (loadIfAlive a) Q E s:=fun Γ p _=>by
  unfold loadIfAlive;rw[Sem.wp_loadIfAlive];exact h
theorem Qi {z TI TO T:Addr} {bo:Bool} {B:Bool→Shared→Prop} (hz:Z6 s.heap z TI TO (rawInt T) bo)
    (h:∀h₁,Z6 h₁ z TI TO (rawInt T) true→Heap.ExtBut z s.heap h₁→h₁.objs.size=s.heap.objs.size→B false {s with heap:=h₁}) :
    wpAny (model prog w) A (if (Value.bool bo != Value.bool true)=true then do
      setField (Value.ref z) 1 (Value.bool true)
      pure false
    else pure false) B E s:=by
  cases bo with
  | true=>
    rw[if_neg (by decide)];exact wpAny_pure (h s.heap hz (fun _ _ _ e=>e) rfl)
  | false=>
    rw[if_pos (by decide)];exact wpAny_bind (wpAny_setField_rec hz (by simp) fun h₁ hz₁ hs₁=>wpAny_pure (h h₁ hz₁ hs₁.extBut hs₁.1))
end
section
variable {X:Cx} {p_:List (Addr×Obj)} {σ:St} {b3:Bool} {z TI TO i1 i2 i3 l1 l2 l3 S:Addr} {xs ys zs:List V} {R:Result→Shared→Prop}
theorem KC {X:Cx} {p_:List (Addr×Obj)} {H H':Hp} {b:Addr} (h:j8 X p_ H b) (n:H' b=none):j8 X p_ H' b:=⟨n,h.2⟩
end
theorem Inv.V6 {X:Cx} {p_:List (Addr×Obj)} {σ:St} {H:Hp} {s:Shared} {a:Addr} {ob:HO} (I:Inv X p_ σ H s) (new:X.s₀.heap.objs.size≤a) (fp:j8 X p_ H a) (ok:cH X.prog X.w (upd H a ob) s.heap a ob):Inv X p_ σ (upd H a ob) s:=by
  obtain⟨un,f1,f2,f3,f4,f5⟩:=fp;have old:∀{b o},X.s₀.heap.get? b=some o→b≠a:=fun {b o} eb z=>by
    have:=Heap.lt_size eb;rw[z] at this;exact absurd (Nat.lt_of_lt_of_le this new) (Nat.lt_irrefl _)
  have ne:∀{b:Addr} {u:HO},H b=some u→b≠a:=fun {b u} q z=>by
    rw[z,un] at q;cases q
  refine⟨I.ok,I.os,I.bare,⟨fun b o eb n hb hx=>I.base.keep b o eb n hb hx,I.base.slot,fun b o eb n hx=>?_,I.base.there,fun b xs q=>?_,fun b o u q=>?_,fun b ps q=>?_⟩,I.loc,I.cell,?_,fun x c q=>?_,fun p hpp=>?_,fun b u q=>?_,I.len⟩
  ·rw[aG (old eb)];exact I.base.free b o eb n hx
  ·have z:=I.base.tups b xs q;rw[aG (ne z)];exact z
  ·have z:=I.base.sW b o u q;rw[aG (ne z)];exact z
  ·obtain⟨m,z⟩:=I.base.sZ b ps q;exact⟨m,by rw[aG (ne z)];exact z⟩
  ·rw[aG f1.symm];exact I.free
  ·rw[aG (f4 x c q)];exact I.i_ x c q
  ·obtain⟨g1,g2,g3⟩:=I.pin p hpp;refine⟨g1,?_,g3⟩;rw[aG (f5 p hpp)];exact g2
  · by_cases hb:b=a
    ·subst hb;rw[ao] at q;cases q;exact ok
    · rw[aG hb] at q;refine(I.hok b u q).stay (fun _ _ _ qq=>qq) (fun d qd=>?_) fun d zs qd=>?_
      ·rw[aG (ne qd)];exact qd
      ·rw[aG (ne qd)];exact qd
def arT (xs:List V) (R:V→V→V→Prop):Prop:=match xs with | [x,y,z]=>R x y z | _=>False
@[simp ↓] theorem qgy x y z R:arT [x,y,z] R=R x y z:=rfl
structure Clause (K:W.Frag) (D:Addr):Prop where
  ob:Gk K D
  be:W.mroIn K D (.type "BaseException")=some true
def Itk (a:Addr) (o:Obj) (kvs:List (Key×V)):It:=
  ⟨fun i H=>H a=some (.jM o (.dK kvs))∧i<kvs.length,
   fun i H v H'=>∃k x,v=kV k∧H'=H∧kvs[i]? = some (k,x),
   fun i H=>H a=some (.jM o (.dK kvs))∧kvs.length≤i⟩
theorem RK {P:Program} {w:World} {K:W.Frag} {tg:Expr} {it a:Addr} {o:Obj} {kvs:List (Key×V)} {ep:Nat} {ds:Array _} (hep:o.data = .dict ds ep) :
    Turn P w K tg (Itk a o kvs) [it] it (fun i h=>h.IsKeyIter it a i kvs.length ep) where
  mem:=by simp
  obj:=fun i h st c hc=>by
    have e':c=it:=by simpa using hc
    subst e';obtain⟨u,e,_,d⟩:=st;exact⟨_,e,fun v z=>by rw[d] at z;cases z⟩
  keep:=fun i h h' st kk=>st.at fun o e=>kk it (by simp) o e
  item:=by
    intro X hP hw hK hc i p_ s σ H E I hf st hg;subst hP hw hK;obtain⟨hz,hi⟩:=hg;obtain⟨hob,z,hd,vs,rel,o',es',ep',e',ex,dat,Xh,prs,Xi⟩:=I.hok _ _ hz;rw[hob] at e';cases e';rw[hep] at dat;cases dat;have hx:kvs[i]? = some kvs[i]:=List.getElem?_eq_getElem hi;obtain⟨u,hu,ru⟩:=rel.get (k:=kvs[i].1) (x:=kvs[i].2) hx;have dd:s.heap.DictAt (bh X.prog X.w) a vs ep:=⟨_,_,hob,ex,hep,Xh,prs,Xi⟩;have hl:=rel.len;rw[← hl] at st;obtain⟨f0,f1,f2,f3,f4,f5⟩:=hf it (by simp);refine wpAny_pyNext_dict_item st dd hu fun key h' hkey st' sb=>?_;have I1:Inv X p_ σ H {s with heap:=h'}:=I.turned (t':=s.toks) (fun b o hb e=>(sb.2 b hb).trans e) f0 f1 f3 f4 f5;refine⟨key,rfl,letGo_keyiter st' ⟨kV kvs[i].1,H,I1,Gs hkey,⟨_,_,rfl,rfl,hx⟩,?_,fun b hb=>?_⟩⟩
    ·rw[hl] at st';exact st'
    ·rw[List.mem_singleton] at hb;subst hb;exact f0
  done:=by
    intro X hP hw hK hc i p_ s σ H E I hf st hg;subst hP hw hK;obtain⟨hz,hi⟩:=hg;obtain⟨hob,z,hd,vs,rel,o',es',ep',e',ex,dat,Xh,prs,Xi⟩:=I.hok _ _ hz;rw[hob] at e';cases e';rw[hep] at dat;cases dat;have dd:s.heap.DictAt (bh X.prog X.w) a vs ep:=⟨_,_,hob,ex,hep,Xh,prs,Xi⟩;have hl:=rel.len;rw[← hl] at st;obtain⟨f0,f1,f2,f3,f4,f5⟩:=hf it (by simp);exact wpAny_pyNext_dict_end (I.ok.hd hc) st dd (by simp;omega) fun h' kk=>⟨rfl,I.turned (t':=s.toks) (fun b o hb e=>kk b o hb e) f0 f1 f3 f4 f5⟩
  self:=fun A i s Q E st h=>wpAny_pyIter_keyiter st h
section
variable {X:Cx}
def Z7 (td:TE):TI:=fun σ H R=>td σ H fun x H1=>isRef x fun a=>∃kvs,Rd H1 a (.dK kvs)∧∀o,(∀o' u,H1 a=some (.jM o' u)→o=o')→R (Itk a o kvs) (upd H1 a (.jM o (.dK kvs)))
@[simp ↓] theorem qeO td σ H R:Z7 td σ H R=(td σ H fun x H1=>isRef x fun a=>∃kvs,Rd H1 a (.dK kvs)∧∀o,(∀o' u,H1 a=some (.jM o' u)→o=o')→R (Itk a o kvs) (upd H1 a (.jM o (.dK kvs)))):=rfl
theorem Ii {tg d:Expr} {td:TE} (hd:PE X d td):PI X tg d (Z7 td):=by
  intro p_ s σ H R I h;refine cY (hd p_ s σ H _ I h) fun v s1 zz=>?_;obtain⟨x,H1,I1,r1,q1⟩:=zz;obtain⟨a,rfl,kvs,rd,q⟩:=isRef.out q1;obtain rfl:v=Value.ref a:=r1;obtain⟨z,hd',vs,rel,o,ds,ep,ho,ex,dat,Xh,prs,Xi⟩:=Bt I1.hok rd;have I2:Inv X p_ σ (upd H1 a (.jM o (.dK kvs))) s1:=by
    rcases rd with e | ⟨o',e⟩
    ·exact I1.freeze e ho
    ·have ho':=(I1.hok _ _ e).1;rw[ho] at ho';cases ho';rw[qbo e];exact I1
  have hq:R (Itk a o kvs) (upd H1 a (.jM o (.dK kvs))):=q o fun o' u e=>by
    have ho':=(I1.hok _ _ e).1;rw[ho] at ho';cases ho';rfl
  refine wpAny_pyIter_dict (knd:=bh X.prog X.w) (kvs:=vs) (ep:=ep) hd' ⟨o,ds,ho,ex,dat,Xh,prs,Xi⟩ ?_;rw[rel.len];have I3:=I2.kept (t':=s1.toks) (h':=s1.heap.push {cls:=.type "dict_keyiterator",data:=.fields #[.ref a,.int 0 0,.int kvs.length 0,.int ep 0]}) fun b u e=>Heap.get?_push_of_some _ e;refine⟨s1.heap.objs.size,[s1.heap.objs.size],_,_,_,rfl,I3,RK (ep:=ep) (ds:=ds) dat,⟨_,Heap.get?_push_size _ rfl,rfl,rfl⟩,fun c hc=>?_,hq⟩;have hle:s1.heap.objs.size≤c:=by
    have e':=List.mem_singleton.mp hc;rw[e'];exact Nat.le_refl _
  exact I2.Bg hle (I2.hok.fresh hle)
end
section
variable {own:List Str} {caps:List Nat} {g:TG} {tt:TT} {te:TE} {D a:Addr} {o:Obj} {kvs:List (Key×V)} {σ:St} {H:Hp} {Q:Hp→Prop}
theorem cmK {d:Yh g tt te Q} (Pv:Nat→St→Hp→Prop) (h0:Pv 0 (stC own caps σ) H) (hl:∀i σ H,i≤kvs.length→Pv i σ H→H a=some (.jM o (.dK kvs)))
    (hs:∀i k x σ H,kvs[i]? = some (k,x)→Pv i σ H→zu g tt te D (Pv (i+1)) (kV k) σ H) (hd:∀σ H,Pv kvs.length σ H→Q H):ZK own caps (Itk a o kvs) g tt te Q d D σ H:=by
  refine⟨fun i m σ H=>m=kvs.length - i∧i≤kvs.length∧Pv i σ H,⟨kvs.length,by simp,Nat.zero_le _,h0⟩,?_⟩;rintro i m σ H ⟨rfl,hi,p⟩;have q:=hl i σ H hi p
  by_cases hlt:i<kvs.length
  ·refine .inr ⟨⟨q,hlt⟩,Pv (i+1),fun σ' H' p'=>⟨kvs.length - (i+1),by omega,rfl,hlt,p'⟩,fun x H' y=>?_⟩;obtain⟨k,u,rfl,rfl,e⟩:=y;exact hs i k u σ _ e p
  · have e:i=kvs.length:=by omega
    subst e;exact .inl ⟨⟨q,Nat.le_refl _⟩,hd σ H p⟩
end
theorem bZ.qc9 {P:Program} {w:World} {K:W.Frag} {mg:Str→Option Value} {base:Heap} {k:Nat} {f:Addr} {fd:FuncData} {ps:List Str} {sp:Sp} (F:bZ P w K mg base lH k f fd ps sp):bZ P w K mg base lH k f fd ps (V5 sp):=
  ⟨fun vs H Q E h=>F.len vs H _ _ h,fun A outer s H args us vs Q E hr h0 hb hv h=>codeAny_mono (F.run A outer s H args us vs _ _ hr h0 hb hv h) fun r s' q=>by
    cases r with
    | ok fl=>cases fl with
      | ret u=>
        obtain⟨v,H',q1,q2,q3,q4,q5,q6⟩:=q;exact⟨v,_,q1,q2,q3.jL,q4.jL,q5,q6⟩
      | _=>exact q
    | error e=>exact q.elim⟩
def qfT:Key→PyData
  | .inl i=>.int i
  | .inr x=>.str x
section
variable {X:Cx}
theorem YK {h:Heap} {a:Addr} {m m':Str→Option Value} (x:h.Ns a m) (y:h.Ns a m'):m=m':=by
  obtain⟨o,es,ep,h1,h2,_,h3⟩:=x;obtain⟨o',es',ep',g1,g2,_,g3⟩:=y;rw[h1] at g1;cases g1;rw[h2] at g2;cases g2
  funext n
  rw[← h3 n,g3 n]
end
section
variable {X:Cx}
def Z8:V→List V→Hp→VK→Prop:=fun x vs H Q=>isRef x fun a=>R_ vs (∃kvs:List (Key×V),H a=some (.dK kvs)∧kvs.length≤sizeLine∧Q .non (upd H a (.dK [])))
@[simp ↓] theorem YL x vs H Q:Z8 x vs H Q=(isRef x fun a=>R_ vs (∃kvs:List (Key×V),H a=some (.dK kvs)∧kvs.length≤sizeLine∧Q .non (upd H a (.dK [])))):=rfl
theorem NP:Mv X "dict.clear" Z8:=by
  intro p_ s σ H x xs v us Q I rx rs h;rw[YL] at h;obtain⟨a,e1,h1⟩:=isRef.out (x:=x) h;obtain⟨rfl,kvs,ha,hl,q⟩:=R_.out h1;subst e1;cases rx;cases rs;obtain⟨z,hd,vs,rel,o,ds,ep,ho,ex,dat,Xh,prs,Xi⟩:=Pq I.hok ha;obtain⟨m,F⟩:=I.fr;have aL:a≠X.env.locals:=fun w=>by
    have:=I.free;rw[← w,ha] at this;cases this
  have ab:X.base.get? a=none:=by
    cases hq:X.base.get? a with
    | none=>rfl
    | some u=>
      have:=(I.bs a u hq).2;rw[ha] at this;cases this
  refine call_clear_madeIn (enc:=qfT) (own:=[]) (rest:=rest X.base s.heap X.env.locals a) F (news_at aL ab ho) (by simp) (fun p hp=>Xr p hp) ⟨ds,ep,ex,dat,Xh,prs,Xi⟩ (fun h' o' F' N' hI _=>?_) (by rw[rel.len];exact hl);have ho':h'.get? a=some o':=(N' (a,o') List.mem_cons_self).1;have kn:=GP (d:=a) I.bk F' fun p hp=>N' p (List.mem_cons_of_mem _ hp);have neT:∀{c:Addr} {w:HO},H c=some w→c≠X.env.locals:=fun e z=>by
    have:=I.free;rw[← z,e] at this;cases this
  refine⟨.non,upd H a (.dK []),?_,rfl,q⟩;refine I.step (ch:=[]) (t':=s.toks) (by simp) (fun c w c1 _ _ e hH=>?_) (fun c w c1 _ _ e hH=>?_) (fun c w _ e hH=>?_) (fun c w _ e=>?_) (fun c ys e=>?_) (fun c w y e=>?_) (fun c ps e=>?_) (fun m' hm'=>?_) (fun c w e=>?_) I.bare
  ·exact kn c w c1 (fun z=>by rw[z,ha] at hH;cases hH) e
  ·exact⟨w.slots,kn c w c1 (fun z=>by rw[z,ha] at hH;cases hH) e⟩
  ·rw[aG (fun z=>by rw[z,ha] at hH;cases hH)];exact hH
  · by_cases z1:c=X.env.locals
    ·obtain⟨w',_,_,g,_⟩:=F'.ns;exact⟨w',by rw[z1];exact g⟩
    · by_cases z2:c=a
      ·exact⟨o',by rw[z2];exact ho'⟩
      ·exact⟨w,kn c w z1 z2 e⟩
  ·rw[aG (fun z=>by rw[z,ha] at e;cases e)];exact e
  ·rw[aG (fun z=>by rw[z,ha] at e;cases e)];exact e
  ·exact⟨#[],by rw[aG (fun z=>by rw[z,ha] at e;cases e),e];simp⟩
  ·rw[YK hm' F.ns];exact F'.ns
  · by_cases z:c=a
    ·subst z;rw[ao] at e;cases e;obtain⟨es',ep',x1,x2,x3,x4,x5⟩:=hI;exact⟨by simp,hd,[],.nil,o',es',ep',ho',x1,x2,x3,x4,x5⟩
    · rw[aG z] at e;refine(I.hok c w e).stay (fun b' u hb' q'=>kn b' u ?_ ?_ q') (fun b' q'=>?_) (fun b' ys q'=>?_)
      · rcases hb' with rfl | hb'
        ·exact neT e
        ·exact neT hb'
      · rcases hb' with rfl | hb'
        ·exact z
        ·intro w';rw[w',ha] at hb';cases hb'
      ·rw[aG (fun z=>by rw[z,ha] at q';cases q')];exact q'
      ·rw[aG (fun z=>by rw[z,ha] at q';cases q')];exact q'
end
end L2
namespace PySem
open Sem (wp)
theorem vp:typeLookup (.type "zip") "__getattr__" = pure none:=by rw[typeLookup_type,builtinLookup_eq_fast];kernel_rfl
theorem yJ:typeLookup (.type "zip") "keys" = pure none:=by rw[typeLookup_type,builtinLookup_eq_fast];kernel_rfl
theorem oG:entryFor table "zip.__getattribute__" = some Builtin.«object.__getattribute__»:=
  entryFor_alias (id':= "object.__getattribute__") (by kernel_rfl) (by decide+kernel) (by decide+kernel) (by kernel_rfl)
theorem KD (a:Addr) (xs:Array Value) (sl:Array (Option Value)) (name:Str) (u:Tok) (hmiss:typeLookup (.type "zip") name=pure none) (hname:(["__module__", "__name__", "__qualname__", "__doc__", "__annotations__"]:List Str).contains name=false) (hsz:name.length+100≤sizeLine:=by size_fits) :
    Meets (Builtin.«object.__getattribute__» ⟨[.ref a,.str name u],[]⟩) (fun A R s=>s.heap.get? a=some {cls:=.type "zip",dict:=none,data:=.fields xs,slots:=sl}∧raisesAttr (.ref a) name A R s):=
  Meets.of_wp fun prog w A R s hs=>by
    obtain⟨hp,g,d,tk,os⟩:=s;obtain⟨hx,hs⟩:=hs;have hT:(⟨hp,g,d,tk,os⟩:Shared).TypeIs (.ref a) "zip" :=⟨_,hx,rfl⟩;unfold Builtin.«object.__getattribute__»
    repeat (any_goals (first | assumption | wp_step))
    simp only[hname,Bool.false_eq_true,if_false]
    repeat (any_goals (first | assumption | wp_step))
    exact wpAny_raiseAttrError hs.1 hs.2 (attrMsg_fits (by decide+kernel) hsz)
theorem Ep {prog:Program} {w:World} {A:Around} {E:Value→Shared→Prop} {s:Shared} {a:Addr} {xs:Array Value} {Q:Option Value→Shared→Prop}
    (hx:s.heap.get? a=some {cls:=.type "zip",dict:=none,data:=.fields xs,slots:=#[]}) (hA:A.handled=none)
    (h:∀h' tk,(∀b o,s.heap.get? b=some o→h'.get? b=some o)→Q none {s with heap:=h',toks:=tk}) :
    wpAny (model prog w) A (getAttr? (.ref a) "keys") Q E s:=by
  obtain⟨hp,g,d,tk,os⟩:=s;have hT:∀tk',(⟨hp,g,d,tk',os⟩:Shared).TypeIs (.ref a) "zip" :=fun _=>⟨_,hx,rfl⟩;have f1:=sub_AttributeError;have f3:=F.slot_zip_getattribute.lookup;have f4:=F.slot_zip_getattribute.bind (.ref a);have f5:=vp;have hname:(["__module__", "__name__", "__qualname__", "__doc__", "__annotations__"]:List Str).contains "keys" = false:=by decide
  unfold getAttr? getAttrBy? getAttrBy
  repeat (any_goals (first | assumption | exact hT _ | ((with_reducible show wpAny _ _ (call (Value.builtin "zip.__getattribute__") _ _) _ _ _);refine call_meets F.slot_zip_getattribute (hT _) oG (F.args_zip_getattribute_2 _ _) (KD a xs #[] "keys" _ yJ hname) ⟨hx,hA,fun h' tk' e hx'=>?_⟩) | wp_step))
  obtain⟨t',u',he⟩:=hx'.there;show wpAny _ _ (getattributeRaised _ _ _ _ _ _ _) _ _ _;unfold getattributeRaised
  repeat (any_goals (first | assumption | wp_step))
  exact h _ _ hx'.of.keeps
end PySem
namespace L2
open PySem PySem.Spec PyProof.Rows
section
variable {prog:Program} {w:World} {A:Around} {E:Value→Shared→Prop} {s:Shared}
theorem YM {z TI TO T i1 i2 l1 l2:Addr} {k:Nat} {bo:Bool} {oT:Obj} {xs ys:Array Value} {x y:Value} {Q:Value→Shared→Prop} (D:ZipApart z TI TO i1 i2 l1 l2)
    (hz:Z6 s.heap z TI TO (rawInt T) bo) (hT:s.heap.get? T=some oT) (hTI:IsPair s.heap TI (.ref i1) (.ref i2))
    (h1:s.heap.IsListIter i1 l1 k) (h2:s.heap.IsListIter i2 l2 k) (hl1:s.heap.IsList l1 xs) (hl2:s.heap.IsList l2 ys) (hx:xs[k]? = some x) (hy:ys[k]? = some y)
    (hQ:∀h',Z6 h' z TI TO (rawInt T) true→h'.IsListIter i1 l1 (k+1)→h'.IsListIter i2 l2 (k+1)→IsPair h' s.heap.objs.size x y→
      (∀d o,d≠z→d≠i1→d≠i2→s.heap.get? d=some o→h'.get? d=some o)→Q (.ref s.heap.objs.size) {s with heap:=h'}) :
    wpAny (model prog w) A (Builtin.«zip.__next__» ⟨[.ref z],[]⟩) (fun fin s'=>∃v,fin = .done (.ret v)∧Q v s') E s:=by
  show wpAny _ _ (field (.ref z) 2 >>= _) _ _ _;refine wpAny_bind (wpAny_field hz rfl (x:=.bool false) rfl ?_);show wpAny _ _ (field (.ref z) 3 >>= _) _ _ _;refine wpAny_bind (wpAny_field hz rfl (x:=.ref TI) rfl ?_);refine wpAny_bind (wpAny_seqItems hTI rfl ?_);show wpAny _ _ (Builtin.SmallTypes.ownedTupleIsFree (.ref z) >>= _) _ _ _;refine wpAny_bind ?_;unfold Builtin.SmallTypes.ownedTupleIsFree;refine wpAny_bind (wpAny_field hz rfl (x:=rawInt T) rfl ?_);show wpAny _ _ (loadIfAlive T >>= _) _ _ _;refine wpAny_bind (Kz ?_);rw[hT];simp only[Option.isNone_some,Bool.false_eq_true,if_false];refine wpAny_bind (wpAny_field hz rfl (x:=.bool bo) rfl ?_);refine Qi hz fun h₁ hz₁ hs₁ hn₁=>?_;simp only[Bool.false_eq_true,if_false];refine wpAny_bind ?_;simp only[← Array.forIn_toList,List.forIn_cons,List.forIn_nil];refine wpAny_bind (wpAny_bind (wpAny_holding ?_));show wpAny _ _ (Builtin.SmallTypes.nextOf (.ref i1) >>= _) _ _ _;refine wpAny_bind (wpAny_nextOf_list_item (h1.extBut hs₁ D.i1z) (hl1.extBut hs₁ D.l1z) hx fun h₂ h1₂ hs₂=>wpAny_pure ?_);refine wpAny_pure ?_;refine wpAny_bind (wpAny_bind (wpAny_holding ?_));show wpAny _ _ (Builtin.SmallTypes.nextOf (.ref i2) >>= _) _ _ _;refine wpAny_bind (wpAny_nextOf_list_item ((h2.extBut hs₁ D.i2z).extBut hs₂.extBut D.i12.symm) ((hl2.extBut hs₁ D.l2z).extBut hs₂.extBut D.l2i1) hy fun h₃ h2₃ hs₃=>wpAny_pure ?_);refine wpAny_pure (wpAny_pure ?_);refine wpAny_bind (wpAny_newTuple ?_ (by show 2≤sizeLine;decide));have hsz:h₃.objs.size=s.heap.objs.size:=by rw[hs₃.1,hs₂.1];exact hn₁
  have kk:∀d o,d≠z→d≠i1→d≠i2→s.heap.get? d=some o→h₃.get? d=some o:=fun d o d1 d2 d3 e=>hs₃.extBut _ _ d3 (hs₂.extBut _ _ d2 (hs₁ _ _ d1 e));have hz₃:Z6 h₃ z TI TO (rawInt T) true:=hs₃.extBut _ _ D.i2z.symm (hs₂.extBut _ _ D.i1z.symm hz₁);have h1₃:h₃.IsListIter i1 l1 (k+1):=h1₂.extBut hs₃.extBut D.i12;refine wpAny_pure ⟨_,rfl,?_⟩;show Q (.ref h₃.objs.size) _;rw[hsz];exact hQ (h₃.push {cls:=.type "tuple",data:=.seq #[x,y]}) (Heap.get?_push_of_some _ hz₃) (h1₃.at fun o e=>Heap.get?_push_of_some _ e) (h2₃.at fun o e=>Heap.get?_push_of_some _ e) (by rw[← hsz];exact Heap.get?_push_size _ rfl) fun d o d1 d2 d3 e=>Heap.get?_push_of_some _ (kk d o d1 d2 d3 e)
theorem qbp {z TI TO T i1 i2 l1 l2:Addr} {k:Nat} {bo:Bool} {oT:Obj} {xs:Array Value} {Q:Fin→Shared→Prop} (hh:A.handled=none) (D:ZipApart z TI TO i1 i2 l1 l2)
    (hz:Z6 s.heap z TI TO (rawInt T) bo) (hT:s.heap.get? T=some oT) (hTI:IsPair s.heap TI (.ref i1) (.ref i2))
    (h1:s.heap.IsListIter i1 l1 k) (hl1:s.heap.IsList l1 xs) (hx:xs[k]? = none)
    (hE:∀h' e,(∀d o,d≠z→d≠i1→s.heap.get? d=some o→h'.get? d=some o)→(∃o,h'.get? e=some o∧o.cls = .type "StopIteration")→E (.ref e) {s with heap:=h'}) :
    wpAny (model prog w) A (Builtin.«zip.__next__» ⟨[.ref z],[]⟩) Q E s:=by
  show wpAny _ _ (field (.ref z) 2 >>= _) _ _ _;refine wpAny_bind (wpAny_field hz rfl (x:=.bool false) rfl ?_);show wpAny _ _ (field (.ref z) 3 >>= _) _ _ _;refine wpAny_bind (wpAny_field hz rfl (x:=.ref TI) rfl ?_);refine wpAny_bind (wpAny_seqItems hTI rfl ?_);show wpAny _ _ (Builtin.SmallTypes.ownedTupleIsFree (.ref z) >>= _) _ _ _;refine wpAny_bind ?_;unfold Builtin.SmallTypes.ownedTupleIsFree;refine wpAny_bind (wpAny_field hz rfl (x:=rawInt T) rfl ?_);show wpAny _ _ (loadIfAlive T >>= _) _ _ _;refine wpAny_bind (Kz ?_);rw[hT];simp only[Option.isNone_some,Bool.false_eq_true,if_false];refine wpAny_bind (wpAny_field hz rfl (x:=.bool bo) rfl ?_);refine Qi hz fun h₁ hz₁ hs₁ hn₁=>?_;simp only[Bool.false_eq_true,if_false];refine wpAny_bind ?_;simp only[← Array.forIn_toList,List.forIn_cons,List.forIn_nil];refine wpAny_bind (wpAny_bind (wpAny_holding ?_));show wpAny _ _ (Builtin.SmallTypes.nextOf (.ref i1) >>= _) _ _ _;exact wpAny_bind (wpAny_nextOf_list_end hh (h1.extBut hs₁ D.i1z) (hl1.extBut hs₁ D.l1z) hx fun h₂ e hs₂ he=>hE h₂ e (fun d o d1 d2 x=>hs₂ _ _ d2 (hs₁ _ _ d1 x)) he)
def ZD (B:Addr) (h:Heap) (z TI TO i1 i2:Addr):Prop:=(Z6 h z TI TO .none false∧∃a b,IsPair h TO a b)∨∃(T:Addr) (bo:Bool) (oT:Obj),Z6 h z TI TO (rawInt T) bo∧h.get? T=some oT∧T≠B∧T≠z∧T≠i1∧T≠i2
theorem YQ {B z TI TO i1 i2 l1 l2:Addr} {k:Nat} {xs ys:Array Value} {x y:Value} {Q:Option Value→Shared→Prop} (D:ZipApart z TI TO i1 i2 l1 l2) (hB:B<s.heap.objs.size)
    (hz:ZD B s.heap z TI TO i1 i2) (hTI:IsPair s.heap TI (.ref i1) (.ref i2))
    (h1:s.heap.IsListIter i1 l1 k) (h2:s.heap.IsListIter i2 l2 k) (hl1:s.heap.IsList l1 xs) (hl2:s.heap.IsList l2 ys) (hx:xs[k]? = some x) (hy:ys[k]? = some y)
    (hQ:∀h',ZD B h' z TI TO i1 i2→h'.IsListIter i1 l1 (k+1)→h'.IsListIter i2 l2 (k+1)→IsPair h' s.heap.objs.size x y→
      (∀d o,d≠z→d≠TO→d≠i1→d≠i2→s.heap.get? d=some o→h'.get? d=some o)→Q (some (.ref s.heap.objs.size)) {s with heap:=h'}) :
    wpAny (model prog w) A (pyNext (.ref z)) Q E s:=by
  have lt:∀{c o},s.heap.get? c=some o→s.heap.objs.size≠c:=fun e=>Nat.ne_of_gt (Heap.lt_size e);obtain⟨o1,e1,_⟩:=id h1;obtain⟨o2,e2,_⟩:=id h2
  rcases hz with⟨hz,a,b,hTO⟩ | ⟨T,bo,oT,hz,hT,t1,t2,t3,t4⟩
  ·refine wpAny_pyNext_zip_item D hz hTI hTO h1 h2 hl1 hl2 hx hy fun h' a1 a2 a3 a4 a5 a6 kk=>?_;exact hQ h' (.inr ⟨_,false,_,a1,a5,Nat.ne_of_gt hB,lt hz,lt e1,lt e2⟩) a3 a4 a5 kk
  · have hTy:s.TypeIs (.ref z) "zip" :=⟨_,hz,rfl⟩;unfold pyNext;exact wpAny_bind (wpAny_attempt (wpAny_callSpecial?_slot (name:=Str.ofString "__next__") hTy F.slot_zip_next
      (wpAny_call_entry F.slot_zip_next hTy F.entry_zip_next
        (YM D hz hT hTI h1 h2 hl1 hl2 hx hy fun h' a1 a3 a4 a5 a6=>wpAny_pure (hQ h' (.inr ⟨T,true,oT,a1,a6 _ _ t2 t3 t4 hT,t1,t2,t3,t4⟩) a3 a4 a5 fun d o d1 _ d3 d4 e=>a6 d o d1 d3 d4 e)) (F.args_zip_next_1 _))))
theorem YS {B z TI TO i1 i2 l1 l2:Addr} {k:Nat} {xs ys:Array Value} {Q:Option Value→Shared→Prop} (hh:A.handled=none) (D:ZipApart z TI TO i1 i2 l1 l2)
    (hz:ZD B s.heap z TI TO i1 i2) (hTI:IsPair s.heap TI (.ref i1) (.ref i2))
    (h1:s.heap.IsListIter i1 l1 k) (h2:s.heap.IsListIter i2 l2 k) (hl1:s.heap.IsList l1 xs) (hl2:s.heap.IsList l2 ys) (hx:xs[k]? = none)
    (hQ:∀h',(∀d o,d≠z→d≠TO→d≠i1→d≠i2→s.heap.get? d=some o→h'.get? d=some o)→Q none {s with heap:=h'}):wpAny (model prog w) A (pyNext (.ref z)) Q E s:=by
  rcases hz with⟨hz,a,b,hTO⟩ | ⟨T,bo,oT,hz,hT,t1,t2,t3,t4⟩
  ·exact wpAny_pyNext_zip_end hh D hz hTI hTO h1 h2 hl1 hl2 (.inl hx) fun h' kk=>hQ h' kk
  · have hTy:s.TypeIs (.ref z) "zip" :=⟨_,hz,rfl⟩;unfold pyNext;refine wpAny_bind (wpAny_attempt (wpAny_callSpecial?_slot (name:=Str.ofString "__next__") hTy F.slot_zip_next
      (wpAny_call_entry F.slot_zip_next hTy F.entry_zip_next (qbp hh D hz hT hTI h1 hl1 hx fun h' e hk he=>?_) (F.args_zip_next_1 _))))
    obtain⟨o,ho,hc⟩:=he;refine wpAny_bind (wpAny_isInstance (T:= "StopIteration") (b:=true) ⟨o,ho,hc⟩ isSubtype_stop ?_);exact wpAny_pure (hQ _ fun d o d1 _ d3 _ e=>hk d o d1 d3 e)
end
section
variable {P:Program} {w:World} {A:Around} {R:Result→Shared→Prop} {z TI TO i1 i2 l1 l2 B:Addr}
theorem YT {xs ys:List Value} {ks:List (Str×Value)} (hh:A.handled=none) (D:ZipApart z TI TO i1 i2 l1 l2) (hBz:B≠z∧B≠TI∧B≠TO∧B≠i1∧B≠i2∧B≠l1∧B≠l2) (hs:ks.length≤sizeLine) (hk1:xs.length=ks.length) (hk2:ys.length=ks.length) (hn:(ks.map (·.1)).Nodup)
    (hK:∀(j:Nat) (e:Str×Value),ks[j]? = some e→∃u,xs[j]? = some (.str e.1 u)∧ys[j]? = some e.2) :
    ∀(k i:Nat) (s:Shared),ks.length - i=k→i≤ks.length→ZD B s.heap z TI TO i1 i2→IsPair s.heap TI (.ref i1) (.ref i2)→s.heap.IsListIter i1 l1 i→s.heap.IsListIter i2 l2 i→s.heap.IsList l1 xs.toArray→s.heap.IsList l2 ys.toArray→s.heap.DictOf (bh P w) B (fP (ks.take i))→
      (∀h' tk,(∀c o,c≠B→c≠z→c≠TO→c≠i1→c≠i2→s.heap.get? c=some o→h'.get? c=some o)→h'.DictOf (bh P w) B (fP ks)→R (.ok (.ret .none)) {s with heap:=h',toks:=tk})→
      codeAny (model P w) A (.builtin "dict.update.loop" ⟨[.ref B,.ref z,rawInt i,.none],[]⟩) R s:=by
  obtain⟨b1,b2,b3,b4,b5,b6,b7⟩:=hBz;intro k
  induction k with
  | zero=>
    intro i s hk0 hi hZ hTI h1 h2 hl1 hl2 hD hR;obtain rfl:i=ks.length:=by omega
    refine codeAny_builtin mO ?_;rw[Around.under_plainId dX _];show wpAny _ A.in1 (pyNext (.ref z) >>= _) _ _ s;refine wpAny_bind (YS (A:=A.in1) hh D hZ hTI h1 h2 hl1 hl2 (by simp[hk1]) fun h' hm=>?_);refine wpAny_bind (wpAny_pure ?_);refine wpAny_pure (hR h' s.toks (fun c o c1 c2 c3 c4 c5 z=>hm c o c2 c3 c4 c5 z) ?_);rw[List.take_length] at hD;obtain⟨o,es,ep,ho,r⟩:=hD;exact⟨o,es,ep,hm _ _ b1 b3 b4 b5 ho,r⟩
  | succ k ih=>
    intro i s hk0 hi hZ hTI h1 h2 hl1 hl2 hD hR;have hlt2:i<ks.length:=by omega
    obtain⟨u,hx,hy⟩:=hK i ks[i] (List.getElem?_eq_getElem hlt2);have hBs:B<s.heap.objs.size:=by
      obtain⟨o,es,ep,ho,r⟩:=id hD;exact Heap.lt_size ho
    refine codeAny_builtin mO ?_;rw[Around.under_plainId dX _];show wpAny _ A.in1 (pyNext (.ref z) >>= _) _ _ s;refine wpAny_bind (YQ D hBs hZ hTI h1 h2 hl1 hl2 (by simpa using hx) (by simpa using hy) fun h' hZ' h1' h2i hT' hm=>?_);have hTt:(Shared.mk h' s.gens s.drawn s.toks s.os).TypeIs (.ref s.heap.objs.size) "tuple" :=⟨_,hT',rfl⟩;show wpAny _ A.in1 (holding _ _ >>= _) _ _ _;refine wpAny_bind (wpAny_holding ?_);refine wpAny_bind (wpAny_tryCatch ?_);unfold Builtin.Dict.pairItems;refine wpAny_bind (wpAny_typeOf hTt ?_);rw[if_pos (by decide)];refine wpAny_bind (wpAny_seqItems hT' rfl ?_);refine wpAny_pure ?_;show wpAny _ A.in1 (holding _ (dictSet B (.str ks[i].1 u) ks[i].2)) _ _ _;refine wpAny_holding ?_;have hD':h'.DictOf (bh P w) B (fP (ks.take i)):=by
      obtain⟨o,es,ep,ho,r⟩:=hD;exact⟨o,es,ep,hm _ _ b1 b3 b4 b5 ho,r⟩
    refine wpAny_dictSet_pairs (knd:=bh P w) (k:=Sum.inr ks[i].1) (s:=Shared.mk h' s.gens s.drawn s.toks s.os) (sY P w _ u) hD' (fun h2' hD2 hsb=>?_) (by rw[fP,List.length_map,List.length_take];omega);have est:stored (fP (ks.take i)) (Sum.inr ks[i].1) ks[i].2=fP (ks.take (i+1)):=by
      unfold stored;rw[if_neg (fun z=>?_)]
      ·rw[List.take_succ_eq_append_getElem hlt2,fP,fP,List.map_append];rfl
      · have h5:=Qd z;rw[List.map_take] at h5;have h6:(ks.map (·.1))[i]? = some ks[i].1:=by rw[List.getElem?_map,List.getElem?_eq_getElem hlt2];rfl
        obtain⟨j,hj⟩:=List.getElem?_of_mem h5;rw[List.getElem?_take] at hj;split at hj
        ·rename_i hji;have hj1:=List.getElem?_eq_some_iff.mp hj;have hi1:=List.getElem?_eq_some_iff.mp h6;have:=(List.getElem?_inj hj1.1 hn).mp (hj.trans h6.symm);omega
        ·cases hj
    rw[est] at hD2;refine wpAny_pure ⟨plainId_quiet dX _,?_⟩;show codeAny _ A (.builtin "dict.update.loop" ⟨[.ref B,.ref z,rawInt ((i:Int)+1),.none],[]⟩) _ _;have ei:(i:Int)+1=((i+1:Nat):Int):=by omega
    rw[ei];have up:∀c o,c≠B→h'.get? c=some o→h2'.get? c=some o:=fun c o c1 z=>(hsb.2 c c1).trans z;have kk:∀c o,c≠B→c≠z→c≠TO→c≠i1→c≠i2→s.heap.get? c=some o→h2'.get? c=some o:=fun c o c1 c2 c3 c4 c5 z=>up c o c1 (hm c o c2 c3 c4 c5 z);refine ih (i+1) _ (by omega) hlt2 ?_ (kk _ _ b2.symm D.TIz D.TITO D.TIi1 D.TIi2 hTI) (h1'.at fun o e=>up _ _ b4.symm e) (h2i.at fun o e=>up _ _ b5.symm e) ?_ ?_ hD2 fun h3' tk hm3 DY=>?_
    · rcases hZ' with⟨q,a,b,q2⟩ | ⟨T,bo,oT,q,q2,t1,t⟩
      ·exact .inl ⟨up _ _ b1.symm q,a,b,up _ _ b3.symm q2⟩
      ·exact .inr ⟨T,bo,oT,up _ _ b1.symm q,up _ _ t1 q2,t1,t⟩
    ·obtain⟨o,ho,r⟩:=hl1;exact⟨o,kk _ _ b6.symm D.l1z D.l1TO D.l1i1 D.l1i2 ho,r⟩
    ·obtain⟨o,ho,r⟩:=hl2;exact⟨o,kk _ _ b7.symm D.l2z D.l2TO D.l2i1 D.l2i2 ho,r⟩
    ·exact hR h3' tk (fun c o c1 c2 c3 c4 c5 z=>hm3 c o c1 c2 c3 c4 c5 (kk c o c1 c2 c3 c4 c5 z)) DY
end
section
variable {P:Program} {w:World} {A:Around} {E:Value→Shared→Prop} {s:Shared} {z TI TO i1 i2 l1 l2:Addr}
theorem YW {xs ys:List Value} {ks:List (Str×Value)} {Q:Value→Shared→Prop} (hh:A.handled=none) (D:ZipApart z TI TO i1 i2 l1 l2) (hz:IsZip s.heap z TI TO .none) (hTI:IsPair s.heap TI (.ref i1) (.ref i2)) (hTO:IsPair s.heap TO .none .none)
    (h1:s.heap.IsListIter i1 l1 0) (h2:s.heap.IsListIter i2 l2 0) (hl1:s.heap.IsList l1 xs.toArray) (hl2:s.heap.IsList l2 ys.toArray) (hs:ks.length≤sizeLine) (hk1:xs.length=ks.length) (hk2:ys.length=ks.length) (hn:(ks.map (·.1)).Nodup)
    (hK:∀(j:Nat) (e:Str×Value),ks[j]? = some e→∃u,xs[j]? = some (.str e.1 u)∧ys[j]? = some e.2)
    (h:∀h' tk,(∀c o,c≠z→c≠TO→c≠i1→c≠i2→s.heap.get? c=some o→h'.get? c=some o)→h'.DictOf (bh P w) s.heap.objs.size (fP ks)→Q (.ref s.heap.objs.size) {s with heap:=h',toks:=tk}) :
    wpAny (model P w) A (call (.type "dict") [.ref z]) Q E s:=by
  refine callType_codes (Q₁:=fun obj s₁=>obj = .ref s.heap.objs.size∧s₁={s with heap:=s.heap.push {cls:=.type "dict",data:=.dict #[]}}) F.kt_called_dict (F.kt_typeCall_dict_1 _) F.entry_dict_init (kt_code_dict_new _ ⟨rfl,rfl⟩) ?_;rintro obj s₁ ⟨rfl,rfl⟩;have hnew:(s.heap.push {cls:=.type "dict",data:=.dict #[]}).DictOf (bh P w) s.heap.objs.size []:=Heap.DictOf.new s.heap;have kp:∀c o,s.heap.get? c=some o→(s.heap.push {cls:=.type "dict",data:=.dict #[]}).get? c=some o:=fun c o z=>Heap.get?_push_of_some _ z;have ne:∀{c o},s.heap.get? c=some o→s.heap.objs.size≠c:=fun z=>Nat.ne_of_gt (Heap.lt_size z);have hT:(Shared.mk (s.heap.push {cls:=.type "dict",data:=.dict #[]}) s.gens s.drawn s.toks s.os).TypeIs (.ref z) "zip" :=⟨_,kp _ _ hz,rfl⟩;refine⟨hnew.typeIs,F.args_dict_init_2 _ _,?_⟩;unfold Builtin.«dict.__init__»;refine wpAny_bind ?_;unfold Builtin.Dict.selfAndRest;refine wpAny_bind (wpAny_notOrdered_dict hnew.typeIs ?_);show wpAny _ _ (pure (s.heap.objs.size,[Value.ref z])) _ _ _;refine wpAny_pure ?_;show wpAny _ _ (Builtin.Dict.updateFrom "dict.__init__" s.heap.objs.size (.ref z) [] .none) _ _ _;unfold Builtin.Dict.updateFrom;refine wpAny_bind (wpAny_typeOf hT ?_);rw[if_pos (by decide)];show wpAny (model P w) A.in1.in1 (getAttr? (.ref z) "keys" >>= _) _ _ _;refine wpAny_bind (Ep (A:=A.in1.in1) (kp _ _ hz) hh fun h1' tk1 k1=>?_);have up:∀c o,s.heap.get? c=some o→h1'.get? c=some o:=fun c o z=>k1 _ _ (kp _ _ z);simp only[Option.isNone_none,if_true];refine wpAny_bind (wpAny_rule ?_);refine wpAny_bind (wpAny_pyIter_zip (s:=Shared.mk h1' s.gens s.drawn tk1 s.os) (up _ _ hz) ?_);refine wpAny_pure ⟨plainId_quiet dX _,?_⟩;have hD1:h1'.DictOf (bh P w) s.heap.objs.size []:=by
    obtain⟨o,es,ep,ho,r⟩:=hnew;exact⟨o,es,ep,k1 _ o ho,r⟩
  obtain⟨o1,e1,_⟩:=id h1;obtain⟨o2,e2,_⟩:=id h2;obtain⟨o3,e3,_⟩:=id hl1;obtain⟨o4,e4,_⟩:=id hl2;refine YT (A:=A.in1) (TI:=TI) (TO:=TO) (i1:=i1) (i2:=i2) (xs:=xs) (ys:=ys) hh D ⟨ne hz,ne hTI,ne hTO,ne e1,ne e2,ne e3,ne e4⟩ hs hk1 hk2 hn hK ks.length 0 _ (by omega) (Nat.zero_le _) (.inl ⟨up _ _ hz,_,_,up _ _ hTO⟩) (up _ _ hTI) (h1.at fun o e=>up _ _ e) (h2.at fun o e=>up _ _ e) ?_ ?_ (by simpa [fP] using hD1) fun h' tk hm hD=>⟨rfl,h h' tk (fun c o c1 c2 c3 c4 z=>hm c o (ne z).symm c1 c2 c3 c4 (up _ _ z)) hD⟩
  ·obtain⟨o,ho,r⟩:=hl1;exact⟨o,up _ _ ho,r⟩
  ·obtain⟨o,ho,r⟩:=hl2;exact⟨o,up _ _ ho,r⟩
end
section
variable {X:Cx} {K:W.Frag}
theorem zap (n la lb:Nat) (h1:la<n) (h2:lb<n):ZipApart (n+4) (n+2) (n+3) n (n+1) la lb:=by
  constructor <;> (show ¬@Eq Nat _ _;omega)
def tDZ (K:W.Frag) (t:TA):TE:=fun σ H Q=>t σ H fun vs H1=>ar2 vs fun x y=>isRef x fun a=>isRef y fun b=>∃(xs:List Str) (ys:List V),bA K H1 a (xs.map V.str)∧bA K H1 b ys∧ys.length=xs.length∧xs.Nodup∧∀p,H1 p=none→Q (.ref p) (upd H1 p (.dK (fP (xs.zip ys))))
@[simp ↓] theorem qgz (K:W.Frag) (t:TA) σ H Q:tDZ K t σ H Q=(t σ H fun vs H1=>ar2 vs fun x y=>isRef x fun a=>isRef y fun b=>∃(xs:List Str) (ys:List V),bA K H1 a (xs.map V.str)∧bA K H1 b ys∧ys.length=xs.length∧xs.Nodup∧∀p,H1 p=none→Q (.ref p) (upd H1 p (.dK (fP (xs.zip ys))))):=rfl
theorem Cp (hK:X.K=K) (hc:X.calm=true) {a b:Expr} {ta:TA} {p p2 pos pos2:Pos} (hg1:Gl X "dict") (hm1:X.mg "dict" = none) (hg2:Gl X "zip") (hm2:X.mg "zip" = none) (ha:PA X [a,b] ta)
    (hs:starEach [a,b] X.env=[(false,eval a X.env),(false,eval b X.env)]:=by rfl) (hs2:starEach [b] X.env=[(false,eval b X.env)]:=by rfl)
    (hs1:starEach [.Call (.Name "zip" p2) [a,b] [] pos2] X.env=[(false,eval (.Call (.Name "zip" p2) [a,b] [] pos2) X.env)]:=by rfl) :
    PE X (.Call (.Name "dict" p) [.Call (.Name "zip" p2) [a,b] [] pos2] [] pos) (tDZ K ta):=by
  subst hK;intro p_ s σ H Q I h;refine wpAny_Call_Name_kw (lU I hg1 hm1 eF ?_ (by decide) (by decide));refine PyProof.Rows.callWith_type1 ?_ (by rw[hs1];rfl) (by rfl);rw[hs1];show wpAny _ _ (spliced ((false,eval (.Call (.Name "zip" p2) [a,b] [] pos2) X.env)::[])) _ _ s;refine Calls.spliced_cons ?_;refine wpAny_Call_Name_kw (lU I hg2 hm2 boot_zip ?_ (by decide) (by decide));refine PyProof.Rows.callWith_type1 (cY (ha pos2 p_ s σ H _ I h) fun us s1 zz=>?_) (by rw[hs,hs2]) (by rw[hs2];rfl);obtain⟨vs,H1,I1,r1,q1⟩:=zz;obtain⟨x,y,rfl,q2⟩:=ar2.out q1;obtain⟨la,rfl,q3⟩:=isRef.out q2;obtain⟨lb,rfl,xs,ys,k1,k2,hl,hn,q⟩:=isRef.out q3;obtain⟨u,v,rfl,r,r'⟩:=r1.two;obtain rfl:u=Value.ref la:=r;obtain rfl:v=Value.ref lb:=r';obtain⟨its,rv,pl,hz1⟩:=I1.list k1;obtain⟨its',rv',Hh,hz2⟩:=I1.list k2;have L1:=rv.length;have L2:=rv'.length;rw[List.length_map] at L1;obtain⟨ks',hl',hr⟩:=Ci (xs.zip ys) (fun j (e:Str×V) (e':Str×Value)=>e'.1=e.1∧RelV e.2 e'.2∧∃u,its[j]? = some (.str e'.1 u)∧its'[j]? = some e'.2) fun j e he=>by
    rw[List.getElem?_zip_eq_some] at he;obtain⟨h1,h2⟩:=he;obtain⟨v,e1,e2⟩:=Vals.get rv (show(xs.map V.str)[j]? = some (.str e.1) by rw[List.getElem?_map,h1];rfl);obtain⟨v2,e3,e4⟩:=Vals.get rv' h2;obtain⟨u,rfl⟩:=(show ∃u,v=Value.str e.1 u from e2);exact⟨(e.1,v2),rfl,e4,u,e1,e3⟩
  have hzl:(xs.zip ys).length=xs.length:=by rw[List.length_zip,hl,Nat.min_self]
  have hkey:ks'.map (·.1)=xs:=by
    refine List.ext_getElem? fun j=>?_;rw[List.getElem?_map];cases e:xs[j]? with
    | none=>
      have:ks'[j]? = none:=by
        rw[List.getElem?_eq_none_iff] at e ⊢;omega
      rw[this];rfl
    | some x=>
      have hj:=(List.getElem?_eq_some_iff.mp e).1;obtain⟨y,hy⟩:∃y,ys[j]? = some y:=⟨_,List.getElem?_eq_getElem (by omega)⟩;obtain⟨x',h1,h2,_⟩:=hr j (x,y) (List.getElem?_zip_eq_some.mpr ⟨e,hy⟩);rw[h1];simp[h2]
  refine call_zip_2 pl.isList Hh.isList fun h' b1 b2 b3 b4 b5 b6 kk=>Calls.spliced_nil ?_;have Rb:∀{c o},s1.heap.get? c=some o→c<s1.heap.objs.size:=fun z=>Heap.lt_size z;obtain⟨oa,ea,_⟩:=id pl.isList;obtain⟨ob,eb,_⟩:=id Hh.isList;have la1:=Rb ea;have lb1:=Rb eb;have D:ZipApart (s1.heap.objs.size+4) (s1.heap.objs.size+2) (s1.heap.objs.size+3) s1.heap.objs.size (s1.heap.objs.size+1) la lb:=by
    exact zap _ la lb la1 lb1
  refine YW (s:={s1 with heap:=h'}) (xs:=its) (ys:=its') (ks:=ks') (I1.ok.hd hc) D b1 b2 b3 b4 b5 ?_ ?_ (by omega) (by omega) (by omega) (by rw[hkey];exact hn) (fun j e he=>?_) fun h2 tk km hD=>?_
  ·obtain⟨o,ho,r⟩:=pl.isList;exact⟨o,kk _ _ ho,r⟩
  ·obtain⟨o,ho,r⟩:=Hh.isList;exact⟨o,kk _ _ ho,r⟩
  · have hj:j<(xs.zip ys).length:=by
      have:=(List.getElem?_eq_some_iff.mp he).1;omega
    obtain⟨e',h1,_,_,u,h2,h3⟩:=hr j (xs.zip ys)[j] (List.getElem?_eq_getElem hj);rw[he] at h1;cases h1;exact⟨u,h2,h3⟩
  · have kk2:∀c o,s1.heap.get? c=some o→h2.get? c=some o:=fun c o z=>by
      have:=Rb z;exact km c o (Nat.ne_of_lt (Nat.lt_of_lt_of_le this (Nat.le_add_right _ _))) (Nat.ne_of_lt (Nat.lt_of_lt_of_le this (Nat.le_add_right _ _))) (Nat.ne_of_lt this) (Nat.ne_of_lt (Nat.lt_of_lt_of_le this (Nat.le_add_right _ _))) (kk c o z)
    have hle:s1.heap.objs.size≤h'.objs.size:=by rw[b6];omega
    have hf:H1 h'.objs.size=none:=I1.hok.fresh hle;refine⟨.ref h'.objs.size,_,I1.laid (o:=.dK (fP (xs.zip ys))) (t':=tk) kk2 hle ?_,rfl,q _ hf⟩;refine(show cH _ _ _ _ _ (.dK (fP (xs.zip ys))) from⟨by rw[fP,List.length_map];omega,?_,fP ks',Nz hl' fun j x y h1 h2=>?_,hD⟩)
    ·have h1:=I1.big;have h2:sysModules<h'.objs.size:=Nat.lt_of_lt_of_le h1 hle;exact beq_eq_false_iff_ne.mpr (Nat.ne_of_gt h2)
    ·obtain⟨x',h3,h4,h5,_⟩:=hr j x h1;rw[h2] at h3;cases h3;exact⟨h4,h5⟩
end
def NQ (H0 H:Hp) (tv:List V) (kvs:List (Key×V)):Prop:=tv.length=kvs.length∧∀(i:Nat) (k:Key) (x:V),kvs[i]? = some (k,x)→∃t,tv[i]? = some (.ref t)∧H0 t=none∧H t=some (.tup [kV k,x])
section
variable {X:Cx} {p_:List (Addr×Obj)} {σ:St} {s:Shared}
theorem zE:∀(as:List Addr) (ps:List (V×V)) (H:Hp),Inv X p_ σ H s→as.length=ps.length→as.Pairwise (· < ·)→(∀a∈as,X.s₀.heap.objs.size≤a∧j8 X p_ H a)→
    (∀(j:Nat) (a:Addr) (p:V×V),as[j]? = some a→ps[j]? = some p→∃u v,RelV p.1 u∧RelV p.2 v∧s.heap.get? a=some {cls:=.type "tuple",data:=.seq #[u,v]})→
    ∃H',Inv X p_ σ H' s∧Same H H'∧(∀b,b∉as→H' b=H b)∧∀(j:Nat) (a:Addr) (p:V×V),as[j]? = some a→ps[j]? = some p→H' a=some (.tup [p.1,p.2])
  | [],ps,H,I,_,_,_,_=>⟨H,I,Same.refl _,fun _ _=>rfl,fun j a p h=>by simp at h⟩
  | a::as,[],H,I,hl,_,_,_=>by simp at hl
  | a::as,p::ps,H,I,hl,hp,hf,ho=>by
    obtain⟨u,v,ru,rv,ht⟩:=ho 0 a p rfl rfl;obtain⟨hs,hfp⟩:=hf a List.mem_cons_self;have hpw:=List.pairwise_cons.mp hp;have I1:Inv X p_ σ (upd H a (.tup [p.1,p.2])) s:=I.V6 hs hfp ⟨by show 2≤sizeLine;decide,[u,v],.cons ru (.cons rv .nil),⟨_,ht,rfl,0,rfl⟩⟩;obtain⟨H',I2,s2,o2,t2⟩:=zE as ps _ I1 (by simpa using hl) hpw.2 (fun b hb=>by
      have hne:b≠a:=fun z=>absurd (hpw.1 b hb) (by rw[z];exact Nat.lt_irrefl _);have hfb:=hf b (List.mem_cons_of_mem _ hb);exact⟨hfb.1,KC hfb.2 (by rw[aG hne];exact hfb.2.1)⟩) fun j b q h1 h2=>ho (j+1) b q h1 h2
    have na:a∉as:=fun z=>absurd (hpw.1 a z) (Nat.lt_irrefl _);refine⟨H',I2,(aq hfp.1).trans s2,fun b hb=>?_,fun j b q h1 h2=>?_⟩
    ·rw[o2 b fun z=>hb (List.mem_cons_of_mem _ z),aG fun z=>hb (by rw[z];exact List.mem_cons_self)]
    · match j with
      | 0=>
        cases h1;cases h2;rw[o2 a na,ao]
      | j+1=>exact t2 j b q h1 h2
end
section
variable {X:Cx}
def tLI (td:TE):TE:=fun σ H Q=>td σ H fun x H1=>isRef x fun a=>∃kvs:List (Key×V),Rd H1 a (.dK kvs)∧∀(p:Addr) (tv:List V) (H':Hp),H1 p=none→H' p=some (.lst tv)→NQ H1 H' tv kvs→Same H1 H'→Q (.ref p) H'
@[simp ↓] theorem qgA (td:TE) σ H Q:tLI td σ H Q=(td σ H fun x H1=>isRef x fun a=>∃kvs:List (Key×V),Rd H1 a (.dK kvs)∧∀(p:Addr) (tv:List V) (H':Hp),H1 p=none→H' p=some (.lst tv)→NQ H1 H' tv kvs→Same H1 H'→Q (.ref p) H'):=rfl
theorem qW (hc:X.calm=true) {d:Expr} {td:TE} {p pos apos cpos:Pos} (hg:Gl X "list") (hm:X.mg "list" = none) (hd:PE X d td)
    (hbase:attributeBase d "items" X.env (eval d X.env)=eval d X.env:=by rfl) (hline:(apos.endLine == cpos.line)=true:=by rfl)
    (hs1:starEach [.Call (.Attribute d "items" apos) [] [] cpos] X.env=[(false,eval (.Call (.Attribute d "items" apos) [] [] cpos) X.env)]:=by rfl) :
    PE X (.Call (.Name "list" p) [.Call (.Attribute d "items" apos) [] [] cpos] [] pos) (tLI td):=by
  intro p_ s σ H Q I h;refine wpAny_Call_Name_kw (lU I hg hm boot_list ?_ (by decide) (by decide));refine PyProof.Rows.callWith_type1 ?_ (by rw[hs1];rfl) (by rfl);rw[hs1];show wpAny _ _ (spliced ((false,eval (.Call (.Attribute d "items" apos) [] [] cpos) X.env)::[])) _ _ s;refine Calls.spliced_cons ?_;refine wpAny_Call_method0_late hbase hline (cY (hd p_ s σ H _ I h) fun v s1 zz=>?_);obtain⟨x,H1,I1,r1,q1⟩:=zz;obtain⟨a,rfl,kvs,rd,q⟩:=isRef.out q1;obtain rfl:v=Value.ref a:=r1;obtain⟨t1,t2,t3⟩:=qa0 I1 (.inl ⟨kvs,rd⟩);refine⟨"dict", "dict.items",PySem.F.plainAttrs_dict,PySem.F.slot_dict_items,PySem.F.type_dict_items,t1,t2,Calls.callWith_builtin rfl (PySem.evalArgs_none ?_)⟩;obtain⟨z,hd',vs,rel,o,ds,ep,ho,ex,dat,Xh,prs,Xi⟩:=Bt I1.hok rd;refine call_meetsIn PySem.F.slot_dict_items t1 PySem.F.entry_dict_items (PySem.F.args_dict_items_1 _) (meets_dict_items (bh X.prog X.w) a hd') ⟨⟨vs,o,ds,ep,ho,ex,dat,Xh,prs,Xi⟩,?_⟩;refine Calls.spliced_nil ?_;have p1:∀b u,s1.heap.get? b=some u→(s1.heap.push {cls:=.type "dict_items",data:=.fields #[.ref a]}).get? b=some u:=fun b u e=>Heap.get?_push_of_some _ e;have hz:(s1.heap.push {cls:=.type "dict_items",data:=.fields #[.ref a]}).objs.size=s1.heap.objs.size+1:=Heap.size_push ..;refine W.kdx_call (knd:=bh X.prog X.w) (r:=s1.heap.objs.size) (d:=a) (kvs:=vs) (ep:=ep) (I1.ok.hd hc) ⟨_,Heap.get?_push_size _ rfl,rfl,rfl⟩ ⟨o,ds,p1 _ _ ho,ex,dat,Xh,prs,Xi⟩ (by rw[rel.len];exact z) fun h' tk acc c as keep hlist hlen G hacc=>?_;have kk:∀b u,s1.heap.get? b=some u→h'.get? b=some u:=fun b u e=>keep b u (p1 b u e);have I2:Inv X p_ σ H1 {s1 with heap:=h',toks:=tk}:=I1.kept kk;have hge:∀b,s1.heap.objs.size≤b→X.s₀.heap.objs.size≤b∧j8 X p_ H1 b:=fun b hb=>⟨Nat.le_trans I1.sz hb,I1.Bg hb (I1.hok.fresh hb)⟩;have hS:s1.heap.objs.size≤(s1.heap.push {cls:=.type "dict_items",data:=.fields #[.ref a]}).objs.size:=by rw[hz];exact Nat.le_succ _
  generalize (s1.heap.push {cls:=.type "dict_items",data:=.fields #[.ref a]}).objs.size=S at hlist G hS ⊢;have hab:∀b∈as,S<b:=G.above;obtain⟨H',I3,s3,o3,t3'⟩:=zE (X:=X) (p_:=p_) (σ:=σ) (s:={s1 with heap:=h',toks:=tk}) as (kvs.map fun e=>(kV e.1,e.2)) H1 I2 (by rw[List.length_map,hlen,rel.len]) G.rise (fun b hb=>hge b (Nat.le_trans hS (Nat.le_of_lt (hab b hb)))) fun j b pr h1 h2=>by
    rw[List.getElem?_map] at h2;obtain⟨e,he,rfl⟩:=Option.map_eq_some_iff.mp h2;obtain⟨key,k,x,g1,g2,g3⟩:=G.pairs j b h1;obtain⟨u,hu,ru⟩:=rel.get (i:=j) (k:=e.1) (x:=e.2) he;rw[hu] at g1;cases g1;exact⟨key,_,Gs g2,ru,g3⟩
  have nS:S∉as:=fun z=>absurd (hab S z) (Nat.lt_irrefl _);have fS:=hge S hS;have hS0:H' S=none:=by rw[o3 S nS];exact fS.2.1
  have vals:Vals (as.map V.ref) acc.toList:=by
    rw[hacc];clear hacc G hab hlen t3' o3 nS
    induction as with
    | nil=>exact .nil
    | cons a as ih=>exact .cons rfl ih
  have I4:Inv X p_ σ (upd H' S (.lst (as.map V.ref))) {s1 with heap:=h',toks:=tk}:=I3.V6 fS.1 (KC fS.2 hS0) ⟨by rw[List.length_map,hlen,rel.len];exact z,acc.toList,c,vals,by simpa using hlist⟩;refine⟨.ref S,_,I4,rfl,q S _ _ fS.2.1 ao ⟨by rw[List.length_map,hlen,rel.len],fun i k x hi=>?_⟩ (s3.trans (aq hS0))⟩;have hil:=(List.getElem?_eq_some_iff.mp hi).1;obtain⟨t,ht⟩:∃t,as[i]? = some t:=⟨_,List.getElem?_eq_getElem (by rw[hlen,rel.len];exact hil)⟩;have htm:=List.mem_of_getElem? ht;refine⟨t,by rw[List.getElem?_map,ht];rfl,(hge t (Nat.le_trans hS (Nat.le_of_lt (hab t htm)))).2.1,?_⟩;rw[aG fun z=>nS (by rw[← z];exact htm)];exact t3' i t (kV k,x) ht (by rw[List.getElem?_map,hi];rfl)
end
section
variable {X:Cx} {K:W.Frag}
def Qj (K:W.Frag):V→List V→Hp→VK→Prop:=fun x vs H Q=>isRef x fun l=>ar1 vs fun y=>L2.isInt y fun k=>∃ns:List Int,bA K H l (ns.map V.int)∧k∈ns∧Q (.int (ns.idxOf k:Nat)) H
@[simp ↓] theorem qb2 (K:W.Frag) x vs H Q:Qj K x vs H Q=(isRef x fun l=>ar1 vs fun y=>L2.isInt y fun k=>∃ns:List Int,bA K H l (ns.map V.int)∧k∈ns∧Q (.int (ns.idxOf k:Nat)) H):=rfl
theorem NT (hK:X.K=K):Mv X "list.index" (Qj K):=by
  subst hK;intro p_ s σ H x xs v us Q I rx rs q;obtain⟨l,rfl,q⟩:=isRef.out q;obtain⟨y,rfl,q⟩:=ar1.out q;obtain⟨k,rfl,ns,hl,hk,q⟩:=L2.isInt.out q;obtain⟨u,rfl,ru⟩:=rs.one;obtain⟨t,rfl⟩:=ru;obtain rfl:v=Value.ref l:=rx;obtain⟨its,rv,pl,hz1⟩:=I.list hl;have hi:=intsAre_of rv;obtain⟨⟨cls,dd,data,sl⟩,ho,hc,n,hd⟩:=pl.isList;simp only at hc hd;subst hc hd;have hlen:=hi.length;have hj:ns.idxOf k<ns.length:=List.idxOf_lt_length_iff.mpr hk;have hz2:ns.length≤sizeLine:=by simpa using hz1
  have hs:sizeLine=2 ^ 24:=rfl;refine call_meets PySem.F.slot_list_index ⟨_,ho,rfl⟩ PySem.F.entry_list_index (PySem.F.args_list_index_2 _ _)
    (SeqAt.list_indexAt l its.toArray n dd sl (.int k t) (PyProof.Rows.isInt k) (ns.idxOf k) (by simpa [hlen] using hj) (by omega) ?_ ?_) ⟨ho,fun y hy=>(eq_isInt k t hi y (by simpa using hy)).at _ _,⟨.int _,H,I.tok _,⟨_,rfl⟩,q⟩⟩
  ·show PyProof.Rows.isInt k its[ns.idxOf k]=true;rw[isInt_at k hi _ (by omega) hj];simpa using List.getElem_idxOf hj
  ·intro j hjs hlt;show PyProof.Rows.isInt k its[j]=false;rw[isInt_at k hi j (by simpa using hjs) (by omega)];exact ne_of_lt_idxOf hlt _
end
inductive Qk (H:Hp):List (Str×V)→List (PyData×PyData)→Prop
  | nil:Qk H [] []
  | leaf {x v d ks kvs}:Lf v d→Qk H ks kvs→Qk H ((x,v)::ks) ((.str x,d)::kvs)
  | lst {x t ks kvs} {ss:List Str}:H t=some (.lst (ss.map V.str))→t≠sysModules→Qk H ks kvs→Qk H ((x,.ref t)::ks) ((.str x,.list (ss.map PyData.str))::kvs)
  | tup {x t ks kvs}:H t=some (.tup [])→Qk H ks kvs→Qk H ((x,.ref t)::ks) ((.str x,.tuple [])::kvs)
theorem Qk.same {H H':Hp} {ks:List (Str×V)} {kvs:List (PyData×PyData)} (s:Same H H') (h:Qk H ks kvs):Qk H' ks kvs:=by
  induction h with
  | nil=>exact .nil
  | leaf l _ ih=>exact .leaf l ih
  | lst e n _ ih=>exact .lst (s _ _ e) n ih
  | tup e _ ih=>exact .tup (s _ _ e) ih
theorem Cq {h:Heap}:∀{ss:List Str} {us:List Value},Vals (ss.map V.str) us→ReadsAll h us (ss.map PyData.str) []
  | [],_,r=>by rw[List.map_nil] at r;cases r;exact .nil
  | x::ss,_,r=>by
    rw[List.map_cons] at r;cases r with
    | cons r1 r2=>
      obtain⟨t,rfl⟩:=r1;exact ReadsAll.cons (as:=[]) (bs:=[]) (.str x t) (Cq r2)
section
variable {X:Cx} {p_:List (Addr×Obj)} {σ:St} {H:Hp} {s:Shared}
theorem RL (I:Inv X p_ σ H s) {ks:List (Str×V)} {kvs:List (PyData×PyData)} (l:Qk H ks kvs):∀{vs:List (Key×Value)} {es:List DictEntry},KV (fP ks) vs→Pairs (bh X.prog X.w) es vs→
    ∃bs,ReadsAll s.heap (es.map (·.key)) (kvs.map (·.1)) []∧ReadsAll s.heap (es.map (·.val)) (kvs.map (·.2)) bs∧sysModules∉bs:=by
  have step:∀{x:Str} {v:V} {d:PyData} {ks:List (Str×V)} {kvs:List (PyData×PyData)} {vs:List (Key×Value)} {es:List DictEntry},KV (fP ((x,v)::ks)) vs→Pairs (bh X.prog X.w) es vs→
      (∀u,RelV v u→∃as,Reads s.heap u d as∧sysModules∉as)→
      (∀{vs:List (Key×Value)} {es:List DictEntry},KV (fP ks) vs→Pairs (bh X.prog X.w) es vs→∃bs,ReadsAll s.heap (es.map (·.key)) (kvs.map (·.1)) []∧ReadsAll s.heap (es.map (·.val)) (kvs.map (·.2)) bs∧sysModules∉bs)→
      ∃bs,ReadsAll s.heap (es.map (·.key)) (((PyData.str x,d)::kvs).map (·.1)) []∧ReadsAll s.heap (es.map (·.val)) (((PyData.str x,d)::kvs).map (·.2)) bs∧sysModules∉bs:=by
    intro x v d ks kvs vs es kv ps hv ih;rw[fP,List.map_cons] at kv;cases kv with
    | cons r rs=>
      cases ps with
      | cons h1 h2 h3=>
        obtain⟨bs,i1,i2,i3⟩:=ih rs h3;obtain⟨r1,r2⟩:=r;simp only at r1 r2;rw[← r1] at h1;rw[Ba] at h1
        rcases cG h1 with⟨i,t,e,_⟩ | ⟨y,t,e,ek⟩
        ·cases e
        ·cases e;simp only[List.map_cons];rw[ek,h2];obtain⟨as,ra,na⟩:=hv _ r2;exact⟨as++bs,ReadsAll.cons (as:=[]) (bs:=[]) (.str _ t) i1,.cons ra i2,fun z=>(List.mem_append.mp z).elim na i3⟩
  induction l with
  | nil=>
    intro vs es kv ps;cases kv;cases ps;exact⟨[],.nil,.nil,by simp⟩
  | leaf l _ ih=>intro vs es kv ps;exact step kv ps (fun u ru=>⟨[],l.reads ru,by simp⟩) ih
  | @lst x t ks kvs ss e n _ ih=>
    intro vs es kv ps;refine step kv ps (fun u ru=>?_) ih;cases ru;obtain⟨its,rv,pl,hz⟩:=I.list (bA.of e);obtain⟨o,e',c,m,dt⟩:=pl.isList;refine⟨[t],Reads.list (as:=[]) e' c dt (by simpa using Cq rv),?_⟩;simp;exact n.symm
  | @tup x t ks kvs e _ ih=>
    intro vs es kv ps;refine step kv ps (fun u ru=>?_) ih;cases ru;obtain⟨its,rv,pl,hz⟩:=I.tuple (jK.of e);obtain⟨o,e',c,m,dt⟩:=pl;cases rv;exact⟨[],Reads.tuple e' c dt .nil,by simp⟩
end
def NZ (H:Hp) (d:PyData) (v:V):Prop:=Z2 H d v∨∃(a:Addr) (ks:List (Str×V)) (kvs:List (PyData×PyData)),v = .ref a∧d = .dict kvs∧Qk H ks kvs∧H a=some (.dK (fP ks))
theorem NZ.same {H H':Hp} {d:PyData} {v:V} (h:NZ H d v) (s:Same H H'):NZ H' d v:=by
  rcases h with h | ⟨a,ks,kvs,h1,h2,h3,h4⟩
  ·exact .inl (h.same s)
  ·exact .inr ⟨a,ks,kvs,h1,h2,h3.same s,s _ _ h4⟩
def V7:List V→Hp→VK→Prop:=fun xs H Q=>ar1 xs fun v=>∃d:PyData,NZ H d v∧d.showable=true∧d.depth≤32∧d.shown.length≤sizeLine∧Q (.str d.shown) H
@[simp ↓] theorem qc_ xs H Q:V7 xs H Q=(ar1 xs fun v=>∃d:PyData,NZ H d v∧d.showable=true∧d.depth≤32∧d.shown.length≤sizeLine∧Q (.str d.shown) H):=rfl
theorem zF {X:Cx} (hg:X.A.guards=some []) (hu:X.A.units+64<cLine):cu X (.builtin "repr") V7:=by
  intro p_ s σ H xs us Q I r h;obtain⟨v,rfl,d,hs,h1,h2,h3,q⟩:=ar1.out h
  rcases hs with hs | ⟨a,ks,kvs,rfl,rfl,hl,he⟩
  ·exact Ku hg hu p_ s σ H [v] us Q I r (show Nt [v] H Q from⟨d,hs,h1,h2,h3,q⟩)
  · obtain⟨u,rfl,ru⟩:=r.one;cases ru;obtain⟨_,hd,vs,kv,o,es,ep,e1,e2,e3,_,e5,_⟩:=Pq I.hok he;obtain⟨bs,r1,r2,nb⟩:=RL I hl kv e5;refine repr_of_reads' (h₀:=s.heap) (Reads.dict (as:=[]) e1 e2.1 e3 r1 r2) h1 (fun _ hm=>?_) hg (by omega) (fun _ _ e=>e) (fun h' u tk hk=>⟨.str _,H,I.kept (t':=tk) hk,⟨u,rfl⟩,q⟩) h3;simp at hm
    rcases hm with hm | hm
    ·rw[← hm] at hd;simp at hd
    ·exact nb hm
def Z9 (t:TA):TE:=fun σ H Q=>t σ H fun xs H1=>xs.length≤sizeLine∧∀p,H1 p=none→p≠sysModules→Q (.ref p) (upd H1 p (.lst xs))
@[simp ↓] theorem qeP (t:TA) σ H Q:Z9 t σ H Q=(t σ H fun xs H1=>xs.length≤sizeLine∧∀p,H1 p=none→p≠sysModules→Q (.ref p) (upd H1 p (.lst xs))):=rfl
theorem YX {X:Cx} {es:List Expr} {t:TA} {pos:Pos} (h:PA X es t):PE X (.List es pos) (Z9 t):=by
  intro p_ s σ H Q I hq;refine wpAny_List_spliced (cY (h pos p_ s σ H _ I hq) fun us s1 zz=>?_);obtain⟨xs,H1,I1,r,z,q⟩:=zz;refine⟨by rw[← r.length];exact z,?_⟩;have hf:H1 s1.heap.objs.size=none:=I1.hok.fresh (Nat.le_refl _);refine⟨.ref s1.heap.objs.size,upd H1 s1.heap.objs.size (.lst xs),I1.laid (t':=s1.toks) (fun b u e=>Heap.get?_push_of_some _ e) (Nat.le_refl _) ?_,rfl,q _ hf (Nat.ne_of_gt I1.big)⟩;exact⟨z,us,0,r,Heap.get?_push_size _ rfl⟩
end L2
namespace K15
open PySem L2
def top (i:Nat):Stmt:=PySem.Challenge.pw_pointways_k15_whole_renamed_reordered.main.body.getD i (.Pass ⟨0,0,0,0⟩)
abbrev yK:Stmt:=top 16
abbrev vU:Stmt:=top 17
abbrev qx:Stmt:=top 18
abbrev jP:Stmt:=top 19
abbrev tX:Stmt:=top 20
abbrev ni:Stmt:=top 21
abbrev nj:Stmt:=inClass (top 22) 0
abbrev qX:Stmt:=inClass (top 22) 1
abbrev vV:Stmt:=inClass (top 22) 2
abbrev vW:Stmt:=inClass (top 22) 3
abbrev tY:Stmt:=top 23
abbrev jf:Stmt:=top 24
abbrev gD:Stmt:=top 25
abbrev oU:Stmt:=top 26
abbrev V8:Stmt:=top 28
abbrev N5:Stmt:=top 29
abbrev Ar:Stmt:=top 30
abbrev Ij:Stmt:=top 31
abbrev V9:Stmt:=top 32
abbrev Gv:Stmt:=top 33
abbrev qy:Stmt:=top 34
abbrev tZ:Stmt:=top 35
abbrev qbq:Stmt:=top 36
abbrev dU:Stmt:=top 37
abbrev dY:Stmt:=top 38
abbrev jE:Stmt:=top 39
abbrev lM:Stmt:=top 40
abbrev yL:Stmt:=top 41
abbrev xH:Stmt:=top 42
theorem Cr:bH ["thing"] ["thing"] (aB yK):=⟨rfl,rfl,rfl,by decide+kernel,rfl,by decide+kernel,by decide+kernel⟩
theorem zG:bH ["thing"] ["thing"] (aB vU):=⟨rfl,rfl,rfl,by decide+kernel,rfl,by decide+kernel,by decide+kernel⟩
theorem Cu:bH ["thing"] ["thing"] (aB qx):=⟨rfl,rfl,rfl,by decide+kernel,rfl,by decide+kernel,by decide+kernel⟩
theorem vJ:bH ["thing"] ["thing"] (aB jP):=⟨rfl,rfl,rfl,by decide+kernel,rfl,by decide+kernel,by decide+kernel⟩
theorem Gw:bH ["thing", "points"] ["thing", "points"] (aB tX):=⟨rfl,rfl,rfl,by decide+kernel,rfl,by decide+kernel,by decide+kernel⟩
theorem zH:bH ["thing", "points"] ["thing", "points"] (aB ni):=⟨rfl,rfl,rfl,by decide+kernel,rfl,by decide+kernel,by decide+kernel⟩
theorem zJ:bH ["self", "points", "ties"] ["self", "points", "ties"] (aB nj):=⟨rfl,rfl,rfl,by decide+kernel,rfl,by decide+kernel,by decide+kernel⟩
theorem Er:bH ["self"] ["self"] (aB qX):=⟨rfl,rfl,rfl,by decide+kernel,rfl,by decide+kernel,by decide+kernel⟩
theorem KH:bH ["self"] ["self"] (aB vV):=⟨rfl,rfl,rfl,by decide+kernel,rfl,by decide+kernel,by decide+kernel⟩
theorem KJ:bH ["self"] ["self"] (aB vW):=⟨rfl,rfl,rfl,by decide+kernel,rfl,by decide+kernel,by decide+kernel⟩
theorem xJ:bH ["web", "thing"] ["web", "thing"] (aB tY):=⟨rfl,rfl,rfl,by decide+kernel,rfl,by decide+kernel,by decide+kernel⟩
theorem t_:bH ["web", "thing"] ["web", "thing"] (aB jf):=⟨rfl,rfl,rfl,by decide+kernel,rfl,by decide+kernel,by decide+kernel⟩
theorem gQ:bH ["web", "names", "points", "ties"] ["web", "names"] (aB gD):=⟨rfl,rfl,rfl,by decide+kernel,rfl,by decide+kernel,by decide+kernel⟩
theorem qY:bH ["web", "order", "ties"] ["web", "order"] (aB oU):=⟨rfl,rfl,rfl,by decide+kernel,rfl,by decide+kernel,by decide+kernel⟩
theorem V_:bH ["_law_script", "_law_k", "_law_cell"] ["_law_script", "_law_k"] (aB V8):=⟨rfl,rfl,rfl,by decide+kernel,rfl,by decide+kernel,by decide+kernel⟩
theorem Ql:bH ["_law_pot_here", "_law_many", "_law_digit"] ["_law_pot_here", "_law_many"] (aB N5):=⟨rfl,rfl,rfl,by decide+kernel,rfl,by decide+kernel,by decide+kernel⟩
theorem jg:bH ["_law_pot_here", "_law_many", "_law_letters", "_law_begin", "_law_p", "_law_q", "_law_some", "_law_found", "_law_k", "_law_word", "_law_j"] ["_law_pot_here", "_law_many"] (aB Ar):=⟨rfl,rfl,rfl,by decide+kernel,rfl,by decide+kernel,by decide+kernel⟩
theorem Cv:bH ["_law_pot_here", "_law_things", "_law_found", "_law_thing"] ["_law_pot_here", "_law_things"] (aB Ij):=⟨rfl,rfl,rfl,by decide+kernel,rfl,by decide+kernel,by decide+kernel⟩
theorem N6:bH ["_law_pot_here", "_law_names_here", "_law_a", "_law_b"] ["_law_pot_here", "_law_names_here"] (aB V9):=⟨rfl,rfl,rfl,by decide+kernel,rfl,by decide+kernel,by decide+kernel⟩
theorem qZ:bH ["_law_pot_here", "_law_points", "_law_most", "_law_names_here", "_law_kind", "_law_ties", "_law_row", "_law_k", "_law_turns"] ["_law_pot_here", "_law_points", "_law_most"] (aB Gv):=⟨rfl,rfl,rfl,by decide+kernel,rfl,by decide+kernel,by decide+kernel⟩
theorem eG:bH ["_law_e", "_law_found", "_law_words"] ["_law_e"] (aB qy):=⟨rfl,rfl,rfl,by decide+kernel,rfl,by decide+kernel,by decide+kernel⟩
theorem Ik:bH ["_law_pot_here", "_law_names_here"] ["_law_pot_here", "_law_names_here"] (aB tZ):=⟨rfl,rfl,rfl,by decide+kernel,rfl,by decide+kernel,by decide+kernel⟩
theorem qda:bH ["_law_web_here", "_law_names_here", "_law_ties"] ["_law_web_here", "_law_names_here", "_law_ties"] (aB qbq):=⟨rfl,rfl,rfl,by decide+kernel,rfl,by decide+kernel,by decide+kernel⟩
theorem h_:bH ["_law_web_here", "_law_names_here", "_law_ties", "_law_more", "_law_other", "_law_due", "_law_back"] ["_law_web_here", "_law_names_here", "_law_ties", "_law_more"] (aB dU):=⟨rfl,rfl,rfl,by decide+kernel,rfl,by decide+kernel,by decide+kernel⟩
theorem fZ:bH ["_law_web_here", "_law_names_here", "_law_ties", "_law_order", "_law_other", "_law_due", "_law_back"] ["_law_web_here", "_law_names_here", "_law_ties", "_law_order"] (aB dY):=⟨rfl,rfl,rfl,by decide+kernel,rfl,by decide+kernel,by decide+kernel⟩
theorem ig:bH ["_law_pot_here", "_law_names_here", "_law_more", "_law_odd", "_law_one", "_law_left", "_law_strange", "_law_some"] ["_law_pot_here", "_law_names_here", "_law_more"] (aB jE):=⟨rfl,rfl,rfl,by decide+kernel,rfl,by decide+kernel,by decide+kernel⟩
theorem f9:bH ["_law_pot_here", "_law_order", "_law_at", "_law_some", "_law_odd"] ["_law_pot_here", "_law_order"] (aB lM):=⟨rfl,rfl,rfl,by decide+kernel,rfl,by decide+kernel,by decide+kernel⟩
theorem nu:bH ["_law_kind", "_law_web_here", "_law_thing", "_law_held", "_law_found", "_law_e"] ["_law_kind", "_law_web_here", "_law_thing"] (aB yL):=⟨rfl,rfl,rfl,by decide+kernel,rfl,by decide+kernel,by decide+kernel⟩
theorem uc:bH ["_law_script", "_law_k", "_law_pot_here", "_law_names_here", "_law_ties", "_law_web_here", "_law_more", "_law_order"] ["_law_script"] (aB xH):=⟨rfl,rfl,rfl,by decide+kernel,rfl,by decide+kernel,by decide+kernel⟩
set_option genInjectivity false in
structure Adr where
  iu:Addr
  nA:FuncData
  gb:Addr
  lN:FuncData
  gF:Addr
  kh:FuncData
  dg:Addr
  jh:FuncData
  jQ:Addr
  qz:FuncData
  gj:Addr
  lO:FuncData
  eH:Addr
  lQ:FuncData
  dh:Addr
  lu:FuncData
  gk:Addr
  oV:FuncData
  gq:Addr
  oW:FuncData
  dZ:Addr
  jR:FuncData
  cT:Addr
  gR:FuncData
  dF:Addr
  gw:FuncData
  d7:Addr
  jT:FuncData
  zK:Addr
  Il:FuncData
  ud:Addr
  Av:FuncData
  oX:Addr
  xK:FuncData
  oY:Addr
  xM:FuncData
  zL:Addr
  Im:FuncData
  zM:Addr
  Io:FuncData
  gG:Addr
  kj:FuncData
  fQ:Addr
  mQ:FuncData
  KN:Addr
  Qm:FuncData
  cM:Addr
  iw:FuncData
  cB:Addr
  gA:FuncData
  fV:Addr
  mR:FuncData
  fW:Addr
  mU:FuncData
  jF:Addr
  q_:FuncData
  zN:Addr
  Ip:FuncData
  kE:Value
  dH:Value
  eN:Value
  gU:Value
  bI:Addr
  bN:Addr
  aQ:Addr
  dI:Addr
  aD:Addr
  gB:Addr
  cQ:Addr
  bQ:Addr
  dJ:Addr
  dM:Addr
  cR:Addr
structure Txt (K:W.Frag) (mg:Str→Option Value) (a:Adr):Prop where
  fD:gK K "is_list" "is_list" yK a.iu a.nA
  iy:Binds K a.nA ["thing"] []
  iz:mg "is_list" = some (.ref a.iu)
  nF:gK K "is_whole" "is_whole" vU a.gb a.lN
  vX:Binds K a.lN ["thing"] []
  vY:mg "is_whole" = some (.ref a.gb)
  gH:gK K "is_name" "is_name" qx a.gF a.kh
  jG:Binds K a.kh ["thing"] []
  jH:mg "is_name" = some (.ref a.gF)
  jU:gK K "are_points" "are_points" jP a.dg a.jh
  rm:Binds K a.jh ["thing"] []
  rz:mg "are_points" = some (.ref a.dg)
  uf:gK K "is_tie" "is_tie" tX a.jQ a.qz
  Cw:Binds K a.qz ["thing", "points"] []
  Cy:mg "is_tie" = some (.ref a.jQ)
  nG:gK K "are_ties" "are_ties" ni a.gj a.lO
  vZ:Binds K a.lO ["thing", "points"] []
  wg:mg "are_ties" = some (.ref a.gj)
  wj:gK K "__init__" "Web.__init__" nj a.eH a.lQ
  nH:Binds K a.lQ ["self", "points", "ties"] []
  xO:gK K "points" "Web.points" qX a.dh a.lu
  iB:Binds K a.lu ["self"] []
  Cz:gK K "ties" "Web.ties" vV a.gk a.oV
  nJ:Binds K a.oV ["self"] []
  CG:gK K "many" "Web.many" vW a.gq a.oW
  nM:Binds K a.oW ["self"] []
  lR:gK K "is_number" "is_number" tY a.dZ a.jR
  ug:Binds K a.jR ["web", "thing"] []
  uh:mg "is_number" = some (.ref a.dZ)
  ji:gK K "are_numbers" "are_numbers" jf a.cT a.gR
  pW:Binds K a.gR ["web", "thing"] []
  pX:mg "are_numbers" = some (.ref a.cT)
  kI:gK K "renamed" "renamed" gD a.dF a.gw
  uV:Binds K a.gw ["web", "names"] []
  uW:mg "renamed" = some (.ref a.dF)
  jJ:gK K "reordered" "reordered" oU a.d7 a.jT
  oZ:Binds K a.jT ["web", "order"] []
  o8:mg "reordered" = some (.ref a.d7)
  Wa:gK K "_law_pot" "_law_pot" V8 a.zK a.Il
  Z_:Binds K a.Il ["_law_script", "_law_k"] []
  qaa:mg "_law_pot" = some (.ref a.zK)
  eO:gK K "_law_take" "_law_take" N5 a.ud a.Av
  fG:Binds K a.Av ["_law_pot_here", "_law_many"] []
  fH:mg "_law_take" = some (.ref a.ud)
  Aw:gK K "_law_names" "_law_names" Ar a.oX a.xK
  Ir:Binds K a.xK ["_law_pot_here", "_law_many"] []
  Iu:mg "_law_names" = some (.ref a.oX)
  uX:gK K "_law_mixed" "_law_mixed" Ij a.oY a.xM
  xP:Binds K a.xM ["_law_pot_here", "_law_things"] []
  xQ:mg "_law_mixed" = some (.ref a.oY)
  Wb:gK K "_law_tie" "_law_tie" V9 a.zL a.Im
  qab:Binds K a.Im ["_law_pot_here", "_law_names_here"] []
  qac:mg "_law_tie" = some (.ref a.zL)
  Wc:gK K "_law_web" "_law_web" Gv a.zM a.Io
  qad:Binds K a.Io ["_law_pot_here", "_law_points", "_law_most"] []
  qae:mg "_law_web" = some (.ref a.zM)
  uY:gK K "_law_classes" "_law_classes" qy a.gG a.kj
  Gx:Binds K a.kj ["_law_e"] []
  Gy:mg "_law_classes" = some (.ref a.gG)
  um:gK K "_law_new_names" "_law_new_names" tZ a.fQ a.mQ
  zO:Binds K a.mQ ["_law_pot_here", "_law_names_here"] []
  zP:mg "_law_new_names" = some (.ref a.fQ)
  Iv:gK K "_law_is" "_law_is" qbq a.KN a.Qm
  KQ:Binds K a.Qm ["_law_web_here", "_law_names_here", "_law_ties"] []
  KR:mg "_law_is" = some (.ref a.KN)
  lZ:gK K "_law_renamed_right" "_law_renamed_right" dU a.cM a.iw
  sH:Binds K a.iw ["_law_web_here", "_law_names_here", "_law_ties", "_law_more"] []
  sI:mg "_law_renamed_right" = some (.ref a.cM)
  jV:gK K "_law_reordered_right" "_law_reordered_right" dY a.cB a.gA
  o_:Binds K a.gA ["_law_web_here", "_law_names_here", "_law_ties", "_law_order"] []
  pq:mg "_law_reordered_right" = some (.ref a.cB)
  uo:gK K "_law_bad_names" "_law_bad_names" jE a.fV a.mR
  zQ:Binds K a.mR ["_law_pot_here", "_law_names_here", "_law_more"] []
  zR:mg "_law_bad_names" = some (.ref a.fV)
  uq:gK K "_law_bad_order" "_law_bad_order" lM a.fW a.mU
  zT:Binds K a.mU ["_law_pot_here", "_law_order"] []
  zU:mg "_law_bad_order" = some (.ref a.fW)
  uZ:gK K "_law_refusal" "_law_refusal" yL a.jF a.q_
  yM:Binds K a.q_ ["_law_kind", "_law_web_here", "_law_thing"] []
  yN:mg "_law_refusal" = some (.ref a.jF)
  qaf:gK K "law" "law" xH a.zN a.Ip
  qdb:Binds K a.Ip ["_law_script"] []
  qdc:mg "law" = some (.ref a.zN)
  yO:mg "LETTERS" = some a.kE
  yP:RelV (.str "abcdefghijklmnopqrstuvwxyz") a.kE
  nO:mg "MOST_LETTERS" = some a.dH
  nP:RelV (.int 4) a.dH
  pY:mg "MOST_POINTS" = some a.eN
  pZ:RelV (.int 9) a.eN
  ur:mg "MOST_TIES" = some a.gU
  uw:RelV (.int 20) a.gU
  KY:mg "Web" = some (.ref a.bI)
  jW:Cls K a.bI
  Iw:lW K a.bI "names"
  Ax:lW K a.bI "pairs"
  KZ:Mk K a.bI a.eH
  iC:Meth K a.bI "points" a.dh
  nQ:Meth K a.bI "ties" a.gk
  nR:Meth K a.bI "many" a.gq
  xR:mg "PointError" = some (.ref a.bN)
  mV:mg "NoWeb" = some (.ref a.aQ)
  CJ:mg "NoText" = some (.ref a.dI)
  pA:mg "NoNumbers" = some (.ref a.aD)
  Iz:mg "NoLot" = some (.ref a.gB)
  yQ:mg "NoPoint" = some (.ref a.cQ)
  rC:mg "NoPointing" = some (.ref a.bQ)
  CK:mg "Parted" = some (.ref a.dJ)
  CN:mg "Barred" = some (.ref a.dM)
  yR:mg "TooMuch" = some (.ref a.cR)
  jr:vR K a.aQ
  gV:vR K a.aD
  iD:vR K a.bN
  jX:Ca K a.aQ
  nU:W.mroIn K a.aQ (.ref a.bN)=some true∧a.aQ≠a.bN
  vK:m_ K a.aQ (.ref a.aQ)=some true
  ux:m_ K a.aQ (.ref a.dI)=some false
  pB:m_ K a.aQ (.ref a.aD)=some false
  vL:m_ K a.aQ (.ref a.gB)=some false
  sJ:m_ K a.aQ (.ref a.cQ)=some false
  nW:m_ K a.aQ (.ref a.bQ)=some false
  uy:m_ K a.aQ (.ref a.dJ)=some false
  uz:m_ K a.aQ (.ref a.dM)=some false
  sO:m_ K a.aQ (.ref a.cR)=some false
  nY:m_ K a.aQ (.ty "ValueError")=some true
  cV:Ca K a.aD
  jY:W.mroIn K a.aD (.ref a.bN)=some true∧a.aD≠a.bN
  pC:m_ K a.aD (.ref a.aQ)=some false
  nZ:m_ K a.aD (.ref a.dI)=some false
  j7:m_ K a.aD (.ref a.aD)=some true
  pF:m_ K a.aD (.ref a.gB)=some false
  mJ:m_ K a.aD (.ref a.cQ)=some false
  jZ:m_ K a.aD (.ref a.bQ)=some false
  n_:m_ K a.aD (.ref a.dJ)=some false
  oh:m_ K a.aD (.ref a.dM)=some false
  mK:m_ K a.aD (.ref a.cR)=some false
  j4:m_ K a.aD (.ty "ValueError")=some true
  gC:mg "ValueError" = none
  nm:Nm mg
  LR:Nm2 mg
  nm3:Nm3 mg
end K15
namespace K15
open PySem L2
variable {P:Program} {w:World} {K:W.Frag} {mg:Str→Option Value} {base:Heap} {a:Adr}
def jj (H:Hp) (p:Addr):Prop:=∃x y:Int,H p=some (.lst [.int x,.int y])∧0≤x∧0≤y∧y<4294967296
def qbr (K:W.Frag):Sp:=fun vs H Q _=>∃(l:Addr) (ns:List Int) (k:Nat),vs=[.ref l,.int k]∧bA K H l (ns.map V.int)∧k<100∧∀p H',H p=none→jj H' p→But p H H'→Q (.ref p) H'
def YZ:Sp:=fun vs H Q _=>∃(p:Addr) (m:Int),vs=[.ref p,.int m]∧jj H p∧0<m∧m<1000000∧∀(d:Int) H',0≤d→d<m→jj H' p→But p H H'→Q (.int d) H'
theorem qbs (T:Txt K mg a):bZ P w K mg base lH 1 a.zK a.Il ["_law_script", "_law_k"] (qbr K):=by
  refine T.Wa.sX V_ (fun vs H Q E h=>?_) (fun cdv A outer s H vs Q E hr h=>?_)
  ·obtain⟨l,ns,k,rfl,_⟩:=h;rfl
  · obtain⟨l,ns,k,rfl,hS,hk,q⟩:=h;refine⟨_,(aF (bJ (i:=2) V_.nd rfl (Or.inl rfl) (Bf (bR Bw (aJ 1) (aH (bU (K:=K) rfl) rfl T.nm.len PySem.boot_len (aj (aJ 0) ak)) (bW _)) (cW (dO (K:=K) rfl) (aJ 0) (aJ 1) (fun _ _=>rfl)) aP))
      (aK (bf (cC (aj (aH (BL rfl) rfl T.nm.max boot_max (aj aP (aj (bx Af (aH Gg rfl T.nm.abs boot_abs (aj (aJ 2) ak)) (bx Yw aP aP)) ak))) (aj (bx jo (bx jo (bx oO (aH Gg rfl T.nm.abs boot_abs (aj (aJ 2) ak)) aP) (bx Ai aP (aJ 1))) aP) ak)))))),?_⟩
    have fin:∀(x y:Int),0≤x→0≤y→y<4294967296→∀p:Addr,H p=none→Q (.ref p) (upd H p (.lst [.int x,.int y])):=fun x y h1 h2 h3 p hp=>
      q p _ hp ⟨x,y,ao,h1,h2,h3⟩ fun b o hb e=>by rw[aG hb];exact e
    simp -dsimp[au,stC,-Bool.exists_bool,-List.map_take,-Prod.forall,-Prod.exists];refine⟨_,.inl hS,iI.of (fun h=>?_) (fun h=>?_)⟩
    · have hlt:k<ns.length:=by simpa using h
      simp -dsimp[au,stC,-Bool.exists_bool,-List.map_take,-Prod.forall,-Prod.exists];refine⟨_,.inl hS,.int (ns[k]'hlt),cJ (by simp[hlt]),?_⟩;simp -dsimp[au,stC,-Bool.exists_bool,-List.map_take,-Prod.forall,-Prod.exists];exact fin _ _ (zpa _) (zpb _ _) (zpc _ hk)
    ·simp -dsimp[au,stC,-Bool.exists_bool,-List.map_take,-Prod.forall,-Prod.exists];exact fin _ _ (by first | omega | (split <;> omega)) (by omega) (by omega)
theorem dj (T:Txt K mg a):bZ P w K mg base lH 1 a.ud a.Av ["_law_pot_here", "_law_many"] YZ:=by
  refine T.eO.sX Ql (fun vs H Q E h=>?_) (fun cdv A outer s H vs Q E hr h=>?_)
  ·obtain⟨p,m,rfl,_⟩:=h;rfl
  · obtain⟨p,m,rfl,⟨x,y,hp,hx,hy,hy2⟩,hm,hm2,q⟩:=h;refine⟨_,(aF (cI (bR yF (cW (dO (K:=K) rfl) (aJ 0) aP (fun _ _=>rfl)) aP (bW _)) (aF (Mf (aH Ib rfl T.nm.divmod boot_divmod (aj (cW (dO (K:=K) rfl) (aJ 0) aP (fun _ _=>rfl)) (aj (aJ 1) ak))) (PG.eqv (qM (K:=K) (n:=2) rfl rfl (qJ.eqv (cN (SX (aJ 0) aP Gh) (qJ.eqv (cN (aY (i:=2) Ql.nd rfl (Or.inl rfl)) (qJ.mono mL qP)) (cO _ _))) (cO _ _))) (qQ _ _ _)))
      (aK (bf (aJ 2)))) bF)
      (aF (Mf (bx oO (bx jo (bx Ai (cW (dO (K:=K) rfl) (aJ 0) aP (fun _ _=>rfl)) aP) aP) aP) (SX (aJ 0) aP Gh))
      (aK (bf (bx oO (bx Vi (bx oO (bx Ai (cW (dO (K:=K) rfl) (aJ 0) aP (fun _ _=>rfl)) (cW (dO (K:=K) rfl) (aJ 0) aP (fun _ _=>rfl))) aP) aP) (aJ 1)))))),?_⟩
    have hl:bA K H p [.int x,.int y]:=bA.of hp;simp -dsimp[au,stC,-Bool.exists_bool,-List.map_take,-Prod.forall,-Prod.exists];refine⟨_,.inl hl,_,cJ (j:=0) rfl,?_⟩;simp -dsimp[au,stC,-Bool.exists_bool,-List.map_take,-Prod.forall,-Prod.exists];refine iI.of (fun h=>?_) (fun h=>?_)
    ·simp -dsimp[au,stC,-Bool.exists_bool,-List.map_take,-Prod.forall,-Prod.exists];refine⟨_,.inl hl,_,cJ (j:=0) rfl,?_⟩;simp -dsimp[au,stC,-Bool.exists_bool,-List.map_take,-Prod.forall,-Prod.exists];refine⟨⟨hm,by omega⟩,fun t ht=>?_⟩;have npt:p≠t:=aN hp ht;refine⟨_,jK.of ao,rfl,_,(by rw[aG npt];exact hp),0,rfl,?_⟩;refine q _ _ (Int.emod_nonneg _ (by omega)) (Int.emod_lt_of_pos _ hm) ⟨_,_,ao,Int.ediv_nonneg hx (by omega),hy,hy2⟩ fun b o hb e=>?_;rw[aG hb,aG (aN e ht)];exact e
    ·have z0:0≤(y * 48271+12345) % 2147483647:=Int.emod_nonneg _ (by decide);have z1:(y * 48271+12345) % 2147483647<2147483647:=Int.emod_lt_of_pos _ (by decide);simp -dsimp[au,stC,-Bool.exists_bool,-List.map_take,-Prod.forall,-Prod.exists];refine⟨_,.inl hl,_,cJ (j:=1) rfl,?_⟩;simp -dsimp[au,stC,-Bool.exists_bool,-List.map_take,-Prod.forall,-Prod.exists];refine⟨_,hp,1,rfl,_,.inl (bA.of ao),_,cJ (j:=1) rfl,_,.inl (bA.of ao),_,cJ (j:=1) rfl,?_⟩;simp -dsimp[au,stC,-Bool.exists_bool,-List.map_take,-Prod.forall,-Prod.exists];refine⟨⟨by omega,by omega⟩,hm,?_⟩;refine q _ _ (Int.emod_nonneg _ (by omega)) (Int.emod_lt_of_pos _ hm) ⟨_,_,ao,hx,z0,by omega⟩ fun b o hb e=>?_;rw[aG hb];exact e
def N7:Sp:=fun vs H Q _=>∃p xs,vs=[.ref p]∧Sq H p xs∧∀H',Same H H'→Q (.bl true) H'
theorem rD (T:Txt K mg a):bZ P w K mg base lH 1 a.iu a.nA ["thing"] N7:=by
  refine T.fD.sX Cr (fun vs H Q E h=>?_) (fun cdv A outer s H vs Q E hr h=>?_)
  ·obtain⟨p,xs,rfl,_⟩:=h;rfl
  · obtain⟨p,xs,rfl,hp,q⟩:=h;refine⟨_,(aK (bf (aH (Vm (K:=K) rfl) rfl T.nm.isinstance boot_isinstance (aj (aJ 0) (aj (eX (aj (fX (v:=.ty "list") rfl T.nm.list boot_list rfl) (aj (fX (v:=.ty "tuple") rfl T.nm.tuple boot_tuple rfl) ak))) ak))))),?_⟩;simp -dsimp[au,stC,-Bool.exists_bool,-List.map_take,-Prod.forall,-Prod.exists];refine fun t ht=>⟨_,_,ao,?_⟩
    rcases(hp.same (aq ht)).ty (K:=K) with ty | ty
    ·exact⟨_,ty,true,by simp[W.kitAny,W.kitOne],q _ (aq ht)⟩
    ·exact⟨_,ty,true,by simp[W.kitAny,W.kitOne];rfl,q _ (aq ht)⟩
def N8:Sp:=fun vs H Q _=>∃x,vs=[.str x]∧x.length≤sizeLine∧∀H',Same H H'→Q (.bl (nameB x)) H'
theorem kJ (T:Txt K mg a):bZ P w K mg base lH 1 a.gF a.kh ["thing"] N8:=by
  refine T.gH.sX Cu (fun vs H Q E h=>?_) (fun cdv A outer s H vs Q E hr h=>?_)
  ·obtain⟨x,rfl,_⟩:=h;rfl
  · obtain⟨x,rfl,hx,q⟩:=h;refine⟨_,(aF (cI (PW.pt (lG (bT (bK (aH (qR (K:=K) rfl) rfl T.nm.isinstance boot_isinstance (aj (aJ 0) (aj (fX (v:=.ty "str") rfl T.nm.str boot_str rfl) ak))))) (gO (bT (uQ pU pU aP (aH Vl rfl T.nm.len PySem.boot_len (aj (aJ 0) ak)) (cA rfl T.nO T.nP)))))) (aK (bf iG)) bF)
      (aK (bf (aH (dz rfl) rfl T.nm.all dw (aj (cg rfl rfl (show aR (aB qx) _ ["thing"] ["sign"] [] ["sign"] from⟨rfl,by decide+kernel,by decide+kernel,rfl,by decide+kernel,by decide+kernel⟩) rfl (PI.eqv (MN (aJ 0)) (Bx _)) (fun C s H fp pn=>(aY (i:=0) (show(["sign"]:List Str).Nodup by decide+kernel) rfl (Or.inl rfl))) (fun C s H fp pn=>bO) (fun C s H fp pn=>(cZ (qcS (K:=K) rfl) (aJ 0) (cA rfl T.yO T.yP) rfl))) ak))))),?_⟩
    simp -dsimp[au,stC,-Bool.exists_bool,-List.map_take,-Prod.forall,-Prod.exists];refine⟨_,.str x,_,zx K,iI.neg rfl ?_⟩;simp -dsimp[au,stC,-Bool.exists_bool,-List.map_take,-Prod.forall,-Prod.exists];refine⟨hx,iI.of (fun h1=>?_) (fun h1=>?_)⟩
    · have h1':1≤x.length:=by simp at h1;omega
      simp -dsimp[au,stC,-Bool.exists_bool,-List.map_take,-Prod.forall,-Prod.exists];refine iI.of (fun h2=>?_) (fun h2=>?_)
      · have h2':¬x.length≤4:=by simp at h2;omega
        have e:nameB x=false:=by
          unfold nameB;rw[decide_eq_false h2'];simp
        rw[e] at q;simp -dsimp[au,stC,-Bool.exists_bool,-List.map_take,-Prod.forall,-Prod.exists];exact q H (Same.refl H)
      · have h2':x.length≤4:=by simp at h2;omega
        simp -dsimp[au,stC,-Bool.exists_bool,-List.map_take,-Prod.forall,-Prod.exists];refine fun D hD=>cmS (fun i σ' H'=>(∃o,σ'=[o])∧Same H H'∧H' D=some (.lst ((x.cps.toList.take i).map fun c=>.bl (Yd c)))) ⟨⟨none,rfl⟩,aq hD,by simpa using ao⟩ ?_ ?_
        · rintro i c σ' H' hc ⟨⟨o,rfl⟩,sm,Es⟩;have h4:4<sizeLine:=by decide
          have hsz:x.cps.size=x.length:=rfl;simp -dsimp[au,stC,-Bool.exists_bool,-List.map_take,-Prod.forall,-Prod.exists];refine⟨_,Es,by simp;omega,aZ sm hD,?_⟩;rw[ao,take_one (l:=x.cps.toList) (x:=c) (by simpa using hc),List.map_append];rfl
        · rintro σ' H' ⟨⟨o,rfl⟩,sm,Es⟩;simp -dsimp[au,stC,-Bool.exists_bool,-List.map_take,-Prod.forall,-Prod.exists];refine⟨_,Es,_,jC Yd _,?_⟩;rw[M6];have e:nameB x=(x.cps.toList.take x.cps.size).all Yd:=by
            unfold nameB;rw[decide_eq_true h1',decide_eq_true h2',show x.cps.toList.take x.cps.size=x.cps.toList from List.take_of_length_le (by simp)];rfl
          rw[← e];exact q H' sm
    · have h1':¬1≤x.length:=by simp at h1;omega
      have e:nameB x=false:=by
        unfold nameB;rw[decide_eq_false h1'];simp
      rw[e] at q;simp -dsimp[au,stC,-Bool.exists_bool,-List.map_take,-Prod.forall,-Prod.exists];exact q H (Same.refl H)
theorem Wd {xs:List Str} {i:Nat} {x:V} (h:(xs.map V.str)[i]? = some x):∃z,z∈xs∧x = .str z:=by
  rw[List.getElem?_map] at h;cases e:xs[i]? with
  | none=>rw[e] at h;cases h
  | some z=>
    rw[e] at h;exact⟨z,List.mem_of_getElem? e,(Option.some.inj h).symm⟩
theorem CP {x:Str} (h:nameB x=true):x.length≤sizeLine:=by
  unfold nameB at h;simp at h;have h4:4≤sizeLine:=by decide
  omega
theorem qC:∀n,tO (List.replicate n (.bl true)) (List.replicate n true)
  | 0=>rfl
  | n+1=>⟨true,_,rfl,rfl,qC n⟩
theorem wk:∀xs:List Str,keysOf (xs.map V.str)=xs.map Sum.inr
  | []=>rfl
  | x::xs=>by
    show Sum.inr x::keysOf (xs.map V.str)=_;rw[wk xs];rfl
theorem Wf {xs:List Str} (h:xs.Nodup):(yg (fun i=>(keysOf (xs.map V.str))[i]?.getD (Sum.inl 0)) (xs.map V.str).length).length=xs.length:=by
  rw[wk,List.length_map];refine(M4 _ xs.length fun i j hi hj e=>?_).1;simp[hi,hj] at e;exact(List.getElem_inj h).mp e
structure wu (xs:List Str):Prop where
  len:1≤xs.length∧xs.length≤9
  nm:∀x∈xs,nameB x=true
  nd:xs.Nodup
def Et:Sp:=fun vs H Q _=>∃p xs,vs=[.ref p]∧Sq H p (xs.map V.str)∧wu xs∧∀H',Same H H'→Q (.bl true) H'
theorem Eu (T:Txt K mg a):bZ P w K mg base lH 2 a.dg a.jh ["thing"] Et:=by
  refine T.jU.sX vJ (fun vs H Q E h=>?_) (fun cdv A outer s H vs Q E hr h=>?_)
  ·obtain⟨p,xs,rfl,_⟩:=h;rfl
  · obtain⟨p,xs,rfl,hp,hx,q⟩:=h;refine⟨_,(aF (cI (PW.pt (lG (bT (bK (PE.eqv (aO (rD (K:=K) T) (hr.mono (by decide)) rfl T.iz T.fD.kp T.iy .nil aX (aj (aJ 0) ak)) (aM _ _ _)))) (gO (bT (uQ pU pU aP (aH (bU (K:=K) rfl) rfl T.nm.len PySem.boot_len (aj (aJ 0) ak)) (cA rfl T.pY T.pZ)))))) (aK (bf iG)) bF)
      (aK (bf (jq (aH (dz rfl) rfl T.nm.all dw (aj (cg rfl rfl (show aR (aB jP) _ ["thing"] ["one"] [] ["one"] from⟨rfl,by decide+kernel,by decide+kernel,rfl,by decide+kernel,by decide+kernel⟩) rfl (PI.eqv (jN (K:=K) rfl (aJ 0)) (gP _ _)) (fun C s H fp pn=>(aY (i:=0) (show(["one"]:List Str).Nodup by decide+kernel) rfl (Or.inl rfl))) (fun C s H fp pn=>bO) (fun C s H fp pn=>(PE.eqv (aO (kJ (K:=K) T) (hr.mono (by decide)) rfl T.jH T.gH.kp T.jG .nil aX (aj (aJ 0) ak)) (aM _ _ _)))) ak)) (lV (cZ m6 (aH uO rfl T.nm.len PySem.boot_len (aj (bY (uN rfl) rfl T.nm.set uM (aj (aJ 0) ak)) ak)) (aH (bU (K:=K) rfl) rfl T.nm.len PySem.boot_len (aj (aJ 0) ak)) (bW _))))))),?_⟩
    have hl:=hx.len;have h60:60<sizeLine:=by decide
    simp -dsimp[au,stC,-Bool.exists_bool,-List.map_take,-Prod.forall,-Prod.exists];refine⟨p,_,rfl,hp,fun H1 s1=>?_⟩;have hp1:=hp.same s1;simp -dsimp[au,stC,-Bool.exists_bool,-List.map_take,-Prod.forall,-Prod.exists];refine⟨_,hp1.q,iI.pos (by simp;omega) ?_⟩;simp -dsimp[au,stC,-Bool.exists_bool,-List.map_take,-Prod.forall,-Prod.exists];refine iI.neg (by simp;omega) ?_;obtain⟨b,hb⟩:=hp.b;simp -dsimp[au,stC,-Bool.exists_bool,-List.map_take,-Prod.forall,-Prod.exists];refine⟨b,⟨_,hb K H1 s1⟩,fun D hD=>Xg (xs.map V.str) (fun i σ' H'=>(∃o,σ'=[o])∧Same H1 H'∧H' D=some (.lst (List.replicate i (.bl true)))) ⟨⟨none,rfl⟩,aq hD,ao⟩ (fun i σ' H' _ h=>hb K H' (s1.trans h.2.1)) ?_ ?_⟩
    · rintro i x σ' H' hi ⟨⟨o,rfl⟩,sm,Es⟩;obtain⟨z,hz,rfl⟩:=Wd hi;have hi2:i<xs.length:=by simpa using (List.getElem?_eq_some_iff.mp hi).1
      simp -dsimp[au,stC,-Bool.exists_bool,-List.map_take,-Prod.forall,-Prod.exists];refine⟨z,rfl,CP (hx.nm z hz),fun H2 s2=>?_⟩;simp -dsimp[au,stC,-Bool.exists_bool,-List.map_take,-Prod.forall,-Prod.exists];refine⟨_,s2 _ _ Es,by simp;omega,aZ (sm.trans s2) hD,?_⟩;rw[ao,hx.nm z hz,← List.replicate_succ']
    ·rintro σ' H' ⟨⟨o,rfl⟩,sm,Es⟩;have hp2:=hp1.same sm;simp -dsimp[au,stC,-Bool.exists_bool,-List.map_take,-Prod.forall,-Prod.exists];refine⟨_,Es,_,qC _,?_⟩;rw[show(List.replicate (xs.map V.str).length true).all id=true by simp];simp -dsimp[au,stC,-Bool.exists_bool,-List.map_take,-Prod.forall,-Prod.exists];refine⟨_,hp2.q,by simp[isKey],by simp;unfold scanBound;omega,fun t ht=>⟨_,ao,_,(hp2.same (aq ht)).q,?_⟩⟩;rw[decide_eq_true (by rw[Wf hx.nd];simp)];exact q _ (s1.trans (sm.trans (aq ht)))
theorem Y0 {x:Str} {xs:List Str} (h:x∈xs):inV (.str x) (xs.map V.str)=true:=by
  unfold inV;rw[List.any_eq_true];exact⟨.str x,List.mem_map.mpr ⟨x,h,rfl⟩,by simp[TV]⟩
theorem Wg (xs:List Str):(xs.map V.str).all j6=true:=by
  rw[List.all_eq_true];intro v hv;obtain⟨x,_,rfl⟩:=List.mem_map.mp hv;rfl
def RM:Sp:=fun vs H Q _=>∃t p x y xs,vs=[.ref t,.ref p]∧Sq H t [.str x,.str y]∧Sq H p (xs.map V.str)∧wu xs∧x∈xs∧y∈xs∧x≠y∧∀H',Same H H'→Q (.bl true) H'
theorem RN (T:Txt K mg a):bZ P w K mg base lH 2 a.jQ a.qz ["thing", "points"] RM:=by
  refine T.uf.sX Gw (fun vs H Q E h=>?_) (fun cdv A outer s H vs Q E hr h=>?_)
  ·obtain⟨t,p,x,y,xs,rfl,_⟩:=h;rfl
  · obtain⟨t,p,x,y,xs,rfl,ht,hp,hx,Xj,hym,hne,q⟩:=h;refine⟨_,(aF (cI (PW.pt (lG (bT (bK (PE.eqv (aO (rD (K:=K) T) (hr.mono (by decide)) rfl T.iz T.fD.kp T.iy .nil aX (aj (aJ 0) ak)) (aM _ _ _)))) (gO (bR m7 (aH (bU (K:=K) rfl) rfl T.nm.len PySem.boot_len (aj (aJ 0) ak)) aP (bW _))))) (aK (bf iG)) bF)
      (aF (cI (bT (bK (aH (dz rfl) rfl T.nm.all dw (aj (cg rfl rfl (show aR (aB tX) _ ["thing", "points"] ["end"] [1] ["end", "points"] from⟨rfl,by decide+kernel,by decide+kernel,rfl,by decide+kernel,by decide+kernel⟩) rfl (PI.eqv (jN (K:=K) rfl (aJ 0)) (gP _ _)) (fun C s H fp pn=>(aY (i:=0) (show(["end", "points"]:List Str).Nodup by decide+kernel) rfl (Or.inl rfl))) (fun C s H fp pn=>bO) (fun C s H fp pn=>(jq (PE.eqv (aO (kJ (K:=K) T) (hr.mono (by decide)) rfl T.jH T.gH.kp T.jG .nil aX (aj (aJ 0) ak)) (aM _ _ _)) (lV (cZ (Vj (K:=K) rfl) (aJ 0) (aJ 1) rfl))))) ak)))) (aK (bf iG)) bF)
      (aK (bf (cZ m7 (cW (dO (K:=K) rfl) (aJ 0) aP (fun _ _=>rfl)) (cW (dO (K:=K) rfl) (aJ 0) aP (fun _ _=>rfl)) (bW _)))))),?_⟩
    have h60:60<sizeLine:=by decide
    simp -dsimp[au,stC,-Bool.exists_bool,-List.map_take,-Prod.forall,-Prod.exists];refine⟨t,_,rfl,ht,fun H1 s1=>?_⟩;simp -dsimp[au,stC,-Bool.exists_bool,-List.map_take,-Prod.forall,-Prod.exists];refine⟨_,(ht.same s1).q,false,rfl,iI.neg rfl ?_⟩;obtain⟨b,hb⟩:=ht.b;simp -dsimp[au,stC,-Bool.exists_bool,-List.map_take,-Prod.forall,-Prod.exists];refine⟨b,⟨_,hb K H1 s1⟩,fun D hD=>Xg [.str x,.str y] (fun i σ' H'=>(∃o,σ'=[o,some (.ref p)])∧Same H1 H'∧H' D=some (.lst (List.replicate i (.bl true)))) ⟨⟨none,rfl⟩,aq hD,ao⟩ (fun i σ' H' _ h=>hb K H' (s1.trans h.2.1)) ?_ ?_⟩
    · rintro i v σ' H' hi ⟨⟨o,rfl⟩,sm,Es⟩;obtain⟨z,hz,rfl⟩:∃z,z∈xs∧v = .str z:=by
        match i,hi with
        | 0,hi=>exact⟨x,Xj,(Option.some.inj hi).symm⟩
        | 1,hi=>exact⟨y,hym,(Option.some.inj hi).symm⟩
      have hi2:i<2:=(List.getElem?_eq_some_iff.mp hi).1;simp -dsimp[au,stC,-Bool.exists_bool,-List.map_take,-Prod.forall,-Prod.exists];refine⟨z,rfl,CP (hx.nm z hz),fun H2 s2=>?_⟩;rw[hx.nm z hz];simp -dsimp[au,stC,-Bool.exists_bool,-List.map_take,-Prod.forall,-Prod.exists];refine⟨_,(hp.same (s1.trans (sm.trans s2))).q,rfl,List.all_eq_true.mp (Wg xs),_,s2 _ _ Es,by simp;omega,aZ (sm.trans s2) hD,?_⟩;rw[ao,Y0 hz,← List.replicate_succ']
    ·rintro σ' H' ⟨⟨o,rfl⟩,sm,Es⟩;have CQ:=ht.same (s1.trans sm);simp -dsimp[au,stC,-Bool.exists_bool,-List.map_take,-Prod.forall,-Prod.exists];refine⟨_,Es,_,qC _,?_⟩;rw[show(List.replicate [V.str x,V.str y].length true).all id=true by simp];simp -dsimp[au,stC,-Bool.exists_bool,-List.map_take,-Prod.forall,-Prod.exists];refine⟨_,CQ.q,_,cJ (j:=0) rfl,_,CQ.q,_,cJ (j:=1) rfl,?_⟩;simp -dsimp[au,stC,-Bool.exists_bool,-List.map_take,-Prod.forall,-Prod.exists];refine⟨true,by simp[hne],?_⟩;exact q _ (s1.trans sm)
def CT (H:Hp) (v:V) (e:Str×Str):Prop:=∃t,v = .ref t∧Sq H t [.str e.1,.str e.2]
theorem CT.same {H H':Hp} {v:V} {e:Str×Str} (h:CT H v e) (s:Same H H'):CT H' v e:=by
  obtain⟨t,rfl,h⟩:=h;exact⟨t,rfl,h.same s⟩
def lA (H:Hp) (vs:List V) (ps:List (Str×Str)):Prop:=vs.length=ps.length∧∀(i:Nat) v e,vs[i]? = some v→ps[i]? = some e→CT H v e
theorem lA.same {H H':Hp} {vs:List V} {ps:List (Str×Str)} (h:lA H vs ps) (s:Same H H'):lA H' vs ps:=⟨h.1,fun i v e h1 h2=>(h.2 i v e h1 h2).same s⟩
theorem lA.at {H:Hp} {vs:List V} {ps:List (Str×Str)} (h:lA H vs ps) {i:Nat} {v:V} (hv:vs[i]? = some v):∃e,ps[i]? = some e∧CT H v e:=by
  have hi:i<ps.length:=by rw[← h.1];exact(List.getElem?_eq_some_iff.mp hv).1
  exact⟨ps[i],by simp[hi],h.2 i v _ hv (by simp[hi])⟩
structure qD (xs:List Str) (ps:List (Str×Str)):Prop where
  len:ps.length≤20
  ok:∀e∈ps,e.1∈xs∧e.2∈xs∧e.1≠e.2
def K1:Sp:=fun vs H Q _=>∃t p tv xs ps,vs=[.ref t,.ref p]∧Sq H t tv∧lA H tv ps∧Sq H p (xs.map V.str)∧wu xs∧qD xs ps∧∀H',Same H H'→Q (.bl true) H'
theorem K3 (T:Txt K mg a):bZ P w K mg base lH 3 a.gj a.lO ["thing", "points"] K1:=by
  refine T.nG.sX zH (fun vs H Q E h=>?_) (fun cdv A outer s H vs Q E hr h=>?_)
  ·obtain⟨t,p,tv,xs,ps,rfl,_⟩:=h;rfl
  · obtain⟨t,p,tv,xs,ps,rfl,ht,hpr,hp,hx,hts,q⟩:=h;refine⟨_,(aF (cI (PW.pt (lG (bT (bK (PE.eqv (aO (rD (K:=K) T) (hr.mono (by decide)) rfl T.iz T.fD.kp T.iy .nil aX (aj (aJ 0) ak)) (aM _ _ _)))) (gO (bR yF (aH (bU (K:=K) rfl) rfl T.nm.len PySem.boot_len (aj (aJ 0) ak)) (cA rfl T.ur T.uw) (bW _))))) (aK (bf iG)) bF)
      (aK (bf (aH (dz rfl) rfl T.nm.all dw (aj (cg rfl rfl (show aR (aB ni) _ ["thing", "points"] ["one"] [1] ["one", "points"] from⟨rfl,by decide+kernel,by decide+kernel,rfl,by decide+kernel,by decide+kernel⟩) rfl (PI.eqv (jN (K:=K) rfl (aJ 0)) (gP _ _)) (fun C s H fp pn=>(aY (i:=0) (show(["one", "points"]:List Str).Nodup by decide+kernel) rfl (Or.inl rfl))) (fun C s H fp pn=>bO) (fun C s H fp pn=>(PE.eqv (aO (RN (K:=K) T) (hr.mono (by decide)) rfl T.Cy T.uf.kp T.Cw .nil aX (aj (aJ 0) (aj (aJ 1) ak))) (aM _ _ _)))) ak))))),?_⟩
    have hlen:=hpr.1;have Xk:=hts.len;have h60:60<sizeLine:=by decide
    simp -dsimp[au,stC,-Bool.exists_bool,-List.map_take,-Prod.forall,-Prod.exists];refine⟨t,_,rfl,ht,fun H1 s1=>?_⟩;simp -dsimp[au,stC,-Bool.exists_bool,-List.map_take,-Prod.forall,-Prod.exists];refine⟨_,(ht.same s1).q,iI.neg (by simp;omega) ?_⟩;obtain⟨b,hb⟩:=ht.b;simp -dsimp[au,stC,-Bool.exists_bool,-List.map_take,-Prod.forall,-Prod.exists];refine⟨b,⟨_,hb K H1 s1⟩,fun D hD=>Xg tv (fun i σ' H'=>(∃o,σ'=[o,some (.ref p)])∧Same H1 H'∧H' D=some (.lst (List.replicate i (.bl true)))) ⟨⟨none,rfl⟩,aq hD,ao⟩ (fun i σ' H' _ h=>hb K H' (s1.trans h.2.1)) ?_ ?_⟩
    ·rintro i v σ' H' hi ⟨⟨o,rfl⟩,sm,Es⟩;obtain⟨e,he,t2,rfl,CQ⟩:=hpr.at hi;have hi2:i<tv.length:=(List.getElem?_eq_some_iff.mp hi).1;obtain⟨h1,h2,h3⟩:=hts.ok e (List.mem_of_getElem? he);have s2:=s1.trans sm;simp -dsimp[au,stC,-Bool.exists_bool,-List.map_take,-Prod.forall,-Prod.exists];refine⟨t2,p,e.1,e.2,xs,rfl,CQ.same s2,hp.same s2,hx,h1,h2,h3,fun H2 s3=>?_⟩;simp -dsimp[au,stC,-Bool.exists_bool,-List.map_take,-Prod.forall,-Prod.exists];refine⟨_,s3 _ _ Es,by simp;omega,aZ (sm.trans s3) hD,?_⟩;rw[ao,← List.replicate_succ']
    ·rintro σ' H' ⟨⟨o,rfl⟩,sm,Es⟩;simp -dsimp[au,stC,-Bool.exists_bool,-List.map_take,-Prod.forall,-Prod.exists];refine⟨_,Es,_,qC _,?_⟩;rw[show(List.replicate tv.length true).all id=true by simp];exact q _ (s1.trans sm)
def aV (H:Hp) (vs:List V) (ps:List (Str×Str)):Prop:=vs.length=ps.length∧∀(i:Nat) v e,vs[i]? = some v→ps[i]? = some e→∃t,v = .ref t∧H t=some (.tup [.str e.1,.str e.2])
def lq (H H':Hp):Prop:=∀b xs,H b=some (.tup xs)→H' b=some (.tup xs)
theorem aV.keep {H H':Hp} {vs:List V} {ps:List (Str×Str)} (h:aV H vs ps) (s:lq H H'):aV H' vs ps:=⟨h.1,fun i v e h1 h2=>by
  obtain⟨t,rfl,e⟩:=h.2 i v e h1 h2;exact⟨t,rfl,s _ _ e⟩⟩
theorem aV.snoc {H:Hp} {vs:List V} {ps:List (Str×Str)} {t:Addr} {e:Str×Str} (h:aV H vs ps) (ht:H t=some (.tup [.str e.1,.str e.2])):aV H (vs++[.ref t]) (ps++[e]):=by
  refine⟨by simp[h.1],fun i v d h1 h2=>?_⟩
  by_cases hi:i<vs.length
  ·rw[List.getElem?_append_left hi] at h1;rw[List.getElem?_append_left (by rw[← h.1];exact hi)] at h2;exact h.2 i v d h1 h2
  · rw[List.getElem?_append_right (by omega)] at h1;rw[List.getElem?_append_right (by rw[← h.1];omega),← h.1] at h2;cases hk:i - vs.length with
    | zero=>
      rw[hk] at h1 h2;cases h1;cases h2;exact⟨t,rfl,ht⟩
    | succ j=>
      rw[hk] at h1;simp at h1
structure cD (C:Addr) (H:Hp) (o:Addr) (xs:List Str) (ps:List (Str×Str)):Prop where
  ex:∃dx n m tv,H o=some (.ins C dx [("names",V.ref n),("pairs",V.ref m)])∧H n=some (.tup (xs.map V.str))∧H m=some (.tup tv)∧aV H tv ps∧ps.length≤20
def Y4 (C:Addr):Sp:=fun vs H Q _=>∃o dx p t tv xs ps,vs=[.ref o,.ref p,.ref t]∧H o=some (.ins C dx [])∧Sq H t tv∧lA H tv ps∧Sq H p (xs.map V.str)∧wu xs∧qD xs ps∧
  ∀H',cD C H' o xs ps→But o H H'→Q .non H'
theorem uD (T:Txt K mg a):bZ P w K mg base lH 4 a.eH a.lQ ["self", "points", "ties"] (Y4 a.bI):=by
  refine T.wj.sX zJ (fun vs H Q E h=>?_) (fun cdv A outer s H vs Q E hr h=>?_)
  ·obtain⟨o,dx,p,t,tv,xs,ps,rfl,_⟩:=h;rfl
  · obtain⟨o,dx,p,t,tv,xs,ps,rfl,ho,ht,hpr,hp,hx,hts,q⟩:=h;refine⟨_,(aF (cI (bT (bK (PE.eqv (aO (Eu (K:=K) T) (hr.mono (by decide)) rfl T.rz T.jU.kp T.rm .nil aX (aj (aJ 1) ak)) (aM _ _ _)))) (aK tH) bF)
      (aF (cI (bT (bK (PE.eqv (aO (K3 (K:=K) T) (hr.mono (by decide)) rfl T.wg T.nG.kp T.vZ .nil aX (aj (aJ 2) (aj (aJ 1) ak))) (aM _ _ _)))) (aK tH) bF)
      (aF (Ae (K:=K) rfl (aJ 0) (bY qu rfl T.nm.tuple boot_tuple (aj (aJ 1) ak)) rfl)
      (aK (Ae (K:=K) rfl (aJ 0) (bY qu rfl T.nm.tuple boot_tuple (aj (cg rfl rfl (show aR (aB nj) _ ["self", "points", "ties"] ["pair"] [] ["pair"] from⟨rfl,by decide+kernel,by decide+kernel,rfl,by decide+kernel,by decide+kernel⟩) rfl (PI.eqv (jN (K:=K) rfl (aJ 2)) (gP _ _)) (fun C s H fp pn=>(aY (i:=0) (show(["pair"]:List Str).Nodup by decide+kernel) rfl (Or.inl rfl))) (fun C s H fp pn=>bO) (fun C s H fp pn=>(eX (aj (cW (dO (K:=K) rfl) (aJ 0) aP (fun _ _=>rfl)) (aj (cW (dO (K:=K) rfl) (aJ 0) aP (fun _ _=>rfl)) ak))))) ak)) rfl))))),?_⟩
    simp -dsimp[au,stC,-Bool.exists_bool,-List.map_take,-Prod.forall,-Prod.exists];refine⟨p,xs,rfl,hp,hx,fun H1 s1=>?_⟩;simp -dsimp[au,stC,-Bool.exists_bool,-List.map_take,-Prod.forall,-Prod.exists];refine⟨t,p,tv,xs,ps,rfl,ht.same s1,hpr.same s1,hp.same s1,hx,hts,fun H2 s2'=>?_⟩;have s2:=s1.trans s2';simp -dsimp[au,stC,-Bool.exists_bool,-List.map_take,-Prod.forall,-Prod.exists];refine⟨_,hp.same s2,fun n H3 hn s3'=>?_⟩;have s3:=s2.trans s3';have nno:n≠o:=Fi hn (s3 _ _ ho) (by intro z;cases z);refine⟨_,_,_,s3 _ _ ho,T.jW,T.Iw,by simp,?_⟩;have hto:t≠o:=by rcases ht with z | z <;> exact Fi z ho (by intro y;cases y)
    have qdd:∀{ob:HO} {b:Addr} {u:HO},b≠o→H b=some u→upd H3 o ob b=some u:=fun hb e=>by rw[aG hb];exact s3 _ _ e
    obtain⟨b,hb⟩:∃b,∀H',(∀c u,c≠o→H c=some u→H' c=some u)→ZF b K H' t tv:=by
      rcases ht with z | z
      ·exact⟨true,fun H' k=>bA.of (k _ _ hto z)⟩
      ·exact⟨false,fun H' k=>jK.of (k _ _ hto z)⟩
    have e1:qj "names" (V.ref n) []=([("names",V.ref n)]:List (Str×V)):=rfl;rw[e1];have st4:∀(c:Addr) (u:HO),c≠o→H c=some u→upd H3 o (.ins a.bI dx [("names",V.ref n)]) c=some u:=fun c u hc e=>qdd hc e;generalize h4:upd H3 o (.ins a.bI dx [("names",V.ref n)])=H4 at st4 ⊢;have ho4:H4 o=some (.ins a.bI dx [("names",V.ref n)]):=by rw[← h4];exact ao
    have hn4:H4 n=some (.tup (xs.map V.str)):=by rw[← h4,aG nno];exact hn
    refine⟨b,⟨_,hb H4 st4⟩,fun D hD=>Xg tv (fun i σ' H'=>(∃o',σ'=[o'])∧Same H4 H'∧∃tvs,H' D=some (.lst tvs)∧aV H' tvs (ps.take i)) ⟨⟨none,rfl⟩,aq hD,[],ao,by simp[aV]⟩ (fun i σ' H' _ h=>hb H' fun c u hc e=>h.2.1 _ _ (st4 c u hc e)) ?_ ?_⟩
    · rintro i v σ' H' hi ⟨⟨o',rfl⟩,sm,tvs,Es,htv⟩;have hi2:i<tv.length:=(List.getElem?_eq_some_iff.mp hi).1;have hlen:=hpr.1;have Xk:=hts.len;obtain⟨e,he,t2,rfl,CQ⟩:=hpr.at hi;have t2o:t2≠o:=by rcases CQ with z | z <;> exact Fi z ho (by intro y;cases y)
      have Sd:Sq H' t2 [.str e.1,.str e.2]:=by
        rcases CQ with z | z
        ·exact .inl (sm _ _ (st4 _ _ t2o z))
        ·exact .inr (sm _ _ (st4 _ _ t2o z))
      simp -dsimp[au,stC,-Bool.exists_bool,-List.map_take,-Prod.forall,-Prod.exists];refine⟨_,Sd.q,_,cJ (j:=0) rfl,_,Sd.q,_,cJ (j:=1) rfl,fun pt hpt=>?_⟩;have hDp:D≠pt:=aN Es hpt;refine⟨tvs,by rw[aG hDp];exact Es,?_,aZ (sm.trans (aq hpt)) hD,_,ao,?_⟩
      · have h4':20<sizeLine:=by decide
        have:=htv.1;simp at this;omega
      · rw[take_one he];refine(htv.keep ?_).snoc ?_
        ·intro c zs ec;rw[aG (Fi ec Es (by intro y;cases y)),aG (aN ec hpt)];exact ec
        ·rw[aG (Ne.symm hDp)];exact ao
    · rintro σ' H' ⟨⟨o',rfl⟩,sm,tvs,Es,htv⟩;simp -dsimp[au,stC,-Bool.exists_bool,-List.map_take,-Prod.forall,-Prod.exists];refine⟨tvs,.inl Es,fun m H5 hm s5=>⟨_,_,_,s5 _ _ (sm _ _ ho4),T.jW,T.Ax,by simp,?_⟩⟩;have ho5:=s5 _ _ (sm _ _ ho4);have mno:m≠o:=Fi hm ho5 (by intro z;cases z);have e2:qj "pairs" (V.ref m) ([("names",V.ref n)]:List (Str×V))=([("names",V.ref n),("pairs",V.ref m)]:List (Str×V)):=by
        show(if ("names" : Str) = "pairs" then _ else (("names" : Str),V.ref n)::qj "pairs" (V.ref m) [])=_
        rw[if_neg (by decide+kernel)];rfl
      rw[e2];refine q _ ⟨dx,n,m,tvs,ao,?_,?_,?_,hts.len⟩ fun c u hc e=>?_
      ·rw[aG nno];exact s5 _ _ (sm _ _ hn4)
      ·rw[aG mno];exact hm
      ·have hl:=hpr.1;rw[hl,List.take_length] at htv;refine htv.keep fun c zs ec=>?_;rw[aG (Fi (s5 _ _ ec) ho5 (by intro z;cases z))];exact s5 _ _ ec
      ·rw[aG hc];exact s5 _ _ (sm _ _ (st4 c u hc e))
def RP (C:Addr):Sp:=fun vs H Q _=>∃o xs ps,vs=[.ref o]∧cD C H o xs ps∧∀l,H l=none→Q (.ref l) (upd H l (.lst (xs.map V.str)))
theorem jk (T:Txt K mg a):bZ P w K mg base lH 1 a.dh a.lu ["self"] (RP a.bI):=by
  refine T.xO.sX Er (fun vs H Q E h=>?_) (fun cdv A outer s H vs Q E hr h=>?_)
  ·obtain⟨o,xs,ps,rfl,_⟩:=h;rfl
  ·obtain⟨o,xs,ps,rfl,⟨dx,n,m,tv,h1,h2,h3,h4,h5⟩,q⟩:=h;refine⟨_,(aK (bf (bY (BJ (K:=K) rfl) rfl T.nm.list boot_list (aj (PE.eqv (Hq (K:=K) rfl (aJ 0) rfl) (Ia _ _ _)) ak)))),?_⟩;simp -dsimp[au,stC,-Bool.exists_bool,-List.map_take,-Prod.forall,-Prod.exists];refine⟨_,_,_,h1,T.jW,T.Iw,_,rfl,_,.inr (jK.of h2),q⟩
def Y5 (C:Addr):Sp:=fun vs H Q _=>∃o xs ps,vs=[.ref o]∧cD C H o xs ps∧∀l tv,H l=none→aV H tv ps→Q (.ref l) (upd H l (.lst tv))
theorem pG (T:Txt K mg a):bZ P w K mg base lH 1 a.gk a.oV ["self"] (Y5 a.bI):=by
  refine T.Cz.sX KH (fun vs H Q E h=>?_) (fun cdv A outer s H vs Q E hr h=>?_)
  ·obtain⟨o,xs,ps,rfl,_⟩:=h;rfl
  ·obtain⟨o,xs,ps,rfl,⟨dx,n,m,tv,h1,h2,h3,h4,h5⟩,q⟩:=h;refine⟨_,(aK (bf (bY (BJ (K:=K) rfl) rfl T.nm.list boot_list (aj (PE.eqv (Hq (K:=K) rfl (aJ 0) rfl) (Ia _ _ _)) ak)))),?_⟩;simp -dsimp[au,stC,-Bool.exists_bool,-List.map_take,-Prod.forall,-Prod.exists];refine⟨_,_,_,h1,T.jW,T.Ax,_,rfl,_,.inr (jK.of h3),fun l hl=>q l tv hl h4⟩
theorem jj.upd {p q:Addr} {H:Hp} {u:HO} (x:jj H p) (h:p≠q):jj (L2.upd H q u) p:=by
  obtain⟨a,b,e,r⟩:=x;exact⟨a,b,by rw[aG h];exact e,r⟩
theorem jj.ne {p q:Addr} {H:Hp} (x:jj H p) (h:H q=none):p≠q:=by
  obtain⟨a,b,e,r⟩:=x;exact aN e h
theorem jj.none {p b:Addr} {H H':Hp} (x:But p H H') (hp:jj H' p) (h:H' b = .none):H b = .none:=by
  obtain⟨a,b,e,r⟩:=hp;exact x.none e h
def Wh:Sp:=fun vs H Q _=>∃p l xs,vs=[.ref p,.ref l]∧jj H p∧l≠p∧H l=some (.lst xs)∧xs.length≤100∧∀r ys H',H r=none→H' r=some (.lst ys)→ys.Perm xs→jj H' p→But p H H'→Q (.ref r) H'
theorem xT (T:Txt K mg a):bZ P w K mg base lH 2 a.oY a.xM ["_law_pot_here", "_law_things"] Wh:=by
  refine T.uX.sX Cv (fun vs H Q E h=>?_) (fun cdv A outer s H vs Q E hr h=>?_)
  ·obtain⟨p,l,xs,rfl,_⟩:=h;rfl
  · obtain⟨p,l,xs,rfl,hp,hlp,hl,h100,q⟩:=h;refine⟨_,(aF (bJ (i:=2) Cv.nd rfl (Or.inl rfl) (cC ak))
      (aF (yj PassesOwn.never rfl (PI.eqv (dG (K:=K) rfl (aJ 1)) (cP _ _)) (aY (i:=3) Cv.nd rfl (Or.inl rfl))
      (aK (jl (pQ (K:=K) rfl PySem.F.plainAttrs_list PySem.F.slot_list_insert PySem.F.type_list_insert Nk (aJ 2) (aj (PE.eqv (aO (dj (K:=K) T) (hr.mono (by decide)) rfl T.fH T.eO.kp T.fG .nil aX (aj (aJ 0) (aj (bx jo (aH (bU (K:=K) rfl) rfl T.nm.len PySem.boot_len (aj (aJ 2) ak)) aP) ak))) (aM _ _ _)) (aj (aJ 3) ak))))))
      (aK (bf (aJ 2))))),?_⟩
    have h4':100<sizeLine:=by decide
    simp -dsimp[au,stC,-Bool.exists_bool,-List.map_take,-Prod.forall,-Prod.exists];intro r hr0;have hpr:p≠r:=hp.ne hr0;refine⟨⟨_,bA.of (eU hl hr0)⟩,frL xs (fun i σ H'=>∃v ys,σ=[some (.ref p),some (.ref l),some (.ref r),v]∧H' r=some (.lst ys)∧ys.Perm (xs.take i)∧jj H' p∧But p H H') ⟨none,[],rfl,ao,by simp,hp.upd hpr,(But.refl _ _).new hr0⟩ (fun i σ H' _ ⟨_,_,_,_,_,_,hb⟩=>bA.of (hb _ _ hlp hl)) ?_ ?_⟩
    · rintro i x σ H' hi ⟨v,ys,rfl,hr',hperm,hP,hB⟩;have hi2:i<xs.length:=(List.getElem?_eq_some_iff.mp hi).1;have hly:ys.length=i:=by
        have:=hperm.length_eq;simp at this;omega
      simp -dsimp[au,stC,-Bool.exists_bool,-List.map_take,-Prod.forall,-Prod.exists];refine⟨⟨_,bA.of hr'⟩,ys,.inl (bA.of hr'),p,_,rfl,hP,by omega,by omega,fun d H1 hd0 hd1 Gz Ew=>?_⟩;have hr1:H1 r=some (.lst ys):=Ew _ _ (Ne.symm hpr) hr';simp -dsimp[au,stC,-Bool.exists_bool,-List.map_take,-Prod.forall,-Prod.exists];refine⟨ys,hr1,hd0,by omega,by omega,_,ao,?_,Gz.upd hpr,(hB.trans Ew).new hr0⟩
      · rw[take_one hi];have e:(ys.take d.toNat++x::ys.drop d.toNat).Perm (x::ys):=by
          refine List.perm_middle.trans ?_;rw[List.take_append_drop]
        exact e.trans ((List.Perm.cons x hperm).trans (List.perm_append_singleton x _).symm)
    ·rintro σ H' ⟨v,ys,rfl,hr',hperm,hP,hB⟩;rw[List.take_length] at hperm;simp -dsimp[au,stC,-Bool.exists_bool,-List.map_take,-Prod.forall,-Prod.exists];exact q r ys H' hr0 hr' hperm hP hB
def qbt:Sp:=fun vs H Q _=>∃(p l:Addr) (xs:List Str),vs=[.ref p,.ref l]∧jj H p∧l≠p∧H l=some (.lst (xs.map V.str))∧2≤xs.length∧xs.length≤9∧xs.Nodup∧∀t x y H',H t=none→H' t=some (.tup [.str x,.str y])→x∈xs→y∈xs→x≠y→jj H' p→But p H H'→Q (.ref t) H'
theorem qbu (T:Txt K mg a):bZ P w K mg base lH 2 a.zL a.Im ["_law_pot_here", "_law_names_here"] qbt:=by
  refine T.Wb.sX N6 (fun vs H Q E h=>?_) (fun cdv A outer s H vs Q E hr h=>?_)
  ·obtain⟨p,l,xs,rfl,_⟩:=h;rfl
  · obtain⟨p,l,xs,rfl,hp,hlp,hl,h2,h9,hnd,q⟩:=h;refine⟨_,(aF (bJ (i:=2) N6.nd rfl (Or.inl rfl) (PE.eqv (aO (dj (K:=K) T) (hr.mono (by decide)) rfl T.fH T.eO.kp T.fG .nil aX (aj (aJ 0) (aj (aH (bU (K:=K) rfl) rfl T.nm.len PySem.boot_len (aj (aJ 1) ak)) ak))) (aM _ _ _)))
      (aF (bJ (i:=3) N6.nd rfl (Or.inl rfl) (bx oO (bx jo (bx jo (aJ 2) aP) (PE.eqv (aO (dj (K:=K) T) (hr.mono (by decide)) rfl T.fH T.eO.kp T.fG .nil aX (aj (aJ 0) (aj (bx Af (aH (bU (K:=K) rfl) rfl T.nm.len PySem.boot_len (aj (aJ 1) ak)) aP) ak))) (aM _ _ _))) (aH (bU (K:=K) rfl) rfl T.nm.len PySem.boot_len (aj (aJ 1) ak))))
      (aK (bf (eX (aj (cW (dO (K:=K) rfl) (aJ 1) (aJ 2) (fun _ _=>rfl)) (aj (cW (dO (K:=K) rfl) (aJ 1) (aJ 3) (fun _ _=>rfl)) ak))))))),?_⟩
    simp -dsimp[au,stC,-Bool.exists_bool,-List.map_take,-Prod.forall,-Prod.exists];refine⟨_,.inl (bA.of hl),p,_,rfl,hp,by simp;omega,by simp;omega,fun d H1 hd0 hd1 Gz Ew=>?_⟩;have hl1:=Ew _ _ hlp hl;simp -dsimp[au,stC,-Bool.exists_bool,-List.map_take,-Prod.forall,-Prod.exists];refine⟨_,.inl (bA.of hl1),p,_,rfl,Gz,by simp;omega,by simp;omega,fun e H2 he0 he1 hP2 hB2=>?_⟩;have hl2:=hB2 _ _ hlp hl1;simp only[List.length_map] at hd1 he1;obtain⟨m0,m1,m2⟩:=qaZ hd0 hd1 he0 he1;obtain⟨vx,ex,ax⟩:=Pn (xs:=xs.map V.str) hd0 (by simpa using hd1);obtain⟨vy,ey,ay⟩:=Pn (xs:=xs.map V.str) m0 (by simpa using m1);obtain⟨x,ex',rfl⟩:=qN ex;obtain⟨y,ey',rfl⟩:=qN ey;have sl:=bA.of (K:=K) hl2;simp -dsimp[au,stC,-Bool.exists_bool,-List.map_take,-Prod.forall,-Prod.exists];refine⟨_,.inl sl,by simp;omega,_,.inl sl,_,ax,_,.inl sl,_,(by simpa using ay),fun t ht=>?_⟩;refine q t x y _ (jj.none (Ew.trans hB2) hP2 ht) ao (List.mem_of_getElem? ex') (List.mem_of_getElem? ey') (fun z=>?_) (hP2.upd (hP2.ne ht)) ((Ew.trans hB2).same (aq ht));subst z;have:=J2 hnd ex' ey';omega
def Wi:Sp:=fun vs H Q _=>∃(p:Addr) (m:Nat),vs=[.ref p,.int m]∧jj H p∧1≤m∧m≤9∧∀(r:Addr) (xs:List Str) (H':Hp),H r=none→H' r=some (.lst (xs.map V.str))→wu xs→xs.length=m→jj H' p→But p H H'→Q (.ref r) H'
theorem K4 (T:Txt K mg a):bZ P w K mg base lH 2 a.oX a.xK ["_law_pot_here", "_law_many"] Wi:=by
  refine T.Aw.sX jg (fun vs H Q E h=>?_) (fun cdv A outer s H vs Q E hr h=>?_)
  ·obtain⟨p,m,rfl,_⟩:=h;rfl
  · obtain⟨p,m,rfl,hp,h1,h9,q⟩:=h;refine⟨_,(aF (bJ (i:=2) jg.nd rfl (Or.inl rfl) bL)
      (aF (bJ (i:=3) jg.nd rfl (Or.inl rfl) (PE.eqv (aO (dj (K:=K) T) (hr.mono (by decide)) rfl T.fH T.eO.kp T.fG .nil aX (aj (aJ 0) (aj aP ak))) (aM _ _ _)))
      (aF (cI (bR m6 (PE.eqv (aO (dj (K:=K) T) (hr.mono (by decide)) rfl T.fH T.eO.kp T.fG .nil aX (aj (aJ 0) (aj aP ak))) (aM _ _ _)) aP (bW _)) (aF (PS.eqv (qav (i:=4) (j:=5) rfl jg.nd rfl rfl (by decide) rfl rfl (aj (cW Aj (aJ 2) (aJ 3) (fun _ _=>rfl)) (aj (cW Aj (aJ 2) (bx oO (bx jo (aJ 3) aP) aP) (fun _ _=>rfl)) ak)) rfl) (Yv _ _ _))
      (aF (bJ (i:=6) jg.nd rfl (Or.inr rfl) (cC (aj (aJ 4) (aj (bx bM (aJ 4) (aJ 4)) (aj (bx bM (aJ 4) (aJ 5)) (aj (bx bM (bx bM (aJ 4) (aJ 4)) (aJ 5)) (aj (aJ 5) (aj (bx bM (aJ 5) (aJ 4)) (aj (bx bM (bx bM (aJ 4) (aJ 4)) (aJ 4)) (aj (bx bM (bx bM (aJ 4) (aJ 5)) (aJ 4)) (aj (bx bM (aJ 5) (aJ 5)) (aj (bx bM (bx bM (bx bM (aJ 4) (aJ 4)) (aJ 4)) (aJ 5)) (aj (bx bM (bx bM (aJ 4) (aJ 5)) (aJ 5)) (aj (bx bM (bx bM (aJ 5) (aJ 4)) (aJ 4)) ak))))))))))))))
      (aK (bf (cg rfl rfl (show aR (aB Ar) _ ["_law_pot_here", "_law_many", "_law_letters", "_law_begin", "_law_p", "_law_q", "_law_some", "_law_found", "_law_k", "_law_word", "_law_j"] ["_law_k"] [6,0] ["_law_k", "_law_some", "_law_pot_here"] from⟨rfl,by decide+kernel,by decide+kernel,rfl,by decide+kernel,by decide+kernel⟩) rfl (PI.eqv (mX rfl T.nm.range (aj (aJ 1) ak)) (mY _)) (fun C s H fp pn=>(aY (i:=0) (show(["_law_k", "_law_some", "_law_pot_here"]:List Str).Nodup by decide+kernel) rfl (Or.inl rfl))) (fun C s H fp pn=>bO) (fun C s H fp pn=>(pQ (K:=K) rfl PySem.F.plainAttrs_list PySem.F.slot_list_pop PySem.F.type_list_pop Ua (aJ 1) (aj (PE.eqv (aO (dj (K:=K) T) (hr.mono (by decide)) rfl T.fH T.eO.kp T.fG .nil aX (aj (aJ 2) (aj (aH (bU (K:=K) rfl) rfl T.nm.len PySem.boot_len (aj (aJ 1) ak)) ak))) (aM _ _ _)) ak)))))))) bF)
      (aF (bJ (i:=7) jg.nd rfl (Or.inl rfl) (cC ak))
      (aF (yj PassesOwn.never rfl (PI.eqv (mX rfl T.nm.range (aj (aJ 1) ak)) (mY _)) (aY (i:=8) jg.nd rfl (Or.inl rfl))
      (aF (bJ (i:=9) jg.nd rfl (Or.inl rfl) (cW Aj (aJ 2) (bx oO (bx jo (aJ 3) (bx Ai aP (aJ 8))) aP) (fun _ _=>rfl)))
      (aF (yj PassesOwn.never rfl (PI.eqv (mX rfl T.nm.range (aj (PE.eqv (aO (dj (K:=K) T) (hr.mono (by decide)) rfl T.fH T.eO.kp T.fG .nil aX (aj (aJ 0) (aj aP ak))) (aM _ _ _)) ak)) (mY _)) (aY (i:=10) jg.nd rfl (Or.inl rfl))
      (aK (bJ (i:=9) jg.nd rfl (Or.inl rfl) (bx bM (aJ 9) (cW Aj (aJ 2) (PE.eqv (aO (dj (K:=K) T) (hr.mono (by decide)) rfl T.fH T.eO.kp T.fG .nil aX (aj (aJ 0) (aj aP ak))) (aM _ _ _)) (fun _ _=>rfl))))))
      (aK (jl (pQ (K:=K) rfl PySem.F.plainAttrs_list PySem.F.slot_list_append PySem.F.type_list_append ju (aJ 7) (aj (aJ 9) ak)))))))
      (aK (bf (aJ 7)))))))),?_⟩
    simp -dsimp[au,stC,-Bool.exists_bool,-List.map_take,-Prod.forall,-Prod.exists];refine⟨p,_,rfl,hp,by decide,by decide,fun d H1 hd0 hd1 Gz Ew=>?_⟩;obtain⟨b,rfl,qfU,hbl⟩:=oM hd0 hd1;simp -dsimp[au,stC,-Bool.exists_bool,-List.map_take,-Prod.forall,-Prod.exists];refine⟨p,_,rfl,Gz,by decide,by decide,fun e H2 he0 he1 hP2 hB2'=>?_⟩;have hB2:=Ew.trans hB2';simp -dsimp[au,stC,-Bool.exists_bool,-List.map_take,-Prod.forall,-Prod.exists];refine iI.of (fun he=>?_) (fun he=>?_)
    · obtain⟨c,hc,qde,hcl⟩:=oM (i:=((b:Int)+1) % 26) (by omega) (by omega);have hc':c=(b+1) % 26:=by omega
      have l1:∀c:Nat,(⟨#[c]⟩:Str).length=1:=fun _=>rfl;have la:∀x y:Str,(x++y).length=x.length+y.length:=fun x y=>Array.size_append;simp -dsimp[au,stC,-Bool.exists_bool,-List.map_take,-Prod.forall,-Prod.exists,hbl,hcl,tU,l1,la];intro L hL0;refine⟨by omega,fun D hD0=>?_⟩;have hW:(H2 L=none):=hL0;have eW:([V.str ⟨#[97+b]⟩,V.str (⟨#[97+b]⟩++⟨#[97+b]⟩),V.str (⟨#[97+b]⟩++⟨#[97+c]⟩),V.str (⟨#[97+b]⟩++⟨#[97+b]⟩++⟨#[97+c]⟩),V.str ⟨#[97+c]⟩,V.str (⟨#[97+c]⟩++⟨#[97+b]⟩),V.str (⟨#[97+b]⟩++⟨#[97+b]⟩++⟨#[97+b]⟩),V.str (⟨#[97+b]⟩++⟨#[97+c]⟩++⟨#[97+b]⟩),V.str (⟨#[97+c]⟩++⟨#[97+c]⟩),V.str (⟨#[97+b]⟩++⟨#[97+b]⟩++⟨#[97+b]⟩++⟨#[97+c]⟩),V.str (⟨#[97+b]⟩++⟨#[97+c]⟩++⟨#[97+c]⟩),V.str (⟨#[97+c]⟩++⟨#[97+b]⟩++⟨#[97+b]⟩)]:List V)=(wU (97+b) (97+c)).map V.str:=rfl;rw[eW] at hD0 ⊢;obtain⟨wnd,wok⟩:=hc'▸M9 b qfU;have qgS:(wU (97+b) (97+c)).length=12:=rfl;generalize wU (97+b) (97+c)=iH at *;have hLD:L≠D:=fun z=>by subst z;rw[ao] at hD0;cases hD0
      have hD2:H2 D=none:=by rw[aG hLD.symm] at hD0;exact hD0
      refine cmR (fun i σ H'=>∃v ys zs,σ=[v,some (.ref L),some (.ref p)]∧H' L=some (.lst (zs.map V.str))∧H' D=some (.lst (ys.map V.str))∧ys.length=i∧(ys++zs).Perm iH∧jj H' p∧But p H H') ⟨none,[],iH,rfl,by rw[aG hLD,ao],ao,rfl,by simp,(hP2.upd (hP2.ne hL0)).upd (hP2.ne hD2),(hB2.same (aq hL0)).same (aq hD0)⟩ ?_ ?_
      · rintro i σ H' hi ⟨v,ys,zs,rfl,hL,hD,hl,hpm,hP,hB⟩;have hz:zs.length=12 - i:=by
          have:=hpm.length_eq;simp at this;omega
        simp -dsimp[au,stC,-Bool.exists_bool,-List.map_take,-Prod.forall,-Prod.exists];refine⟨⟨_,bA.of hL⟩,_,.inl (bA.of hL),p,_,rfl,hP,by simp;omega,by simp;omega,fun e H3 he0 he1 K5 hB3=>?_⟩;simp only[List.length_map] at he1;have pL:L≠p:=fun z=>by subst z;obtain⟨_,_,u,_⟩:=hP2;rw[hL0] at u;cases u
        have pD:D≠p:=fun z=>by subst z;obtain⟨_,_,u,_⟩:=hP2;rw[hD2] at u;cases u
        have hL3:=hB3 _ _ pL hL;have DY:=hB3 _ _ pD hD;have hek:e.toNat<zs.length:=by omega
        simp -dsimp[au,stC,-Bool.exists_bool,-List.map_take,-Prod.forall,-Prod.exists];have hz2:zs[e.toNat]? = some (zs[e.toNat]'hek):=by simp[hek]
        refine⟨_,hL3,by omega,by omega,e.toNat,Hr he0 (by simpa using he1),.str (zs[e.toNat]'hek),by rw[List.getElem?_map,hz2];rfl,_,by rw[aG hLD.symm];exact DY,?_,ys++[zs[e.toNat]'hek],zs.eraseIdx e.toNat,?_,?_,by simp[hl],?_,(K5.upd pL.symm).upd pD.symm,?_⟩
        ·have h12:=of_eq_true qfp;simp only[List.length_map];omega
        ·rw[aG hLD,ao,Rg]
        ·rw[ao];simp
        ·refine List.Perm.trans ?_ hpm;rw[List.append_assoc];exact List.Perm.append_left ys (M7 hz2)
        ·exact(hB.trans hB3).new (jj.none hB2 hP2 hL0) |>.new (jj.none hB2 hP2 hD2)
      ·rintro σ H' ⟨v,ys,zs,rfl,hL,hD,hl,hpm,hP,hB⟩;simp -dsimp[au,stC,-Bool.exists_bool,-List.map_take,-Prod.forall,-Prod.exists];have hnd:(ys++zs).Nodup:=hpm.nodup_iff.mpr wnd;refine q D ys H' (jj.none (p:=p) hB2 hP2 hD2) hD ⟨by omega,fun x hx=>wok x (hpm.mem_iff.mp (List.mem_append_left _ hx)),(List.nodup_append.mp hnd).1⟩ hl hP hB
    · simp -dsimp[au,stC,-Bool.exists_bool,-List.map_take,-Prod.forall,-Prod.exists];intro r hr0;refine⟨by omega,frR (fun i σ H'=>∃v8 v9 v10 ws,σ=[some (.ref p),some (.int m),some (.str (Str.ofString "abcdefghijklmnopqrstuvwxyz")),some (.int b),none,none,none,some (.ref r),v8,v9,v10]∧H' r=some (.lst (ws.map V.str))∧ws.length=i∧(∀(j:Nat) x,ws[j]? = some x→∃k,1≤k∧k≤4∧pR (97+(b+5 * j) % 26) k x)∧jj H' p∧But p H H') ⟨none,none,none,[],rfl,ao,rfl,fun j x e=>by simp at e,hP2.upd (hP2.ne hr0),hB2.same (aq hr0)⟩ ?_ ?_⟩
      · rintro i σ H' hi ⟨v8,v9,v10,ws,rfl,hr',hl,hw,hP,hB⟩;simp -dsimp[au,stC,-Bool.exists_bool,-List.map_take,-Prod.forall,-Prod.exists];obtain⟨c,hc,qde,hcl⟩:=oM (i:=((b:Int)+5 * i) % 26) (by omega) (by omega);have hc':c=(b+5 * i) % 26:=by omega
        have pr:r≠p:=fun z=>by subst z;obtain⟨_,_,u,_⟩:=hP2;rw[hr0] at u;cases u
        refine⟨tU,_,hcl,p,_,rfl,hP,by decide,by decide,fun e H3 he0 he1 K5 hB3=>?_⟩;simp -dsimp[au,stC,-Bool.exists_bool,-List.map_take,-Prod.forall,-Prod.exists];refine⟨by omega,by omega,frR (fun j σ H'=>∃v10 x,σ=[some (.ref p),some (.int m),some (.str (Str.ofString "abcdefghijklmnopqrstuvwxyz")),some (.int b),none,none,none,some (.ref r),some (.int i),some (.str x),v10]∧H' r=some (.lst (ws.map V.str))∧pR (97+c) (j+1) x∧jj H' p∧But p H H') ⟨v10,_,rfl,hB3 _ _ pr hr',pR.one qde,K5,hB.trans hB3⟩ ?_ ?_⟩
        ·rintro j σ H4 hj ⟨v10,x,rfl,hr4,hx,JF,Wj⟩;simp -dsimp[au,stC,-Bool.exists_bool,-List.map_take,-Prod.forall,-Prod.exists];refine⟨p,_,rfl,JF,by decide,by decide,fun f H5 hf0 hf1 GC K6=>?_⟩;obtain⟨n,rfl,qfV,hnl⟩:=oM hf0 hf1;simp -dsimp[au,stC,-Bool.exists_bool,-List.map_take,-Prod.forall,-Prod.exists,tU,hnl];have hx1:=hx.len;have s20:=of_eq_true Nf;refine⟨?_,_,_,⟨rfl,rfl⟩,K6 _ _ pr hr4,hx.snoc (by omega) qfV,GC,Wj.trans K6⟩;show x.length+1≤sizeLine;omega
        · rintro σ H4 ⟨v10,x,rfl,hr4,hx,JF,Wj⟩;simp -dsimp[au,stC,-Bool.exists_bool,-List.map_take,-Prod.forall,-Prod.exists];have s20:=of_eq_true Nf;refine⟨⟨_,bA.of hr4⟩,_,hr4,by simp;omega,ws++[x],by rw[ao];simp,by simp[hl],fun j y e=>?_,JF.upd pr.symm,Wj.new (jj.none hB2 hP2 hr0)⟩
          by_cases hj:j<ws.length
          ·rw[List.getElem?_append_left hj] at e;exact hw j y e
          · rw[List.getElem?_append_right (by omega)] at e;cases hk:j - ws.length with
            | zero=>
              rw[hk] at e;simp at e;subst e;have ej:j=i:=by omega
              subst ej;exact⟨_,by omega,by omega,hc'▸hx⟩
            | succ k=>
              rw[hk] at e;simp at e
      · rintro σ H' ⟨v8,v9,v10,ws,rfl,hr',hl,hw,hP,hB⟩;simp -dsimp[au,stC,-Bool.exists_bool,-List.map_take,-Prod.forall,-Prod.exists];have nd:ws.Nodup:=by
          unfold List.Nodup;rw[List.pairwise_iff_getElem];intro i j hi hj hij e;obtain⟨k1,_,_,w1⟩:=hw i _ (by simp[hi]:ws[i]? = some ws[i]);obtain⟨k2,_,_,w2⟩:=hw j _ (by simp[hj]:ws[j]? = some ws[j]);have z:=w1.fst;rw[e,w2.fst] at z;simp at z;omega
        refine q r ws H' (jj.none hB2 hP2 hr0) hr' ⟨by omega,fun x hx=>?_,nd⟩ hl hP hB;obtain⟨j,hj,e⟩:=List.mem_iff_getElem.mp hx;obtain⟨k,k1,k4,w⟩:=hw j x (by simp[hj,e]);exact w.name k1 k4
theorem aV.perm {H:Hp} {vs ys:List V} {ps:List (Str×Str)} (h:aV H vs ps) (hp:ys.Perm vs):∃qs:List (Str×Str),aV H ys qs∧qs.Perm ps:=by
  have e1:vs=(vs.zip ps).map (·.1):=by rw[List.map_fst_zip (by rw[h.1];exact Nat.le_refl _)]
  have e2:ps=(vs.zip ps).map (·.2):=by rw[List.map_snd_zip (by rw[h.1];exact Nat.le_refl _)]
  obtain⟨l',pl,e⟩:=qO hp _ e1;refine⟨l'.map (·.2),⟨by rw[e];simp,fun i v d h1 h2=>?_⟩,by rw[e2];exact pl.map _⟩;rw[e,List.getElem?_map] at h1;rw[List.getElem?_map] at h2;cases hz:l'[i]? with
  | none=>rw[hz] at h1;cases h1
  | some z=>
    rw[hz] at h1 h2;cases h1;cases h2;have hm:z∈vs.zip ps:=pl.mem_iff.mp (List.mem_of_getElem? hz);obtain⟨j,hj,ez⟩:=List.mem_iff_getElem.mp hm;have hj':j<vs.length∧j<ps.length:=by
      simp at hj;omega
    simp at ez;subst ez;exact h.2 j _ _ (by simp[hj'.1]) (by simp[hj'.2])
theorem aV.at {H:Hp} {vs:List V} {ps:List (Str×Str)} (h:aV H vs ps) {i:Nat} {v:V} (hv:vs[i]? = some v):∃e,ps[i]? = some e∧∃t,v = .ref t∧H t=some (.tup [.str e.1,.str e.2]):=by
  have hi:i<ps.length:=by rw[← h.1];exact(List.getElem?_eq_some_iff.mp hv).1
  exact⟨ps[i],by simp[hi],h.2 i v _ hv (by simp[hi])⟩
theorem aV.but {p:Addr} {H H':Hp} {vs:List V} {ps:List (Str×Str)} (h:aV H vs ps) (hp:jj H p) (b:But p H H'):aV H' vs ps:=h.keep fun c xs e=>b c _ (fun z=>by
  subst z;obtain⟨_,_,u,_⟩:=hp;rw[e] at u;cases u) e
theorem aV.same {H H':Hp} {vs:List V} {ps:List (Str×Str)} (h:aV H vs ps) (b:Same H H'):aV H' vs ps:=h.keep fun c xs e=>b c _ e
theorem jj.nl {p q:Addr} {H:Hp} (x:jj H p) (h:H q = .none):q≠p:=fun z=>(x.ne h) z.symm
def qbw:Sp:=fun vs H Q _=>∃(p:Addr) (m k:Nat),vs=[.ref p,.int m,.int k]∧jj H p∧1≤m∧m≤9∧m≤k∧k≤20∧∀(t n l:Addr) (xs:List Str) (tv:List V) (ps:List (Str×Str)) (H':Hp),
  H t=none→H n=none→H l=none→H' t=some (.tup [.ref n,.ref l])→H' n=some (.lst (xs.map V.str))→H' l=some (.lst tv)→aV H' tv ps→wu xs→qD xs ps→xs.length≤m→ps.length≤k→jj H' p→But p H H'→Q (.ref t) H'
theorem qbx (T:Txt K mg a):bZ P w K mg base lH 3 a.zM a.Io ["_law_pot_here", "_law_points", "_law_most"] qbw:=by
  refine T.Wc.sX qZ (fun vs H Q E h=>?_) (fun cdv A outer s H vs Q E hr h=>?_)
  ·obtain⟨p,m,k,rfl,_⟩:=h;rfl
  · obtain⟨p,m,k,rfl,hp,h1,h9,hmk,hk,q⟩:=h;refine⟨_,(aF (bJ (i:=3) qZ.nd rfl (Or.inl rfl) (PE.eqv (aO (K4 (K:=K) T) (hr.mono (by decide)) rfl T.Iu T.Aw.kp T.Ir .nil aX (aj (aJ 0) (aj (bx jo aP (PE.eqv (aO (dj (K:=K) T) (hr.mono (by decide)) rfl T.fH T.eO.kp T.fG .nil aX (aj (aJ 0) (aj (aJ 1) ak))) (aM _ _ _))) ak))) (aM _ _ _)))
      (aF (bJ (i:=4) qZ.nd rfl (Or.inl rfl) (PE.eqv (aO (dj (K:=K) T) (hr.mono (by decide)) rfl T.fH T.eO.kp T.fG .nil aX (aj (aJ 0) (aj aP ak))) (aM _ _ _)))
      (aF (bJ (i:=5) qZ.nd rfl (Or.inl rfl) (cC ak))
      (aF (cI (bR yF (aH (bU (K:=K) rfl) rfl T.nm.len PySem.boot_len (aj (aJ 3) ak)) aP (bW _)) (aF (bJ (i:=6) qZ.nd rfl (Or.inr rfl) (PE.eqv (aO (xT (K:=K) T) (hr.mono (by decide)) rfl T.xQ T.uX.kp T.xP .nil aX (aj (aJ 0) (aj (aJ 3) ak))) (aM _ _ _)))
      (aF (cI (bR yF (aJ 4) aP (bW _)) (aK (jt (i:=5) qZ.nd rfl rfl rfl rfl (show aR (aB Gv) _ ["_law_pot_here", "_law_points", "_law_most", "_law_names_here", "_law_kind", "_law_ties", "_law_row", "_law_k", "_law_turns"] ["_law_k"] [6] ["_law_k", "_law_row"] from⟨rfl,by decide+kernel,by decide+kernel,rfl,by decide+kernel,by decide+kernel⟩) rfl (PI.eqv (QG rfl T.nm.range (aj (bY BK rfl T.nm.int uL (aj (cZ m6 (aJ 4) aP (bW _)) ak)) (aj (aH (bU (K:=K) rfl) rfl T.nm.len PySem.boot_len (aj (aJ 6) ak)) ak))) (Rt _)) (fun C s H fp pn=>(aY (i:=0) (show(["_law_k", "_law_row"]:List Str).Nodup by decide+kernel) rfl (Or.inl rfl))) (fun C s H fp pn=>bO) (fun C s H fp pn=>(eX (aj (cW (dO (K:=K) rfl) (aJ 1) (bx Af (aJ 0) aP) (fun _ _=>rfl)) (aj (cW (dO (K:=K) rfl) (aJ 1) (aJ 0) (fun _ _=>rfl)) ak)))))) bF)
      (aK (yj PassesOwn.never rfl (PI.eqv (mX rfl T.nm.range (aj (PE.eqv (aO (dj (K:=K) T) (hr.mono (by decide)) rfl T.fH T.eO.kp T.fG .nil aX (aj (aJ 0) (aj (bx jo (bx Af (aJ 2) (aH (bU (K:=K) rfl) rfl T.nm.len PySem.boot_len (aj (aJ 5) ak))) aP) ak))) (aM _ _ _)) ak)) (mY _)) (aY (i:=7) qZ.nd rfl (Or.inl rfl))
      (aK (jl (pQ (K:=K) rfl PySem.F.plainAttrs_list PySem.F.slot_list_append PySem.F.type_list_append ju (aJ 5) (aj (PE.eqv (aO (qbu (K:=K) T) (hr.mono (by decide)) rfl T.qac T.Wb.kp T.qab .nil aX (aj (aJ 0) (aj (aJ 3) ak))) (aM _ _ _)) ak)))))))) bF)
      (aF (jt (i:=8) qZ.nd rfl rfl rfl rfl (show aR (aB Gv) _ ["_law_pot_here", "_law_points", "_law_most", "_law_names_here", "_law_kind", "_law_ties", "_law_row", "_law_k", "_law_turns"] ["_law_tie_here"] [0] ["_law_tie_here", "_law_pot_here"] from⟨rfl,by decide+kernel,by decide+kernel,rfl,by decide+kernel,by decide+kernel⟩) rfl (PI.eqv (dG (K:=K) rfl (aJ 5)) (cP _ _)) (fun C s H fp pn=>(aY (i:=0) (show(["_law_tie_here", "_law_pot_here"]:List Str).Nodup by decide+kernel) rfl (Or.inl rfl))) (fun C s H fp pn=>bO) (fun C s H fp pn=>(PE.eqv (aO (dj (K:=K) T) (hr.mono (by decide)) rfl T.fH T.eO.kp T.fG .nil aX (aj (aJ 1) (aj aP ak))) (aM _ _ _))))
      (aF (jt (i:=5) qZ.nd rfl rfl rfl rfl (show aR (aB Gv) _ ["_law_pot_here", "_law_points", "_law_most", "_law_names_here", "_law_kind", "_law_ties", "_law_row", "_law_k", "_law_turns"] ["_law_turn", "_law_a", "_law_b"] [] ["_law_turn", "_law_a", "_law_b"] from⟨rfl,by decide+kernel,by decide+kernel,rfl,by decide+kernel,by decide+kernel⟩) rfl (PI.eqv (Yg (K:=K) rfl rfl T.nm.zip (aj (aJ 5) (aj (aJ 8) ak))) (Vg _ _)) (fun C s H fp pn=>(PG.eqv (qM (K:=K) (n:=2) rfl rfl (qJ.eqv (cN (PG.eqv (qM (K:=K) (n:=2) rfl rfl (qJ.eqv (cN (aY (i:=1) (show(["_law_turn", "_law_a", "_law_b"]:List Str).Nodup by decide+kernel) rfl (Or.inl rfl)) (qJ.eqv (cN (aY (i:=2) (show(["_law_turn", "_law_a", "_law_b"]:List Str).Nodup by decide+kernel) rfl (Or.inl rfl)) (qJ.mono mL qP)) (cO _ _))) (cO _ _))) (qQ _ _ _)) (qJ.eqv (cN (aY (i:=0) (show(["_law_turn", "_law_a", "_law_b"]:List Str).Nodup by decide+kernel) rfl (Or.inl rfl)) (qJ.mono mL qP)) (cO _ _))) (cO _ _))) (qQ _ _ _))) (fun C s H fp pn=>bO) (fun C s H fp pn=>(cW (dO (K:=K) rfl) (cC (aj (eX (aj (aJ 1) (aj (aJ 2) ak))) (aj (eX (aj (aJ 2) (aj (aJ 1) ak))) ak))) (aJ 0) (fun _ _=>rfl))))
      (aK (bf (eX (aj (aJ 3) (aj (PE.eqv (aO (xT (K:=K) T) (hr.mono (by decide)) rfl T.xQ T.uX.kp T.xP .nil aX (aj (aJ 0) (aj (aJ 5) ak))) (aM _ _ _)) ak))))))))))),?_⟩
    simp -dsimp[au,stC,-Bool.exists_bool,-List.map_take,-Prod.forall,-Prod.exists];refine⟨p,_,rfl,hp,qfK h1,zlt h9 (by decide),fun d H1 hd0 hd1 Gz Ew=>?_⟩;simp -dsimp[au,stC,-Bool.exists_bool,-List.map_take,-Prod.forall,-Prod.exists];refine⟨p,d.toNat+1,?_,Gz,Nat.le_add_left 1 _,ztn hd0 hd1 h9,fun n xs H2 hn hn2 hX hxl hP2 hB2'=>?_⟩
    ·simp;exact qfM hd0 1
    have Xj:xs.length≤m:=by rw[hxl];exact ztn hd0 hd1 (Nat.le_refl m)
    have hx9:=Nat.le_trans Xj h9;have hB2:=Ew.trans hB2';simp -dsimp[au,stC,-Bool.exists_bool,-List.map_take,-Prod.forall,-Prod.exists];refine⟨p,_,rfl,hP2,by decide,by decide,fun kd H3 hk0 hk1 K5 qdf=>?_⟩;have hB3:=hB2.trans qdf;have np:n≠p:=fun z=>by subst z;obtain⟨_,_,u,_⟩:=Gz;rw[hn] at u;cases u
    have hn3:=qdf _ _ np hn2;simp -dsimp[au,stC,-Bool.exists_bool,-List.map_take,-Prod.forall,-Prod.exists];refine fun L hL=>⟨_,.inl (bA.of (eU hn3 hL)),J4 (fun σ H4=>∃v6 v7 L tv ps,σ=[some (.ref p),some (.int m),some (.int k),some (.ref n),some (.int kd),some (.ref L),v6,v7,none]∧H L=none∧H4 L=some (.lst tv)∧aV H4 tv ps∧qD xs ps∧ps.length≤k∧H4 n=some (.lst (xs.map V.str))∧jj H4 p∧But p H H4) ?_ ?_⟩
    · rintro σ H4 ⟨v6,v7,L,tv,ps,rfl,hL0,hL4,htv,hts,hpk,hn4,JF,Wj⟩;simp -dsimp[au,stC,-Bool.exists_bool,-List.map_take,-Prod.forall,-Prod.exists];have Lp:L≠p:=hp.nl hL0;have N_:tv.length≤20:=by rw[htv.1];exact Nat.le_trans hpk hk
      have s20:=of_eq_true Nf;refine⟨⟨_,bA.of hL4⟩,fun D hD=>Rk tv (fun i σ H'=>∃v ds,σ=[v,some (.ref p)]∧H' D=some (.lst (ds.map V.int))∧ds.length=i∧(∀d∈ds,0≤d∧d<2)∧H' L=some (.lst tv)∧aV H' tv ps∧H' n=some (.lst (xs.map V.str))∧jj H' p∧But p H H') ⟨none,[],rfl,ao,rfl,by simp,eU hL4 hD,htv.same (aq hD),eU hn4 hD,JF.upd (JF.ne hD),Wj.same (aq hD)⟩ (fun i σ H' _ h=>by
        obtain⟨_,_,_,_,_,_,z,_⟩:=h;exact bA.of z) ?_ ?_⟩
      · rintro i x σ H5 hi ⟨v,ds,rfl,Xl,hl,hds,hL5,qby,hn5,GC,K6⟩;have hi2:i<tv.length:=(List.getElem?_eq_some_iff.mp hi).1;simp -dsimp[au,stC,-Bool.exists_bool,-List.map_take,-Prod.forall,-Prod.exists];refine⟨p,_,rfl,GC,by decide,by decide,fun d H6 hd0 hd1 Wk IK=>?_⟩;have Dp:D≠p:=JF.nl hD;have LD:L≠D:=aN hL4 hD;have nD:n≠D:=aN hn4 hD;have yS:=IK _ _ Dp Xl;simp -dsimp[au,stC,-Bool.exists_bool,-List.map_take,-Prod.forall,-Prod.exists];refine⟨_,yS,by rw[List.length_map,hl];exact zsz hi2 N_,ds++[d],by rw[ao];simp,by simp[hl],?_,by rw[aG LD];exact IK _ _ Lp hL5,(qby.but GC IK).keep (fun c zs e=>Ad e yS (by intro z;cases z)),by rw[aG nD];exact IK _ _ np hn5,Wk.upd (Dp.symm),(K6.trans IK).new (jj.none Wj JF hD)⟩;intro z hz
        rcases List.mem_append.mp hz with y | y
        ·exact hds z y
        ·simp at y;subst y;exact⟨hd0,hd1⟩
      · rintro σ H5 ⟨v,ds,rfl,Xl,hl,hds,hL5,qby,hn5,GC,K6⟩;simp -dsimp[au,stC,-Bool.exists_bool,-List.map_take,-Prod.forall,-Prod.exists];have hD0:=jj.none Wj JF hD;have LD:L≠D:=aN hL4 hD;refine⟨⟨_,bA.of hL5⟩,⟨_,bA.of Xl⟩,fun D2 hD2=>cmZ tv (ds.map V.int) (fun i σ H'=>(∃o1 o2 o3,σ=[o1,o2,o3])∧∃tvs qs,H' D2=some (.lst tvs)∧aV H' tvs qs∧qs.length=i∧(∀e∈qs,e.1∈xs∧e.2∈xs∧e.1≠e.2)∧H' L=some (.lst tv)∧H' D=some (.lst (ds.map V.int))∧aV H' tv ps∧H' n=some (.lst (xs.map V.str))∧jj H' p∧But p H H') ⟨⟨_,_,_,rfl⟩,[],[],ao,⟨rfl,by simp⟩,rfl,by simp,eU hL5 hD2,eU Xl hD2,qby.same (aq hD2),eU hn5 hD2,GC.upd (GC.ne hD2),K6.same (aq hD2)⟩ (by simp[hl]) (fun i σ H' _ h=>by
          obtain⟨_,_,_,_,_,_,_,z1,z2,_⟩:=h;exact⟨bA.of z1,bA.of z2⟩) ?_ ?_⟩
        · rintro i x y t σ H6 hx hy ht ⟨⟨o1,o2,o3,rfl⟩,tvs,qs,qbz,Ey,hql,Xm,hL6,yS,qbA,hn6,Wk,IK⟩;simp -dsimp[au,stC,-Bool.exists_bool,-List.map_take,-Prod.forall,-Prod.exists];obtain⟨e,he,tt,rfl,htt⟩:=qbA.at hx;have hi2:i<tv.length:=(List.getElem?_eq_some_iff.mp hx).1;have hem:=List.mem_of_getElem? he;rw[List.getElem?_map] at hy;obtain⟨d,hd,rfl⟩:∃d,ds[i]? = some d∧y = .int d:=by
            cases z:ds[i]? with
            | none=>rw[z] at hy;cases hy
            | some d=>rw[z] at hy;exact⟨d,rfl,(Option.some.inj hy).symm⟩
          have hd2:=hds d (List.mem_of_getElem? hd);refine⟨_,jK.of ao,rfl,_,jK.of (eU htt ht),rfl,?_⟩;simp -dsimp[au,stC,-Bool.exists_bool,-List.map_take,-Prod.forall,-Prod.exists];refine fun p1 h1 p2 h2 p3 h3=>⟨_,.inl (bA.of ao),?_⟩;have hp1:=eU (u:=HO.lst [V.ref p1,V.ref p2]) (eU (u:=HO.tup [.str e.2,.str e.1]) (ao (H:=upd H6 t (HO.tup [V.ref tt,V.int d])) (a:=p1) (o:=HO.tup [.str e.1,.str e.2])) h2) h3;have hp2:=eU (u:=HO.lst [V.ref p1,V.ref p2]) (ao (H:=upd (upd H6 t (HO.tup [V.ref tt,V.int d])) p1 (HO.tup [.str e.1,.str e.2])) (a:=p2) (o:=HO.tup [.str e.2,.str e.1])) h3;have sm:=(((aq (o:=HO.tup [V.ref tt,V.int d]) ht).trans (aq (o:=HO.tup [.str e.1,.str e.2]) h1)).trans (aq (o:=HO.tup [.str e.2,.str e.1]) h2)).trans (aq (o:=HO.lst [V.ref p1,V.ref p2]) h3);generalize upd (upd (upd (upd H6 t (HO.tup [V.ref tt,V.int d])) p1 (HO.tup [.str e.1,.str e.2])) p2 (HO.tup [.str e.2,.str e.1])) p3 (HO.lst [V.ref p1,V.ref p2])=H9 at hp1 hp2 sm ⊢;have key:∃(pp:Addr) (e':Str×Str),Fy [V.ref p1,V.ref p2] d=some (.ref pp)∧H9 pp=some (.tup [.str e'.1,.str e'.2])∧e'.1∈xs∧e'.2∈xs∧e'.1≠e'.2:=by
            have ⟨q1,q2,q3⟩:=hts.ok e hem;have:d=0∨d=1:=z01 hd2.1 hd2.2
            rcases this with rfl | rfl
            ·exact⟨p1,e,rfl,hp1,q1,q2,q3⟩
            ·exact⟨p2,(e.2,e.1),rfl,hp2,q2,q1,Ne.symm q3⟩
          obtain⟨pp,e',a1,hpp,k1,k2,k3⟩:=key;have D2n:=hD2;have D2p:D2≠p:=GC.nl hD2;have LD2:L≠D2:=aN hL5 hD2;have DD2:D≠D2:=aN Xl hD2;have nD2:n≠D2:=aN hn5 hD2;have qdg:=sm _ _ qbz;have kp:lq H9 (upd H9 D2 (.lst (tvs++[.ref pp]))):=fun c zs e=>Ad e qdg (by intro z;cases z);have hP9:jj H9 p:=by
            obtain⟨u1,u2,u3,u4⟩:=Wk;exact⟨u1,u2,sm _ _ u3,u4⟩
          refine⟨_,a1,_,qdg,?_,_,ao,qs++[e'],((Ey.same sm).keep kp).snoc (kp _ _ hpp),by simp[hql],?_,by rw[aG LD2];exact sm _ _ hL6,by rw[aG DD2];exact sm _ _ yS,(qbA.same sm).keep kp,by rw[aG nD2];exact sm _ _ hn6,hP9.upd D2p.symm,(IK.same sm).new (jj.none K6 GC hD2)⟩
          ·rw[Ey.1,hql];exact zsz hi2 N_
          · intro z hz
            rcases List.mem_append.mp hz with y | y
            ·exact Xm z y
            ·simp at y;subst y;exact⟨k1,k2,k3⟩
        · rintro σ H6 ⟨⟨o1,o2,o3,rfl⟩,tvs,qs,qbz,Ey,hql,Xm,hL6,yS,qbA,hn6,Wk,IK⟩;simp -dsimp[au,stC,-Bool.exists_bool,-List.map_take,-Prod.forall,-Prod.exists];have D2p:D2≠p:=GC.nl hD2;have qgT:=jj.none K6 GC hD2;have tl:tvs.length=tv.length:=by rw[Ey.1,hql]
          refine⟨p,D2,_,rfl,Wk,D2p,qbz,by rw[tl];exact Nat.le_trans N_ (by decide),fun l ys H7 hl0 hl7 hperm Sg Qn=>?_⟩;simp -dsimp[au,stC,-Bool.exists_bool,-List.map_take,-Prod.forall,-Prod.exists];intro t ht;obtain⟨rs,hrs,hrp⟩:=(Ey.but Wk Qn).perm hperm;refine q t n l xs ys rs _ (jj.none (IK.trans Qn) Sg ht) (jj.none Ew Gz hn) (jj.none IK Wk hl0) ao (eU (Qn _ _ np hn6) ht) (eU hl7 ht) (hrs.same (aq ht)) hX ⟨?_,fun e he=>Xm e (hrp.mem_iff.mp he)⟩ Xj ?_ (Sg.upd (Sg.ne ht)) ((IK.trans Qn).same (aq ht))
          ·rw[hrp.length_eq,hql];exact N_
          ·rw[hrp.length_eq,hql,htv.1];exact hpk
    · intro N hN;refine iI.of (fun h=>?_) (fun h=>?_)
      · simp -dsimp[au,stC,-Bool.exists_bool,-List.map_take,-Prod.forall,-Prod.exists];have hx2:2≤xs.length:=by simp at h;exact z2 h
        have qdh:upd H3 L (.lst []) n=some (.lst (xs.map V.str)):=eU hn3 hL;refine⟨p,n,_,rfl,K5.upd (K5.ne hL),np,qdh,by rw[List.length_map];exact Nat.le_trans hx9 (by decide),fun rw ys H4 hrw qdi hperm JF qbB=>?_⟩;have Wj:=(hB3.same (aq hL)).trans qbB;obtain⟨zs,hzp,rfl⟩:=qO hperm xs rfl;have hzl:zs.length=xs.length:=hzp.length_eq;have qfW:zs.Nodup:=hzp.nodup_iff.mpr hX.nd;have hn4:=qbB _ _ np qdh;have hL4:H4 L=some (.lst []):=qbB _ _ (K5.nl hL) ao;have hL0:=jj.none hB3 K5 hL;simp -dsimp[au,stC,-Bool.exists_bool,-List.map_take,-Prod.forall,-Prod.exists];refine J4 (fun σ H5=>∃v6 v7 L tv ps,σ=[some (.ref p),some (.int m),some (.int k),some (.ref n),some (.int kd),some (.ref L),v6,v7,none]∧H L=none∧H5 L=some (.lst tv)∧aV H5 tv ps∧qD xs ps∧ps.length≤m∧H5 n=some (.lst (xs.map V.str))∧jj H5 p∧But p H H5) ?_ ?_
        · rintro σ H5 ⟨v6,v7,L,tv,ps,rfl,hL0,hL5,htv,hts,hpm,hn5,GC,K6⟩;simp -dsimp[au,stC,-Bool.exists_bool,-List.map_take,-Prod.forall,-Prod.exists];have Lp:L≠p:=hp.nl hL0;have N_:tv.length=ps.length:=htv.1;have s20:=of_eq_true Nf;have htk:tv.length≤k:=by rw[N_];exact Nat.le_trans hpm hmk
          refine⟨_,.inl (bA.of hL5),p,_,rfl,GC,zk1 htk,zk2 hk (by decide),fun f H6 hf0 hf1 Wk Y6=>?_⟩;simp -dsimp[au,stC,-Bool.exists_bool,-List.map_take,-Prod.forall,-Prod.exists];refine⟨zlo hf0,Int.lt_trans hf1 (zk2 hk (by decide)),frR (fun i σ H7=>∃v7 tv ps,σ=[some (.ref p),some (.int m),some (.int k),some (.ref n),some (.int kd),some (.ref L),v6,v7,none]∧H7 L=some (.lst tv)∧aV H7 tv ps∧qD xs ps∧ps.length+f.toNat≤k+i∧H7 n=some (.lst (xs.map V.str))∧jj H7 p∧But p H H7) ⟨v7,tv,ps,rfl,Y6 _ _ Lp hL5,htv.but GC Y6,hts,zk3 hf0 hf1 N_,Y6 _ _ np hn5,Wk,K6.trans Y6⟩ ?_ ?_⟩
          · rintro i σ H7 hi ⟨v7,tv,ps,rfl,hL7,Wm,qbC,hpl,hn7,Sg,Qn⟩;simp -dsimp[au,stC,-Bool.exists_bool,-List.map_take,-Prod.forall,-Prod.exists];refine⟨⟨_,bA.of hL7⟩,p,n,xs,rfl,Sg,np,hn7,hx2,hx9,hX.nd,fun t x y H8 ht ht8 hx hy hxy hP8 hB8=>?_⟩;simp -dsimp[au,stC,-Bool.exists_bool,-List.map_take,-Prod.forall,-Prod.exists];have hL8:=hB8 _ _ Lp hL7;have hl7:=Wm.1;have kp:lq H8 (upd H8 L (.lst (tv++[.ref t]))):=fun c zs e=>Ad e hL8 (by intro z;cases z);have nL:n≠L:=fun z=>by subst z;rw[jj.none Ew Gz hn] at hL0;rw[hn7] at hL7;cases tv with
              | nil=>simp at hL7;rw[hL7] at hx2;simp at hx2
              | cons v tv=>
                obtain⟨e,_,u,rfl,_⟩:=Wm.at (i:=0) rfl;cases xs with
                | nil=>simp at hx2
                | cons x xs=>simp at hL7
            refine⟨_,hL8,zk4 hl7 hpl hi hk,_,ao,ps++[(x,y)],((Wm.but Sg hB8).keep kp).snoc (kp _ _ ht8),⟨by rw[List.length_append];exact Nat.succ_le_succ (zk5 hpl hi hk),?_⟩,by rw[List.length_append];exact zk6 hpl,by rw[aG nL];exact hB8 _ _ np hn7,hP8.upd Lp.symm,(Qn.trans hB8).new hL0⟩;intro e he
            rcases List.mem_append.mp he with z | z
            ·exact qbC.ok e z
            ·simp at z;subst z;exact⟨hx,hy,hxy⟩
          ·rintro σ H7 ⟨v7,tv,ps,rfl,hL7,Wm,qbC,hpl,hn7,Sg,Qn⟩;simp -dsimp[au,stC,-Bool.exists_bool,-List.map_take,-Prod.forall,-Prod.exists];exact hN _ _ ⟨_,_,L,tv,ps,rfl,hL0,hL7,Wm,qbC,zk7 hpl,hn7,Sg,Qn⟩
        · intro N2 hN2;refine iI.of (fun h=>?_) (fun h=>?_)
          · simp -dsimp[au,stC,-Bool.exists_bool,-List.map_take,-Prod.forall,-Prod.exists];obtain⟨lo,hlo,lo1⟩:∃lo:Nat,(if kd=3 then (1:Int) else 0)=lo∧lo≤1:=by
              split
              ·exact⟨1,rfl,Nat.le_refl _⟩
              ·exact⟨0,rfl,by decide⟩
            simp only[hlo];have s20:=of_eq_true Nf;refine⟨_,.inl (bA.of qdi),⟨qfL,zlt lo1 (by decide),zlt (by rw[List.length_map,hzl];exact hx9) (by decide)⟩,fun D hD=>cmR (fun i σ H5=>(∃o,σ=[o,some (.ref rw)])∧∃tvs qs,H5 D=some (.lst tvs)∧aV H5 tvs qs∧qs.length=i∧(∀e∈qs,e.1∈xs∧e.2∈xs∧e.1≠e.2)∧Same H4 H5) ⟨⟨_,rfl⟩,[],[],ao,⟨rfl,by simp⟩,rfl,by simp,aq hD⟩ ?_ ?_⟩
            · rintro i σ H5 hi ⟨⟨o,rfl⟩,tvs,qs,Xl,Ey,hql,Xm,sm⟩;have hk:lo+i<zs.length:=by simp at hi;exact qfN hi
              obtain⟨j,vx,hj,ex,ax⟩:=Uw (xs:=zs.map V.str) (k:=lo+i) (by rw[List.length_map,hzl];exact hx2) (by simpa using hk);obtain⟨x,ex',rfl⟩:=qN ex;have ey':zs[lo+i]? = some (zs[lo+i]'hk):=by simp[hk]
              have ay:Fy (zs.map V.str) ((lo+i:Nat):Int)=some (.str (zs[lo+i]'hk)):=cJ (by rw[List.getElem?_map,ey'];rfl);have c1:((lo+i:Nat):Int)=(lo:Int)+i:=Int.natCast_add ..;rw[c1] at ax ay;have sl:=bA.of (K:=K) (sm _ _ qdi);simp -dsimp[au,stC,-Bool.exists_bool,-List.map_take,-Prod.forall,-Prod.exists];refine⟨_,.inl sl,_,ax,_,.inl sl,_,ay,fun pt hpt=>?_⟩;have Dpt:=aN Xl hpt;have yS:upd H5 pt (.tup [.str x,.str (zs[lo+i]'hk)]) D=some (.lst tvs):=eU Xl hpt;have kp:lq (upd H5 pt (.tup [.str x,.str (zs[lo+i]'hk)])) (upd (upd H5 pt (.tup [.str x,.str (zs[lo+i]'hk)])) D (.lst (tvs++[.ref pt]))):=fun c zs e=>Ad e yS (by intro z;cases z);have hl:=Ey.1;refine⟨_,yS,by rw[hl,hql];exact zsz (Nat.lt_of_le_of_lt (Nat.le_add_left i lo) hk) (by rw[hzl];exact Nat.le_trans hx9 (by decide)),_,ao,qs++[(x,zs[lo+i]'hk)],((Ey.same (aq hpt)).keep kp).snoc (kp _ _ ao),by simp[hql],?_,aZ (sm.trans (aq hpt)) hD⟩;intro e he
              rcases List.mem_append.mp he with z | z
              ·exact Xm e z
              ·simp at z;subst z;refine⟨hzp.mem_iff.mp (List.mem_of_getElem? ex'),hzp.mem_iff.mp (List.mem_of_getElem? ey'),fun z=>hj ?_⟩;simp only at z;rw[← z] at ey';exact J2 qfW ex' ey'
            · rintro σ H5 ⟨⟨o,rfl⟩,tvs,qs,Xl,Ey,hql,Xm,sm⟩;simp -dsimp[au,stC,-Bool.exists_bool,-List.map_take,-Prod.forall,-Prod.exists];simp at hql;have hqm:qs.length≤m:=by rw[hql,hzl];exact Nat.le_trans (Nat.sub_le ..) Xj
              have GC:jj H5 p:=by
                obtain⟨u1,u2,u3,u4⟩:=JF;exact⟨u1,u2,sm _ _ u3,u4⟩
              exact hN2 _ _ ⟨_,_,D,tvs,qs,rfl,jj.none Wj JF hD,Xl,Ey,⟨Nat.le_trans hqm (Nat.le_trans h9 (by decide)),Xm⟩,hqm,sm _ _ hn4,GC,Wj.same sm⟩
          ·simp -dsimp[au,stC,-Bool.exists_bool,-List.map_take,-Prod.forall,-Prod.exists];exact hN2 _ _ ⟨_,_,L,[],[],rfl,hL0,hL4,⟨rfl,by simp⟩,⟨by simp,by simp⟩,by simp,hn4,JF,Wj⟩
      ·simp -dsimp[au,stC,-Bool.exists_bool,-List.map_take,-Prod.forall,-Prod.exists];exact hN _ _ ⟨_,_,L,[],[],rfl,jj.none hB3 K5 hL,ao,⟨rfl,by simp⟩,⟨by simp,by simp⟩,by simp,eU hn3 hL,K5.upd (K5.ne hL),hB3.same (aq hL)⟩
theorem qdj {m:Str} {u v:V} (h1:¬m = "names") (h2:¬m = "pairs"):∀p∈([("names",u),("pairs",v)]:List (Str×V)),¬m=p.1:=fun p hp=>by
  simp at hp
  rcases hp with rfl | rfl
  ·exact h1
  ·exact h2
theorem cD.same {C:Addr} {H H':Hp} {o:Addr} {xs:List Str} {ps:List (Str×Str)} (h:cD C H o xs ps) (s:Same H H'):cD C H' o xs ps:=by
  obtain⟨dx,n,m,tv,h1,h2,h3,h4,h5⟩:=h.ex;exact⟨⟨dx,n,m,tv,s _ _ h1,s _ _ h2,s _ _ h3,aV.same h4 s,h5⟩⟩
theorem cD.ins {C:Addr} {H:Hp} {o:Addr} {xs:List Str} {ps:List (Str×Str)} (h:cD C H o xs ps) {m:Str} (h1:¬m = "names") (h2:¬m = "pairs"):∃dx fs,H o=some (.ins C dx fs)∧∀p∈fs,¬m=p.1:=by
  obtain⟨dx,n,mm,tv,e,_⟩:=h.ex;exact⟨dx,_,e,qdj h1 h2⟩
theorem pH:¬(("ties" : Str) = "names")∧¬(("ties" : Str) = "pairs"):=by decide+kernel
theorem gJ:¬(("points" : Str) = "names")∧¬(("points" : Str) = "pairs"):=by decide+kernel
theorem pI:¬(("many" : Str) = "names")∧¬(("many" : Str) = "pairs"):=by decide+kernel
def Y7 (C:Addr):Sp:=fun vs H Q _=>∃o xs ps,vs=[.ref o]∧cD C H o xs ps∧Q (.int ps.length) H
theorem pJ (T:Txt K mg a):bZ P w K mg base lH 1 a.gq a.oW ["self"] (Y7 a.bI):=by
  refine T.CG.sX KJ (fun vs H Q E h=>?_) (fun cdv A outer s H vs Q E hr h=>?_)
  ·obtain⟨o,xs,ps,rfl,_⟩:=h;rfl
  ·obtain⟨o,xs,ps,rfl,⟨dx,n,m,tv,h1,h2,h3,h4,h5⟩,q⟩:=h;refine⟨_,(aK (bf (aH (bU (K:=K) rfl) rfl T.nm.len PySem.boot_len (aj (PE.eqv (Hq (K:=K) rfl (aJ 0) rfl) (Ia _ _ _)) ak)))),?_⟩;simp -dsimp[au,stC,-Bool.exists_bool,-List.map_take,-Prod.forall,-Prod.exists];refine⟨_,_,_,h1,T.jW,T.Ax,_,rfl,_,.inr (jK.of h3),?_⟩;rw[h4.1];exact q
def K7:Sp:=fun vs H Q _=>∃n:Int,vs=[.int n]∧Q (.bl true) H
theorem K8 (T:Txt K mg a):bZ P w K mg base lH 1 a.gb a.lN ["thing"] K7:=by
  refine T.nF.sX zG (fun vs H Q E h=>?_) (fun cdv A outer s H vs Q E hr h=>?_)
  ·obtain⟨n,rfl,_⟩:=h;rfl
  ·obtain⟨n,rfl,q⟩:=h;refine⟨_,(aK (bf (jq (aH (qR (K:=K) rfl) rfl T.nm.isinstance boot_isinstance (aj (aJ 0) (aj (fX (v:=.ty "int") rfl T.nm.int uL rfl) ak))) (lV (Ag (aH (qR (K:=K) rfl) rfl T.nm.isinstance boot_isinstance (aj (aJ 0) (aj (fX (v:=.ty "bool") rfl T.LR.bool Bm rfl) ak)))))))),?_⟩;simp -dsimp[au,stC,-Bool.exists_bool,-List.map_take,-Prod.forall,-Prod.exists];refine⟨_,.int _,_,zy K,iI.pos rfl ?_⟩;simp -dsimp[au,stC,-Bool.exists_bool,-List.map_take,-Prod.forall,-Prod.exists];refine⟨_,.int _,_,wW K,?_⟩;exact q
def IV (C:Addr):Sp:=fun vs H Q _=>∃(o:Addr) (n:Nat) (xs:List Str) (ps:List (Str×Str)),vs=[.ref o,.int n]∧cD C H o xs ps∧n<ps.length∧Q (.bl true) H
theorem IW (T:Txt K mg a):bZ P w K mg base lH 2 a.dZ a.jR ["web", "thing"] (IV a.bI):=by
  refine T.lR.sX xJ (fun vs H Q E h=>?_) (fun cdv A outer s H vs Q E hr h=>?_)
  ·obtain⟨o,n,xs,ps,rfl,_⟩:=h;rfl
  ·obtain⟨o,n,xs,ps,rfl,hw,hn,q⟩:=h;refine⟨_,(aK (bf (jq (PE.eqv (aO (K8 (K:=K) T) (hr.mono (by decide)) rfl T.vY T.nF.kp T.vX .nil aX (aj (aJ 1) ak)) (aM _ _ _)) (lV (Gf pU Bw aP (aJ 1) (PE.eqv (eY (aJ 0) T.jW T.nR (pJ (K:=K) T) (hr.mono (by decide)) T.nM .nil aX) (fj _ _ _ _ _ _))))))),?_⟩;obtain⟨dx,fs,hi,hno⟩:=hw.ins pI.1 pI.2;simp -dsimp[au,stC,-Bool.exists_bool,-List.map_take,-Prod.forall,-Prod.exists];refine⟨n,rfl,?_⟩;simp -dsimp[au,stC,-Bool.exists_bool,-List.map_take,-Prod.forall,-Prod.exists];refine⟨_,_,hi,hno,o,xs,ps,rfl,hw,?_⟩;simp -dsimp[au,stC,-Bool.exists_bool,-List.map_take,-Prod.forall,-Prod.exists];rw[decide_eq_true hn];exact q
theorem wz:∀xs:List Int,keysOf (xs.map V.int)=xs.map Sum.inl
  | []=>rfl
  | x::xs=>by
    show Sum.inl x::keysOf (xs.map V.int)=_;rw[wz xs];rfl
theorem Wn {xs:List Int} (h:xs.Nodup):(yg (fun i=>(keysOf (xs.map V.int))[i]?.getD (Sum.inl 0)) (xs.map V.int).length).length=xs.length:=by
  rw[wz,List.length_map];refine(M4 _ xs.length fun i j hi hj e=>?_).1;simp[hi,hj] at e;exact(List.getElem_inj h).mp e
theorem Wo {xs:List Int} {i:Nat} {x:V} (h:(xs.map V.int)[i]? = some x):∃z,xs[i]? = some z∧x = .int z:=by
  rw[List.getElem?_map] at h;cases e:xs[i]? with
  | none=>rw[e] at h;cases h
  | some z=>
    rw[e] at h;exact⟨z,rfl,(Option.some.inj h).symm⟩
structure Nrs (n:Nat) (ks:List Int):Prop where
  ok:∀k∈ks,0≤k∧k<n
  nd:ks.Nodup
  len:ks.length≤20
def CV (C:Addr):Sp:=fun vs H Q _=>∃(o t:Addr) (xs:List Str) (ps:List (Str×Str)) (ks:List Int),vs=[.ref o,.ref t]∧cD C H o xs ps∧Sq H t (ks.map V.int)∧Nrs ps.length ks∧∀H',Same H H'→Q (.bl true) H'
theorem CW (T:Txt K mg a):bZ P w K mg base lH 3 a.cT a.gR ["web", "thing"] (CV a.bI):=by
  refine T.ji.sX t_ (fun vs H Q E h=>?_) (fun cdv A outer s H vs Q E hr h=>?_)
  ·obtain⟨o,t,xs,ps,ks,rfl,_⟩:=h;rfl
  · obtain⟨o,t,xs,ps,ks,rfl,hw,ht,hk,q⟩:=h;refine⟨_,(aF (cI (PW.pt (lG (bT (bK (PE.eqv (aO (rD (K:=K) T) (hr.mono (by decide)) rfl T.iz T.fD.kp T.iy .nil aX (aj (aJ 1) ak)) (aM _ _ _)))) (gO (bT (bK (aH (dz rfl) rfl T.nm.all dw (aj (cg rfl rfl (show aR (aB jf) _ ["web", "thing"] ["one"] [0] ["one", "web"] from⟨rfl,by decide+kernel,by decide+kernel,rfl,by decide+kernel,by decide+kernel⟩) rfl (PI.eqv (jN (K:=K) rfl (aJ 1)) (gP _ _)) (fun C s H fp pn=>(aY (i:=0) (show(["one", "web"]:List Str).Nodup by decide+kernel) rfl (Or.inl rfl))) (fun C s H fp pn=>bO) (fun C s H fp pn=>(PE.eqv (aO (IW (K:=K) T) (hr.mono (by decide)) rfl T.uh T.lR.kp T.ug .nil aX (aj (aJ 1) (aj (aJ 0) ak))) (aM _ _ _)))) ak))))))) (aK (bf iG)) bF)
      (aK (bf (cZ m6 (aH uO rfl T.nm.len PySem.boot_len (aj (bY (uN rfl) rfl T.nm.set uM (aj (aJ 1) ak)) ak)) (aH (bU (K:=K) rfl) rfl T.nm.len PySem.boot_len (aj (aJ 1) ak)) (bW _))))),?_⟩
    simp -dsimp[au,stC,-Bool.exists_bool,-List.map_take,-Prod.forall,-Prod.exists];refine⟨t,_,rfl,ht,fun H1 s1=>?_⟩;have ht1:=ht.same s1;obtain⟨b,hb⟩:=ht1.b;simp -dsimp[au,stC,-Bool.exists_bool,-List.map_take,-Prod.forall,-Prod.exists];refine⟨b,⟨_,hb K H1 (Same.refl _)⟩,fun D hD=>Xg (ks.map V.int) (fun i σ H'=>(∃o',σ=[o',some (.ref o)])∧Same H1 H'∧H' D=some (.lst (List.replicate i (.bl true)))) ⟨⟨none,rfl⟩,aq hD,ao⟩ (fun i σ' H' _ h=>hb K H' h.2.1) ?_ ?_⟩
    ·rintro i x σ H2 hi ⟨⟨o',rfl⟩,s2,hD2⟩;obtain⟨k,hki,rfl⟩:=Wo hi;have hi2:i<ks.length:=(List.getElem?_eq_some_iff.mp hki).1;have hk2:=hk.ok k (List.mem_of_getElem? hki);simp -dsimp[au,stC,-Bool.exists_bool,-List.map_take,-Prod.forall,-Prod.exists];refine⟨o,k.toNat,xs,ps,by rw[Int.toNat_of_nonneg hk2.1],hw.same (s1.trans s2),by omega,?_⟩;simp -dsimp[au,stC,-Bool.exists_bool,-List.map_take,-Prod.forall,-Prod.exists];refine⟨_,hD2,by rw[List.length_replicate];exact zsz hi2 hk.len,aZ s2 hD,?_⟩;rw[ao,← List.replicate_succ']
    ·rintro σ H2 ⟨⟨o',rfl⟩,s2,hD2⟩;have CQ:=ht1.same s2;simp -dsimp[au,stC,-Bool.exists_bool,-List.map_take,-Prod.forall,-Prod.exists];refine⟨_,hD2,_,qC _,?_⟩;rw[show(List.replicate (ks.map V.int).length true).all id=true by simp];simp -dsimp[au,stC,-Bool.exists_bool,-List.map_take,-Prod.forall,-Prod.exists];have l20:=hk.len;refine⟨_,CQ.q,by simp[isKey],by simp;unfold scanBound;omega,fun t3 Sd=>⟨_,ao,_,(CQ.same (aq Sd)).q,?_⟩⟩;rw[decide_eq_true (by rw[Wn hk.nd];simp)];exact q _ (s1.trans (s2.trans (aq Sd)))
def gM (xs ys:List Str) (x:Str):Str:=match xs,ys with
  | a::xs,b::ys=>if a=x then b else gM xs ys x
  | _,_=>x
def Sh (xs ys:List Str) (e:Str×Str):Str×Str:=(gM xs ys e.1,gM xs ys e.2)
def Ay (xs ys:List Str):List (Key×V):=fP (xs.zip (ys.map V.str))
theorem Qo {xs ys:List Str} (h:ys.length=xs.length):(Ay xs ys).length=xs.length:=by
  unfold Ay fP;rw[List.length_map,List.length_zip,List.length_map,h,Nat.min_self]
theorem I_:∀{xs ys:List Str} {x:Str},ys.length=xs.length→x∈xs→vP (Ay xs ys) (Sum.inr x)=some (.str (gM xs ys x))
  | [],_,x,_,h=>by cases h
  | a::xs,[],x,h,_=>by simp at h
  | a::xs,b::ys,x,h,hx=>by
    show vP ((Sum.inr a,V.str b)::Ay xs ys) (Sum.inr x)=_;unfold gM
    by_cases e:a=x
    ·rw[if_pos e,Br (by rw[e])]
    ·rw[if_neg e,Bs (by intro z;injection z with z;exact e z)];exact I_ (by simpa using h) ((List.mem_cons.mp hx).resolve_left fun z=>e z.symm)
theorem uE:∀{xs ys:List Str},ys.length=xs.length→xs.Nodup→xs.map (gM xs ys)=ys
  | [],[],_,_=>rfl
  | [],_::_,h,_=>by simp at h
  | _::_,[],h,_=>by simp at h
  | a::xs,b::ys,h,nd=>by
    have nd':=List.nodup_cons.mp nd;rw[List.map_cons];congr 1
    ·unfold gM;rw[if_pos rfl]
    ·have ih:=uE (xs:=xs) (ys:=ys) (by simpa using h) nd'.2;refine(List.map_congr_left fun x hx=>?_).trans ih;rw[gM.eq_1,if_neg fun z=>nd'.1 (by rw[z];exact hx)]
theorem Ja {xs ys:List Str} (h:ys.length=xs.length) (nd:xs.Nodup) {x:Str} (hx:x∈xs):gM xs ys x∈ys:=by
  have e:=uE h nd;have:gM xs ys x∈xs.map (gM xs ys):=List.mem_map_of_mem hx
  rwa [e] at this
theorem qbD {xs ys:List Str} (h:ys.length=xs.length) (nd:xs.Nodup) (ny:ys.Nodup) {x y:Str} (hx:x∈xs) (hy:y∈xs) (e:gM xs ys x=gM xs ys y):x=y:=by
  have m:=uE h nd;rw[← m] at ny;obtain⟨i,hi⟩:=List.mem_iff_getElem?.mp hx;obtain⟨j,hj⟩:=List.mem_iff_getElem?.mp hy;have hi1:=(List.getElem?_eq_some_iff.mp hi).1;have q:(xs.map (gM xs ys))[i]? = (xs.map (gM xs ys))[j]?:=by rw[List.getElem?_map,List.getElem?_map,hi,hj];simp[e]
  have:=(List.getElem?_inj (by simpa using hi1) ny).mp q;rw[this,hj] at hi;exact(Option.some.inj hi).symm
theorem Qp {xs ys:List Str} {ps:List (Str×Str)} (h:ys.length=xs.length) (hX:wu xs) (hY:wu ys) (hT:qD xs ps):qD ys (ps.map (Sh xs ys)):=⟨by rw[List.length_map];exact hT.len,fun e he=>by
  obtain⟨d,hd,rfl⟩:=List.mem_map.mp he;have:=hT.ok d hd;exact⟨Ja h hX.nd this.1,Ja h hX.nd this.2.1,fun z=>this.2.2 (qbD h hX.nd hY.nd this.1 this.2.1 z)⟩⟩
theorem Jb:∀{xs ys:List Str},ys.length=xs.length→xs.Nodup→ys.Nodup→∀x∈xs,gM ys xs (gM xs ys x)=x
  | [],_,_,_,_,x,h=>by cases h
  | a::xs,[],h,_,_,_,_=>by simp at h
  | a::xs,b::ys,h,nx,ny,x,hx=>by
    have nx':=List.nodup_cons.mp nx;have ny':=List.nodup_cons.mp ny;have h':ys.length=xs.length:=by simpa using h
    by_cases e:a=x
    · have e1:gM (a::xs) (b::ys) x=b:=by rw[gM.eq_1,if_pos e]
      rw[e1,gM.eq_1,if_pos rfl,e]
    · have hx':=(List.mem_cons.mp hx).resolve_left fun z=>e z.symm;have e1:gM (a::xs) (b::ys) x=gM xs ys x:=by rw[gM.eq_1,if_neg e]
      have hm:=Ja h' nx'.2 hx';rw[e1,gM.eq_1,if_neg fun z=>ny'.1 (by rw[z];exact hm)];exact Jb h' nx'.2 ny'.2 x hx'
theorem Wq {xs ys:List Str} {ps:List (Str×Str)} (h:ys.length=xs.length) (hX:wu xs) (hY:wu ys) (hT:qD xs ps):(ps.map (Sh xs ys)).map (Sh ys xs)=ps:=by
  rw[List.map_map];refine(List.map_congr_left fun e he=>?_).trans (List.map_id _);have:=hT.ok e he;show Sh ys xs (Sh xs ys e)=e;unfold Sh;rw[Jb h hX.nd hY.nd _ this.1,Jb h hX.nd hY.nd _ this.2.1]
theorem K_ {x:Str} (h:nameB x=true):x.length≤4:=by
  unfold nameB at h;simp at h;omega
theorem cD.jL {C:Addr} {H H':Hp} {o:Addr} {xs:List Str} {ps:List (Str×Str)} (h:cD C H' o xs ps):cD C (jL H H') o xs ps:=by
  obtain⟨dx,n,m,tv,h1,h2,h3,h4,h5⟩:=h.ex;exact⟨⟨dx,n,m,tv,je h1 (fun _ _ z=>by cases z),je h2 (fun _ _ z=>by cases z),je h3 (fun _ _ z=>by cases z),h4.keep (fun b us e=>je e (fun _ _ z=>by cases z)),h5⟩⟩
theorem qbE {xs ys:List Str} (h:ys.length=xs.length) {j:Nat} {k:Key} {x:V} (hk:(Ay xs ys)[j]? = some (k,x)):∃a b,xs[j]? = some a∧ys[j]? = some b∧k=Sum.inr a∧x = .str b:=by
  unfold Ay fP at hk;rw[List.getElem?_map] at hk;obtain⟨e,he,h2⟩:=Option.map_eq_some_iff.mp hk;cases h2;rw[List.getElem?_zip_eq_some] at he;obtain⟨h1,h2⟩:=he;rw[List.getElem?_map] at h2;obtain⟨b,hb,hb2⟩:=Option.map_eq_some_iff.mp h2;exact⟨e.1,b,h1,hb,rfl,hb2.symm⟩
def La (C:Addr):Sp:=fun vs H Q _=>∃(o d:Addr) (xs ys:List Str) (ps:List (Str×Str)),vs=[.ref o,.ref d]∧cD C H o xs ps∧wu xs∧qD xs ps∧H d=some (.dK (Ay xs ys))∧ys.length=xs.length∧wu ys∧
  ∀(o':Addr) (ob:Obj) (H':Hp),H o'=none→cD C H' o' ys (ps.map (Sh xs ys))→H' d=some (.jM ob (.dK (Ay xs ys)))→(∀b u,b≠d→H b=some u→H' b=some u)→Q (.ref o') H'
theorem Lb (T:Txt K mg a):bZ P w K mg base lH 6 a.dF a.gw ["web", "names"] (La a.bI):=by
  refine T.kI.sX gQ (fun vs H Q E h=>?_) (fun cdv A outer s H vs Q E hr h=>?_)
  ·obtain⟨o,d,xs,ys,ps,rfl,_⟩:=h;rfl
  · obtain⟨o,d,xs,ys,ps,rfl,hw,hX,hTs,hd,hl,hY,q⟩:=h;refine⟨_,(aF (bJ (i:=2) gQ.nd rfl (Or.inr rfl) (PE.eqv (eY (aJ 0) T.jW T.iC (jk (K:=K) T) (hr.mono (by decide)) T.iB .nil aX) (fj _ _ _ _ _ _)))
      (aF (cI (PW.pt (lG (bT (bK (aH (qR (K:=K) rfl) rfl T.nm.isinstance boot_isinstance (aj (aJ 1) (aj (fX (v:=.ty "dict") rfl T.LR.dict eF rfl) ak))))) (gO (bR m7 (aH VG rfl T.nm.len PySem.boot_len (aj (aJ 1) ak)) (aH (bU (K:=K) rfl) rfl T.nm.len PySem.boot_len (aj (aJ 2) ak)) (bW _))))) (aK tH) bF)
      (aF (cI (bT (bK (aH (dz rfl) rfl T.nm.all dw (aj (cg rfl rfl (show aR (aB gD) _ ["web", "names", "points", "ties"] ["key"] [2] ["key", "points"] from⟨rfl,by decide+kernel,by decide+kernel,rfl,by decide+kernel,by decide+kernel⟩) rfl (Ii (aJ 1)) (fun C s H fp pn=>(aY (i:=0) (show(["key", "points"]:List Str).Nodup by decide+kernel) rfl (Or.inl rfl))) (fun C s H fp pn=>bO) (fun C s H fp pn=>(jq (PE.eqv (aO (kJ (K:=K) T) (hr.mono (by decide)) rfl T.jH T.gH.kp T.jG .nil aX (aj (aJ 0) ak)) (aM _ _ _)) (lV (cZ (Vj (K:=K) rfl) (aJ 0) (aJ 1) rfl))))) ak)))) (aK tH) bF)
      (aF (jt (i:=3) gQ.nd rfl rfl rfl rfl (show aR (aB gD) _ ["web", "names", "points", "ties"] ["first", "second"] [1] ["first", "second", "names"] from⟨rfl,by decide+kernel,by decide+kernel,rfl,by decide+kernel,by decide+kernel⟩) rfl (PI.eqv (dG (K:=K) rfl (PE.eqv (eY (aJ 0) T.jW T.nQ (pG (K:=K) T) (hr.mono (by decide)) T.nJ .nil aX) (fj _ _ _ _ _ _))) (cP _ _)) (fun C s H fp pn=>(PG.eqv (qM (K:=K) (n:=2) rfl rfl (qJ.eqv (cN (aY (i:=0) (show(["first", "second", "names"]:List Str).Nodup by decide+kernel) rfl (Or.inl rfl)) (qJ.eqv (cN (aY (i:=1) (show(["first", "second", "names"]:List Str).Nodup by decide+kernel) rfl (Or.inl rfl)) (qJ.mono mL qP)) (cO _ _))) (cO _ _))) (qQ _ _ _))) (fun C s H fp pn=>bO) (fun C s H fp pn=>(eX (aj (PE.eqv (g_ (ql hr) (aJ 2) (aJ 0) (fun _ _=>rfl)) (fu _ _)) (aj (PE.eqv (g_ (ql hr) (aJ 2) (aJ 1) (fun _ _=>rfl)) (fu _ _)) ak)))))
      (aK (bf (PE.eqv (z_ T.KZ (uD (K:=K) T) (hr.mono (by decide)) rfl T.KY T.nH .nil aX (aj (cg rfl rfl (show aR (aB gD) _ ["web", "names", "points", "ties"] ["point"] [1] ["point", "names"] from⟨rfl,by decide+kernel,by decide+kernel,rfl,by decide+kernel,by decide+kernel⟩) rfl (PI.eqv (dG (K:=K) rfl (aJ 2)) (cP _ _)) (fun C s H fp pn=>(aY (i:=0) (show(["point", "names"]:List Str).Nodup by decide+kernel) rfl (Or.inl rfl))) (fun C s H fp pn=>bO) (fun C s H fp pn=>(PE.eqv (g_ (ql hr) (aJ 1) (aJ 0) (fun _ _=>rfl)) (fu _ _)))) (aj (aJ 3) ak))) (w5 _ _ _ _)))))))),?_⟩
    have Y8:60≤sizeLine:=by decide
    have l9:=hX.len;have Xk:=hTs.len;have nl:=Qo hl;obtain⟨dx,fs,hin,hno⟩:=hw.ins gJ.1 gJ.2;simp -dsimp[au,stC,-Bool.exists_bool,-List.map_take,-Prod.forall,-Prod.exists];refine⟨_,_,hin,hno,o,xs,ps,rfl,hw,fun p hp=>?_⟩;have s1:Same H (upd H p (.lst (xs.map V.str))):=aq hp;have ep:upd H p (.lst (xs.map V.str)) p=some (.lst (xs.map V.str)):=ao;generalize upd H p (.lst (xs.map V.str))=H1 at s1 ep ⊢;simp -dsimp[au,stC,-Bool.exists_bool,-List.map_take,-Prod.forall,-Prod.exists];refine⟨_,.dK (s1 _ _ hd),_,vD K,?_⟩;simp -dsimp[au,stC,-Bool.exists_bool,-List.map_take,-Prod.forall,-Prod.exists];refine⟨_,s1 _ _ hd,_,.inl (bA.of ep),false,by rw[nl,List.length_map];simp,iI.neg rfl ?_⟩;simp -dsimp[au,stC,-Bool.exists_bool,-List.map_take,-Prod.forall,-Prod.exists];refine⟨_,.inl (s1 _ _ hd),fun ob hob=>?_⟩;have dp:p≠d:=fun z=>by rw[z,hd] at hp;cases hp
    have ef:upd H1 d (.jM ob (.dK (Ay xs ys))) d=some (.jM ob (.dK (Ay xs ys))):=ao;have kf:∀b u,b≠d→H1 b=some u→upd H1 d (.jM ob (.dK (Ay xs ys))) b=some u:=fun b u hb e=>by rw[aG hb];exact e
    generalize upd H1 d (.jM ob (.dK (Ay xs ys)))=Hf at ef kf ⊢;have epf:=kf _ _ dp ep;have kH:∀b u,b≠d→H b=some u→Hf b=some u:=fun b u hb e=>kf b u hb (s1 _ _ e);have hwf:cD a.bI Hf o xs ps:=by
      obtain⟨dx,n,m,tv,h1,h2,h3,h4,h5⟩:=hw.ex;have nd:∀{b:Addr} {u:HO},H b=some u→(∀ks,u≠.dK ks)→b≠d:=fun e hn z=>by
        rw[z,hd] at e;exact hn _ (Option.some.inj e).symm
      exact⟨⟨dx,n,m,tv,kH _ _ (nd h1 (by intro ks z;cases z)) h1,kH _ _ (nd h2 (by intro ks z;cases z)) h2,kH _ _ (nd h3 (by intro ks z;cases z)) h3,h4.keep (fun b us e=>kH _ _ (nd e (by intro ks z;cases z)) e),h5⟩⟩
    have nf:∀b,Hf b=none→H b=none:=fun b hb=>by
      cases e:H b with
      | none=>rfl
      | some u=>
        by_cases z:b=d
        ·rw[z,ef] at hb;cases hb
        ·rw[kH b u z e] at hb;cases hb
    refine fun D hD=>cmK (fun j σ H'=>(∃o',σ=[o',some (.ref p)])∧H' D=some (.lst ((xs.take j).map fun _=>V.bl true))∧Same Hf H') ⟨⟨_,rfl⟩,by rw[ao];rfl,aq hD⟩ (fun j σ H' _ h=>h.2.2 _ _ ef) ?_ ?_
    ·rintro j k x σ H4 hk ⟨⟨o',rfl⟩,wI,s4⟩;obtain⟨x,y,hx,hy,rfl,rfl⟩:=qbE hl hk;have hj2:=(List.getElem?_eq_some_iff.mp hx).1;have Xj:=List.mem_of_getElem? hx;have ekv:kV (Sum.inr x)=V.str x:=rfl;rw[ekv,take_one hx,List.map_append];simp -dsimp[au,stC,-Bool.exists_bool,-List.map_take,-Prod.forall,-Prod.exists];have nx:=hX.nm _ Xj;refine⟨x,rfl,Nat.le_trans (K_ nx) (by decide),fun H5 s5=>?_⟩;rw[nx];simp -dsimp[au,stC,-Bool.exists_bool,-List.map_take,-Prod.forall,-Prod.exists];have s45:=s4.trans s5;refine⟨_,.inl (bA.of (s45 _ _ epf)),rfl,List.all_eq_true.mp (uP _),_,s5 _ _ wI,by rw[List.length_map,List.length_take];omega,?_,aZ s45 hD⟩;rw[oN];rw[ao];simp[Xj]
    · rintro σ H4 ⟨⟨o',rfl⟩,wI,s4⟩;rw[nl,List.take_length] at wI;simp -dsimp[au,stC,-Bool.exists_bool,-List.map_take,-Prod.forall,-Prod.exists];refine⟨_,wI,_,jC (fun _=>true) _,?_⟩;rw[show(xs.map fun _=>true).all id=true by simp];simp -dsimp[au,stC,-Bool.exists_bool,-List.map_take,-Prod.forall,-Prod.exists];obtain⟨dx,fs,hin,hno⟩:=(hwf.same s4).ins pH.1 pH.2;refine⟨_,_,hin,hno,o,xs,ps,rfl,hwf.same s4,fun l tv hl5 hT5=>?_⟩;have s5:Same H4 (upd H4 l (.lst tv)):=aq hl5;have el:upd H4 l (.lst tv) l=some (.lst tv):=ao;generalize upd H4 l (.lst tv)=H5 at s5 el ⊢;have tl:tv.length=ps.length:=hT5.1;refine⟨⟨_,bA.of el⟩,fun D2 hD2=>?_⟩;have ef5:=s5 _ _ (s4 _ _ ef);have S5:=s4.trans s5;have hg:∀{H6:Hp},Same H5 H6→∀x∈xs,Ed H6 d (V.str x) (some (.str (gM xs ys x))):=fun s6 x hx=>.inl ⟨_,Sum.inr x,.inr ⟨ob,s6 _ _ ef5⟩,rfl,(I_ hl hx).symm⟩;have qbF:=aV.same hT5 s5;refine Rk tv (fun j σ H'=>(∃o0 o1,σ=[o0,o1,some (.ref d)])∧(∃us,H' D2=some (.lst us)∧aV H' us ((ps.take j).map (Sh xs ys)))∧Same H5 H') ⟨⟨_,_,rfl⟩,⟨[],ao,rfl,fun i v e h=>by simp at h⟩,aq hD2⟩ (fun j σ H' _ h=>bA.of (h.2.2 _ _ el)) ?_ ?_
      · rintro j v σ H6 hj ⟨⟨o0,o1,rfl⟩,⟨us,yS,hU⟩,s6⟩;obtain⟨e,he,t,rfl,ht⟩:=qbF.at hj;have hj2:=(List.getElem?_eq_some_iff.mp he).1;have hem:=hTs.ok e (List.mem_of_getElem? he);have ul:=hU.1;rw[List.length_map,List.length_take] at ul;rw[take_one he,List.map_append];simp -dsimp[au,stC,-Bool.exists_bool,-List.map_take,-Prod.forall,-Prod.exists];refine⟨_,jK.of (s6 _ _ ht),rfl,_,hg s6 _ hem.1,_,hg s6 _ hem.2.1,?_⟩;intro q1 hq1;have s7:Same H6 (upd H6 q1 (.tup [.str (gM xs ys e.1),.str (gM xs ys e.2)])):=aq hq1;have e7:upd H6 q1 (.tup [.str (gM xs ys e.1),.str (gM xs ys e.2)]) q1=some (.tup [.str (gM xs ys e.1),.str (gM xs ys e.2)]):=ao;generalize upd H6 q1 (.tup [.str (gM xs ys e.1),.str (gM xs ys e.2)])=H7 at s7 e7 ⊢;have vq:=s7 _ _ yS;have kt:lq H7 (upd H7 D2 (.lst (us++[.ref q1]))):=fun b zs eb=>by
          rw[aG fun z=>by rw[z,vq] at eb;cases eb];exact eb
        refine⟨_,vq,by omega,⟨us++[.ref q1],ao,?_⟩,aZ (s6.trans s7) hD2⟩;exact(aV.keep (aV.same hU s7) kt).snoc (kt _ _ e7)
      · rintro σ H6 ⟨⟨o0,o1,rfl⟩,⟨us,yS,hU⟩,s6⟩;rw[tl,List.take_length] at hU;have S6:=S5.trans s6;simp -dsimp[au,stC,-Bool.exists_bool,-List.map_take,-Prod.forall,-Prod.exists];refine⟨⟨_,bA.of (S6 _ _ epf)⟩,fun D3 DY=>?_⟩;refine Rk (xs.map V.str) (fun j σ H'=>(∃o0,σ=[o0,some (.ref d)])∧H' D3=some (.lst (((xs.take j).map (gM xs ys)).map V.str))∧Same H6 H') ⟨⟨_,rfl⟩,by rw[ao];rfl,aq DY⟩ (fun j σ H' _ h=>bA.of (h.2.2 _ _ (S6 _ _ epf))) ?_ ?_
        ·rintro j v σ H7 hj ⟨⟨o0,rfl⟩,vq,s7⟩;obtain⟨x,hx,rfl⟩:=qN hj;have hj2:=(List.getElem?_eq_some_iff.mp hx).1;rw[take_one hx,List.map_append,List.map_append];simp -dsimp[au,stC,-Bool.exists_bool,-List.map_take,-Prod.forall,-Prod.exists];refine⟨_,hg (s6.trans s7) _ (List.mem_of_getElem? hx),?_⟩;refine⟨_,vq,by rw[List.length_map,List.length_map,List.length_take];omega,?_,aZ s7 DY⟩;rw[ao];simp
        · rintro σ H7 ⟨⟨o0,rfl⟩,vq,s7⟩;rw[List.length_map,List.take_length,uE hl hX.nd] at vq;simp -dsimp[au,stC,-Bool.exists_bool,-List.map_take,-Prod.forall,-Prod.exists];intro o' L_ ho' Wr qag;have so:Same H7 (upd (upd H7 L_ (.own o')) o' (.ins a.bI L_ [])):=fun b u e=>by
            rw[aG (aN e ho'),aG (aN e Wr)];exact e
          have hpr:lA H7 us (ps.map (Sh xs ys)):=by
            have RQ:=aV.same hU s7;exact⟨RQ.1,fun i v e h1 h2=>by
              obtain⟨t,rfl,z⟩:=RQ.2 i v e h1 h2;exact⟨t,rfl,.inr z⟩⟩
          have qfX:=s7 _ _ yS;refine⟨o',L_,D3,D2,us,ys,ps.map (Sh xs ys),rfl,ao,.inl (so _ _ qfX),hpr.same so,.inl (so _ _ vq),hY,Qp hl hX hY hTs,fun H8 hW8 hB8=>⟨rfl,?_⟩⟩;have s8:Same H7 H8:=fun b u e=>hB8 b u (aN e ho') (so b u e);have S8:=S6.trans (s7.trans s8);exact q o' ob H8 (nf _ (lJ (S6.trans s7) ho')) hW8 (S8 _ _ ef) fun b u hb e=>S8 _ _ (kH b u hb e)
def Oa (C:Addr):Sp:=fun vs H Q _=>∃(o d:Addr) (xs ys:List Str) (ps:List (Str×Str)),vs=[.ref o,.ref d]∧cD C H o xs ps∧wu xs∧qD xs ps∧H d=some (.dK (Ay xs ys))∧ys.length=xs.length∧wu ys∧
  ∀(o':Addr) (H':Hp),H o'=none→cD C H' o' ys (ps.map (Sh xs ys))→Same H H'→Q (.ref o') H'
theorem CZ (T:Txt K mg a):bZ P w K mg base lH 6 a.dF a.gw ["web", "names"] (Oa a.bI):=by
  refine(Lb T).qc9.imp fun vs H Q E h=>?_;obtain⟨o,d,xs,ys,ps,rfl,hw,hX,hTs,hd,hl,hY,q⟩:=h;refine⟨o,d,xs,ys,ps,rfl,hw,hX,hTs,hd,hl,hY,fun o' ob H' ho hW e k=>q _ _ ho hW.jL (Gu fun b u hb=>?_)⟩
  by_cases z:b=d
  ·subst z;rw[hd] at hb;cases hb;exact .inr ⟨(fun _ _ z=>by cases z),ob,e⟩
  ·exact .inl (k b u z hb)
def Jc (C:Addr):Sp:=fun vs H Q _=>∃(o t:Addr) (xs:List Str) (ps qs:List (Str×Str)) (ks:List Nat),vs=[.ref o,.ref t]∧cD C H o xs ps∧wu xs∧qD xs ps∧Sq H t ((ks.map fun n:Nat=>(n:Int)).map V.int)∧Nrs ps.length (ks.map fun n:Nat=>(n:Int))∧ks.length=ps.length∧(∀(j k:Nat),ks[j]? = some k→qs[j]? = ps[k]?)∧qs.length=ps.length∧
  ∀(o':Addr) (H':Hp),H o'=none→cD C H' o' xs qs→Same H H'→Q (.ref o') H'
theorem xU (T:Txt K mg a):bZ P w K mg base lH 6 a.d7 a.jT ["web", "order"] (Jc a.bI):=by
  refine T.jJ.sX qY (fun vs H Q E h=>?_) (fun cdv A outer s H vs Q E hr h=>?_)
  ·obtain⟨o,t,xs,ps,qs,ks,rfl,_⟩:=h;rfl
  · obtain⟨o,t,xs,ps,qs,ks,rfl,hw,hX,hTs,ht,hks,hkl,Xm,hql,q⟩:=h;refine⟨_,(aF (cI (PW.pt (lG (bT (bK (PE.eqv (aO (CW (K:=K) T) (hr.mono (by decide)) rfl T.pX T.ji.kp T.pW .nil aX (aj (aJ 0) (aj (aJ 1) ak))) (aM _ _ _)))) (gO (bR m7 (aH (bU (K:=K) rfl) rfl T.nm.len PySem.boot_len (aj (aJ 1) ak)) (PE.eqv (eY (aJ 0) T.jW T.nR (pJ (K:=K) T) (hr.mono (by decide)) T.nM .nil aX) (fj _ _ _ _ _ _)) (bW _))))) (aK tH) bF)
      (aF (bJ (i:=2) qY.nd rfl (Or.inr rfl) (PE.eqv (eY (aJ 0) T.jW T.nQ (pG (K:=K) T) (hr.mono (by decide)) T.nJ .nil aX) (fj _ _ _ _ _ _)))
      (aK (bf (PE.eqv (z_ T.KZ (uD (K:=K) T) (hr.mono (by decide)) rfl T.KY T.nH .nil aX (aj (PE.eqv (eY (aJ 0) T.jW T.iC (jk (K:=K) T) (hr.mono (by decide)) T.iB .nil aX) (fj _ _ _ _ _ _)) (aj (cg rfl rfl (show aR (aB oU) _ ["web", "order", "ties"] ["number"] [2] ["number", "ties"] from⟨rfl,by decide+kernel,by decide+kernel,rfl,by decide+kernel,by decide+kernel⟩) rfl (PI.eqv (jN (K:=K) rfl (aJ 1)) (gP _ _)) (fun C s H fp pn=>(aY (i:=0) (show(["number", "ties"]:List Str).Nodup by decide+kernel) rfl (Or.inl rfl))) (fun C s H fp pn=>bO) (fun C s H fp pn=>(cW (dO (K:=K) rfl) (aJ 1) (aJ 0) (fun _ _=>rfl)))) ak))) (w5 _ _ _ _)))))),?_⟩
    have Y8:60≤sizeLine:=by decide
    have l9:=hX.len;have Xk:=hTs.len;simp -dsimp[au,stC,-Bool.exists_bool,-List.map_take,-Prod.forall,-Prod.exists];refine⟨o,t,xs,ps,_,rfl,hw,ht,hks,fun H1 s1=>?_⟩;simp -dsimp[au,stC,-Bool.exists_bool,-List.map_take,-Prod.forall,-Prod.exists];have kl:((ks.map fun n:Nat=>(n:Int)).map V.int).length=ps.length:=by rw[List.length_map,List.length_map];exact hkl
    obtain⟨dx,fs,hin,hno⟩:=(hw.same s1).ins pI.1 pI.2;refine⟨_,(ht.same s1).q,_,_,hin,hno,o,xs,ps,rfl,hw.same s1,?_⟩;rw[kl];simp -dsimp[au,stC,-Bool.exists_bool,-List.map_take,-Prod.forall,-Prod.exists];obtain⟨dx2,fs2,Ws,qbG⟩:=(hw.same s1).ins pH.1 pH.2;refine⟨_,_,Ws,qbG,o,xs,ps,rfl,hw.same s1,fun l tv hl2 hT2=>?_⟩;have s2:Same H1 (upd H1 l (.lst tv)):=aq hl2;have el:upd H1 l (.lst tv) l=some (.lst tv):=ao;have S2:=s1.trans s2;generalize upd H1 l (.lst tv)=H2 at s2 el S2 ⊢;have tl:tv.length=ps.length:=hT2.1;have qfY:=aV.same hT2 s2;simp -dsimp[au,stC,-Bool.exists_bool,-List.map_take,-Prod.forall,-Prod.exists];obtain⟨dx3,fs3,qfZ,qf0⟩:=(hw.same S2).ins gJ.1 gJ.2;refine⟨_,_,qfZ,qf0,o,xs,ps,rfl,hw.same S2,fun p hp=>?_⟩;have s3:Same H2 (upd H2 p (.lst (xs.map V.str))):=aq hp;have ep:upd H2 p (.lst (xs.map V.str)) p=some (.lst (xs.map V.str)):=ao;have S3:=S2.trans s3;generalize upd H2 p (.lst (xs.map V.str))=H3 at s3 ep S3 ⊢;simp -dsimp[au,stC,-Bool.exists_bool,-List.map_take,-Prod.forall,-Prod.exists];obtain⟨b,hb⟩:=(ht.same S3).b;have hT3:=aV.same qfY s3;have el3:=s3 _ _ el;refine⟨b,⟨_,hb K H3 (Same.refl _)⟩,fun D hD=>Xg ((ks.map fun n:Nat=>(n:Int)).map V.int) (fun j σ H'=>(∃o',σ=[o',some (.ref l)])∧(∃us,H' D=some (.lst us)∧aV H3 us (qs.take j))∧Same H3 H') ⟨⟨_,rfl⟩,⟨[],ao,rfl,fun i v e h=>by simp at h⟩,aq hD⟩ (fun i σ' H' _ h=>hb K H' h.2.2) ?_ ?_⟩
    · rintro j v σ H4 hj ⟨⟨o',rfl⟩,⟨us,wI,hU⟩,s4⟩;rw[List.getElem?_map,List.getElem?_map] at hj;obtain⟨k,hk,rfl⟩:∃k,ks[j]? = some k∧v = .int (k:Nat):=by
        cases e:ks[j]? with
        | none=>rw[e] at hj;cases hj
        | some k=>rw[e] at hj;cases hj;exact⟨k,rfl,rfl⟩
      have hkm:k<ps.length:=by
        have:=(hks.ok (k:Int) (List.mem_map.mpr ⟨k,List.mem_of_getElem? hk,rfl⟩)).2;omega
      obtain⟨e,he⟩:∃e,ps[k]? = some e:=⟨_,List.getElem?_eq_getElem hkm⟩;obtain⟨v,hv⟩:∃v,tv[k]? = some v:=⟨_,List.getElem?_eq_getElem (by omega)⟩;obtain⟨t4,rfl,et4⟩:=hT3.2 k v e hv he;have hq:qs[j]? = some e:=by rw[Xm j k hk,he]
      have hj2:=(List.getElem?_eq_some_iff.mp hk).1;have ul:=hU.1;rw[List.length_take] at ul;rw[take_one hq];simp -dsimp[au,stC,-Bool.exists_bool,-List.map_take,-Prod.forall,-Prod.exists];refine⟨_,.inl (bA.of (s4 _ _ el3)),_,cJ hv,_,wI,by omega,⟨_,ao,hU.snoc et4⟩,aZ s4 hD⟩
    · rintro σ H4 ⟨⟨o',rfl⟩,⟨us,wI,hU⟩,s4⟩;rw[kl,← hql,List.take_length] at hU;simp -dsimp[au,stC,-Bool.exists_bool,-List.map_take,-Prod.forall,-Prod.exists];intro o' L_ ho' Wr qag;have so:Same H4 (upd (upd H4 L_ (.own o')) o' (.ins a.bI L_ [])):=fun b u e=>by
        rw[aG (aN e ho'),aG (aN e Wr)];exact e
      have hpr:lA H4 us qs:=by
        have RQ:=aV.same hU s4;exact⟨RQ.1,fun i v e h1 h2=>by
          obtain⟨t,rfl,z⟩:=RQ.2 i v e h1 h2;exact⟨t,rfl,.inr z⟩⟩
      have hTq:qD xs qs:=⟨by omega,fun e he=>by
        obtain⟨j,hj⟩:=List.mem_iff_getElem?.mp he;have hj2:=(List.getElem?_eq_some_iff.mp hj).1;obtain⟨k,hk⟩:∃k,ks[j]? = some k:=⟨_,List.getElem?_eq_getElem (by omega)⟩;rw[Xm j k hk] at hj;exact hTs.ok e (List.mem_of_getElem? hj)⟩
      refine⟨o',L_,p,D,us,xs,qs,rfl,ao,.inl (so _ _ wI),hpr.same so,.inl (so _ _ (s4 _ _ ep)),hX,hTq,fun H8 hW8 hB8=>⟨rfl,?_⟩⟩;have s8:Same H4 H8:=fun b u e=>hB8 b u (aN e ho') (so b u e);exact q o' H8 (lJ (S3.trans s4) ho') hW8 (S3.trans (s4.trans s8))
theorem Jd {K:W.Frag} {H:Hp}:∀{tv:List V} {ps:List (Str×Str)},aV H tv ps→qm K H (eZ ps) tv
  | [],[],_=>rfl
  | [],_::_,h=>by have:=h.1;simp at this
  | _::_,[],h=>by have:=h.1;simp at this
  | v::tv,e::ps,h=>by
    obtain⟨t,rfl,z⟩:=h.2 0 v e rfl rfl;refine⟨_,_,rfl,⟨t,_,rfl,jK.of z,⟨_,_,rfl,rfl,_,_,rfl,rfl,rfl⟩⟩,Jd ⟨by simpa using h.1,fun i v d h1 h2=>h.2 (i+1) v d (by simpa using h1) (by simpa using h2)⟩⟩
theorem GF:∀a b:List (Str×Str),PyData.eqvAll (eZ a) (eZ b)=decide (a=b)
  | [],[]=>rfl
  | [],y::b=>by simp[eZ,PyData.eqvAll]
  | x::a,[]=>by simp[eZ,PyData.eqvAll]
  | x::a,y::b=>by
    show(PyData.eqv (.tuple [.str x.1,.str x.2]) (.tuple [.str y.1,.str y.2]) && PyData.eqvAll (eZ a) (eZ b))=_;rw[GF a b,Bool.eq_iff_iff];simp[PyData.eqv,PyData.eqvAll,Prod.ext_iff]
theorem RV {ys:List V} {xs:List Str} (p:ys.Perm (xs.map V.str)):∃zs:List Str,ys=zs.map V.str∧zs.Perm xs:=by
  have h:∀v∈ys,∃x,v=V.str x:=fun v hv=>by
    obtain⟨x,_,e⟩:=List.mem_map.mp (p.mem_iff.mp hv);exact⟨x,e.symm⟩
  obtain⟨zs,e⟩:∃zs:List Str,ys=zs.map V.str:=by
    clear p
    induction ys with
    | nil=>exact⟨[],rfl⟩
    | cons v ys ih=>
      obtain⟨x,rfl⟩:=h v List.mem_cons_self;obtain⟨zs,e⟩:=ih fun v hv=>h v (List.mem_cons_of_mem _ hv);exact⟨x::zs,by rw[e];rfl⟩
  subst e;refine⟨zs,rfl,?_⟩;have q:=p.map (fun v=>match v with | V.str x=>x | _=>Str.empty)
  rw[List.map_map,List.map_map] at q;have id1:∀l:List Str,l.map ((fun v=>match v with | V.str x=>x | _=>Str.empty) ∘ V.str)=l:=fun l=>by
    refine(List.map_congr_left fun x _=>?_).trans (List.map_id _);rfl
  rwa [id1,id1] at q
theorem wu.perm {xs ys:List Str} (h:wu xs) (p:ys.Perm xs):wu ys:=⟨by rw[p.length_eq];exact h.len,fun x hx=>h.nm x (p.mem_iff.mp hx),p.nodup_iff.mpr h.nd⟩
def Je:Sp:=fun vs H Q _=>∃(p n:Addr) (xs:List Str),vs=[.ref p,.ref n]∧jj H p∧n≠p∧H n=some (.lst (xs.map V.str))∧wu xs∧
  ∀(d:Addr) (ys:List Str) (H':Hp),H d=none→H' d=some (.dK (Ay xs ys))→ys.length=xs.length→wu ys→jj H' p→But p H H'→Q (.ref d) H'
theorem Jf (T:Txt K mg a):bZ P w K mg base lH 3 a.fQ a.mQ ["_law_pot_here", "_law_names_here"] Je:=by
  refine T.um.sX Ik (fun vs H Q E h=>?_) (fun cdv A outer s H vs Q E hr h=>?_)
  ·obtain⟨p,n,xs,rfl,_⟩:=h;rfl
  · obtain⟨p,n,xs,rfl,hP,np,hn,hX,q⟩:=h;refine⟨_,(aF (cI (bR m6 (PE.eqv (aO (dj (K:=K) T) (hr.mono (by decide)) rfl T.fH T.eO.kp T.fG .nil aX (aj (aJ 0) (aj aP ak))) (aM _ _ _)) aP (bW _)) (aK (bf (Cp (K:=K) rfl rfl rfl T.LR.dict rfl T.nm.zip (aj (aJ 1) (aj (PE.eqv (aO (xT (K:=K) T) (hr.mono (by decide)) rfl T.xQ T.uX.kp T.xP .nil aX (aj (aJ 0) (aj (aJ 1) ak))) (aM _ _ _)) ak))))) bF)
      (aK (bf (Cp (K:=K) rfl rfl rfl T.LR.dict rfl T.nm.zip (aj (aJ 1) (aj (PE.eqv (aO (K4 (K:=K) T) (hr.mono (by decide)) rfl T.Iu T.Aw.kp T.Ir .nil aX (aj (aJ 0) (aj (aH (bU (K:=K) rfl) rfl T.nm.len PySem.boot_len (aj (aJ 1) ak)) ak))) (aM _ _ _)) ak)))))),?_⟩
    have l9:=hX.len;have fin:∀(r:Addr) (ys:List Str) (H2:Hp),H2 r=some (.lst (ys.map V.str))→ys.length=xs.length→wu ys→jj H2 p→But p H H2→∀d,H2 d=none→Q (.ref d) (upd H2 d (.dK (Ay xs ys))):=fun r ys H2 er hl hY hP2 hB d hd=>by
      have hdp:d≠p:=(hP2.nl hd);refine q d ys _ ?_ ao hl hY (hP2.upd hdp.symm) (hB.same (aq hd));cases e:H d with
      | none=>rfl
      | some u=>rw[hB d u hdp e] at hd;cases hd
    simp -dsimp[au,stC,-Bool.exists_bool,-List.map_take,-Prod.forall,-Prod.exists];refine⟨p,3,rfl,hP,by decide,by decide,fun k H1 hk0 hk1 Gz Ew=>?_⟩;have hn1:=Ew _ _ np hn;simp -dsimp[au,stC,-Bool.exists_bool,-List.map_take,-Prod.forall,-Prod.exists];refine iI.of (fun h=>?_) (fun h=>?_)
    ·simp -dsimp[au,stC,-Bool.exists_bool,-List.map_take,-Prod.forall,-Prod.exists];refine⟨p,n,_,rfl,Gz,np,hn1,by rw[List.length_map];omega,fun r ys H2 hr0 er hp hP2 hB2=>?_⟩;obtain⟨zs,rfl,hz⟩:=RV hp;simp -dsimp[au,stC,-Bool.exists_bool,-List.map_take,-Prod.forall,-Prod.exists];refine⟨xs,bA.of (hB2 _ _ np hn1),_,bA.of er,by rw[List.length_map];exact hz.length_eq,hX.nd,fun d hd=>?_⟩;exact fin r zs H2 er hz.length_eq (hX.perm hz) hP2 (Ew.trans hB2) d hd
    ·simp -dsimp[au,stC,-Bool.exists_bool,-List.map_take,-Prod.forall,-Prod.exists];refine⟨_,.inl (bA.of hn1),?_⟩;rw[List.length_map];refine⟨p,xs.length,rfl,Gz,l9.1,l9.2,fun r ys H2 hr0 er hY hl hP2 hB2=>?_⟩;simp -dsimp[au,stC,-Bool.exists_bool,-List.map_take,-Prod.forall,-Prod.exists];refine⟨xs,bA.of (hB2 _ _ np hn1),_,bA.of er,by rw[List.length_map];exact hl,hX.nd,fun d hd=>?_⟩;exact fin r ys H2 er hl hY hP2 (Ew.trans hB2) d hd
def qdk (C:Addr):Sp:=fun vs H Q _=>∃(o n l:Addr) (xs:List Str) (tv:List V) (ps:List (Str×Str)),vs=[.ref o,.ref n,.ref l]∧cD C H o xs ps∧H n=some (.lst (xs.map V.str))∧H l=some (.lst tv)∧aV H tv ps∧wu xs∧qD xs ps∧∀H',Same H H'→Q (.bl true) H'
theorem C_ (T:Txt K mg a):bZ P w K mg base lH 2 a.KN a.Qm ["_law_web_here", "_law_names_here", "_law_ties"] (qdk a.bI):=by
  refine T.Iv.sX qda (fun vs H Q E h=>?_) (fun cdv A outer s H vs Q E hr h=>?_)
  ·obtain⟨o,n,l,xs,tv,ps,rfl,_⟩:=h;rfl
  · obtain⟨o,n,l,xs,tv,ps,rfl,hw,hn,hl,hT,hX,hTs,q⟩:=h;refine⟨_,(aK (bf (jq (cZ (Vk (K:=K) rfl hr.units) (PE.eqv (eY (aJ 0) T.jW T.iC (jk (K:=K) T) (hr.mono (by decide)) T.iB .nil aX) (fj _ _ _ _ _ _)) (aJ 1) (bW _)) (lV (cZ (Vk (K:=K) rfl hr.units) (PE.eqv (eY (aJ 0) T.jW T.nQ (pG (K:=K) T) (hr.mono (by decide)) T.nJ .nil aX) (fj _ _ _ _ _ _)) (aJ 2) (bW _)))))),?_⟩;obtain⟨dx,fs,hin,hno⟩:=hw.ins gJ.1 gJ.2;simp -dsimp[au,stC,-Bool.exists_bool,-List.map_take,-Prod.forall,-Prod.exists];refine⟨_,_,hin,hno,o,xs,ps,rfl,hw,fun p hp=>?_⟩;have s1:Same H (upd H p (.lst (xs.map V.str))):=aq hp;have ep:upd H p (.lst (xs.map V.str)) p=some (.lst (xs.map V.str)):=ao;generalize upd H p (.lst (xs.map V.str))=H1 at s1 ep ⊢;simp -dsimp[au,stC,-Bool.exists_bool,-List.map_take,-Prod.forall,-Prod.exists];have okx:∀x∈xs,PyData.strOk x=true:=fun x hx=>Yj (hX.nm x hx);have okp:∀e∈ps,PyData.strOk e.1=true∧PyData.strOk e.2=true:=fun e he=>⟨okx _ (hTs.ok e he).1,okx _ (hTs.ok e he).2.1⟩;have qdl:(PyData.list (jD xs)).canLay0=true:=by simp[PyData.canLay0,Kc xs okx]
    have qdm:(PyData.list (eZ ps)).canLay0=true:=by simp[PyData.canLay0,FZ ps okp]
    refine⟨.list (jD xs),⟨p,_,rfl,bA.of ep,HJ xs⟩,.list (jD xs),⟨n,_,rfl,bA.of (s1 _ _ hn),HJ xs⟩,qdl,qdl,by have:=Kd xs;simp[PyData.depth];omega,?_⟩;rw[show PyData.eqv (.list (jD xs)) (.list (jD xs))=true by simp[PyData.eqv,Ke]];simp -dsimp[au,stC,-Bool.exists_bool,-List.map_take,-Prod.forall,-Prod.exists];obtain⟨dx2,fs2,Ws,qbG⟩:=(hw.same s1).ins pH.1 pH.2;refine⟨_,_,Ws,qbG,o,xs,ps,rfl,hw.same s1,fun l2 tv2 hl2 hT2=>?_⟩;have s2:Same H1 (upd H1 l2 (.lst tv2)):=aq hl2;have el:upd H1 l2 (.lst tv2) l2=some (.lst tv2):=ao;generalize upd H1 l2 (.lst tv2)=H2 at s2 el ⊢;have S2:=s1.trans s2;simp -dsimp[au,stC,-Bool.exists_bool,-List.map_take,-Prod.forall,-Prod.exists];refine⟨.list (eZ ps),⟨l2,_,rfl,bA.of el,Jd (aV.same hT2 s2)⟩,.list (eZ ps),⟨l,_,rfl,bA.of (S2 _ _ hl),Jd (aV.same hT S2)⟩,qdm,qdm,by have:=Ga ps;simp[PyData.depth];omega,?_⟩;rw[show PyData.eqv (.list (eZ ps)) (.list (eZ ps))=true by simp[PyData.eqv,GF]];exact q _ S2
def yU (C:Addr):Sp:=fun vs H Q _=>∃(o n l d:Addr) (xs ys:List Str) (tv:List V) (ps:List (Str×Str)),vs=[.ref o,.ref n,.ref l,.ref d]∧cD C H o xs ps∧H n=some (.lst (xs.map V.str))∧H l=some (.lst tv)∧aV H tv ps∧wu xs∧qD xs ps∧H d=some (.dK (Ay xs ys))∧ys.length=xs.length∧wu ys∧
  ∀H',(∀b u,b≠d→H b=some u→H' b=some u)→Q (.bl true) H'
theorem yV (T:Txt K mg a):bZ P w K mg base lH 7 a.cM a.iw ["_law_web_here", "_law_names_here", "_law_ties", "_law_more"] (yU a.bI):=by
  refine T.lZ.sX h_ (fun vs H Q E h=>?_) (fun cdv A outer s H vs Q E hr h=>?_)
  ·obtain⟨o,n,l,d,xs,ys,tv,ps,rfl,_⟩:=h;rfl
  · obtain⟨o,n,l,d,xs,ys,tv,ps,rfl,hw,hn,hl,hT,hX,hTs,hd,hyl,hY,q⟩:=h;refine⟨_,(aF (bJ (i:=4) h_.nd rfl (Or.inl rfl) (PE.eqv (aO (CZ (K:=K) T) (hr.mono (by decide)) rfl T.uW T.kI.kp T.uV .nil aX (aj (aJ 0) (aj (aJ 3) ak))) (aM _ _ _)))
      (aF (bJ (i:=5) h_.nd rfl (Or.inl rfl) (eX (aj (cg rfl rfl (show aR (aB dU) _ ["_law_web_here", "_law_names_here", "_law_ties", "_law_more", "_law_other", "_law_due", "_law_back"] ["_law_name"] [3] ["_law_name", "_law_more"] from⟨rfl,by decide+kernel,by decide+kernel,rfl,by decide+kernel,by decide+kernel⟩) rfl (PI.eqv (dG (K:=K) rfl (aJ 1)) (cP _ _)) (fun C s H fp pn=>(aY (i:=0) (show(["_law_name", "_law_more"]:List Str).Nodup by decide+kernel) rfl (Or.inl rfl))) (fun C s H fp pn=>bO) (fun C s H fp pn=>(PE.eqv (g_ (ql hr) (aJ 1) (aJ 0) (fun _ _=>rfl)) (fu _ _)))) (aj (cg rfl rfl (show aR (aB dU) _ ["_law_web_here", "_law_names_here", "_law_ties", "_law_more", "_law_other", "_law_due", "_law_back"] ["_law_a", "_law_b"] [3] ["_law_a", "_law_b", "_law_more"] from⟨rfl,by decide+kernel,by decide+kernel,rfl,by decide+kernel,by decide+kernel⟩) rfl (PI.eqv (dG (K:=K) rfl (aJ 2)) (cP _ _)) (fun C s H fp pn=>(PG.eqv (qM (K:=K) (n:=2) rfl rfl (qJ.eqv (cN (aY (i:=0) (show(["_law_a", "_law_b", "_law_more"]:List Str).Nodup by decide+kernel) rfl (Or.inl rfl)) (qJ.eqv (cN (aY (i:=1) (show(["_law_a", "_law_b", "_law_more"]:List Str).Nodup by decide+kernel) rfl (Or.inl rfl)) (qJ.mono mL qP)) (cO _ _))) (cO _ _))) (qQ _ _ _))) (fun C s H fp pn=>bO) (fun C s H fp pn=>(eX (aj (PE.eqv (g_ (ql hr) (aJ 2) (aJ 0) (fun _ _=>rfl)) (fu _ _)) (aj (PE.eqv (g_ (ql hr) (aJ 2) (aJ 1) (fun _ _=>rfl)) (fu _ _)) ak))))) ak))))
      (aF (cI (PW.pt (lG (bT (bK (PE.eqv (aO (C_ (K:=K) T) (hr.mono (by decide)) rfl T.KR T.Iv.kp T.KQ .nil aX (aj (aJ 4) (aj (cW (dO (K:=K) rfl) (aJ 5) aP (fun _ _=>rfl)) (aj (cW (dO (K:=K) rfl) (aJ 5) aP (fun _ _=>rfl)) ak)))) (aM _ _ _)))) (gO (bT (bK (PE.eqv (aO (C_ (K:=K) T) (hr.mono (by decide)) rfl T.KR T.Iv.kp T.KQ .nil aX (aj (aJ 0) (aj (aJ 1) (aj (aJ 2) ak)))) (aM _ _ _))))))) (aK (bf iG)) bF)
      (aF (bJ (i:=6) h_.nd rfl (Or.inl rfl) (bY (yI (K:=K) rfl rfl) rfl T.LR.dict eF (aj (cg rfl rfl (show aR (aB dU) _ ["_law_web_here", "_law_names_here", "_law_ties", "_law_more", "_law_other", "_law_due", "_law_back"] ["_law_name"] [3] ["_law_name", "_law_more"] from⟨rfl,by decide+kernel,by decide+kernel,rfl,by decide+kernel,by decide+kernel⟩) rfl (PI.eqv (dG (K:=K) rfl (aJ 1)) (cP _ _)) (fun C s H fp pn=>(aY (i:=0) (show(["_law_name", "_law_more"]:List Str).Nodup by decide+kernel) rfl (Or.inl rfl))) (fun C s H fp pn=>bO) (fun C s H fp pn=>(eX (aj (PE.eqv (g_ (ql hr) (aJ 1) (aJ 0) (fun _ _=>rfl)) (fu _ _)) (aj (aJ 0) ak))))) ak)))
      (aF (jl (Pu (K:=K) rfl PySem.F.plainAttrs_dict PySem.F.slot_dict_clear PySem.F.type_dict_clear NP (aJ 3)))
      (aF (cI (bT (bK (PE.eqv (aO (C_ (K:=K) T) (hr.mono (by decide)) rfl T.KR T.Iv.kp T.KQ .nil aX (aj (aJ 4) (aj (cW (dO (K:=K) rfl) (aJ 5) aP (fun _ _=>rfl)) (aj (cW (dO (K:=K) rfl) (aJ 5) aP (fun _ _=>rfl)) ak)))) (aM _ _ _)))) (aK (bf iG)) bF)
      (aK (bf (PE.eqv (aO (C_ (K:=K) T) (hr.mono (by decide)) rfl T.KR T.Iv.kp T.KQ .nil aX (aj (PE.eqv (aO (CZ (K:=K) T) (hr.mono (by decide)) rfl T.uW T.kI.kp T.uV .nil aX (aj (aJ 4) (aj (aJ 6) ak))) (aM _ _ _)) (aj (aJ 1) (aj (aJ 2) ak)))) (aM _ _ _)))))))))),?_⟩
    have Y8:60≤sizeLine:=by decide
    have l9:=hX.len;have Xk:=hTs.len;have tl:tv.length=ps.length:=hT.1;simp -dsimp[au,stC,-Bool.exists_bool,-List.map_take,-Prod.forall,-Prod.exists];refine⟨o,d,xs,ys,ps,rfl,hw,hX,hTs,hd,hyl,hY,fun o1 H1 ho1 hW1 s1=>?_⟩;have hg:∀{H6:Hp},Same H1 H6→∀x∈xs,Ed H6 d (V.str x) (some (.str (gM xs ys x))):=fun s6 x hx=>.inl ⟨_,Sum.inr x,.inl (s6 _ _ (s1 _ _ hd)),rfl,(I_ hyl hx).symm⟩;simp -dsimp[au,stC,-Bool.exists_bool,-List.map_take,-Prod.forall,-Prod.exists];have hn1:=s1 _ _ hn;have hl1:=s1 _ _ hl;have hT1:=aV.same hT s1;refine⟨⟨_,bA.of hn1⟩,fun D3 DY=>Rk (xs.map V.str) (fun j σ H'=>(∃o0,σ=[o0,some (.ref d)])∧H' D3=some (.lst (((xs.take j).map (gM xs ys)).map V.str))∧Same H1 H') ⟨⟨_,rfl⟩,by rw[ao];rfl,aq DY⟩ (fun j σ H' _ h=>bA.of (h.2.2 _ _ hn1)) ?_ ?_⟩
    ·rintro j v σ H7 hj ⟨⟨o0,rfl⟩,vq,s7⟩;obtain⟨x,hx,rfl⟩:=qN hj;have hj2:=(List.getElem?_eq_some_iff.mp hx).1;rw[take_one hx,List.map_append,List.map_append];simp -dsimp[au,stC,-Bool.exists_bool,-List.map_take,-Prod.forall,-Prod.exists];refine⟨_,hg s7 _ (List.mem_of_getElem? hx),_,vq,by rw[List.length_map,List.length_map,List.length_take];omega,?_,aZ s7 DY⟩;rw[ao];simp
    · rintro σ H2 ⟨⟨o0,rfl⟩,qbH,s2⟩;rw[List.length_map,List.take_length,uE hyl hX.nd] at qbH;simp -dsimp[au,stC,-Bool.exists_bool,-List.map_take,-Prod.forall,-Prod.exists];refine⟨⟨_,bA.of (s2 _ _ hl1)⟩,fun D2 hD2=>?_⟩;refine Rk tv (fun j σ H'=>(∃o0 o1,σ=[o0,o1,some (.ref d)])∧(∃us,H' D2=some (.lst us)∧aV H' us ((ps.take j).map (Sh xs ys)))∧Same H2 H') ⟨⟨_,_,rfl⟩,⟨[],ao,rfl,fun i v e h=>by simp at h⟩,aq hD2⟩ (fun j σ H' _ h=>bA.of (h.2.2 _ _ (s2 _ _ hl1))) ?_ ?_
      · rintro j v σ H6 hj ⟨⟨o0,o1,rfl⟩,⟨us,yS,hU⟩,s6⟩;obtain⟨e,he,t,rfl,ht⟩:=hT1.at hj;have hj2:=(List.getElem?_eq_some_iff.mp he).1;have hem:=hTs.ok e (List.mem_of_getElem? he);have ul:=hU.1;rw[List.length_map,List.length_take] at ul;rw[take_one he,List.map_append];have s26:=s2.trans s6;simp -dsimp[au,stC,-Bool.exists_bool,-List.map_take,-Prod.forall,-Prod.exists];refine⟨_,jK.of (s26 _ _ ht),rfl,_,hg s26 _ hem.1,_,hg s26 _ hem.2.1,?_⟩;intro q1 hq1;have s7:Same H6 (upd H6 q1 (.tup [.str (gM xs ys e.1),.str (gM xs ys e.2)])):=aq hq1;have e7:upd H6 q1 (.tup [.str (gM xs ys e.1),.str (gM xs ys e.2)]) q1=some (.tup [.str (gM xs ys e.1),.str (gM xs ys e.2)]):=ao;generalize upd H6 q1 (.tup [.str (gM xs ys e.1),.str (gM xs ys e.2)])=H7 at s7 e7 ⊢;have vq:=s7 _ _ yS;have kt:lq H7 (upd H7 D2 (.lst (us++[.ref q1]))):=fun b zs eb=>by
          rw[aG fun z=>by rw[z,vq] at eb;cases eb];exact eb
        refine⟨_,vq,by omega,⟨us++[.ref q1],ao,?_⟩,aZ (s6.trans s7) hD2⟩;exact(aV.keep (aV.same hU s7) kt).snoc (kt _ _ e7)
      · rintro σ H3 ⟨⟨o0,o9,rfl⟩,⟨us,qdn,hU⟩,s3⟩;rw[tl,List.take_length] at hU;have S13:=s2.trans s3;simp -dsimp[au,stC,-Bool.exists_bool,-List.map_take,-Prod.forall,-Prod.exists];intro t4 ht4;have s4:Same H3 (upd H3 t4 (.tup [.ref D3,.ref D2])):=aq ht4;have e4:upd H3 t4 (.tup [.ref D3,.ref D2]) t4=some (.tup [.ref D3,.ref D2]):=ao;generalize upd H3 t4 (.tup [.ref D3,.ref D2])=H4 at s4 e4 ⊢;have S14:=S13.trans s4;have S04:=s1.trans S14;have hTy:=Qp hyl hX hY hTs;refine⟨_,.inr (jK.of e4),_,cJ (j:=0) rfl,_,.inr (jK.of e4),_,cJ (j:=1) rfl,o1,D3,D2,ys,us,_,rfl,hW1.same S14,(s3.trans s4) _ _ qbH,s4 _ _ qdn,aV.same hU s4,hY,hTy,fun H5 s5=>?_⟩;have S05:=S04.trans s5;simp -dsimp[au,stC,-Bool.exists_bool,-List.map_take,-Prod.forall,-Prod.exists];refine⟨o,n,l,xs,tv,ps,rfl,hw.same S05,S05 _ _ hn,S05 _ _ hl,aV.same hT S05,hX,hTs,fun H6 s6=>?_⟩;have S16:=S14.trans (s5.trans s6);have S06:=s1.trans S16;simp -dsimp[au,stC,-Bool.exists_bool,-List.map_take,-Prod.forall,-Prod.exists];refine⟨⟨_,bA.of (S16 _ _ hn1)⟩,fun D6 yS=>Rk (xs.map V.str) (fun j σ H'=>(∃o0,σ=[o0,some (.ref d)])∧(∃us,H' D6=some (.lst us)∧aV H' us ((xs.take j).map fun x=>(gM xs ys x,x)))∧Same H6 H') ⟨⟨_,rfl⟩,⟨[],ao,rfl,fun i v e h=>by simp at h⟩,aq yS⟩ (fun j σ H' _ h=>bA.of (h.2.2 _ _ (S16 _ _ hn1))) ?_ ?_⟩
        · rintro j v σ H7 hj ⟨⟨o0,rfl⟩,⟨us,vq,RQ⟩,s7⟩;obtain⟨x,hx,rfl⟩:=qN hj;have hj2:=(List.getElem?_eq_some_iff.mp hx).1;have ul:=RQ.1;rw[List.length_map,List.length_take] at ul;rw[take_one hx,List.map_append];simp -dsimp[au,stC,-Bool.exists_bool,-List.map_take,-Prod.forall,-Prod.exists];refine⟨_,hg (S16.trans s7) _ (List.mem_of_getElem? hx),?_⟩;intro q1 hq1;have s8:Same H7 (upd H7 q1 (.tup [.str (gM xs ys x),.str x])):=aq hq1;have e8:upd H7 q1 (.tup [.str (gM xs ys x),.str x]) q1=some (.tup [.str (gM xs ys x),.str x]):=ao;generalize upd H7 q1 (.tup [.str (gM xs ys x),.str x])=H8 at s8 e8 ⊢;have Qq:=s8 _ _ vq;have kt:lq H8 (upd H8 D6 (.lst (us++[.ref q1]))):=fun b zs eb=>by
            rw[aG fun z=>by rw[z,Qq] at eb;cases eb];exact eb
          refine⟨_,Qq,by omega,⟨us++[.ref q1],ao,?_⟩,aZ (s7.trans s8) yS⟩;exact(aV.keep (aV.same RQ s8) kt).snoc (kt _ _ e8)
        · rintro σ H7 ⟨⟨o0,rfl⟩,⟨us6,vq,RQ⟩,s7⟩;rw[List.length_map,List.take_length] at RQ;have S17:=S16.trans s7;have S07:=s1.trans S17;have hpl:vI H7 us6 (ys.zip (xs.map V.str)):=⟨by rw[RQ.1,List.length_map,List.length_zip,List.length_map,hyl,Nat.min_self],fun i e he=>by
            rw[List.getElem?_zip_eq_some,List.getElem?_map] at he;obtain⟨h1,h2⟩:=he;obtain⟨x,hx,hx2⟩:=Option.map_eq_some_iff.mp h2;have hil:=(List.getElem?_eq_some_iff.mp hx).1;obtain⟨v,hv⟩:∃v,us6[i]? = some v:=⟨_,List.getElem?_eq_getElem (by have:=RQ.1;rw[List.length_map] at this;omega)⟩;obtain⟨t,rfl,et⟩:=RQ.2 i v (gM xs ys x,x) hv (by rw[List.getElem?_map,hx];rfl);have hy:ys[i]? = some (gM xs ys x):=by
              rw[← uE hyl hX.nd,List.getElem?_map,uE hyl hX.nd,hx];rfl
            rw[hy] at h1;refine⟨t,hv,?_⟩;rw[et,← Option.some.inj h1,← hx2]⟩
          have hkn:((ys.zip (xs.map V.str)).map (·.1)).Nodup:=by
            rw[List.map_fst_zip (by rw[List.length_map];omega)];exact hY.nd
          simp -dsimp[au,stC,-Bool.exists_bool,-List.map_take,-Prod.forall,-Prod.exists];refine⟨us6,bA.of vq,_,hpl,hkn,fun p8 hp8=>?_⟩;have s8:Same H7 (upd H7 p8 (.dK (Ay ys xs))):=aq hp8;have e8:upd H7 p8 (.dK (Ay ys xs)) p8=some (.dK (Ay ys xs)):=ao;have edk:upd H7 p8 (.dK (fP (ys.zip (xs.map V.str))))=upd H7 p8 (.dK (Ay ys xs)):=rfl;rw[edk];generalize upd H7 p8 (.dK (Ay ys xs))=H8 at s8 e8 ⊢;have S08:=S07.trans s8;have S18:=S17.trans s8;have hd8:=S08 _ _ hd;have k9:∀b u,b≠d→H8 b=some u→upd H8 d (.dK []) b=some u:=fun b u hb e=>by rw[aG hb];exact e
          have Qs:∀{b:Addr} {u:HO},H8 b=some u→(∀ks,u≠.dK ks)→upd H8 d (.dK []) b=some u:=fun {b u} e hn=>k9 b u (fun z=>by
            rw[z,hd8] at e;exact hn _ (Option.some.inj e).symm) e
          have tk9:lq H8 (upd H8 d (.dK [])):=fun b us e=>Qs e (by intro ks z;cases z);have wk9:∀{o:Addr} {xs:List Str} {ps:List (Str×Str)},cD a.bI H8 o xs ps→cD a.bI (upd H8 d (.dK [])) o xs ps:=fun h=>by
            obtain⟨dx,n,m,tv,h1,h2,h3,h4,h5⟩:=h.ex;exact⟨⟨dx,n,m,tv,Qs h1 (by intro ks z;cases z),Qs h2 (by intro ks z;cases z),Qs h3 (by intro ks z;cases z),h4.keep tk9,h5⟩⟩
          have p8d:p8≠d:=fun z=>by rw[z,S07 _ _ hd] at hp8;cases hp8
          have e9:=k9 _ _ p8d e8;have t49:=Qs ((S18:Same H1 H8) |> fun _=>(s5.trans (s6.trans (s7.trans s8))) _ _ e4) (by intro ks z;cases z)
          have d39:=Qs ((s3.trans (s4.trans (s5.trans (s6.trans (s7.trans s8))))) _ _ qbH) (by intro ks z;cases z);have d29:=Qs ((s4.trans (s5.trans (s6.trans (s7.trans s8)))) _ _ qdn) (by intro ks z;cases z);have u9:=(aV.same hU (s4.trans (s5.trans (s6.trans (s7.trans s8))))).keep tk9;have w19:=wk9 (hW1.same S18);have n9:=Qs (S08 _ _ hn) (by intro ks z;cases z);have l9':=Qs (S08 _ _ hl) (by intro ks z;cases z);have T9:=(aV.same hT S08).keep tk9;have K9:∀b u,b≠d→H b=some u→upd H8 d (.dK []) b=some u:=fun b u hb e=>k9 b u hb (S08 _ _ e);have nl:=Qo hyl;refine⟨?_,_,hd8,by omega,?_⟩
          ·exact .inr (.inr (.inl ⟨rfl,.inl ⟨_,hd8⟩⟩))
          generalize upd H8 d (.dK [])=H9 at e9 t49 d39 d29 u9 w19 n9 l9' T9 K9 ⊢;refine⟨_,.inr (jK.of t49),_,cJ (j:=0) rfl,_,.inr (jK.of t49),_,cJ (j:=1) rfl,o1,D3,D2,ys,us,_,rfl,w19,d39,d29,u9,hY,hTy,fun H10 LQ=>?_⟩;simp -dsimp[au,stC,-Bool.exists_bool,-List.map_take,-Prod.forall,-Prod.exists];refine⟨o1,p8,ys,xs,_,rfl,w19.same LQ,hY,hTy,LQ _ _ e9,hyl.symm,hX,fun o11 Ss qgU qdo s11=>?_⟩;rw[Wq hyl hX hY hTs] at qdo;have Y9:=LQ.trans s11;simp -dsimp[au,stC,-Bool.exists_bool,-List.map_take,-Prod.forall,-Prod.exists];refine⟨o11,n,l,xs,tv,ps,rfl,qdo,Y9 _ _ n9,Y9 _ _ l9',aV.same T9 Y9,hX,hTs,fun H12 s12=>?_⟩;exact q _ fun b u hb e=>(Y9.trans s12) _ _ (K9 b u hb e)
def eE (ks:List Nat):List V:=(ks.map fun n:Nat=>(n:Int)).map V.int
theorem Jg {ks:List Nat} {j:Nat} {v:V} (h:(eE ks)[j]? = some v):∃k,ks[j]? = some k∧v = .int (k:Nat):=by
  unfold eE at h;rw[List.getElem?_map,List.getElem?_map] at h;cases e:ks[j]? with
  | none=>rw[e] at h;cases h
  | some k=>rw[e] at h;cases h;exact⟨k,rfl,rfl⟩
theorem fJ (ks:List Nat):(eE ks).length=ks.length:=by simp[eE]
theorem Y_ {ks:List Nat} {m:Nat} (h:ks.Perm (List.range m)) (hm:m≤20):Nrs m (ks.map fun n:Nat=>(n:Int)):=⟨fun k hk=>by
  obtain⟨n,hn,rfl⟩:=List.mem_map.mp hk;have:=List.mem_range.mp (h.mem_iff.mp hn);omega,by
  have nd:ks.Nodup:=h.nodup_iff.mpr List.nodup_range;exact(List.pairwise_map.mpr (nd.imp fun z e=>z (by omega))),by rw[List.length_map,h.length_eq,List.length_range];exact hm⟩
def Xn (ps:List (Str×Str)) (ks:List Nat):List (Str×Str):=ks.filterMap fun k=>ps[k]?
theorem Wt {ps:List (Str×Str)}:∀{ks:List Nat},(∀k∈ks,k<ps.length)→(Xn ps ks).length=ks.length∧∀(j k:Nat),ks[j]? = some k→(Xn ps ks)[j]? = ps[k]?
  | [],_=>⟨rfl,fun j k h=>by simp at h⟩
  | a::ks,h=>by
    have ih:=Wt (ks:=ks) fun k hk=>h k (List.mem_cons_of_mem _ hk);obtain⟨e,he⟩:∃e,ps[a]? = some e:=⟨_,List.getElem?_eq_getElem (h a List.mem_cons_self)⟩;have q:Xn ps (a::ks)=e::Xn ps ks:=by unfold Xn;rw[List.filterMap_cons,he]
    rw[q];refine⟨by simp[ih.1],fun j k hj=>?_⟩
    match j with
    | 0=>cases hj;exact he.symm
    | j+1=>exact ih.2 j k (by simpa using hj)
theorem Ob {ks:List Nat} {k:Nat} (h:k∈ks):ks[ks.idxOf k]? = some k:=by
  rw[List.getElem?_eq_some_iff];exact⟨List.idxOf_lt_length_iff.mpr h,List.getElem_idxOf _⟩
theorem Qt:∀(ks:List Nat) (j:Nat),(ks.map fun n:Nat=>(n:Int)).idxOf (j:Int)=ks.idxOf j
  | [],j=>rfl
  | k::ks,j=>by
    have e:((k:Int) == (j:Int))=(k == j):=by
      rw[Bool.eq_iff_iff];simp;omega
    rw[List.map_cons,List.idxOf_cons,List.idxOf_cons,e,Qt ks j]
theorem Wu {ks:List Nat} {j:Nat} (_:j∈ks):(((ks.map fun n:Nat=>(n:Int)).idxOf (j:Int):Nat):Int)=((ks.idxOf j:Nat):Int):=by rw[Qt]
theorem Wv {ks:List Nat} {m:Nat} (hl:ks.length=m) (hin:∀k,k<m→k∈ks) (hm:m≤20):Nrs m (((List.range m).map fun k=>ks.idxOf k).map fun n:Nat=>(n:Int)):=⟨fun k hk=>by
  obtain⟨n,hn,rfl⟩:=List.mem_map.mp hk;obtain⟨j,hj,rfl⟩:=List.mem_map.mp hn;have:=List.idxOf_lt_length_iff.mpr (hin j (List.mem_range.mp hj));omega,by
  rw[List.map_map];refine List.pairwise_map.mpr ((List.nodup_range (n:=m)).imp_of_mem fun {a b} ha hb hne e=>hne ?_);have e':ks.idxOf a=ks.idxOf b:=by
    have:((ks.idxOf a:Nat):Int)=((ks.idxOf b:Nat):Int):=e;omega
  have h1:=Ob (hin a (List.mem_range.mp ha));have h2:=Ob (hin b (List.mem_range.mp hb));rw[e',h2] at h1;exact(Option.some.inj h1).symm,by simp;exact hm⟩
def wA (C:Addr):Sp:=fun vs H Q _=>∃(o n l t:Addr) (xs:List Str) (tv:List V) (ps:List (Str×Str)) (ks:List Nat),vs=[.ref o,.ref n,.ref l,.ref t]∧cD C H o xs ps∧H n=some (.lst (xs.map V.str))∧H l=some (.lst tv)∧aV H tv ps∧wu xs∧qD xs ps∧H t=some (.lst (eE ks))∧ks.Perm (List.range ps.length)∧n≠t∧l≠t∧
  ∀H',(∀b u,b≠t→H b=some u→H' b=some u)→Q (.bl true) H'
theorem wB (T:Txt K mg a):bZ P w K mg base lH 7 a.cB a.gA ["_law_web_here", "_law_names_here", "_law_ties", "_law_order"] (wA a.bI):=by
  refine T.jV.sX fZ (fun vs H Q E h=>?_) (fun cdv A outer s H vs Q E hr h=>?_)
  ·obtain⟨o,n,l,t,xs,tv,ps,ks,rfl,_⟩:=h;rfl
  · obtain⟨o,n,l,t,xs,tv,ps,ks,rfl,hw,hn,hl,hT,hX,hTs,ht,hp,nt,lt,q⟩:=h;refine⟨_,(aF (bJ (i:=4) fZ.nd rfl (Or.inl rfl) (PE.eqv (aO (xU (K:=K) T) (hr.mono (by decide)) rfl T.o8 T.jJ.kp T.oZ .nil aX (aj (aJ 0) (aj (aJ 3) ak))) (aM _ _ _)))
      (aF (jt (i:=5) fZ.nd rfl rfl rfl rfl (show aR (aB dY) _ ["_law_web_here", "_law_names_here", "_law_ties", "_law_order", "_law_other", "_law_due", "_law_back"] ["_law_k"] [2] ["_law_k", "_law_ties"] from⟨rfl,by decide+kernel,by decide+kernel,rfl,by decide+kernel,by decide+kernel⟩) rfl (PI.eqv (dG (K:=K) rfl (aJ 3)) (cP _ _)) (fun C s H fp pn=>(aY (i:=0) (show(["_law_k", "_law_ties"]:List Str).Nodup by decide+kernel) rfl (Or.inl rfl))) (fun C s H fp pn=>bO) (fun C s H fp pn=>(cW (dO (K:=K) rfl) (aJ 1) (aJ 0) (fun _ _=>rfl))))
      (aF (jt (i:=6) fZ.nd rfl rfl rfl rfl (show aR (aB dY) _ ["_law_web_here", "_law_names_here", "_law_ties", "_law_order", "_law_other", "_law_due", "_law_back"] ["_law_k"] [3] ["_law_k", "_law_order"] from⟨rfl,by decide+kernel,by decide+kernel,rfl,by decide+kernel,by decide+kernel⟩) rfl (PI.eqv (mX rfl T.nm.range (aj (aH (bU (K:=K) rfl) rfl T.nm.len PySem.boot_len (aj (aJ 3) ak)) ak)) (mY _)) (fun C s H fp pn=>(aY (i:=0) (show(["_law_k", "_law_order"]:List Str).Nodup by decide+kernel) rfl (Or.inl rfl))) (fun C s H fp pn=>bO) (fun C s H fp pn=>(pQ (K:=K) rfl PySem.F.plainAttrs_list PySem.F.slot_list_index PySem.F.type_list_index (NT (K:=K) rfl) (aJ 1) (aj (aJ 0) ak))))
      (aF (jl (Pu (K:=K) rfl PySem.F.plainAttrs_list PySem.F.slot_list_clear PySem.F.type_list_clear Ru (aJ 3)))
      (aF (cI (PW.pt (lG (bT (bK (PE.eqv (aO (C_ (K:=K) T) (hr.mono (by decide)) rfl T.KR T.Iv.kp T.KQ .nil aX (aj (aJ 4) (aj (aJ 1) (aj (aJ 5) ak)))) (aM _ _ _)))) (gO (bT (bK (PE.eqv (aO (C_ (K:=K) T) (hr.mono (by decide)) rfl T.KR T.Iv.kp T.KQ .nil aX (aj (aJ 0) (aj (aJ 1) (aj (aJ 2) ak)))) (aM _ _ _))))))) (aK (bf iG)) bF)
      (aK (bf (PE.eqv (aO (C_ (K:=K) T) (hr.mono (by decide)) rfl T.KR T.Iv.kp T.KQ .nil aX (aj (PE.eqv (aO (xU (K:=K) T) (hr.mono (by decide)) rfl T.o8 T.jJ.kp T.oZ .nil aX (aj (aJ 4) (aj (bY qu rfl T.nm.tuple boot_tuple (aj (aJ 6) ak)) ak))) (aM _ _ _)) (aj (aJ 1) (aj (aJ 2) ak)))) (aM _ _ _))))))))),?_⟩
    have Y8:60≤sizeLine:=by decide
    have Xk:=hTs.len;have tl:tv.length=ps.length:=hT.1;have kl:ks.length=ps.length:=by rw[hp.length_eq,List.length_range]
    have km:∀k∈ks,k<ps.length:=fun k hk=>List.mem_range.mp (hp.mem_iff.mp hk);have R5:∀k,k<ps.length→k∈ks:=fun k hk=>hp.mem_iff.mpr (List.mem_range.mpr hk);obtain⟨rl,hre⟩:=Wt (ps:=ps) km;have hks:=Y_ hp Xk;simp -dsimp[au,stC,-Bool.exists_bool,-List.map_take,-Prod.forall,-Prod.exists];refine⟨o,t,xs,ps,Xn ps ks,ks,rfl,hw,hX,hTs,.inl ht,hks,kl,hre,by omega,fun o1 H1 ho1 hW1 s1=>?_⟩;have ht1:=s1 _ _ ht;have hl1:=s1 _ _ hl;have hT1:=aV.same hT s1;simp -dsimp[au,stC,-Bool.exists_bool,-List.map_take,-Prod.forall,-Prod.exists];refine⟨⟨_,bA.of ht1⟩,fun D hD=>Rk (eE ks) (fun j σ H'=>(∃o',σ=[o',some (.ref l)])∧(∃us,H' D=some (.lst us)∧aV H1 us ((Xn ps ks).take j))∧Same H1 H') ⟨⟨_,rfl⟩,⟨[],ao,rfl,fun i v e h=>by simp at h⟩,aq hD⟩ (fun i σ' H' _ h=>bA.of (h.2.2 _ _ ht1)) ?_ ?_⟩
    · rintro j v σ H4 hj ⟨⟨o',rfl⟩,⟨us,wI,hU⟩,s4⟩;obtain⟨k,hk,rfl⟩:=Jg hj;have hkm:=km k (List.mem_of_getElem? hk);obtain⟨e,he⟩:∃e,ps[k]? = some e:=⟨_,List.getElem?_eq_getElem hkm⟩;obtain⟨v,hv⟩:∃v,tv[k]? = some v:=⟨_,List.getElem?_eq_getElem (by omega)⟩;obtain⟨t4,rfl,et4⟩:=hT1.2 k v e hv he;have hq:(Xn ps ks)[j]? = some e:=by rw[hre j k hk,he]
      have hj2:=(List.getElem?_eq_some_iff.mp hk).1;have ul:=hU.1;rw[List.length_take] at ul;rw[take_one hq];simp -dsimp[au,stC,-Bool.exists_bool,-List.map_take,-Prod.forall,-Prod.exists];refine⟨_,.inl (bA.of (s4 _ _ hl1)),_,cJ hv,_,wI,by omega,⟨_,ao,hU.snoc et4⟩,aZ s4 hD⟩
    · rintro σ H2 ⟨⟨o',rfl⟩,⟨us,hD2,hU⟩,s2⟩;rw[fJ,← rl,List.take_length] at hU;have S2:=s1.trans s2;have CQ:=s2 _ _ ht1;simp -dsimp[au,stC,-Bool.exists_bool,-List.map_take,-Prod.forall,-Prod.exists];refine⟨_,.inl (bA.of CQ),?_⟩;rw[fJ];refine⟨by omega,fun D3 DY=>cmR (fun j σ H'=>(∃o',σ=[o',some (.ref t)])∧H' D3=some (.lst (eE ((List.range j).map fun k=>ks.idxOf k)))∧Same H2 H') ⟨⟨_,rfl⟩,ao,aq DY⟩ ?_ ?_⟩
      ·rintro j σ H4 hj ⟨⟨o',rfl⟩,wI,s4⟩;have hjm:j∈ks:=R5 j (by omega);simp -dsimp[au,stC,-Bool.exists_bool,-List.map_take,-Prod.forall,-Prod.exists];have hji:((j:Nat):Int)∈ks.map fun n:Nat=>(n:Int):=List.mem_map.mpr ⟨j,hjm,rfl⟩;refine⟨⟨_,bA.of (s4 _ _ CQ)⟩,_,bA.of (s4 _ _ CQ),hji,_,wI,by rw[fJ];simp;omega,?_,aZ s4 DY⟩;rw[ao,Wu hjm,List.range_succ,List.map_append];unfold eE;rw[List.map_append,List.map_append];rfl
      · rintro σ H3 ⟨⟨o',rfl⟩,qf1,s3⟩;simp -dsimp[au,stC,-Bool.exists_bool,-List.map_take,-Prod.forall,-Prod.exists];have S3:=S2.trans s3;have Sd:=s3 _ _ CQ;have dt:D≠t:=fun z=>by rw[z,ht1] at hD;cases hD
        have d3t:D3≠t:=fun z=>by rw[z,CQ] at DY;cases DY
        have k9:∀b u,b≠t→H3 b=some u→upd H3 t (.lst []) b=some u:=fun b u hb e=>by rw[aG hb];exact e
        have Qs:∀{b:Addr} {u:HO},H3 b=some u→(∀ks,u≠.lst ks)→upd H3 t (.lst []) b=some u:=fun {b u} e hn=>k9 b u (fun z=>by
          rw[z,Sd] at e;exact hn _ (Option.some.inj e).symm) e
        have tk9:lq H3 (upd H3 t (.lst [])):=fun b us e=>Qs e (by intro ks z;cases z);have wk9:∀{o:Addr} {xs:List Str} {ps:List (Str×Str)},cD a.bI H3 o xs ps→cD a.bI (upd H3 t (.lst [])) o xs ps:=fun h=>by
          obtain⟨dx,n,m,tv,h1,h2,h3,h4,h5⟩:=h.ex;exact⟨⟨dx,n,m,tv,Qs h1 (by intro ks z;cases z),Qs h2 (by intro ks z;cases z),Qs h3 (by intro ks z;cases z),h4.keep tk9,h5⟩⟩
        have n9:=k9 _ _ nt (S3 _ _ hn);have l9:=k9 _ _ lt (S3 _ _ hl);have d9:=k9 _ _ dt (s3 _ _ hD2);have d39:=k9 _ _ d3t qf1;have u9:=(aV.same hU (s2.trans s3)).keep tk9;have T9:=(aV.same hT S3).keep tk9;have w19:=wk9 (hW1.same (s2.trans s3));have w9:=wk9 (hw.same S3);have K9:∀b u,b≠t→H b=some u→upd H3 t (.lst []) b=some u:=fun b u hb e=>k9 b u hb (S3 _ _ e);have hTr:qD xs (Xn ps ks):=⟨by omega,fun e he=>by
          obtain⟨k,_,hk⟩:=List.mem_filterMap.mp he;exact hTs.ok e (List.mem_of_getElem? hk)⟩
        refine⟨⟨_,bA.of Sd⟩,⟨_,Sd⟩,?_⟩;generalize upd H3 t (.lst [])=H9 at n9 l9 d9 d39 u9 T9 w19 w9 K9 ⊢;refine⟨o1,n,D,xs,us,_,rfl,w19,n9,d9,u9,hX,hTr,fun H10 LQ=>?_⟩;simp -dsimp[au,stC,-Bool.exists_bool,-List.map_take,-Prod.forall,-Prod.exists];refine⟨o,n,l,xs,tv,ps,rfl,w9.same LQ,LQ _ _ n9,LQ _ _ l9,aV.same T9 LQ,hX,hTs,fun Ss s11=>?_⟩;have S11:=LQ.trans s11;simp -dsimp[au,stC,-Bool.exists_bool,-List.map_take,-Prod.forall,-Prod.exists];refine⟨_,.inl (S11 _ _ d39),fun l2 H12 e12 s12=>?_⟩;have S12:=S11.trans s12;rw[kl] at e12;refine⟨o1,l2,xs,Xn ps ks,ps,(List.range ps.length).map fun k=>ks.idxOf k,rfl,w19.same S12,hX,hTr,.inr e12,?_,by simp;omega,fun j k hj=>?_,by omega,fun o13 H13 qgV qf2 s13=>?_⟩
        ·rw[rl,kl];exact Wv kl R5 Xk
        · rw[List.getElem?_map] at hj;obtain⟨j',hj',rfl⟩:=Option.map_eq_some_iff.mp hj;have hjl:j<ps.length:=by have:=(List.getElem?_eq_some_iff.mp hj').1;simpa using this
          rw[List.getElem?_range hjl] at hj';cases hj';exact(hre _ j (Ob (R5 j hjl))).symm
        ·have S13:=S12.trans s13;simp -dsimp[au,stC,-Bool.exists_bool,-List.map_take,-Prod.forall,-Prod.exists];refine⟨o13,n,l,xs,tv,ps,rfl,qf2,S13 _ _ n9,S13 _ _ l9,aV.same T9 S13,hX,hTs,fun H14 s14=>?_⟩;exact q _ fun b u hb e=>(S13.trans s14) _ _ (K9 b u hb e)
def wC (C:Addr):Addr→Sp:=fun e vs H Q _=>vs=[.ref e]∧H e=some (xq e C)∧∀l H',H l=none→H' l=some (.lst [.str "web"])→Same H H'→Q (.ref l) H'
theorem Oc (T:Txt K mg a):tV P w K mg base 1 a.gG a.kj ["_law_e"] (wC a.aQ):=by
  refine T.uY.qc1 eG (fun e vs H Q E h=>?_) (fun e cdv A outer s H vs Q hr h=>?_)
  ·obtain⟨rfl,_⟩:=h;rfl
  · obtain⟨rfl,he,q⟩:=h;refine⟨_,(@Kv.out _ _ _ (dD (VJ.mk (bJ (i:=1) eG.nd rfl (Or.inl rfl) (cC (aj (fC (K:=K) rfl rfl T.nm.isinstance T.jX T.vK (aj (aJ 0) (aj (cA (v:=.ref a.aQ) rfl T.mV rfl) ak))) (aj (fC (K:=K) rfl rfl T.nm.isinstance T.jX T.ux (aj (aJ 0) (aj (cA (v:=.ref a.dI) rfl T.CJ rfl) ak))) (aj (fC (K:=K) rfl rfl T.nm.isinstance T.jX T.pB (aj (aJ 0) (aj (cA (v:=.ref a.aD) rfl T.pA rfl) ak))) (aj (fC (K:=K) rfl rfl T.nm.isinstance T.jX T.vL (aj (aJ 0) (aj (cA (v:=.ref a.gB) rfl T.Iz rfl) ak))) ak)))))))
      (dD (VJ.mk (bJ (i:=1) eG.nd rfl (Or.inl rfl) (bx cX (aJ 1) (cC (aj (fC (K:=K) rfl rfl T.nm.isinstance T.jX T.sJ (aj (aJ 0) (aj (cA (v:=.ref a.cQ) rfl T.yQ rfl) ak))) (aj (fC (K:=K) rfl rfl T.nm.isinstance T.jX T.nW (aj (aJ 0) (aj (cA (v:=.ref a.bQ) rfl T.rC rfl) ak))) (aj (fC (K:=K) rfl rfl T.nm.isinstance T.jX T.uy (aj (aJ 0) (aj (cA (v:=.ref a.dJ) rfl T.CK rfl) ak))) (aj (fC (K:=K) rfl rfl T.nm.isinstance T.jX T.uz (aj (aJ 0) (aj (cA (v:=.ref a.dM) rfl T.CN rfl) ak))) ak))))))))
      (dD (VJ.mk (bJ (i:=1) eG.nd rfl (Or.inl rfl) (bx cX (aJ 1) (cC (aj (fC (K:=K) rfl rfl T.nm.isinstance T.jX T.sO (aj (aJ 0) (aj (cA (v:=.ref a.cR) rfl T.yR rfl) ak))) (aj (Ag (fC (K:=K) rfl rfl T.nm.isinstance T.jX T.nY (aj (aJ 0) (aj (fX (v:=.ty "ValueError") rfl T.gC Qa rfl) ak)))) ak))))))
      (dD (Am (i:=2) eG.nd rfl (Or.inl rfl) (Al (bw bL (bw bL (bw bL (bw bL (bw bL (bw bL (bw bL (bw bL (bw bL (bw bL Ak))))))))))))
      (Kv.mk (aK (bf (Kr rfl rfl (show aR (aB qy) _ ["_law_e", "_law_found", "_law_words"] ["_law_word", "_law_told"] [] ["_law_word", "_law_told"] from⟨rfl,by decide+kernel,by decide+kernel,rfl,by decide+kernel,by decide+kernel⟩) rfl (P_ (K:=K) rfl rfl T.nm.zip (aj (aJ 2) (aj (aJ 1) ak))) (fun C s H fp pn=>(P0 (K:=K) (n:=2) rfl rfl (qJ.eqv (cN (aY (i:=0) (show(["_law_word", "_law_told"]:List Str).Nodup by decide+kernel) rfl (Or.inl rfl)) (qJ.eqv (cN (aY (i:=1) (show(["_law_word", "_law_told"]:List Str).Nodup by decide+kernel) rfl (Or.inl rfl)) (qJ.mono mL qP)) (cO _ _))) (cO _ _)))) (fun C s H fp pn=>(Ab (bK (aJ 1)))) (fun C s H fp pn=>(aJ 0))))))))))),?_⟩
    simp -dsimp[au,stC,-Bool.exists_bool,-List.map_take,-Prod.forall,-Prod.exists];refine⟨he,fun p1 h1=>?_⟩;have e1:upd H p1 (.lst [.bl true,.bl false,.bl false,.bl false]) p1=some (.lst [.bl true,.bl false,.bl false,.bl false]):=ao;have s1:Same H (upd H p1 (.lst [.bl true,.bl false,.bl false,.bl false])):=aq h1;generalize upd H p1 (.lst [.bl true,.bl false,.bl false,.bl false])=H1 at e1 s1 ⊢;refine⟨s1 _ _ he,fun p2 h2=>?_⟩;have e2:upd H1 p2 (.lst [.bl false,.bl false,.bl false,.bl false]) p2=some (.lst [.bl false,.bl false,.bl false,.bl false]):=ao;have s2:Same H1 (upd H1 p2 (.lst [.bl false,.bl false,.bl false,.bl false])):=aq h2;generalize upd H1 p2 (.lst [.bl false,.bl false,.bl false,.bl false])=H2 at e2 s2 ⊢;refine⟨_,s2 _ _ e1,_,e2,by decide,fun p3 h3=>?_⟩;have s3:Same H2 (upd H2 p3 (.lst ([.bl true,.bl false,.bl false,.bl false]++[.bl false,.bl false,.bl false,.bl false]))):=aq h3;have e3:upd H2 p3 (.lst ([.bl true,.bl false,.bl false,.bl false]++[.bl false,.bl false,.bl false,.bl false])) p3=some (.lst ([.bl true,.bl false,.bl false,.bl false]++[.bl false,.bl false,.bl false,.bl false])):=ao;generalize upd H2 p3 (.lst ([.bl true,.bl false,.bl false,.bl false]++[.bl false,.bl false,.bl false,.bl false]))=H3 at e3 s3 ⊢;have sH3:=s1.trans (s2.trans s3);refine⟨sH3 _ _ he,fun p4 h4=>?_⟩;have s4:Same H3 (upd H3 p4 (.lst [.bl false,.bl false])):=aq h4;have e4:upd H3 p4 (.lst [.bl false,.bl false]) p4=some (.lst [.bl false,.bl false]):=ao;generalize upd H3 p4 (.lst [.bl false,.bl false])=H4 at e4 s4 ⊢;refine⟨_,s4 _ _ e3,_,e4,by decide,fun p5 h5=>?_⟩;obtain⟨bs,hbs⟩:∃bs:List Bool,bs=[true,false,false,false,false,false,false,false,false,false]:=⟨_,rfl⟩;have eb : [V.bl true,.bl false,.bl false,.bl false]++[.bl false,.bl false,.bl false,.bl false]++[.bl false,.bl false]=bs.map V.bl:=by rw[hbs];rfl
    rw[eb];have s5:Same H4 (upd H4 p5 (.lst (bs.map V.bl))):=aq h5;have e5:upd H4 p5 (.lst (bs.map V.bl)) p5=some (.lst (bs.map V.bl)):=ao;generalize upd H4 p5 (.lst (bs.map V.bl))=H5 at e5 s5 ⊢;obtain⟨ws,hws⟩:∃ws:List Str,ws=[("web" : Str), "text", "numbers", "lot", "point", "pointing", "parted", "barred", "much", "none"]:=⟨_,rfl⟩;have ew : [V.str "web",.str "text",.str "numbers",.str "lot",.str "point",.str "pointing",.str "parted",.str "barred",.str "much",.str "none"]=ws.map V.str:=by rw[hws];rfl
    rw[ew];intro p6 h6;have s6:Same H5 (upd H5 p6 (.lst (ws.map V.str))):=aq h6;have e6:upd H5 p6 (.lst (ws.map V.str)) p6=some (.lst (ws.map V.str)):=ao;generalize upd H5 p6 (.lst (ws.map V.str))=H6 at e6 s6 ⊢;have Za:=sH3.trans (s4.trans (s5.trans s6));have l10:ws.length=10:=by rw[hws];rfl
    have lb:bs.length=10:=by rw[hbs];rfl
    refine⟨⟨_,bA.of e6⟩,⟨_,bA.of (s6 _ _ e5)⟩,fun D hD=>qc2 (ws.map V.str) (bs.map V.bl) (fun i σ H'=>(∃o1 o2,σ=[o1,o2])∧H' D=some (.lst (((ws.zip bs).take i).filterMap fun c=>if c.2 then some (V.str c.1) else none))∧Same H6 H') ⟨⟨_,_,rfl⟩,ao,aq hD⟩ (by simp[l10,lb]) (fun i σ H' _ h=>⟨⟨bA.of (h.2.2 _ _ e6),bA.of (h.2.2 _ _ (s6 _ _ e5))⟩,_,_,h.2.2 _ _ (Za _ _ he)⟩) ?_ ?_⟩
    · rintro i x y t σ H7 hx hy ht ⟨⟨o1,o2,rfl⟩,vq,s7⟩;rw[List.getElem?_map] at hx hy;obtain⟨z,hz,rfl⟩:=Option.map_eq_some_iff.mp hx;obtain⟨b,hb,rfl⟩:=Option.map_eq_some_iff.mp hy;have hi:i<10:=by rw[← l10];exact(List.getElem?_eq_some_iff.mp hz).1
      have hzb:(ws.zip bs)[i]? = some (z,b):=by rw[List.getElem?_zip_eq_some];exact⟨hz,hb⟩
      have s8:Same H7 (upd H7 t (.tup [.str z,.bl b])):=aq ht;refine⟨⟨_,_,s8 _ _ (s7 _ _ (Za _ _ he))⟩,?_⟩;refine⟨_,jK.of ao,rfl,?_⟩;simp -dsimp[au,stC,-Bool.exists_bool,-List.map_take,-Prod.forall,-Prod.exists];have hfl:(((ws.zip bs).take i).filterMap fun c=>if c.2 then some (V.str c.1) else none).length≤10:=by
        refine Nat.le_trans (List.length_filterMap_le ..) (Nat.le_trans (List.length_take_le ..) (Nat.le_of_lt hi))
      have h60:60<sizeLine:=by decide
      refine iI.of (fun h=>?_) (fun h=>?_)
      ·subst h;simp -dsimp[au,stC,-Bool.exists_bool,-List.map_take,-Prod.forall,-Prod.exists];refine⟨_,s8 _ _ vq,by omega,?_,aZ (s7.trans s8) hD⟩;rw[ao,take_one hzb,List.filterMap_append];rfl
      ·subst h;refine⟨⟨_,_,rfl⟩,?_,s7.trans s8⟩;rw[s8 _ _ vq,take_one hzb,List.filterMap_append];simp
    · rintro σ H7 ⟨⟨o1,o2,rfl⟩,vq,s7⟩;simp -dsimp[au,stC,-Bool.exists_bool,-List.map_take,-Prod.forall,-Prod.exists];have e:(((ws.zip bs).take (ws.map V.str).length).filterMap fun c=>if c.2 then some (V.str c.1) else none)=[V.str "web"]:=by
        rw[hws,hbs];rfl
      rw[e] at vq;exact q D H7 (lJ Za hD) vq (Za.trans s7)
def uF (C:Addr):Addr→Sp:=fun e vs H Q _=>vs=[.ref e]∧H e=some (xq e C)∧∀l H',H l=none→H' l=some (.lst [.str "numbers"])→Same H H'→Q (.ref l) H'
theorem Ld (T:Txt K mg a):tV P w K mg base 1 a.gG a.kj ["_law_e"] (uF a.aD):=by
  refine T.uY.qc1 eG (fun e vs H Q E h=>?_) (fun e cdv A outer s H vs Q hr h=>?_)
  ·obtain⟨rfl,_⟩:=h;rfl
  · obtain⟨rfl,he,q⟩:=h;refine⟨_,(@Kv.out _ _ _ (dD (VJ.mk (bJ (i:=1) eG.nd rfl (Or.inl rfl) (cC (aj (fC (K:=K) rfl rfl T.nm.isinstance T.cV T.pC (aj (aJ 0) (aj (cA (v:=.ref a.aQ) rfl T.mV rfl) ak))) (aj (fC (K:=K) rfl rfl T.nm.isinstance T.cV T.nZ (aj (aJ 0) (aj (cA (v:=.ref a.dI) rfl T.CJ rfl) ak))) (aj (fC (K:=K) rfl rfl T.nm.isinstance T.cV T.j7 (aj (aJ 0) (aj (cA (v:=.ref a.aD) rfl T.pA rfl) ak))) (aj (fC (K:=K) rfl rfl T.nm.isinstance T.cV T.pF (aj (aJ 0) (aj (cA (v:=.ref a.gB) rfl T.Iz rfl) ak))) ak)))))))
      (dD (VJ.mk (bJ (i:=1) eG.nd rfl (Or.inl rfl) (bx cX (aJ 1) (cC (aj (fC (K:=K) rfl rfl T.nm.isinstance T.cV T.mJ (aj (aJ 0) (aj (cA (v:=.ref a.cQ) rfl T.yQ rfl) ak))) (aj (fC (K:=K) rfl rfl T.nm.isinstance T.cV T.jZ (aj (aJ 0) (aj (cA (v:=.ref a.bQ) rfl T.rC rfl) ak))) (aj (fC (K:=K) rfl rfl T.nm.isinstance T.cV T.n_ (aj (aJ 0) (aj (cA (v:=.ref a.dJ) rfl T.CK rfl) ak))) (aj (fC (K:=K) rfl rfl T.nm.isinstance T.cV T.oh (aj (aJ 0) (aj (cA (v:=.ref a.dM) rfl T.CN rfl) ak))) ak))))))))
      (dD (VJ.mk (bJ (i:=1) eG.nd rfl (Or.inl rfl) (bx cX (aJ 1) (cC (aj (fC (K:=K) rfl rfl T.nm.isinstance T.cV T.mK (aj (aJ 0) (aj (cA (v:=.ref a.cR) rfl T.yR rfl) ak))) (aj (Ag (fC (K:=K) rfl rfl T.nm.isinstance T.cV T.j4 (aj (aJ 0) (aj (fX (v:=.ty "ValueError") rfl T.gC Qa rfl) ak)))) ak))))))
      (dD (Am (i:=2) eG.nd rfl (Or.inl rfl) (Al (bw bL (bw bL (bw bL (bw bL (bw bL (bw bL (bw bL (bw bL (bw bL (bw bL Ak))))))))))))
      (Kv.mk (aK (bf (Kr rfl rfl (show aR (aB qy) _ ["_law_e", "_law_found", "_law_words"] ["_law_word", "_law_told"] [] ["_law_word", "_law_told"] from⟨rfl,by decide+kernel,by decide+kernel,rfl,by decide+kernel,by decide+kernel⟩) rfl (P_ (K:=K) rfl rfl T.nm.zip (aj (aJ 2) (aj (aJ 1) ak))) (fun C s H fp pn=>(P0 (K:=K) (n:=2) rfl rfl (qJ.eqv (cN (aY (i:=0) (show(["_law_word", "_law_told"]:List Str).Nodup by decide+kernel) rfl (Or.inl rfl)) (qJ.eqv (cN (aY (i:=1) (show(["_law_word", "_law_told"]:List Str).Nodup by decide+kernel) rfl (Or.inl rfl)) (qJ.mono mL qP)) (cO _ _))) (cO _ _)))) (fun C s H fp pn=>(Ab (bK (aJ 1)))) (fun C s H fp pn=>(aJ 0))))))))))),?_⟩
    simp -dsimp[au,stC,-Bool.exists_bool,-List.map_take,-Prod.forall,-Prod.exists];refine⟨he,fun p1 h1=>?_⟩;have e1:upd H p1 (.lst [.bl false,.bl false,.bl true,.bl false]) p1=some (.lst [.bl false,.bl false,.bl true,.bl false]):=ao;have s1:Same H (upd H p1 (.lst [.bl false,.bl false,.bl true,.bl false])):=aq h1;generalize upd H p1 (.lst [.bl false,.bl false,.bl true,.bl false])=H1 at e1 s1 ⊢;refine⟨s1 _ _ he,fun p2 h2=>?_⟩;have e2:upd H1 p2 (.lst [.bl false,.bl false,.bl false,.bl false]) p2=some (.lst [.bl false,.bl false,.bl false,.bl false]):=ao;have s2:Same H1 (upd H1 p2 (.lst [.bl false,.bl false,.bl false,.bl false])):=aq h2;generalize upd H1 p2 (.lst [.bl false,.bl false,.bl false,.bl false])=H2 at e2 s2 ⊢;refine⟨_,s2 _ _ e1,_,e2,by decide,fun p3 h3=>?_⟩;have s3:Same H2 (upd H2 p3 (.lst ([.bl false,.bl false,.bl true,.bl false]++[.bl false,.bl false,.bl false,.bl false]))):=aq h3;have e3:upd H2 p3 (.lst ([.bl false,.bl false,.bl true,.bl false]++[.bl false,.bl false,.bl false,.bl false])) p3=some (.lst ([.bl false,.bl false,.bl true,.bl false]++[.bl false,.bl false,.bl false,.bl false])):=ao;generalize upd H2 p3 (.lst ([.bl false,.bl false,.bl true,.bl false]++[.bl false,.bl false,.bl false,.bl false]))=H3 at e3 s3 ⊢;have sH3:=s1.trans (s2.trans s3);refine⟨sH3 _ _ he,fun p4 h4=>?_⟩;have s4:Same H3 (upd H3 p4 (.lst [.bl false,.bl false])):=aq h4;have e4:upd H3 p4 (.lst [.bl false,.bl false]) p4=some (.lst [.bl false,.bl false]):=ao;generalize upd H3 p4 (.lst [.bl false,.bl false])=H4 at e4 s4 ⊢;refine⟨_,s4 _ _ e3,_,e4,by decide,fun p5 h5=>?_⟩;obtain⟨bs,hbs⟩:∃bs:List Bool,bs=[false,false,true,false,false,false,false,false,false,false]:=⟨_,rfl⟩;have eb : [V.bl false,.bl false,.bl true,.bl false]++[.bl false,.bl false,.bl false,.bl false]++[.bl false,.bl false]=bs.map V.bl:=by rw[hbs];rfl
    rw[eb];have s5:Same H4 (upd H4 p5 (.lst (bs.map V.bl))):=aq h5;have e5:upd H4 p5 (.lst (bs.map V.bl)) p5=some (.lst (bs.map V.bl)):=ao;generalize upd H4 p5 (.lst (bs.map V.bl))=H5 at e5 s5 ⊢;obtain⟨ws,hws⟩:∃ws:List Str,ws=[("web" : Str), "text", "numbers", "lot", "point", "pointing", "parted", "barred", "much", "none"]:=⟨_,rfl⟩;have ew : [V.str "web",.str "text",.str "numbers",.str "lot",.str "point",.str "pointing",.str "parted",.str "barred",.str "much",.str "none"]=ws.map V.str:=by rw[hws];rfl
    rw[ew];intro p6 h6;have s6:Same H5 (upd H5 p6 (.lst (ws.map V.str))):=aq h6;have e6:upd H5 p6 (.lst (ws.map V.str)) p6=some (.lst (ws.map V.str)):=ao;generalize upd H5 p6 (.lst (ws.map V.str))=H6 at e6 s6 ⊢;have Za:=sH3.trans (s4.trans (s5.trans s6));have l10:ws.length=10:=by rw[hws];rfl
    have lb:bs.length=10:=by rw[hbs];rfl
    refine⟨⟨_,bA.of e6⟩,⟨_,bA.of (s6 _ _ e5)⟩,fun D hD=>qc2 (ws.map V.str) (bs.map V.bl) (fun i σ H'=>(∃o1 o2,σ=[o1,o2])∧H' D=some (.lst (((ws.zip bs).take i).filterMap fun c=>if c.2 then some (V.str c.1) else none))∧Same H6 H') ⟨⟨_,_,rfl⟩,ao,aq hD⟩ (by simp[l10,lb]) (fun i σ H' _ h=>⟨⟨bA.of (h.2.2 _ _ e6),bA.of (h.2.2 _ _ (s6 _ _ e5))⟩,_,_,h.2.2 _ _ (Za _ _ he)⟩) ?_ ?_⟩
    · rintro i x y t σ H7 hx hy ht ⟨⟨o1,o2,rfl⟩,vq,s7⟩;rw[List.getElem?_map] at hx hy;obtain⟨z,hz,rfl⟩:=Option.map_eq_some_iff.mp hx;obtain⟨b,hb,rfl⟩:=Option.map_eq_some_iff.mp hy;have hi:i<10:=by rw[← l10];exact(List.getElem?_eq_some_iff.mp hz).1
      have hzb:(ws.zip bs)[i]? = some (z,b):=by rw[List.getElem?_zip_eq_some];exact⟨hz,hb⟩
      have s8:Same H7 (upd H7 t (.tup [.str z,.bl b])):=aq ht;refine⟨⟨_,_,s8 _ _ (s7 _ _ (Za _ _ he))⟩,?_⟩;refine⟨_,jK.of ao,rfl,?_⟩;simp -dsimp[au,stC,-Bool.exists_bool,-List.map_take,-Prod.forall,-Prod.exists];have hfl:(((ws.zip bs).take i).filterMap fun c=>if c.2 then some (V.str c.1) else none).length≤10:=by
        refine Nat.le_trans (List.length_filterMap_le ..) (Nat.le_trans (List.length_take_le ..) (Nat.le_of_lt hi))
      have h60:60<sizeLine:=by decide
      refine iI.of (fun h=>?_) (fun h=>?_)
      ·subst h;simp -dsimp[au,stC,-Bool.exists_bool,-List.map_take,-Prod.forall,-Prod.exists];refine⟨_,s8 _ _ vq,by omega,?_,aZ (s7.trans s8) hD⟩;rw[ao,take_one hzb,List.filterMap_append];rfl
      ·subst h;refine⟨⟨_,_,rfl⟩,?_,s7.trans s8⟩;rw[s8 _ _ vq,take_one hzb,List.filterMap_append];simp
    · rintro σ H7 ⟨⟨o1,o2,rfl⟩,vq,s7⟩;simp -dsimp[au,stC,-Bool.exists_bool,-List.map_take,-Prod.forall,-Prod.exists];have e:(((ws.zip bs).take (ws.map V.str).length).filterMap fun c=>if c.2 then some (V.str c.1) else none)=[V.str "numbers"]:=by
        rw[hws,hbs];rfl
      rw[e] at vq;exact q D H7 (lJ Za hD) vq (Za.trans s7)
def RW:PyData→String
  | .none=> "NoneType"
  | .bool _=> "bool"
  | .int _=> "int"
  | .str _=> "str"
  | .list _=> "list"
  | .tuple _=> "tuple"
  | .dict _=> "dict"
def xV:PyData→Bool
  | .list _=>true
  | .tuple _=>true
  | _=>false
def intD:PyData→Bool
  | .int _=>true
  | .bool _=>true
  | _=>false
def qah:PyData→Bool
  | .bool _=>true
  | _=>false
def Jh:PyData→Bool
  | .int _=>true
  | _=>false
def kids:PyData→List PyData
  | .list ds=>ds
  | .tuple ds=>ds
  | _=>[]
theorem Dd {H:Hp} {d:PyData} {v:V} (h:bC H d v):lX K H v (.type (RW d)):=by
  cases d with
  | none=>simp only[bC] at h;subst h;exact .non
  | bool b=>simp only[bC] at h;subst h;exact .bl b
  | int i=>simp only[bC] at h;subst h;exact .int i
  | str x=>simp only[bC] at h;subst h;exact .str x
  | list ds=>simp only[bC] at h;obtain⟨a,xs,rfl,h1,_⟩:=h;exact .lst h1
  | tuple ds=>simp only[bC] at h;obtain⟨a,xs,rfl,h1,_⟩:=h;exact .tup h1
  | dict ds=>simp only[bC] at h;obtain⟨a,rfl,h1⟩:=h;rcases h1 with⟨_,_,h1⟩ | ⟨_,_,h1⟩ <;> first | exact .dK h1 | exact .dT h1
theorem Zb (d:PyData):W.kitAny K (.type (RW d)) [.type "list",.type "tuple"]=some (xV d):=by
  cases d <;> simp[W.kitAny,W.kitOne,RW,xV] <;> rfl
theorem Df {H:Hp} {d:PyData} {v:V} (h:bC H d v) (hs:xV d=true):∃t xs,v = .ref t∧Sq H t xs∧aW H (kids d) xs:=by
  cases d with
  | list ds=>simp only[bC] at h;obtain⟨a,xs,rfl,h1,h2⟩:=h;exact⟨a,xs,rfl,.inl h1,h2⟩
  | tuple ds=>simp only[bC] at h;obtain⟨a,xs,rfl,h1,h2⟩:=h;exact⟨a,xs,rfl,.inr h1,h2⟩
  | _=>cases hs
def qdp:PyData→Bool
  | .str _=>true
  | _=>false
def pK:PyData→Bool
  | .str x=>nameB x
  | _=>false
theorem Ww (d:PyData):W.kitOne K (.type (RW d)) (.type "str")=some (qdp d):=by
  cases d with
  | none=>exact yx K
  | bool b=>exact Hx K
  | int i=>exact Ka K
  | str x=>exact zx K
  | list ds=>exact Hs K
  | tuple ds=>exact Ei K
  | dict ds=>exact Hz K
def Le:Sp:=fun vs H Q _=>∃(d:PyData) (v:V),vs=[v]∧bC H d v∧∀H',Same H H'→Q (.bl (xV d)) H'
theorem pO (T:Txt K mg a):bZ P w K mg base lH 1 a.iu a.nA ["thing"] Le:=by
  refine T.fD.sX Cr (fun vs H Q E h=>?_) (fun cdv A outer s H vs Q E hr h=>?_)
  ·obtain⟨d,v,rfl,_⟩:=h;rfl
  ·obtain⟨d,v,rfl,hd,q⟩:=h;refine⟨_,(aK (bf (aH (Vm (K:=K) rfl) rfl T.nm.isinstance boot_isinstance (aj (aJ 0) (aj (eX (aj (fX (v:=.ty "list") rfl T.nm.list boot_list rfl) (aj (fX (v:=.ty "tuple") rfl T.nm.tuple boot_tuple rfl) ak))) ak))))),?_⟩;simp -dsimp[au,stC,-Bool.exists_bool,-List.map_take,-Prod.forall,-Prod.exists];refine fun t ht=>⟨_,_,ao,_,Dd (bC.same (aq ht) d v hd),_,Zb d,q _ (aq ht)⟩
def Lg:Sp:=fun vs H Q _=>∃(d:PyData) (v:V),vs=[v]∧bC H d v∧qdp d=false∧Q (.bl false) H
theorem Lh (T:Txt K mg a):bZ P w K mg base lH 1 a.gF a.kh ["thing"] Lg:=by
  refine T.gH.sX Cu (fun vs H Q E h=>?_) (fun cdv A outer s H vs Q E hr h=>?_)
  ·obtain⟨d,v,rfl,_⟩:=h;rfl
  · obtain⟨d,v,rfl,hd,hs,q⟩:=h;refine⟨_,(aF (cI (PW.pt (lG (bT (bK (aH (qR (K:=K) rfl) rfl T.nm.isinstance boot_isinstance (aj (aJ 0) (aj (fX (v:=.ty "str") rfl T.nm.str boot_str rfl) ak))))) (gO (bT (uQ pU pU aP (aH Vl rfl T.nm.len PySem.boot_len (aj (aJ 0) ak)) (cA rfl T.nO T.nP)))))) (aK (bf iG)) bF)
      (aK (bf (aH (dz rfl) rfl T.nm.all dw (aj (cg rfl rfl (show aR (aB qx) _ ["thing"] ["sign"] [] ["sign"] from⟨rfl,by decide+kernel,by decide+kernel,rfl,by decide+kernel,by decide+kernel⟩) rfl (PI.eqv (MN (aJ 0)) (Bx _)) (fun C s H fp pn=>(aY (i:=0) (show(["sign"]:List Str).Nodup by decide+kernel) rfl (Or.inl rfl))) (fun C s H fp pn=>bO) (fun C s H fp pn=>(cZ (qcS (K:=K) rfl) (aJ 0) (cA rfl T.yO T.yP) rfl))) ak))))),?_⟩
    simp -dsimp[au,stC,-Bool.exists_bool,-List.map_take,-Prod.forall,-Prod.exists];refine⟨_,Dd hd,_,Ww d,?_⟩;rw[hs];refine iI.pos rfl ?_;simp -dsimp[au,stC,-Bool.exists_bool,-List.map_take,-Prod.forall,-Prod.exists];exact q
def rE (d:PyData):Prop:=∀x,d = .str x→x.length≤sizeLine
def Li:Sp:=fun vs H Q _=>∃(d:PyData) (v:V),vs=[v]∧bC H d v∧rE d∧∀H',Same H H'→Q (.bl (pK d)) H'
theorem zV (T:Txt K mg a):bZ P w K mg base lH 1 a.gF a.kh ["thing"] Li:=by
  refine((kJ T).or (Lh T)).imp fun vs H Q E h=>?_;obtain⟨d,v,rfl,hd,hs,q⟩:=h;cases d with
  | str x=>simp only[bC] at hd;subst hd;exact .inl ⟨x,rfl,hs x rfl,q⟩
  | _=>exact .inr ⟨_,v,rfl,hd,rfl,q H (Same.refl H)⟩
def vM:List PyData→List Str
  | []=>[]
  | .str x::ds=>x::vM ds
  | _::ds=>vM ds
theorem GJ:∀{ds:List PyData},ds.all pK=true→ds=(vM ds).map PyData.str
  | [],_=>rfl
  | d::ds,h=>by
    rw[List.all_cons,Bool.and_eq_true] at h;cases d with
    | str x=>simp only[vM,List.map_cons];rw[← GJ h.2]
    | _=>exact absurd h.1 (by simp[pK])
theorem Dg {H:Hp}:∀{c:List Str} {xs:List V},aW H (c.map PyData.str) xs→xs=c.map V.str
  | [],xs,h=>by simpa [aW] using h
  | x::c,xs,h=>by
    simp only[List.map_cons,aW] at h;obtain⟨v,r,rfl,h1,h2⟩:=h;simp only[bC] at h1;rw[h1,Dg h2];rfl
theorem Od (val:Nat→Key):∀n,∀i<n,val i∈yg val n
  | 0,i,h=>by omega
  | n+1,i,h=>by
    rw[qp];unfold tQ
    by_cases hm:Bo (yg val n) (val n)=true
    · rw[if_pos hm]
      by_cases hi:i=n
      ·subst hi;exact Bp.mp hm
      ·exact Od val n i (by omega)
    · rw[if_neg hm]
      by_cases hi:i=n
      ·subst hi;simp
      ·exact List.mem_append_left _ (Od val n i (by omega))
theorem Oe (val:Nat→Key):∀n,(yg val n).length=n→∀i j,i<j→j<n→val i≠val j
  | 0,_,i,j,_,h=>by omega
  | n+1,hl,i,j,hij,hj=>by
    rw[qp] at hl;unfold tQ at hl;have le:=MP val n
    by_cases hm:Bo (yg val n) (val n)=true
    ·rw[if_pos hm] at hl;omega
    · rw[if_neg hm] at hl;simp at hl
      by_cases hjn:j=n
      ·subst hjn;intro e;exact hm (Bp.mpr (e▸Od val j i hij))
      ·exact Oe val n hl i j hij (by omega)
theorem qbI (xs:List Str):(yg (fun i=>(keysOf (xs.map V.str))[i]?.getD (Sum.inl 0)) (xs.map V.str).length).length=xs.length↔xs.Nodup:=by
  refine⟨fun h=>?_,Wf⟩;rw[wk,List.length_map] at h;unfold List.Nodup;rw[List.pairwise_iff_getElem];intro i j hi hj hij e;refine Oe _ _ h i j hij hj ?_;simp[hi,hj,e]
structure OkD (d:PyData):Prop where
  len:(kids d).length≤50
  sh:∀c∈kids d,rE c
instance (xs:List Str):Decidable xs.Nodup:=inferInstanceAs (Decidable (List.Pairwise _ xs))
def Dh (d:PyData):Bool:=xV d && (decide (1≤(kids d).length∧(kids d).length≤9) && ((kids d).all pK && decide (vM (kids d)).Nodup))
def Di:Sp:=fun vs H Q _=>∃(d:PyData) (v:V),vs=[v]∧bC H d v∧OkD d∧∀H',Same H H'→Q (.bl (Dh d)) H'
theorem Dj (T:Txt K mg a):bZ P w K mg base lH 2 a.dg a.jh ["thing"] Di:=by
  refine T.jU.sX vJ (fun vs H Q E h=>?_) (fun cdv A outer s H vs Q E hr h=>?_)
  ·obtain⟨d,v,rfl,_⟩:=h;rfl
  · obtain⟨d,v,rfl,hd,hok,q⟩:=h;refine⟨_,(aF (cI (PW.pt (lG (bT (bK (PE.eqv (aO (pO (K:=K) T) (hr.mono (by decide)) rfl T.iz T.fD.kp T.iy .nil aX (aj (aJ 0) ak)) (aM _ _ _)))) (gO (bT (uQ pU pU aP (aH (bU (K:=K) rfl) rfl T.nm.len PySem.boot_len (aj (aJ 0) ak)) (cA rfl T.pY T.pZ)))))) (aK (bf iG)) bF)
      (aK (bf (jq (aH (dz rfl) rfl T.nm.all dw (aj (cg rfl rfl (show aR (aB jP) _ ["thing"] ["one"] [] ["one"] from⟨rfl,by decide+kernel,by decide+kernel,rfl,by decide+kernel,by decide+kernel⟩) rfl (PI.eqv (jN (K:=K) rfl (aJ 0)) (gP _ _)) (fun C s H fp pn=>(aY (i:=0) (show(["one"]:List Str).Nodup by decide+kernel) rfl (Or.inl rfl))) (fun C s H fp pn=>bO) (fun C s H fp pn=>(PE.eqv (aO (zV (K:=K) T) (hr.mono (by decide)) rfl T.jH T.gH.kp T.jG .nil aX (aj (aJ 0) ak)) (aM _ _ _)))) ak)) (lV (cZ m6 (aH uO rfl T.nm.len PySem.boot_len (aj (bY (uN rfl) rfl T.nm.set uM (aj (aJ 0) ak)) ak)) (aH (bU (K:=K) rfl) rfl T.nm.len PySem.boot_len (aj (aJ 0) ak)) (bW _))))))),?_⟩
    have h60:60<sizeLine:=by decide
    have l50:=hok.len;simp -dsimp[au,stC,-Bool.exists_bool,-List.map_take,-Prod.forall,-Prod.exists];refine⟨d,v,rfl,hd,fun H1 s1=>?_⟩;cases hs:xV d with
    | false=>
      have e:Dh d=false:=by unfold Dh;rw[hs];rfl
      rw[e] at q;simp -dsimp[au,stC,-Bool.exists_bool,-List.map_take,-Prod.forall,-Prod.exists];exact q _ s1
    | true=>
      obtain⟨t,ys,rfl,hq,hall⟩:=Df hd hs;have hq1:=hq.same s1;have hlen:=hall.length;simp -dsimp[au,stC,-Bool.exists_bool,-List.map_take,-Prod.forall,-Prod.exists];refine⟨_,hq1.q,?_⟩
      by_cases hin:1≤(kids d).length∧(kids d).length≤9
      · refine iI.pos (by simp;omega) ?_;simp -dsimp[au,stC,-Bool.exists_bool,-List.map_take,-Prod.forall,-Prod.exists];refine iI.neg (by simp;omega) ?_;obtain⟨b,hb⟩:=hq1.b;simp -dsimp[au,stC,-Bool.exists_bool,-List.map_take,-Prod.forall,-Prod.exists];refine⟨b,⟨_,hb K H1 (Same.refl _)⟩,fun D hD=>Xg ys (fun i σ' H'=>(∃o,σ'=[o])∧Same H1 H'∧H' D=some (.lst ((((kids d).take i).map pK).map V.bl))) ⟨⟨none,rfl⟩,aq hD,ao⟩ (fun i σ' H' _ h=>hb K H' h.2.1) ?_ ?_⟩
        ·rintro i x σ' H2 hi ⟨⟨o,rfl⟩,s2,hD2⟩;have hi2:i<ys.length:=(List.getElem?_eq_some_iff.mp hi).1;obtain⟨c,hc,hx⟩:=hall.at hi;simp -dsimp[au,stC,-Bool.exists_bool,-List.map_take,-Prod.forall,-Prod.exists];refine⟨c,x,rfl,bC.same (s1.trans s2) c x hx,hok.sh c (List.mem_of_getElem? hc),fun H3 s3=>?_⟩;simp -dsimp[au,stC,-Bool.exists_bool,-List.map_take,-Prod.forall,-Prod.exists];refine⟨_,s3 _ _ hD2,by simp;omega,aZ (s2.trans s3) hD,?_⟩;rw[ao,List.take_add_one,hc];simp
        · rintro σ' H2 ⟨⟨o,rfl⟩,s2,hD2⟩;have sH2:=s1.trans s2;simp -dsimp[au,stC,-Bool.exists_bool,-List.map_take,-Prod.forall,-Prod.exists];refine⟨_,hD2,_,jC id _,?_⟩;have eA:(List.map id (((kids d).take ys.length).map pK)).all id=(kids d).all pK:=by
            rw[← hlen,List.take_length,List.map_id,List.all_map];rfl
          rw[eA];cases hn:(kids d).all pK with
          | false=>
            have e:Dh d=false:=by unfold Dh;rw[hn];simp
            rw[e] at q;simp -dsimp[au,stC,-Bool.exists_bool,-List.map_take,-Prod.forall,-Prod.exists];exact q _ sH2
          | true=>
            have ek:=GJ hn;have e:Dh d=decide (vM (kids d)).Nodup:=by unfold Dh;rw[hs,hn,decide_eq_true hin];simp
            rw[e] at q;generalize vM (kids d)=c at ek q;rw[ek] at hall;have ey:=Dg hall;subst ey;have hq2:=hq1.same s2;rw[ek,List.length_map] at hin;simp -dsimp[au,stC,-Bool.exists_bool,-List.map_take,-Prod.forall,-Prod.exists];refine⟨_,hq2.q,by simp[isKey],by simp;unfold scanBound;omega,fun t2 CQ=>⟨_,ao,_,(hq2.same (aq CQ)).q,?_⟩⟩;rw[show decide _=decide c.Nodup from ?_]
            ·exact q _ (sH2.trans (aq CQ))
            ·rw[decide_eq_decide,List.length_map,← qbI c];simp;exact Int.ofNat_inj
      · have e:Dh d=false:=by unfold Dh;rw[decide_eq_false hin];simp
        rw[e] at q
        by_cases h1:1≤(kids d).length
        ·refine iI.pos (by simp;omega) ?_;simp -dsimp[au,stC,-Bool.exists_bool,-List.map_take,-Prod.forall,-Prod.exists];refine iI.pos (by simp;omega) ?_;simp -dsimp[au,stC,-Bool.exists_bool,-List.map_take,-Prod.forall,-Prod.exists];exact q _ s1
        ·refine iI.neg (by simp;omega) ?_;simp -dsimp[au,stC,-Bool.exists_bool,-List.map_take,-Prod.forall,-Prod.exists];exact q _ s1
def Dk (xs:List Str):PyData→Bool
  | .str x=>nameB x && decide (x∈xs)
  | _=>false
def twoB (ds:List PyData):Bool:=match ds with
  | [.str x,.str y]=>decide (x≠y)
  | _=>false
def xW (xs:List Str) (d:PyData):Bool:=xV d && (decide ((kids d).length=2) && ((kids d).all (Dk xs) && twoB (kids d)))
def Og:Sp:=fun vs H Q _=>∃(d:PyData) (v:V) (p:Addr) (xs:List Str),vs=[v,.ref p]∧bC H d v∧OkD d∧Sq H p (xs.map V.str)∧∀H',Same H H'→Q (.bl (xW xs d)) H'
theorem Oh (T:Txt K mg a):bZ P w K mg base lH 2 a.jQ a.qz ["thing", "points"] Og:=by
  refine T.uf.sX Gw (fun vs H Q E h=>?_) (fun cdv A outer s H vs Q E hr h=>?_)
  ·obtain⟨d,v,p,xs,rfl,_⟩:=h;rfl
  · obtain⟨d,v,p,xs,rfl,hd,hok,hp,q⟩:=h;refine⟨_,(aF (cI (PW.pt (lG (bT (bK (PE.eqv (aO (pO (K:=K) T) (hr.mono (by decide)) rfl T.iz T.fD.kp T.iy .nil aX (aj (aJ 0) ak)) (aM _ _ _)))) (gO (bR m7 (aH (bU (K:=K) rfl) rfl T.nm.len PySem.boot_len (aj (aJ 0) ak)) aP (bW _))))) (aK (bf iG)) bF)
      (aF (cI (bT (bK (aH (dz rfl) rfl T.nm.all dw (aj (cg rfl rfl (show aR (aB tX) _ ["thing", "points"] ["end"] [1] ["end", "points"] from⟨rfl,by decide+kernel,by decide+kernel,rfl,by decide+kernel,by decide+kernel⟩) rfl (PI.eqv (jN (K:=K) rfl (aJ 0)) (gP _ _)) (fun C s H fp pn=>(aY (i:=0) (show(["end", "points"]:List Str).Nodup by decide+kernel) rfl (Or.inl rfl))) (fun C s H fp pn=>bO) (fun C s H fp pn=>(jq (PE.eqv (aO (zV (K:=K) T) (hr.mono (by decide)) rfl T.jH T.gH.kp T.jG .nil aX (aj (aJ 0) ak)) (aM _ _ _)) (lV (cZ (Vj (K:=K) rfl) (aJ 0) (aJ 1) rfl))))) ak)))) (aK (bf iG)) bF)
      (aK (bf (cZ m7 (cW (dO (K:=K) rfl) (aJ 0) aP (fun _ _=>rfl)) (cW (dO (K:=K) rfl) (aJ 0) aP (fun _ _=>rfl)) (bW _)))))),?_⟩
    have h60:60<sizeLine:=by decide
    have l50:=hok.len;simp -dsimp[au,stC,-Bool.exists_bool,-List.map_take,-Prod.forall,-Prod.exists];refine⟨d,v,rfl,hd,fun H1 s1=>?_⟩;cases hs:xV d with
    | false=>
      have e:xW xs d=false:=by unfold xW;rw[hs];rfl
      rw[e] at q;simp -dsimp[au,stC,-Bool.exists_bool,-List.map_take,-Prod.forall,-Prod.exists];exact q _ s1
    | true=>
      obtain⟨t,ys,rfl,hq,hall⟩:=Df hd hs;have hq1:=hq.same s1;have hlen:=hall.length;simp -dsimp[au,stC,-Bool.exists_bool,-List.map_take,-Prod.forall,-Prod.exists];refine⟨_,hq1.q,?_⟩
      by_cases h2:(kids d).length=2
      · refine⟨false,by simp;omega,iI.neg rfl ?_⟩;obtain⟨b,hb⟩:=hq1.b;simp -dsimp[au,stC,-Bool.exists_bool,-List.map_take,-Prod.forall,-Prod.exists];refine⟨b,⟨_,hb K H1 (Same.refl _)⟩,fun D hD=>Xg ys (fun i σ' H'=>(∃o,σ'=[o,some (.ref p)])∧Same H1 H'∧H' D=some (.lst ((((kids d).take i).map (Dk xs)).map V.bl))) ⟨⟨none,rfl⟩,aq hD,ao⟩ (fun i σ' H' _ h=>hb K H' h.2.1) ?_ ?_⟩
        · rintro i x σ' H2 hi ⟨⟨o,rfl⟩,s2,hD2⟩;have hi2:i<ys.length:=(List.getElem?_eq_some_iff.mp hi).1;obtain⟨c,hc,hx⟩:=hall.at hi;simp -dsimp[au,stC,-Bool.exists_bool,-List.map_take,-Prod.forall,-Prod.exists];refine⟨c,x,rfl,bC.same (s1.trans s2) c x hx,hok.sh c (List.mem_of_getElem? hc),fun H3 s3=>?_⟩;have fin:∀H4,Same H2 H4→∀bb,Dk xs c=bb→∃zs,H4 D=some (HO.lst zs)∧zs.length<sizeLine∧Same H1 (upd H4 D (.lst (zs++[V.bl bb])))∧upd H4 D (.lst (zs++[V.bl bb])) D=some (.lst ((((kids d).take (i+1)).map (Dk xs)).map V.bl)):=fun H4 s4 bb hbb=>
            ⟨_,s4 _ _ hD2,by simp;omega,aZ (s2.trans s4) hD,by rw[ao,List.take_add_one,hc,← hbb];simp⟩
          cases hnm:pK c with
          | false=>
            have hbb:Dk xs c=false:=by
              cases c with
              | str z=>simp only[pK] at hnm;simp[Dk,hnm]
              | _=>rfl
            obtain⟨zs,f1,f2,f3,f4⟩:=fin H3 s3 false hbb;simp -dsimp[au,stC,-Bool.exists_bool,-List.map_take,-Prod.forall,-Prod.exists];exact⟨zs,f1,f2,f3,by simpa using f4⟩
          | true=>
            obtain⟨z,rfl⟩:∃z,c = .str z:=by
              cases c with
              | str z=>exact⟨z,rfl⟩
              | _=>cases hnm
            obtain rfl:x = .str z:=by simpa [bC] using hx
            simp -dsimp[au,stC,-Bool.exists_bool,-List.map_take,-Prod.forall,-Prod.exists];refine⟨_,(hp.same (s1.trans (s2.trans s3))).q,rfl,List.all_eq_true.mp (uP _),?_⟩;rw[oN];have hbb:Dk xs (.str z)=decide (z∈xs):=by
              have:nameB z=true:=hnm;simp[Dk,this]
            obtain⟨zs,f1,f2,f3,f4⟩:=fin H3 s3 _ hbb;exact⟨zs,f1,f2,f3,by simpa using f4⟩
        · rintro σ' H2 ⟨⟨o,rfl⟩,s2,hD2⟩;have sH2:=s1.trans s2;simp -dsimp[au,stC,-Bool.exists_bool,-List.map_take,-Prod.forall,-Prod.exists];refine⟨_,hD2,_,jC id _,?_⟩;have eA:(List.map id (((kids d).take ys.length).map (Dk xs))).all id=(kids d).all (Dk xs):=by
            rw[← hlen,List.take_length,List.map_id,List.all_map];rfl
          rw[eA];cases hn:(kids d).all (Dk xs) with
          | false=>
            have e:xW xs d=false:=by unfold xW;rw[hn];simp
            rw[e] at q;simp -dsimp[au,stC,-Bool.exists_bool,-List.map_take,-Prod.forall,-Prod.exists];exact q _ sH2
          | true=>
            obtain⟨x,y,ek⟩:∃x y,kids d=[.str x,.str y]:=by
              match hk:kids d,h2 with
              | [c1,c2],_=>
                rw[hk] at hn;simp only[List.all_cons,List.all_nil,Bool.and_true,Bool.and_eq_true] at hn;cases c1 with
                | str x=>
                  cases c2 with
                  | str y=>exact⟨x,y,rfl⟩
                  | _=>cases hn.2
                | _=>cases hn.1
            have e:xW xs d=decide (x≠y):=by unfold xW;rw[hs,hn,decide_eq_true h2,ek];rfl
            rw[e] at q;rw[ek] at hall;have ey:=Dg (c:=[x,y]) hall;subst ey;have hq2:=hq1.same s2;simp -dsimp[au,stC,-Bool.exists_bool,-List.map_take,-Prod.forall,-Prod.exists];refine⟨_,hq2.q,_,cJ (j:=0) rfl,_,hq2.q,_,cJ (j:=1) rfl,?_⟩;simp -dsimp[au,stC,-Bool.exists_bool,-List.map_take,-Prod.forall,-Prod.exists];exact⟨decide (x≠y),by by_cases h:x=y <;> simp[h],q _ sH2⟩
      · have e:xW xs d=false:=by unfold xW;rw[decide_eq_false h2];simp
        rw[e] at q;refine⟨true,by simp;omega,iI.pos rfl ?_⟩;simp -dsimp[au,stC,-Bool.exists_bool,-List.map_take,-Prod.forall,-Prod.exists];exact q _ s1
structure OkT (d:PyData):Prop where
  len:(kids d).length≤50
  ok:∀c∈kids d,OkD c
def Dl (xs:List Str) (d:PyData):Bool:=xV d && (decide ((kids d).length≤20) && (kids d).all (xW xs))
def Ji:Sp:=fun vs H Q _=>∃(d:PyData) (v:V) (p:Addr) (xs:List Str),vs=[v,.ref p]∧bC H d v∧OkT d∧Sq H p (xs.map V.str)∧∀H',Same H H'→Q (.bl (Dl xs d)) H'
theorem Jj (T:Txt K mg a):bZ P w K mg base lH 3 a.gj a.lO ["thing", "points"] Ji:=by
  refine T.nG.sX zH (fun vs H Q E h=>?_) (fun cdv A outer s H vs Q E hr h=>?_)
  ·obtain⟨d,v,p,xs,rfl,_⟩:=h;rfl
  · obtain⟨d,v,p,xs,rfl,hd,hok,hp,q⟩:=h;refine⟨_,(aF (cI (PW.pt (lG (bT (bK (PE.eqv (aO (pO (K:=K) T) (hr.mono (by decide)) rfl T.iz T.fD.kp T.iy .nil aX (aj (aJ 0) ak)) (aM _ _ _)))) (gO (bR yF (aH (bU (K:=K) rfl) rfl T.nm.len PySem.boot_len (aj (aJ 0) ak)) (cA rfl T.ur T.uw) (bW _))))) (aK (bf iG)) bF)
      (aK (bf (aH (dz rfl) rfl T.nm.all dw (aj (cg rfl rfl (show aR (aB ni) _ ["thing", "points"] ["one"] [1] ["one", "points"] from⟨rfl,by decide+kernel,by decide+kernel,rfl,by decide+kernel,by decide+kernel⟩) rfl (PI.eqv (jN (K:=K) rfl (aJ 0)) (gP _ _)) (fun C s H fp pn=>(aY (i:=0) (show(["one", "points"]:List Str).Nodup by decide+kernel) rfl (Or.inl rfl))) (fun C s H fp pn=>bO) (fun C s H fp pn=>(PE.eqv (aO (Oh (K:=K) T) (hr.mono (by decide)) rfl T.Cy T.uf.kp T.Cw .nil aX (aj (aJ 0) (aj (aJ 1) ak))) (aM _ _ _)))) ak))))),?_⟩
    have h60:60<sizeLine:=by decide
    have l50:=hok.len;simp -dsimp[au,stC,-Bool.exists_bool,-List.map_take,-Prod.forall,-Prod.exists];refine⟨d,v,rfl,hd,fun H1 s1=>?_⟩;cases hs:xV d with
    | false=>
      have e:Dl xs d=false:=by unfold Dl;rw[hs];rfl
      rw[e] at q;simp -dsimp[au,stC,-Bool.exists_bool,-List.map_take,-Prod.forall,-Prod.exists];exact q _ s1
    | true=>
      obtain⟨t,ys,rfl,hq,hall⟩:=Df hd hs;have hq1:=hq.same s1;have hlen:=hall.length;simp -dsimp[au,stC,-Bool.exists_bool,-List.map_take,-Prod.forall,-Prod.exists];refine⟨_,hq1.q,?_⟩
      by_cases h2:(kids d).length≤20
      · refine iI.neg (by simp;omega) ?_;obtain⟨b,hb⟩:=hq1.b;simp -dsimp[au,stC,-Bool.exists_bool,-List.map_take,-Prod.forall,-Prod.exists];refine⟨b,⟨_,hb K H1 (Same.refl _)⟩,fun D hD=>Xg ys (fun i σ' H'=>(∃o,σ'=[o,some (.ref p)])∧Same H1 H'∧H' D=some (.lst ((((kids d).take i).map (xW xs)).map V.bl))) ⟨⟨none,rfl⟩,aq hD,ao⟩ (fun i σ' H' _ h=>hb K H' h.2.1) ?_ ?_⟩
        ·rintro i x σ' H2 hi ⟨⟨o,rfl⟩,s2,hD2⟩;have hi2:i<ys.length:=(List.getElem?_eq_some_iff.mp hi).1;obtain⟨c,hc,hx⟩:=hall.at hi;simp -dsimp[au,stC,-Bool.exists_bool,-List.map_take,-Prod.forall,-Prod.exists];refine⟨c,x,p,xs,rfl,bC.same (s1.trans s2) c x hx,hok.ok c (List.mem_of_getElem? hc),hp.same (s1.trans s2),fun H3 s3=>?_⟩;simp -dsimp[au,stC,-Bool.exists_bool,-List.map_take,-Prod.forall,-Prod.exists];refine⟨_,s3 _ _ hD2,by simp;omega,aZ (s2.trans s3) hD,?_⟩;rw[ao,List.take_add_one,hc];simp
        · rintro σ' H2 ⟨⟨o,rfl⟩,s2,hD2⟩;have e:Dl xs d=(kids d).all (xW xs):=by unfold Dl;rw[hs,decide_eq_true h2];rfl
          rw[e] at q;simp -dsimp[au,stC,-Bool.exists_bool,-List.map_take,-Prod.forall,-Prod.exists];refine⟨_,hD2,_,jC id _,?_⟩;rw[show(List.map id (((kids d).take ys.length).map (xW xs))).all id=(kids d).all (xW xs) by
            rw[← hlen,List.take_length,List.map_id,List.all_map];rfl]
          exact q _ (s1.trans s2)
      · have e:Dl xs d=false:=by unfold Dl;rw[decide_eq_false h2];simp
        rw[e] at q;refine iI.pos (by simp;omega) ?_;simp -dsimp[au,stC,-Bool.exists_bool,-List.map_take,-Prod.forall,-Prod.exists];exact q _ s1
theorem Wx (d:PyData):W.kitOne K (.type (RW d)) (.type "int")=some (intD d):=by
  cases d with
  | none=>exact yC K
  | bool b=>exact Hy K
  | int i=>exact zy K
  | str x=>exact J_ K
  | list ds=>exact Ht K
  | tuple ds=>exact Ej K
  | dict ds=>exact HF K
theorem RX (d:PyData):W.kitOne K (.type (RW d)) (.type "bool")=some (qah d):=by
  cases d with
  | none=>exact wX K
  | bool b=>exact Ek K
  | int i=>exact wW K
  | str x=>exact Hu K
  | list ds=>exact Ef K
  | tuple ds=>exact Bu K
  | dict ds=>exact Em K
def Jk:Sp:=fun vs H Q _=>∃(d:PyData) (v:V),vs=[v]∧bC H d v∧Q (.bl (Jh d)) H
theorem Jl (T:Txt K mg a):bZ P w K mg base lH 1 a.gb a.lN ["thing"] Jk:=by
  refine T.nF.sX zG (fun vs H Q E h=>?_) (fun cdv A outer s H vs Q E hr h=>?_)
  ·obtain⟨d,v,rfl,_⟩:=h;rfl
  · obtain⟨d,v,rfl,hd,q⟩:=h;refine⟨_,(aK (bf (jq (aH (qR (K:=K) rfl) rfl T.nm.isinstance boot_isinstance (aj (aJ 0) (aj (fX (v:=.ty "int") rfl T.nm.int uL rfl) ak))) (lV (Ag (aH (qR (K:=K) rfl) rfl T.nm.isinstance boot_isinstance (aj (aJ 0) (aj (fX (v:=.ty "bool") rfl T.LR.bool Bm rfl) ak)))))))),?_⟩;simp -dsimp[au,stC,-Bool.exists_bool,-List.map_take,-Prod.forall,-Prod.exists];refine⟨_,Dd hd,_,Wx d,?_⟩;cases hi:intD d with
    | false=>
      refine iI.neg rfl ?_;simp -dsimp[au,stC,-Bool.exists_bool,-List.map_take,-Prod.forall,-Prod.exists];rw[show Jh d=false by cases d <;> first | rfl | cases hi] at q
      exact q
    | true=>
      refine iI.pos rfl ?_;simp -dsimp[au,stC,-Bool.exists_bool,-List.map_take,-Prod.forall,-Prod.exists];refine⟨_,Dd hd,_,RX d,?_⟩;rw[show Jh d = !qah d by cases d <;> first | rfl | cases hi] at q
      exact q
def Oi (n:Nat):PyData→Bool
  | .int k=>decide (0≤k) && decide (k<n)
  | _=>false
def Ez (C:Addr):Sp:=fun vs H Q _=>∃(o:Addr) (v:V) (d:PyData) (xs:List Str) (ps:List (Str×Str)),vs=[.ref o,v]∧cD C H o xs ps∧bC H d v∧Q (.bl (Oi ps.length d)) H
theorem EY (T:Txt K mg a):bZ P w K mg base lH 2 a.dZ a.jR ["web", "thing"] (Ez a.bI):=by
  refine T.lR.sX xJ (fun vs H Q E h=>?_) (fun cdv A outer s H vs Q E hr h=>?_)
  ·obtain⟨o,v,d,xs,ps,rfl,_⟩:=h;rfl
  · obtain⟨o,v,d,xs,ps,rfl,hw,hd,q⟩:=h;refine⟨_,(aK (bf (jq (PE.eqv (aO (Jl (K:=K) T) (hr.mono (by decide)) rfl T.vY T.nF.kp T.vX .nil aX (aj (aJ 1) ak)) (aM _ _ _)) (lV (Gf pU Bw aP (aJ 1) (PE.eqv (eY (aJ 0) T.jW T.nR (pJ (K:=K) T) (hr.mono (by decide)) T.nM .nil aX) (fj _ _ _ _ _ _))))))),?_⟩;obtain⟨dx,fs,hi,hno⟩:=hw.ins pI.1 pI.2;simp -dsimp[au,stC,-Bool.exists_bool,-List.map_take,-Prod.forall,-Prod.exists];refine⟨d,v,rfl,hd,?_⟩;cases hwh:Jh d with
    | false=>
      rw[show Oi ps.length d=false by cases d <;> first | rfl | cases hwh] at q
      simp -dsimp[au,stC,-Bool.exists_bool,-List.map_take,-Prod.forall,-Prod.exists];exact q
    | true=>
      obtain⟨k,rfl⟩:∃i,d = .int i:=by cases d <;> first | exact⟨_,rfl⟩ | cases hwh
      simp only[bC] at hd;subst hd;simp only[Oi] at q;simp -dsimp[au,stC,-Bool.exists_bool,-List.map_take,-Prod.forall,-Prod.exists];refine iI.of (fun h=>?_) (fun h=>?_)
      ·rw[h] at q;simp -dsimp[au,stC,-Bool.exists_bool,-List.map_take,-Prod.forall,-Prod.exists];exact⟨_,_,hi,hno,o,xs,ps,rfl,hw,q⟩
      ·rw[h] at q;simp -dsimp[au,stC,-Bool.exists_bool,-List.map_take,-Prod.forall,-Prod.exists];exact q
theorem Zc (bs:List Bool):tO (bs.map V.bl) bs:=by
  have h:=jC (fun b:Bool=>b) bs;have e:bs.map (fun b:Bool=>b)=bs:=List.map_id _;rw[e] at h;exact h
theorem Zd (xs:List Int):(yg (fun i=>(keysOf (xs.map V.int))[i]?.getD (Sum.inl 0)) (xs.map V.int).length).length=xs.length↔xs.Nodup:=by
  refine⟨fun h=>?_,Wn⟩;rw[List.length_map] at h;refine List.pairwise_iff_getElem.mpr fun i j hi hj hij e=>?_;refine Oe _ _ h i j hij hj ?_;rw[wz];simp[hi,hj,e]
def qF:List PyData→List Int
  | []=>[]
  | .int k::ds=>k::qF ds
  | _::ds=>qF ds
def vA (n:Nat) (d:PyData):Bool:=xV d && ((kids d).all (Oi n) && decide (qF (kids d)).Nodup)
theorem Lj {H:Hp} {n:Nat}:∀{ds:List PyData} {ys:List V},aW H ds ys→ds.all (Oi n)=true→ys=(qF ds).map V.int∧(∀k∈qF ds,0≤k∧k<n)∧(qF ds).length=ds.length
  | [],ys,h,_=>⟨by simpa [aW,qF] using h,by simp[qF],rfl⟩
  | c::ds,ys,h,hl=>by
    rw[List.all_cons,Bool.and_eq_true] at hl;simp only[aW] at h;obtain⟨x,r,rfl,hx,hr⟩:=h;obtain⟨e1,e2,e3⟩:=Lj hr hl.2;cases c with
    | int i=>
      simp only[bC] at hx;subst hx;have hi:0≤i∧i<n:=by simpa [Oi] using hl.1
      refine⟨by simp only[qF,List.map_cons];rw[← e1],fun m hm=>?_,by simp[qF,e3]⟩;simp only[qF] at hm
      rcases List.mem_cons.mp hm with rfl | hm
      ·exact hi
      ·exact e2 m hm
    | _=>exact absurd hl.1 (by simp[Oi])
def z6 (C:Addr):Sp:=fun vs H Q _=>∃(o:Addr) (v:V) (d:PyData) (xs:List Str) (ps:List (Str×Str)),vs=[.ref o,v]∧cD C H o xs ps∧bC H d v∧(kids d).length≤50∧∀H',Same H H'→Q (.bl (vA ps.length d)) H'
theorem z7 (T:Txt K mg a):bZ P w K mg base lH 3 a.cT a.gR ["web", "thing"] (z6 a.bI):=by
  refine T.ji.sX t_ (fun vs H Q E h=>?_) (fun cdv A outer s H vs Q E hr h=>?_)
  ·obtain⟨o,v,d,xs,ps,rfl,_⟩:=h;rfl
  · obtain⟨o,v,d,xs,ps,rfl,hw,hd,l50,q⟩:=h;refine⟨_,(aF (cI (PW.pt (lG (bT (bK (PE.eqv (aO (pO (K:=K) T) (hr.mono (by decide)) rfl T.iz T.fD.kp T.iy .nil aX (aj (aJ 1) ak)) (aM _ _ _)))) (gO (bT (bK (aH (dz rfl) rfl T.nm.all dw (aj (cg rfl rfl (show aR (aB jf) _ ["web", "thing"] ["one"] [0] ["one", "web"] from⟨rfl,by decide+kernel,by decide+kernel,rfl,by decide+kernel,by decide+kernel⟩) rfl (PI.eqv (jN (K:=K) rfl (aJ 1)) (gP _ _)) (fun C s H fp pn=>(aY (i:=0) (show(["one", "web"]:List Str).Nodup by decide+kernel) rfl (Or.inl rfl))) (fun C s H fp pn=>bO) (fun C s H fp pn=>(PE.eqv (aO (EY (K:=K) T) (hr.mono (by decide)) rfl T.uh T.lR.kp T.ug .nil aX (aj (aJ 1) (aj (aJ 0) ak))) (aM _ _ _)))) ak))))))) (aK (bf iG)) bF)
      (aK (bf (cZ m6 (aH uO rfl T.nm.len PySem.boot_len (aj (bY (uN rfl) rfl T.nm.set uM (aj (aJ 1) ak)) ak)) (aH (bU (K:=K) rfl) rfl T.nm.len PySem.boot_len (aj (aJ 1) ak)) (bW _))))),?_⟩
    have h60:60<sizeLine:=by decide
    simp -dsimp[au,stC,-Bool.exists_bool,-List.map_take,-Prod.forall,-Prod.exists];refine⟨d,v,rfl,hd,fun H1 s1=>?_⟩;cases hs:xV d with
    | false=>
      simp -dsimp[au,stC,-Bool.exists_bool,-List.map_take,-Prod.forall,-Prod.exists];have e:vA ps.length d=false:=by unfold vA;rw[hs];rfl
      rw[e] at q;exact q _ s1
    | true=>
      obtain⟨t,ys,rfl,hq,hall⟩:=Df hd hs;have hq1:=hq.same s1;have hlen:=hall.length;obtain⟨b,hb⟩:=hq1.b;simp -dsimp[au,stC,-Bool.exists_bool,-List.map_take,-Prod.forall,-Prod.exists];refine⟨b,⟨_,hb K H1 (Same.refl _)⟩,fun D hD=>Xg ys (fun i σ H'=>(∃o',σ=[o',some (.ref o)])∧H' D=some (.lst ((((kids d).take i).map (Oi ps.length)).map V.bl))∧Same H1 H') ⟨⟨none,rfl⟩,ao,aq hD⟩ (fun i σ H' _ h=>hb K H' h.2.2) ?_ ?_⟩
      ·rintro i x σ H2 hi ⟨⟨o',rfl⟩,hD2,s2⟩;have hi2:i<ys.length:=(List.getElem?_eq_some_iff.mp hi).1;obtain⟨c,hc,hx⟩:=hall.at hi;simp -dsimp[au,stC,-Bool.exists_bool,-List.map_take,-Prod.forall,-Prod.exists];refine⟨o,x,c,xs,ps,rfl,hw.same (s1.trans s2),bC.same (s1.trans s2) c x hx,?_⟩;simp -dsimp[au,stC,-Bool.exists_bool,-List.map_take,-Prod.forall,-Prod.exists];refine⟨_,hD2,by rw[List.length_map,List.length_map,List.length_take];omega,?_,aZ s2 hD⟩;rw[ao,List.take_add_one,hc];simp
      · rintro σ H2 ⟨⟨o',rfl⟩,hD2,s2⟩;simp -dsimp[au,stC,-Bool.exists_bool,-List.map_take,-Prod.forall,-Prod.exists];refine⟨_,hD2,_,Zc _,?_⟩;have e:(((kids d).take ys.length).map (Oi ps.length)).all id=(kids d).all (Oi ps.length):=by
          rw[← hlen,List.take_length,List.all_map];rfl
        rw[e];cases ha:(kids d).all (Oi ps.length) with
        | false=>
          simp -dsimp[au,stC,-Bool.exists_bool,-List.map_take,-Prod.forall,-Prod.exists];have e:vA ps.length d=false:=by unfold vA;rw[ha];simp
          rw[e] at q;exact q _ (s1.trans s2)
        | true=>
          obtain⟨rfl,e2,e3⟩:=Lj hall ha;have CQ:=hq1.same s2;simp -dsimp[au,stC,-Bool.exists_bool,-List.map_take,-Prod.forall,-Prod.exists];refine⟨_,CQ.q,by simp[isKey],by rw[List.length_map,e3];unfold scanBound;omega,fun t3 Sd=>⟨_,ao,_,(CQ.same (aq Sd)).q,?_⟩⟩;have e:vA ps.length d=decide (qF (kids d)).Nodup:=by unfold vA;rw[hs,ha];rfl
          rw[e] at q;generalize qF (kids d)=c at e3 q CQ ⊢;rw[show decide _=decide c.Nodup from ?_]
          ·exact q _ (s1.trans (s2.trans (aq Sd)))
          ·rw[decide_eq_decide,List.length_map,← Zd c];simp;exact Int.ofNat_inj
def E_ (C N:Addr):Sp:=fun vs H _ E=>∃(o:Addr) (v:V) (d:PyData) (xs:List Str) (ps:List (Str×Str)),vs=[.ref o,v]∧cD C H o xs ps∧bC H d v∧(kids d).length≤50∧(vA ps.length d=false∨(kids d).length≠ps.length)∧∀H',Same H H'→E (.ref N) none H'
theorem Fb (T:Txt K mg a):bZ P w K mg base (Km P w) 6 a.d7 a.jT ["web", "order"] (E_ a.bI a.aD):=by
  refine T.jJ.YD qY (fun vs H Q E h=>?_) (fun cdv A outer s H vs Q E hr h=>?_)
  ·obtain⟨o,v,d,xs,ps,rfl,_⟩:=h;rfl
  · obtain⟨o,v,d,xs,ps,rfl,hw,hd,l50,hbad,q⟩:=h;refine⟨_,(aF (cI (PW.pt (lG (bT (bK (PE.eqv (aO (z7 (K:=K) T) (hr.mono (by decide)) rfl T.pX T.ji.kp T.pW .nil aX (aj (aJ 0) (aj (aJ 1) ak))) (aM _ _ _)))) (gO (bR m7 (aH (bU (K:=K) rfl) rfl T.nm.len PySem.boot_len (aj (aJ 1) ak)) (PE.eqv (eY (aJ 0) T.jW T.nR (pJ (K:=K) T) (hr.mono (by decide)) T.nM .nil aX) (fj _ _ _ _ _ _)) (bW _))))) (aK (m9 (E:=E) oR rfl rfl T.gV rfl T.pA (aj bL ak))) bF)
      Fj),?_⟩
    simp -dsimp[au,stC,-Bool.exists_bool,-List.map_take,-Prod.forall,-Prod.exists];refine⟨o,v,d,xs,ps,rfl,hw,hd,l50,fun H1 s1=>?_⟩;cases hb:vA ps.length d with
    | false=>
      simp -dsimp[au,stC,-Bool.exists_bool,-List.map_take,-Prod.forall,-Prod.exists];exact q _ s1
    | true=>
      have hlen:(kids d).length≠ps.length:=hbad.resolve_left (by rw[hb];decide);have hs:xV d=true:=by
        unfold vA at hb;rw[Bool.and_eq_true] at hb;exact hb.1
      obtain⟨t,ys,rfl,hq,hall⟩:=Df hd hs;have hl:=hall.length;obtain⟨dx,fs,hin,hno⟩:=(hw.same s1).ins pI.1 pI.2;simp -dsimp[au,stC,-Bool.exists_bool,-List.map_take,-Prod.forall,-Prod.exists];refine⟨_,(hq.same s1).q,_,_,hin,hno,o,xs,ps,rfl,hw.same s1,?_⟩;simp -dsimp[au,stC,-Bool.exists_bool,-List.map_take,-Prod.forall,-Prod.exists];refine⟨true,by rw[decide_eq_false (by omega)];rfl,iI.pos rfl ?_⟩;simp -dsimp[au,stC,-Bool.exists_bool,-List.map_take,-Prod.forall,-Prod.exists];exact q _ s1
def Wy (N:Addr):Sp:=fun vs H _ E=>∃(o:Addr) (v u:V) (d:PyData),vs=[.ref o,v,u]∧bC H d v∧OkD d∧Dh d=false∧∀H',Same H H'→E (.ref N) none H'
theorem Jm (T:Txt K mg a):bZ P w K mg base (Km P w) 4 a.eH a.lQ ["self", "points", "ties"] (Wy a.aQ):=by
  refine T.wj.YD zJ (fun vs H Q E h=>?_) (fun cdv A outer s H vs Q E hr h=>?_)
  ·obtain⟨o,v,u,d,rfl,_⟩:=h;rfl
  · obtain⟨o,v,u,d,rfl,hd,hok,hp,q⟩:=h;refine⟨_,(aF (cI (bT (bK (PE.eqv (aO (Dj (K:=K) T) (hr.mono (by decide)) rfl T.rz T.jU.kp T.rm .nil aX (aj (aJ 1) ak)) (aM _ _ _)))) (aK (m9 (E:=E) oR rfl rfl T.jr rfl T.mV (aj bL ak))) bF)
      (aF (cI (bT (bK (PE.eqv (aO (Jj (K:=K) T) (hr.mono (by decide)) rfl T.wg T.nG.kp T.vZ .nil aX (aj (aJ 2) (aj (aJ 1) ak))) (aM _ _ _)))) (aK (m9 (E:=E) oR rfl rfl T.jr rfl T.mV (aj bL ak))) bF)
      (aF (Ae (K:=K) rfl (aJ 0) (bY qu rfl T.nm.tuple boot_tuple (aj (aJ 1) ak)) rfl)
      (aK (Ae (K:=K) rfl (aJ 0) (bY qu rfl T.nm.tuple boot_tuple (aj (cg rfl rfl (show aR (aB nj) _ ["self", "points", "ties"] ["pair"] [] ["pair"] from⟨rfl,by decide+kernel,by decide+kernel,rfl,by decide+kernel,by decide+kernel⟩) rfl (PI.eqv (jN (K:=K) rfl (aJ 2)) (gP _ _)) (fun C s H fp pn=>(aY (i:=0) (show(["pair"]:List Str).Nodup by decide+kernel) rfl (Or.inl rfl))) (fun C s H fp pn=>bO) (fun C s H fp pn=>(eX (aj (cW (dO (K:=K) rfl) (aJ 0) aP (fun _ _=>rfl)) (aj (cW (dO (K:=K) rfl) (aJ 0) aP (fun _ _=>rfl)) ak))))) ak)) rfl))))),?_⟩
    simp -dsimp[au,stC,-Bool.exists_bool,-List.map_take,-Prod.forall,-Prod.exists];refine⟨d,v,rfl,hd,hok,fun H1 s1=>?_⟩;rw[hp];simp -dsimp[au,stC,-Bool.exists_bool,-List.map_take,-Prod.forall,-Prod.exists];exact q _ s1
def RZ (H:Hp) (a:Addr) (ks:List (Str×V)) (xs:List Str):Prop:=ks.length≠xs.length∨(∃e∈ks,e.1∉xs)∨
  ((∀e∈ks,e.1∈xs)∧∃(f:Str→V) (g:Str→PyData),(∀x∈xs,vP (fP ks) (Sum.inr x)=some (f x)∧bC (hid a H) (g x) (f x))∧OkD (.list (xs.map g))∧Dh (.list (xs.map g))=false)
theorem qbJ {ks:List (Str×V)} {j:Nat} {k:Key} {x:V} (h:(fP ks)[j]? = some (k,x)):∃e,ks[j]? = some e∧k=Sum.inr e.1∧x=e.2:=by
  unfold fP at h;rw[List.getElem?_map] at h;obtain⟨e,he,h2⟩:=Option.map_eq_some_iff.mp h;cases h2;exact⟨e,he,rfl,rfl⟩
theorem Ze (ks:List (Str×V)):(fP ks).length=ks.length:=by simp[fP]
def Jo (C N:Addr):Sp:=fun vs H _ E=>∃(o a:Addr) (xs:List Str) (ps:List (Str×Str)) (ks:List (Str×V)),vs=[.ref o,.ref a]∧cD C H o xs ps∧wu xs∧qD xs ps∧H a=some (.dK (fP ks))∧ks.length≤20∧(∀e∈ks,nameB e.1=true)∧RZ H a ks xs∧
  ∀H',(∀b u,b≠a→H b=some u→H' b=some u)→(H' a=some (.dK (fP ks))∨∃ob,H' a=some (.jM ob (.dK (fP ks))))→E (.ref N) none H'
theorem Jp (T:Txt K mg a):bZ P w K mg base (Km P w) 6 a.dF a.gw ["web", "names"] (Jo a.bI a.aQ):=by
  refine T.kI.YD gQ (fun vs H Q E h=>?_) (fun cdv A outer s H vs Q E hr h=>?_)
  ·obtain⟨o,d,xs,ps,ks,rfl,_⟩:=h;rfl
  · obtain⟨o,d,xs,ps,ks,rfl,hw,hX,hTs,hd,k20,hnm,hbad,q⟩:=h;refine⟨_,(aF (bJ (i:=2) gQ.nd rfl (Or.inr rfl) (PE.eqv (eY (aJ 0) T.jW T.iC (jk (K:=K) T) (hr.mono (by decide)) T.iB .nil aX) (fj _ _ _ _ _ _)))
      (aF (cI (PW.pt (lG (bT (bK (aH (qR (K:=K) rfl) rfl T.nm.isinstance boot_isinstance (aj (aJ 1) (aj (fX (v:=.ty "dict") rfl T.LR.dict eF rfl) ak))))) (gO (bR m7 (aH VG rfl T.nm.len PySem.boot_len (aj (aJ 1) ak)) (aH (bU (K:=K) rfl) rfl T.nm.len PySem.boot_len (aj (aJ 2) ak)) (bW _))))) (aK (m9 (E:=E) oR rfl rfl T.jr rfl T.mV (aj bL ak))) bF)
      (aF (cI (bT (bK (aH (dz rfl) rfl T.nm.all dw (aj (cg rfl rfl (show aR (aB gD) _ ["web", "names", "points", "ties"] ["key"] [2] ["key", "points"] from⟨rfl,by decide+kernel,by decide+kernel,rfl,by decide+kernel,by decide+kernel⟩) rfl (Ii (aJ 1)) (fun C s H fp pn=>(aY (i:=0) (show(["key", "points"]:List Str).Nodup by decide+kernel) rfl (Or.inl rfl))) (fun C s H fp pn=>bO) (fun C s H fp pn=>(jq (PE.eqv (aO (kJ (K:=K) T) (hr.mono (by decide)) rfl T.jH T.gH.kp T.jG .nil aX (aj (aJ 0) ak)) (aM _ _ _)) (lV (cZ (Vj (K:=K) rfl) (aJ 0) (aJ 1) rfl))))) ak)))) (aK (m9 (E:=E) oR rfl rfl T.jr rfl T.mV (aj bL ak))) bF)
      (aF (jt (i:=3) gQ.nd rfl rfl rfl rfl (show aR (aB gD) _ ["web", "names", "points", "ties"] ["first", "second"] [1] ["first", "second", "names"] from⟨rfl,by decide+kernel,by decide+kernel,rfl,by decide+kernel,by decide+kernel⟩) rfl (PI.eqv (dG (K:=K) rfl (PE.eqv (eY (aJ 0) T.jW T.nQ (pG (K:=K) T) (hr.mono (by decide)) T.nJ .nil aX) (fj _ _ _ _ _ _))) (cP _ _)) (fun C s H fp pn=>(PG.eqv (qM (K:=K) (n:=2) rfl rfl (qJ.eqv (cN (aY (i:=0) (show(["first", "second", "names"]:List Str).Nodup by decide+kernel) rfl (Or.inl rfl)) (qJ.eqv (cN (aY (i:=1) (show(["first", "second", "names"]:List Str).Nodup by decide+kernel) rfl (Or.inl rfl)) (qJ.mono mL qP)) (cO _ _))) (cO _ _))) (qQ _ _ _))) (fun C s H fp pn=>bO) (fun C s H fp pn=>(eX (aj (PE.eqv (g_ (ql hr) (aJ 2) (aJ 0) (fun _ _=>rfl)) (fu _ _)) (aj (PE.eqv (g_ (ql hr) (aJ 2) (aJ 1) (fun _ _=>rfl)) (fu _ _)) ak)))))
      (aK (bf (PE.eqv (z_ T.KZ (Jm (K:=K) T) (hr.mono (by decide)) rfl T.KY T.nH .nil (oR.passes rfl) (aj (cg rfl rfl (show aR (aB gD) _ ["web", "names", "points", "ties"] ["point"] [1] ["point", "names"] from⟨rfl,by decide+kernel,by decide+kernel,rfl,by decide+kernel,by decide+kernel⟩) rfl (PI.eqv (dG (K:=K) rfl (aJ 2)) (cP _ _)) (fun C s H fp pn=>(aY (i:=0) (show(["point", "names"]:List Str).Nodup by decide+kernel) rfl (Or.inl rfl))) (fun C s H fp pn=>bO) (fun C s H fp pn=>(PE.eqv (g_ (ql hr) (aJ 1) (aJ 0) (fun _ _=>rfl)) (fu _ _)))) (aj (aJ 3) ak))) (w5 _ _ _ _)))))))),?_⟩
    have Y8:60≤sizeLine:=by decide
    have l9:=hX.len;have Xk:=hTs.len;have kl:=Ze ks;obtain⟨dx,fs,hin,hno⟩:=hw.ins gJ.1 gJ.2;simp -dsimp[au,stC,-Bool.exists_bool,-List.map_take,-Prod.forall,-Prod.exists];refine⟨_,_,hin,hno,o,xs,ps,rfl,hw,fun p hp=>?_⟩;have s1:Same H (upd H p (.lst (xs.map V.str))):=aq hp;have ep:upd H p (.lst (xs.map V.str)) p=some (.lst (xs.map V.str)):=ao;generalize upd H p (.lst (xs.map V.str))=H1 at s1 ep ⊢;simp -dsimp[au,stC,-Bool.exists_bool,-List.map_take,-Prod.forall,-Prod.exists];refine⟨_,.dK (s1 _ _ hd),_,vD K,?_⟩;simp -dsimp[au,stC,-Bool.exists_bool,-List.map_take,-Prod.forall,-Prod.exists]
    by_cases hlen:ks.length=xs.length
    · refine⟨_,s1 _ _ hd,_,.inl (bA.of ep),false,by rw[kl,List.length_map];simp[hlen],iI.neg rfl ?_⟩;simp -dsimp[au,stC,-Bool.exists_bool,-List.map_take,-Prod.forall,-Prod.exists];refine⟨_,.inl (s1 _ _ hd),fun ob hob=>?_⟩;have dp:p≠d:=fun z=>by rw[z,hd] at hp;cases hp
      have ef:upd H1 d (.jM ob (.dK (fP ks))) d=some (.jM ob (.dK (fP ks))):=ao;have kf:∀b u,b≠d→H1 b=some u→upd H1 d (.jM ob (.dK (fP ks))) b=some u:=fun b u hb e=>by rw[aG hb];exact e
      generalize upd H1 d (.jM ob (.dK (fP ks)))=Hf at ef kf ⊢;have epf:=kf _ _ dp ep;have kH:∀b u,b≠d→H b=some u→Hf b=some u:=fun b u hb e=>kf b u hb (s1 _ _ e);have hh:Same (hid d H) Hf:=fun b u e=>by
        unfold hid at e;split at e
        ·cases e
        ·rename_i hb;exact kH b u hb e
      have hwf:cD a.bI Hf o xs ps:=by
        obtain⟨dx,n,m,tv,h1,h2,h3,h4,h5⟩:=hw.ex;have nd:∀{b:Addr} {u:HO},H b=some u→(∀ks,u≠.dK ks)→b≠d:=fun e hn z=>by
          rw[z,hd] at e;exact hn _ (Option.some.inj e).symm
        exact⟨⟨dx,n,m,tv,kH _ _ (nd h1 (by intro ks z;cases z)) h1,kH _ _ (nd h2 (by intro ks z;cases z)) h2,kH _ _ (nd h3 (by intro ks z;cases z)) h3,h4.keep (fun b us e=>kH _ _ (nd e (by intro ks z;cases z)) e),h5⟩⟩
      refine fun D hD=>cmK (fun j σ H'=>(∃o',σ=[o',some (.ref p)])∧H' D=some (.lst ((ks.take j).map fun e=>V.bl (decide (e.1∈xs))))∧Same Hf H') ⟨⟨_,rfl⟩,by rw[ao];rfl,aq hD⟩ (fun j σ H' _ h=>h.2.2 _ _ ef) ?_ ?_
      ·rintro j k x σ H4 hk ⟨⟨o',rfl⟩,wI,s4⟩;obtain⟨e,he,rfl,rfl⟩:=qbJ hk;have hj2:=(List.getElem?_eq_some_iff.mp he).1;have ekv:kV (Sum.inr e.1)=V.str e.1:=rfl;rw[ekv,take_one he,List.map_append];simp -dsimp[au,stC,-Bool.exists_bool,-List.map_take,-Prod.forall,-Prod.exists];have nx:=hnm e (List.mem_of_getElem? he);refine⟨e.1,rfl,Nat.le_trans (K_ nx) (by decide),fun H5 s5=>?_⟩;rw[nx];simp -dsimp[au,stC,-Bool.exists_bool,-List.map_take,-Prod.forall,-Prod.exists];have s45:=s4.trans s5;refine⟨_,.inl (bA.of (s45 _ _ epf)),rfl,List.all_eq_true.mp (uP _),_,s5 _ _ wI,by rw[List.length_map,List.length_take];omega,?_,aZ s45 hD⟩;rw[oN];rw[ao]
      · rintro σ H4 ⟨⟨o',rfl⟩,wI,s4⟩;rw[kl,List.take_length] at wI;simp -dsimp[au,stC,-Bool.exists_bool,-List.map_take,-Prod.forall,-Prod.exists];refine⟨_,wI,_,jC _ _,?_⟩;cases hall:(ks.map fun e=>decide (e.1∈xs)).all id with
        | false=>
          simp -dsimp[au,stC,-Bool.exists_bool,-List.map_take,-Prod.forall,-Prod.exists];exact q _ (fun b u hb e=>s4 _ _ (kH b u hb e)) (.inr ⟨ob,s4 _ _ ef⟩)
        | true=>
          have Ws:∀e∈ks,e.1∈xs:=fun e he=>by
            have:=List.all_eq_true.mp hall (decide (e.1∈xs)) (List.mem_map.mpr ⟨e,he,rfl⟩);exact of_decide_eq_true this
          obtain⟨_,f,g,hfg,hok,hpt⟩:=(hbad.resolve_left fun z=>z hlen).resolve_left fun⟨e,he,hn⟩=>hn (Ws e he);simp -dsimp[au,stC,-Bool.exists_bool,-List.map_take,-Prod.forall,-Prod.exists];obtain⟨dx,fs,hin,hno⟩:=(hwf.same s4).ins pH.1 pH.2;refine⟨_,_,hin,hno,o,xs,ps,rfl,hwf.same s4,fun l tv hl5 hT5=>?_⟩;have s5:Same H4 (upd H4 l (.lst tv)):=aq hl5;have el:upd H4 l (.lst tv) l=some (.lst tv):=ao;generalize upd H4 l (.lst tv)=H5 at s5 el ⊢;have tl:tv.length=ps.length:=hT5.1;refine⟨⟨_,bA.of el⟩,fun D2 hD2=>?_⟩;have ef5:=s5 _ _ (s4 _ _ ef);have S5:=s4.trans s5;have hg:∀{H6:Hp},Same H5 H6→∀x∈xs,Ed H6 d (V.str x) (some (f x)):=fun s6 x hx=>.inl ⟨_,Sum.inr x,.inr ⟨ob,s6 _ _ ef5⟩,rfl,(hfg x hx).1.symm⟩;have qbF:=aV.same hT5 s5;refine Rk tv (fun j σ H'=>(∃o0 o1,σ=[o0,o1,some (.ref d)])∧(∃us,H' D2=some (.lst us)∧us.length=j)∧Same H5 H') ⟨⟨_,_,rfl⟩,⟨[],ao,rfl⟩,aq hD2⟩ (fun j σ H' _ h=>bA.of (h.2.2 _ _ el)) ?_ ?_
          ·rintro j v σ H6 hj ⟨⟨o0,o1,rfl⟩,⟨us,yS,ul⟩,s6⟩;obtain⟨e,he,t,rfl,ht⟩:=qbF.at hj;have hj2:=(List.getElem?_eq_some_iff.mp he).1;have hem:=hTs.ok e (List.mem_of_getElem? he);simp -dsimp[au,stC,-Bool.exists_bool,-List.map_take,-Prod.forall,-Prod.exists];refine⟨_,jK.of (s6 _ _ ht),rfl,_,hg s6 _ hem.1,_,hg s6 _ hem.2.1,?_⟩;intro q1 hq1;have s7:Same H6 (upd H6 q1 (.tup [f e.1,f e.2])):=aq hq1;generalize upd H6 q1 (.tup [f e.1,f e.2])=H7 at s7 ⊢;refine⟨_,s7 _ _ yS,by omega,⟨us++[.ref q1],ao,by simp[ul]⟩,aZ (s6.trans s7) hD2⟩
          · rintro σ H6 ⟨⟨o0,o1,rfl⟩,⟨us,yS,ul⟩,s6⟩;have S6:=S5.trans s6;simp -dsimp[au,stC,-Bool.exists_bool,-List.map_take,-Prod.forall,-Prod.exists];refine⟨⟨_,bA.of (S6 _ _ epf)⟩,fun D3 DY=>?_⟩;refine Rk (xs.map V.str) (fun j σ H'=>(∃o0,σ=[o0,some (.ref d)])∧H' D3=some (.lst ((xs.take j).map f))∧Same H6 H') ⟨⟨_,rfl⟩,by rw[ao];rfl,aq DY⟩ (fun j σ H' _ h=>bA.of (h.2.2 _ _ (S6 _ _ epf))) ?_ ?_
            ·rintro j v σ H7 hj ⟨⟨o0,rfl⟩,vq,s7⟩;obtain⟨x,hx,rfl⟩:=qN hj;have hj2:=(List.getElem?_eq_some_iff.mp hx).1;rw[take_one hx,List.map_append];simp -dsimp[au,stC,-Bool.exists_bool,-List.map_take,-Prod.forall,-Prod.exists];refine⟨_,hg (s6.trans s7) _ (List.mem_of_getElem? hx),_,vq,by rw[List.length_map,List.length_take];omega,?_,aZ s7 DY⟩;rw[ao]
            · rintro σ H7 ⟨⟨o0,rfl⟩,vq,s7⟩;rw[List.length_map,List.take_length] at vq;simp -dsimp[au,stC,-Bool.exists_bool,-List.map_take,-Prod.forall,-Prod.exists];intro o' L_ ho' Wr qag;have so:Same H7 (upd (upd H7 L_ (.own o')) o' (.ins a.bI L_ [])):=fun b u e=>by
                rw[aG (aN e ho'),aG (aN e Wr)];exact e
              have S7:=S6.trans (s7.trans so);have hth:Same (hid d H) (upd (upd H7 L_ (.own o')) o' (.ins a.bI L_ [])):=hh.trans S7;have qf3:bC (upd (upd H7 L_ (.own o')) o' (.ins a.bI L_ [])) (.list (xs.map g)) (.ref D3):=by
                simp only[bC];refine⟨D3,_,rfl,so _ _ vq,?_⟩;have key:∀zs:List Str,(∀z∈zs,z∈xs)→aW (upd (upd H7 L_ (.own o')) o' (.ins a.bI L_ [])) (zs.map g) (zs.map f):=fun zs=>by
                  induction zs with
                  | nil=>intro _;simp[aW]
                  | cons z zs ih=>
                    intro h;rw[List.map_cons,List.map_cons];simp only[aW];exact⟨_,_,rfl,bC.same hth _ _ (hfg z (h z List.mem_cons_self)).2,ih fun y hy=>h y (List.mem_cons_of_mem _ hy)⟩
                exact key xs fun z hz=>hz
              refine⟨o',_,_,.list (xs.map g),rfl,qf3,hok,hpt,fun H8 s8=>?_⟩;exact q _ (fun b u hb e=>(S7.trans s8) _ _ (kH b u hb e)) (.inr ⟨ob,(S7.trans s8) _ _ ef⟩)
    ·refine⟨_,s1 _ _ hd,_,.inl (bA.of ep),true,by rw[kl,List.length_map,decide_eq_false (by omega)];rfl,iI.pos rfl ?_⟩;simp -dsimp[au,stC,-Bool.exists_bool,-List.map_take,-Prod.forall,-Prod.exists];exact q _ (fun b u hb e=>s1 _ _ e) (.inl (s1 _ _ hd))
def zW (C N:Addr):Sp:=fun vs H _ E=>∃(o a:Addr) (xs:List Str) (ps:List (Str×Str)) (ks:List (Str×V)),vs=[.ref o,.ref a]∧cD C H o xs ps∧wu xs∧qD xs ps∧H a=some (.dK (fP ks))∧ks.length≤20∧(∀e∈ks,nameB e.1=true)∧RZ H a ks xs∧∀H',Same H H'→E (.ref N) none H'
theorem Lk (T:Txt K mg a):bZ P w K mg base (Km P w) 6 a.dF a.gw ["web", "names"] (zW a.bI a.aQ):=by
  refine(Jp T).jL.imp fun vs H Q E h=>?_;obtain⟨o,d,xs,ps,ks,rfl,hw,hX,hTs,hd,hk,hnm,hbad,q⟩:=h;refine⟨o,d,xs,ps,ks,rfl,hw,hX,hTs,hd,hk,hnm,hbad,fun H' k e=>q _ (Gu fun b u hb=>?_)⟩
  by_cases z:b=d
  ·subst z;rw[hd] at hb;cases hb;exact e.imp id fun⟨ob,e⟩=>⟨(fun _ _ z=>by cases z),ob,e⟩
  ·exact .inl (k b u z hb)
theorem tV.or {P:Program} {w:World} {K:W.Frag} {mg:Str→Option Value} {base:Heap} {k:Nat} {f:Addr} {fd:FuncData} {ps:List Str} {sp Zu:Addr→Sp} (F:tV P w K mg base k f fd ps sp) (F':tV P w K mg base k f fd ps Zu) :
    tV P w K mg base k f fd ps (fun e vs H Q E=>sp e vs H Q E∨Zu e vs H Q E):=
  ⟨fun e vs H Q E h=>h.elim (F.len e vs H Q E) (F'.len e vs H Q E),fun e A outer s H args us vs Q hr he hb hv h=>h.elim (F.run e A outer s H args us vs Q hr he hb hv) (F'.run e A outer s H args us vs Q hr he hb hv)⟩
theorem Ln (T:Txt K mg a):tV P w K mg base 1 a.gG a.kj ["_law_e"] (fun e vs H Q E=>wC a.aQ e vs H Q E∨uF a.aD e vs H Q E):=tV.or (Oc T) (Ld T)
theorem R0 {d:PyData} (h:RW d≠ "dict"):W.kitOne K (.type (RW d)) (.type "dict")=some false:=by
  cases d with
  | none=>exact wY K
  | bool b=>exact El K
  | int i=>exact Hw K
  | str x=>exact Hv K
  | list ds=>exact Eh K
  | tuple ds=>exact Bv K
  | dict ds=>exact absurd rfl h
def zX (C N:Addr):Sp:=fun vs H _ E=>∃(o:Addr) (v:V) (d:PyData) (xs:List Str) (ps:List (Str×Str)),vs=[.ref o,v]∧cD C H o xs ps∧bC H d v∧RW d≠ "dict" ∧∀H',Same H H'→E (.ref N) none H'
theorem Lq (T:Txt K mg a):bZ P w K mg base (Km P w) 6 a.dF a.gw ["web", "names"] (zX a.bI a.aQ):=by
  refine T.kI.YD gQ (fun vs H Q E h=>?_) (fun cdv A outer s H vs Q E hr h=>?_)
  ·obtain⟨o,v,d,xs,ps,rfl,_⟩:=h;rfl
  · obtain⟨o,v,d,xs,ps,rfl,hw,hd,hnd,q⟩:=h;refine⟨_,(aF (bJ (i:=2) gQ.nd rfl (Or.inr rfl) (PE.eqv (eY (aJ 0) T.jW T.iC (jk (K:=K) T) (hr.mono (by decide)) T.iB .nil aX) (fj _ _ _ _ _ _)))
      (aF (cI (PW.pt (lG (bT (bK (aH (qR (K:=K) rfl) rfl T.nm.isinstance boot_isinstance (aj (aJ 1) (aj (fX (v:=.ty "dict") rfl T.LR.dict eF rfl) ak))))) (gO (bR m7 (aH VG rfl T.nm.len PySem.boot_len (aj (aJ 1) ak)) (aH (bU (K:=K) rfl) rfl T.nm.len PySem.boot_len (aj (aJ 2) ak)) (bW _))))) (aK (m9 (E:=E) oR rfl rfl T.jr rfl T.mV (aj bL ak))) bF)
      (aF (cI (bT (bK (aH (dz rfl) rfl T.nm.all dw (aj (cg rfl rfl (show aR (aB gD) _ ["web", "names", "points", "ties"] ["key"] [2] ["key", "points"] from⟨rfl,by decide+kernel,by decide+kernel,rfl,by decide+kernel,by decide+kernel⟩) rfl (Ii (aJ 1)) (fun C s H fp pn=>(aY (i:=0) (show(["key", "points"]:List Str).Nodup by decide+kernel) rfl (Or.inl rfl))) (fun C s H fp pn=>bO) (fun C s H fp pn=>(jq (PE.eqv (aO (kJ (K:=K) T) (hr.mono (by decide)) rfl T.jH T.gH.kp T.jG .nil aX (aj (aJ 0) ak)) (aM _ _ _)) (lV (cZ (Vj (K:=K) rfl) (aJ 0) (aJ 1) rfl))))) ak)))) (aK (m9 (E:=E) oR rfl rfl T.jr rfl T.mV (aj bL ak))) bF)
      Fj))),?_⟩
    obtain⟨dx,fs,hin,hno⟩:=hw.ins gJ.1 gJ.2;simp -dsimp[au,stC,-Bool.exists_bool,-List.map_take,-Prod.forall,-Prod.exists];refine⟨_,_,hin,hno,o,xs,ps,rfl,hw,fun p hp=>?_⟩;have s1:Same H (upd H p (.lst (xs.map V.str))):=aq hp;generalize upd H p (.lst (xs.map V.str))=H1 at s1 ⊢;simp -dsimp[au,stC,-Bool.exists_bool,-List.map_take,-Prod.forall,-Prod.exists];refine⟨_,Dd (bC.same s1 d v hd),_,R0 hnd,?_⟩;simp -dsimp[au,stC,-Bool.exists_bool,-List.map_take,-Prod.forall,-Prod.exists];exact q _ s1
theorem Lr (T:Txt K mg a):bZ P w K mg base (Km P w) 6 a.dF a.gw ["web", "names"] (fun vs H Q E=>zW a.bI a.aQ vs H Q E∨zX a.bI a.aQ vs H Q E):=(Lk T).or (Lq T)
theorem bV {p:Addr} {H H':Hp} (s:Same H H'):Same (hid p H) (hid p H'):=fun b u e=>by
  unfold hid at e ⊢;split at e
  ·cases e
  ·rename_i hb;rw[if_neg hb];exact s _ _ e
theorem RZ.same {H H':Hp} {a:Addr} {ks:List (Str×V)} {xs:List Str} (s:Same H H') (h:RZ H a ks xs):RZ H' a ks xs:=by
  rcases h with h | h | ⟨h1,f,g,h2,h3⟩
  ·exact .inl h
  ·exact .inr (.inl h)
  ·exact .inr (.inr ⟨h1,f,g,fun x hx=>⟨(h2 x hx).1,bC.same (bV s) _ _ (h2 x hx).2⟩,h3⟩)
def Ls (H:Hp) (v:V) (xs:List Str):Prop:=(∃a ks,v = .ref a∧H a=some (.dK (fP ks))∧ks.length≤20∧(∀e∈ks,nameB e.1=true)∧RZ H a ks xs)∨∃d,bC H d v∧RW d≠ "dict"
def qdq (H:Hp) (v:V) (m:Nat):Prop:=∃d,bC H d v∧(kids d).length≤50∧(vA m d=false∨(kids d).length≠m)
structure Wz (H:Hp) (v:V) (d:PyData):Prop where
  sh:NZ H d v
  ok:d.showable=true
  dp:d.depth≤32
  ln:d.shown.length≤sizeLine
def wdK (k:Int):Str:=if k=0 then "web" else "numbers"
def Oj (C:Addr):Sp:=fun vs H Q _=>∃(k:Int) (o:Addr) (v:V) (dd:PyData) (xs:List Str) (ps:List (Str×Str)),vs=[.int k,.ref o,v]∧cD C H o xs ps∧wu xs∧qD xs ps∧Wz H v dd∧((k=0∧Ls H v xs)∨(k=1∧qdq H v ps.length))∧
  ∀(r:Addr) (H':Hp),H r=none→H' r=some (.lst [.str (wdK k)])→Same H H'→Q (.ref r) H'
theorem Dm (T:Txt K mg a):bZ P w K mg base lH 7 a.jF a.q_ ["_law_kind", "_law_web_here", "_law_thing"] (Oj a.bI):=by
  refine T.uZ.sX nu (fun vs H Q E h=>?_) (fun cdv A outer s H vs Q E hr h=>?_)
  ·obtain⟨k,o,v,dd,xs,ps,rfl,_⟩:=h;rfl
  · obtain⟨k,o,v,dd,xs,ps,rfl,hw,hX,hTs,hsh,hbad,q⟩:=h;refine⟨_,(aF (bJ (i:=3) nu.nd rfl (Or.inl rfl) (aH (zF hr.gd hr.units) rfl T.LR.repr boot_repr (aj (aJ 2) ak)))
      (aF (bJ (i:=4) nu.nd rfl (Or.inl rfl) (cC ak))
      (aF (qbm (i:=5) rfl rfl rfl nu.nd rfl rfl (fun R pn xe hx=>(aK (cI (bR m6 (aJ 0) aP (bW _)) (aK (jl (Ko hx rfl (Lr (K:=K) T) (hr.mono (by decide)) rfl T.uW T.kI.kp T.uV (aj (aJ 1) (aj (aJ 2) ak))))) (aK (jl (Ko hx rfl (Fb (K:=K) T) (hr.mono (by decide)) rfl T.o8 T.jJ.kp T.oZ (aj (aJ 1) (aj (aJ 2) ak)))))))) rfl T.xR T.iD (fun e=>(aK (bJ (i:=4) nu.nd rfl (Or.inl rfl) (VF (Ln (K:=K) T) (hr.mono (by decide)) rfl T.Gy T.uY.kp T.Gx (aj (aJ 5) ak))))))
      (aK (bf (bx cX (aJ 4) (bx qaP (cC (aj bL ak)) (bY BK rfl T.nm.int uL (aj (cZ m7 (aH (zF hr.gd hr.units) rfl T.LR.repr boot_repr (aj (aJ 2) ak)) (aJ 3) (bW _)) ak))))))))),?_⟩
    simp -dsimp[au,stC,-Bool.exists_bool,-List.map_take,-Prod.forall,-Prod.exists];refine⟨dd,hsh.sh,hsh.ok,hsh.dp,hsh.ln,fun p0 h0=>?_⟩;have s2:Same H (upd H p0 (.lst [])):=aq h0;generalize upd H p0 (.lst [])=H2 at s2 ⊢;generalize hNx:SN (Mj HN (fVar 4) _) _=Nx;have tail:∀(o4:Option V) (l:Addr) (H':Hp),H' l=some (.lst [.str (wdK k)])→Same H H'→Nx [some (.int k),some (.ref o),some v,some (.str dd.shown),some (.ref l),o4] H':=by
      intro o4 l H' hl S';subst hNx;simp -dsimp[au,stC,-Bool.exists_bool,-List.map_take,-Prod.forall,-Prod.exists];intro p2 hp2;have t1:Same H' (upd H' p2 (.lst [.str "changed"])):=aq hp2;have u1:upd H' p2 (.lst [.str "changed"]) p2=some (.lst [.str "changed"]):=ao;generalize upd H' p2 (.lst [.str "changed"])=H3 at t1 u1 ⊢;refine⟨dd,hsh.sh.same (S'.trans t1),hsh.ok,hsh.dp,hsh.ln,false,by simp,_,u1,by decide,by decide,by simp,fun p6 h6=>?_⟩;have t3:Same H3 (upd H3 p6 (.lst (List.replicate (if false=true then (1:Int) else 0).toNat [V.str "changed"]).flatten)):=aq h6
      have u3:upd H3 p6 (.lst (List.replicate (if false=true then (1:Int) else 0).toNat [V.str "changed"]).flatten) p6=some (.lst []):=ao
      generalize upd H3 p6 (.lst (List.replicate (if false=true then (1:Int) else 0).toNat [V.str "changed"]).flatten)=H5 at t3 u3 ⊢
      have S5:=S'.trans (t1.trans t3);refine⟨_,(t1.trans t3) _ _ hl,_,u3,by simp,fun p7 h7=>?_⟩;exact q p7 _ (lJ S5 h7) (by rw[ao,List.append_nil]) (S5.trans (aq h7))
    rcases hbad with⟨rfl,hbad⟩ | ⟨rfl,hbad⟩
    · refine iI.pos rfl ?_;simp -dsimp[au,stC,-Bool.exists_bool,-List.map_take,-Prod.forall,-Prod.exists];have go:∀H3,Same H2 H3→Vu 5 K a.bN (fun e=>QF (Nr (fun vs H Q E=>wC a.aQ e vs H Q E∨uF a.aD e vs H Q E) (dW (fVar 5) mZ)) (Fo 4)) {nx:=Nx,rt:=Q} [some (.int 0),some (.ref o),some v,some (.str dd.shown),some (.ref p0),none] a.aQ none H3:=fun H3 s3=>by
        have S3:=s2.trans s3;refine⟨⟨Gk.of T.jr,T.nU⟩,fun ex hex=>?_⟩;have se:Same H3 (upd H3 ex (xq ex a.aQ)):=aq hex;have ee:upd H3 ex (xq ex a.aQ) ex=some (xq ex a.aQ):=ao;generalize upd H3 ex (xq ex a.aQ)=H4 at se ee ⊢;simp -dsimp[au,stC,-Bool.exists_bool,-List.map_take,-Prod.forall,-Prod.exists];refine .inl ⟨rfl,ee,fun l H5 hl e5 s5'=>?_⟩;simp -dsimp[au,stC,-Bool.exists_bool,-List.map_take,-Prod.forall,-Prod.exists];exact tail _ l H5 e5 (S3.trans (se.trans s5'))
      rcases hbad with⟨d,ks,rfl,hd,hk,hnm,hb⟩ | ⟨d,hd,hnd⟩
      ·exact .inl ⟨o,d,xs,ps,ks,rfl,hw.same s2,hX,hTs,s2 _ _ hd,hk,hnm,hb.same s2,fun H3 s3=>⟨_,rfl,go H3 s3⟩⟩
      ·exact .inr ⟨o,v,d,xs,ps,rfl,hw.same s2,bC.same s2 _ _ hd,hnd,fun H3 s3=>⟨_,rfl,go H3 s3⟩⟩
    ·refine iI.neg rfl ?_;simp -dsimp[au,stC,-Bool.exists_bool,-List.map_take,-Prod.forall,-Prod.exists];obtain⟨d,hd,l50,hb⟩:=hbad;refine⟨o,v,d,xs,ps,rfl,hw.same s2,bC.same s2 _ _ hd,l50,hb,fun H3 s3=>⟨_,rfl,?_⟩⟩;have S3:=s2.trans s3;refine⟨⟨Gk.of T.gV,T.jY⟩,fun ex hex=>?_⟩;have se:Same H3 (upd H3 ex (xq ex a.aD)):=aq hex;have ee:upd H3 ex (xq ex a.aD) ex=some (xq ex a.aD):=ao;generalize upd H3 ex (xq ex a.aD)=H4 at se ee ⊢;simp -dsimp[au,stC,-Bool.exists_bool,-List.map_take,-Prod.forall,-Prod.exists];refine .inr ⟨rfl,ee,fun l H5 hl e5 s5'=>?_⟩;simp -dsimp[au,stC,-Bool.exists_bool,-List.map_take,-Prod.forall,-Prod.exists];exact tail _ l H5 e5 (S3.trans (se.trans s5'))
mutual
theorem WD {H:Hp}:∀(d:PyData) (v:V),cL H d v→bC H d v
  | .none,v,h=>by simp only[cL] at h;simp only[bC];exact h
  | .bool b,v,h=>by simp only[cL] at h;simp only[bC];exact h
  | .int i,v,h=>by simp only[cL] at h;simp only[bC];exact h
  | .str x,v,h=>by simp only[cL] at h;simp only[bC];exact h
  | .list ds,v,h=>by
    simp only[cL] at h;obtain⟨a,xs,rfl,h1,h2⟩:=h;simp only[bC];exact⟨a,xs,rfl,h1,Dq ds xs h2⟩
  | .tuple ds,v,h=>by
    simp only[cL] at h;obtain⟨a,xs,rfl,h1,h2⟩:=h;simp only[bC];exact⟨a,xs,rfl,h1,Dq ds xs h2⟩
  | .dict kvs,v,h=>by
    simp only[cL] at h;obtain⟨rfl,a,rfl,h1⟩:=h;simp only[bC];exact⟨a,rfl,.inl ⟨[],.nil,h1⟩⟩
theorem Dq {H:Hp}:∀(ds:List PyData) (vs:List V),aU H ds vs→aW H ds vs
  | [],vs,h=>by simp only[aU] at h;simp only[aW];exact h
  | d::ds,vs,h=>by
    simp only[aU] at h;obtain⟨v,r,rfl,h1,h2⟩:=h;simp only[aW];exact⟨v,r,rfl,WD d v h1,Dq ds r h2⟩
end
theorem Jq {H:Hp} {d:PyData} {v:V} (h:cL H d v) (hd:d.hasDict=false∨d = .dict []):NZ H d v:=by
  rcases hd with hd | rfl
  ·exact .inl (.thg h hd)
  ·simp only[cL] at h;obtain⟨_,a,rfl,h1⟩:=h;exact .inl (.dic (ks:=[]) .nil h1)
structure vB (m:Nat) (d:PyData):Prop where
  no:vA m d=false∨(kids d).length≠m
  kd:(kids d).length≤50
  hd:d.hasDict=false∨d = .dict []
  ok:d.showable=true
  dp:d.depth≤32
  ln:d.shown.length≤sizeLine
theorem vB.o {H:Hp} {m:Nat} {d:PyData} {v:V} (b:vB m d) (h:cL H d v):qdq H v m:=⟨d,WD d v h,b.kd,b.no⟩
theorem vB.s {H:Hp} {m:Nat} {d:PyData} {v:V} (b:vB m d) (h:cL H d v):Wz H v d:=⟨Jq h b.hd,b.ok,b.dp,b.ln⟩
theorem Az {i:Int} (h0:0≤i) (h1:i≤20):oF 0 100 (.int i):=by
  obtain⟨n,rfl⟩:∃n:Nat,i=(n:Int):=⟨i.toNat,by omega⟩;have h:n≤20:=by omega
  have z:∀n,n≤20→(PyData.int (n:Nat)).showable=true∧(PyData.int (n:Nat)).depth≤0∧(PyData.int (n:Nat)).shown.length≤100:=by decide+kernel
  exact⟨(z n h).1,(z n h).2.1,(z n h).2.2⟩
theorem lit (d:PyData) (h1:d.showable=true:=by decide+kernel) (h2:d.depth≤3:=by decide+kernel) (h3:d.shown.length≤100:=by decide+kernel):oF 3 100 d:=⟨h1,h2,h3⟩
theorem qf4 {d:PyData} {k:Nat} (h:oF k 100 d) (hk:k≤3):oF 29 300 d:=h.mono (by omega) (by decide)
theorem Qu {n:Nat} {d c:PyData} (hc:c∈kids d) (h:Oi n c=false):vA n d=false:=by
  unfold vA;have:(kids d).all (Oi n)=false:=by rw[List.all_eq_false];exact⟨c,hc,by rw[h];simp⟩
  rw[this];simp
theorem lD {m:Nat} {ds:List PyData} (hno:vA m (.list ds)=false∨ds.length≠m) (h:∀c∈ds,oF 3 100 c∧c.hasDict=false) (hl:ds.length≤50):vB m (.list ds):=by
  have sm:oF 30 30000 (.list ds):=oF.list (fun c hc=>qf4 (h c hc).1 (by decide)) (by omega);have nd:∀(es:List PyData),(∀c∈es,c.hasDict=false)→PyData.hasDictAll es=false:=fun es=>by
    induction es with
    | nil=>intro _;rfl
    | cons c es ih=>intro h;simp[PyData.hasDictAll,h c List.mem_cons_self,ih fun d hd=>h d (List.mem_cons_of_mem _ hd)]
  exact⟨hno,hl,.inl (by simpa [PyData.hasDict] using nd ds fun c hc=>(h c hc).2),sm.sh,Nat.le_trans sm.dp (by decide),Nat.le_trans sm.ln (by decide)⟩
theorem A_ {m:Nat} {d:PyData} (hs:xV d=false) (hd:d.hasDict=false∨d = .dict []) (hm:oF 3 100 d):vB m d:=⟨.inl (by unfold vA;rw[hs];rfl),(by cases d <;> first | exact Nat.zero_le _ | cases hs),hd,hm.sh,Nat.le_trans hm.dp (by decide),Nat.le_trans hm.ln (by decide)⟩
theorem jj.ex {p:Addr} {H:Hp} (h:jj H p):∃o,H p=some o:=by
  obtain⟨x,y,u,_⟩:=h;exact⟨_,u⟩
theorem jj.sS {p:Addr} {H H':Hp} (x:jj H p) (s:Same H H'):jj H' p:=by
  obtain⟨u1,u2,u3,u4⟩:=x;exact⟨u1,u2,s _ _ u3,u4⟩
def Jr:Sp:=fun vs H Q _=>∃(p r:Addr) (ks:List Nat) (m:Nat),vs=[.ref p,.ref r]∧jj H p∧H r=some (.lst (eE ks))∧r≠p∧ks.Perm (List.range m)∧m≤20∧
  ∀(v:V) (d:PyData) (H':Hp),cL (hid p H') d v→vB m d→jj H' p→But p H H'→Q v H'
def wD (ks:List Nat):List PyData:=ks.map fun n=>PyData.int (n:Nat)
theorem xX {H:Hp}:∀(ks:List Nat),aU H (wD ks) (eE ks)
  | []=>by simp[aU,wD,eE]
  | k::ks=>by
    have ih:=xX (H:=H) ks;simp only[wD,eE,List.map_cons,aU] at ih ⊢;exact⟨_,_,rfl,by simp[cL],ih⟩
def R3 (ks:List Nat):List PyData:=ks.map fun k=>if k<2 then .bool (decide (k=1)) else .int (k:Nat)
def Lw (ks:List Nat):List V:=ks.map fun k=>if k<2 then .bl (decide (k=1)) else .int (k:Nat)
theorem Js {H:Hp}:∀(ks:List Nat),aU H (R3 ks) (Lw ks)
  | []=>by simp[aU,R3,Lw]
  | k::ks=>by
    have ih:=Js (H:=H) ks;simp only[R3,Lw,List.map_cons,aU] at ih ⊢;refine⟨_,_,rfl,?_,ih⟩;split <;> simp[cL]
theorem Qv {ks:List Nat} {m:Nat} (hk:ks.Perm (List.range m)) (hm:m≤20) (h0:m≠0):vB m (.list (R3 ks)):=by
  have z:0∈ks:=hk.mem_iff.mpr (List.mem_range.mpr (by omega));refine lD (.inl (Qu (c:=.bool false) (List.mem_map.mpr ⟨0,z,rfl⟩) rfl)) (fun c hc=>?_) (by rw[R3,List.length_map,hk.length_eq,List.length_range];omega);obtain⟨k,hk2,rfl⟩:=List.mem_map.mp hc;have:=List.mem_range.mp (hk.mem_iff.mp hk2);split
  · by_cases e:k=1
    ·simp only[e,decide_true];exact⟨lit _,rfl⟩
    ·simp only[e,decide_false];exact⟨lit _,rfl⟩
  ·exact⟨(Az (by omega) (by omega)).mono (by decide) (Nat.le_refl _),rfl⟩
def Zf (m:Nat) (d:PyData):Prop:=d = .none∨d = .str (Str.ofString "0")∨d = .list [.int 0]∨d = .int (-1)∨d = .int (m:Nat)
theorem Zg {H:Hp} {m:Nat} {c p:Addr} {iH:List V} {d:PyData} {v:V} (hc:H c=some (.lst iH)) (hW:2≤iH.length) (h:cL (hid p H) d v) (o:Zf m d):cL (hid c (hid p H)) d v:=by
  rcases o with rfl | rfl | rfl | rfl | rfl
  ·simpa [cL] using h
  ·simpa [cL] using h
  · simp only[cL] at h ⊢;obtain⟨a,xs,rfl,h1,h2⟩:=h;have hl:xs.length=1:=by simp only[aU] at h2;obtain⟨v,r,rfl,_,rfl⟩:=h2;rfl
    have hh:=fB _ _ h1;refine⟨a,xs,rfl,cj (fun z=>?_) h1,by simp only[aU] at h2 ⊢;exact h2⟩;rw[z,hc] at hh;have:=Option.some.inj hh;injection this with this;rw[this] at hW;omega
  ·simpa [cL] using h
  ·simpa [cL] using h
theorem qbK {m:Nat} {d:PyData} (hm:m≤20) (o:Zf m d):Oi m d=false∧oF 3 100 d∧d.hasDict=false:=by
  rcases o with rfl | rfl | rfl | rfl | rfl
  ·exact⟨rfl,lit _,rfl⟩
  ·exact⟨rfl,lit _,rfl⟩
  ·exact⟨rfl,lit _,rfl⟩
  ·exact⟨rfl,lit _,rfl⟩
  ·exact⟨by simp[Oi],(Az (by omega) (by omega)).mono (by decide) (Nat.le_refl _),rfl⟩
theorem Jt (T:Txt K mg a):bZ P w K mg base lH 2 a.fW a.mU ["_law_pot_here", "_law_order"] Jr:=by
  refine T.uq.sX f9 (fun vs H Q E h=>?_) (fun cdv A outer s H vs Q E hr h=>?_)
  ·obtain⟨p,r,ks,m,rfl,_⟩:=h;rfl
  · obtain⟨p,r,ks,m,rfl,hp,hr0,rp,hk,hm,q⟩:=h;refine⟨_,(aF (bJ (i:=2) f9.nd rfl (Or.inl rfl) (PE.eqv (aO (dj (K:=K) T) (hr.mono (by decide)) rfl T.fH T.eO.kp T.fG .nil aX (aj (aJ 0) (aj (bx jo (aH (bU (K:=K) rfl) rfl T.nm.len PySem.boot_len (aj (aJ 1) ak)) aP) ak))) (aM _ _ _)))
      (aF (bJ (i:=3) f9.nd rfl (Or.inl rfl) (Cg (cC (aj (bx cX (aJ 1) (cC (aj (aH (bU (K:=K) rfl) rfl T.nm.len PySem.boot_len (aj (aJ 1) ak)) ak))) (aj (bx cX (aJ 1) (cC (aj (Zt Pz aP) ak))) (aj (bx cX (cC (aj Bd ak)) (aJ 1)) (aj (bx cX (aJ 1) (cC (aj iG ak))) ak)))))))
      (aF (bJ (i:=3) f9.nd rfl (Or.inl rfl) (bx cX (aJ 3) (Cg (cC (aj Bd (aj bL (aj aP (aj Uv (aj (bx cX (aJ 1) (cC (aj bL ak))) ak)))))))))
      (aF (cI (bR (Ni (K:=K) rfl hr.units) (aJ 1) (cC ak) (bW _)) (aF (bJ (i:=2) f9.nd rfl (Or.inl rfl) (bx oO (aJ 2) (aH (bU (K:=K) rfl) rfl T.nm.len PySem.boot_len (aj (aJ 1) ak))))
      (aF (bJ (i:=3) f9.nd rfl (Or.inl rfl) (bx cX (aJ 3) (Cg (cC (aj (m5 (BP (K:=K) rfl) (aJ 1) (PO.eqv (qL aP) (m8 _)) qK) (aj (bx cX (aJ 1) (m5 (BP (K:=K) rfl) (aJ 1) qK (PO.eqv (qL aP) (m8 _)))) (aj (bx cX (bx cX (m5 (BP (K:=K) rfl) (aJ 1) qK (PO.eqv (qL (aJ 2)) (m8 _))) (m5 (BP (K:=K) rfl) (aJ 1) qK (PO.eqv (qL aP) (m8 _)))) (m5 (BP (K:=K) rfl) (aJ 1) (PO.eqv (qL (aJ 2)) (m8 _)) qK)) ak)))))))
      (aF (jl (pQ (K:=K) rfl PySem.F.plainAttrs_list PySem.F.slot_list_append PySem.F.type_list_append ju (aJ 3) (aj (cg rfl rfl (show aR (aB lM) _ ["_law_pot_here", "_law_order", "_law_at", "_law_some", "_law_odd"] ["_law_k"] [] ["_law_k"] from⟨rfl,by decide+kernel,by decide+kernel,rfl,by decide+kernel,by decide+kernel⟩) rfl (PI.eqv (dG (K:=K) rfl (aJ 1)) (cP _ _)) (fun C s H fp pn=>(aY (i:=0) (show(["_law_k"]:List Str).Nodup by decide+kernel) rfl (Or.inl rfl))) (fun C s H fp pn=>bO) (fun C s H fp pn=>(Bf (bR Bw (aJ 0) aP (bW _)) (cZ m6 (aJ 0) aP (bW _)) (aJ 0)))) ak)))
      (aF (yj PassesOwn.never rfl (PI.eqv (dG (K:=K) rfl (Cg (cC (aj Bd (aj bL (aj (cC (aj aP ak)) (aj (Zt Pz aP) (aj (aH (bU (K:=K) rfl) rfl T.nm.len PySem.boot_len (aj (aJ 1) ak)) ak)))))))) (cP _ _)) (aY (i:=4) f9.nd rfl (Or.inl rfl))
      (aK (jl (pQ (K:=K) rfl PySem.F.plainAttrs_list PySem.F.slot_list_append PySem.F.type_list_append ju (aJ 3) (aj (bx cX (bx cX (m5 (BP (K:=K) rfl) (aJ 1) qK (PO.eqv (qL (aJ 2)) (m8 _))) (cC (aj (aJ 4) ak))) (m5 (BP (K:=K) rfl) (aJ 1) (PO.eqv (qL (bx jo (aJ 2) aP)) (m8 _)) qK)) ak)))))
      (aK (cI (bR m6 (PE.eqv (aO (dj (K:=K) T) (hr.mono (by decide)) rfl T.fH T.eO.kp T.fG .nil aX (aj (aJ 0) (aj aP ak))) (aM _ _ _)) aP (bW _)) (aK (bf (cg rfl rfl (show aR (aB lM) _ ["_law_pot_here", "_law_order", "_law_at", "_law_some", "_law_odd"] ["_law_k"] [] ["_law_k"] from⟨rfl,by decide+kernel,by decide+kernel,rfl,by decide+kernel,by decide+kernel⟩) rfl (PI.eqv (dG (K:=K) rfl (aJ 1)) (cP _ _)) (fun C s H fp pn=>(aY (i:=0) (show(["_law_k"]:List Str).Nodup by decide+kernel) rfl (Or.inl rfl))) (fun C s H fp pn=>bO) (fun C s H fp pn=>(Bf (bR Bw (aJ 0) aP (bW _)) (cZ m6 (aJ 0) aP (bW _)) (aJ 0)))))) bF)))))) bF)
      (aK (bf (cW (dO (K:=K) rfl) (aJ 3) (PE.eqv (aO (dj (K:=K) T) (hr.mono (by decide)) rfl T.fH T.eO.kp T.fG .nil aX (aj (aJ 0) (aj (aH (bU (K:=K) rfl) rfl T.nm.len PySem.boot_len (aj (aJ 3) ak)) ak))) (aM _ _ _)) (fun _ _=>rfl)))))))),?_⟩
    have Y8:60≤sizeLine:=by decide
    have kl:ks.length=m:=by rw[hk.length_eq,List.length_range]
    simp -dsimp[au,stC,-Bool.exists_bool,-List.map_take,-Prod.forall,-Prod.exists];refine⟨_,.inl (bA.of hr0),p,_,rfl,hp,by rw[fJ];omega,by rw[fJ];omega,fun at_ H1 ha0 ha1 Gz Ew=>?_⟩;have hr1:=Ew _ _ rp hr0;rw[fJ,kl] at ha1;have od:∀c∈wD ks,oF 3 100 c∧c.hasDict=false:=fun c hc=>by
      obtain⟨k,hk2,rfl⟩:=List.mem_map.mp hc;have:=List.mem_range.mp (hk.mem_iff.mp hk2);exact⟨(Az (by omega) (by omega)).mono (by decide) (Nat.le_refl _),rfl⟩
    have ol:(wD ks).length=m:=by rw[wD,List.length_map];exact kl
    have one:∀{c:PyData},oF 3 100 c→c.hasDict=false→∀e∈[c],oF 3 100 e∧e.hasDict=false:=fun h1 h2 e he=>by
      rw[List.mem_singleton] at he;subst he;exact⟨h1,h2⟩
    have app:∀{a b:List PyData},(∀e∈a,oF 3 100 e∧e.hasDict=false)→(∀e∈b,oF 3 100 e∧e.hasDict=false)→∀e∈a++b,oF 3 100 e∧e.hasDict=false:=fun h1 h2 e he=>(List.mem_append.mp he).elim (h1 e) (h2 e);have sm:oF 3 100 (.int (wD ks).length):=by rw[ol];exact(Az (by omega) (by omega)).mono (by decide) (Nat.le_refl _)
    have v1:∀{o2 o3 o4:Option V} {H':Hp},Same H1 H'→GD p (fVar 1) [some (V.ref p),some (V.ref r),o2,o3,o4] H' (.list (wD ks)):=fun s'=>Ny rfl (by simp only[cL];exact⟨r,_,rfl,cj rp (s' _ _ hr1),xX ks⟩);simp -dsimp[au,stC,-Bool.exists_bool,-List.map_take,-Prod.forall,-Prod.exists];refine xG (φ:=vB m) (p:=p) (n:=4) (
      cU (lK (tW (v1 (Same.refl _)) (yH (qw (V4 (v1 (Same.refl _))) uT) (by simp)) (by simp[ol];omega)) (lD (.inr (by simp[ol])) (app od (one sm rfl)) (by simp[ol];omega))) <|
      cU (lK (tW (v1 (Same.refl _)) (yH (qw (V3 Ce) uT) (by simp)) (by simp[ol];omega)) (lD (.inr (by simp[ol])) (app od (one (lit _) rfl)) (by simp[ol];omega))) <|
      cU (lK (tW (yH (qw Nu uT) (by simp)) (v1 (Same.refl _)) (by simp[ol];omega)) (lD (.inr (by simp[ol])) (app (one (lit _) rfl) od) (by simp[ol];omega))) <|
      cU (lK (tW (v1 (Same.refl _)) (yH (qw qc5 uT) (by simp)) (by simp[ol];omega)) (lD (.inr (by simp[ol])) (app od (one (lit _) rfl)) (by simp[ol];omega))) Aq) Gz.ex (by decide) fun b vs H2 hb s2 hn2 e2 a2=>?_
    have P2:=Gz.sS s2;simp -dsimp[au,stC,-Bool.exists_bool,-List.map_take,-Prod.forall,-Prod.exists];refine xG (φ:=vB m) (p:=p) (n:=5) (
      cU (lK Nu (A_ rfl (.inl rfl) (lit _))) <|
      cU (lK Nv (A_ rfl (.inl rfl) (lit _))) <|
      cU (lK Ce (A_ rfl (.inl rfl) (lit _))) <|
      cU (lK V1 (A_ rfl (.inr rfl) (lit _))) <|
      cU (lK (tW (v1 s2) (yH (qw Nv uT) (by simp)) (by simp[ol];omega)) (lD (.inr (by simp[ol])) (app od (one (lit _) rfl)) (by simp[ol];omega))) Aq) P2.ex (by decide) fun b3 w3 H3 hb3 s3 hn3 e3 a3=>?_
    generalize hNx:SN (Mj (U4 K) (fVar 3) _) _=Nx;have tail:∀(o2 o4:Option V) (c:Addr) (iH:List V) (H':Hp),c≠p→H' c=some (.lst iH)→0<iH.length→iH.length≤100→xu (vB m) (hid p H') iH→jj H' p→But p H H'→Nx [some (.ref p),some (.ref r),o2,some (.ref c),o4] H':=by
      intro o2 o4 c iH H' cp hc h0 h1 hW hP hB;subst hNx;simp -dsimp[au,stC,-Bool.exists_bool,-List.map_take,-Prod.forall,-Prod.exists];refine⟨_,.inl (bA.of hc),p,_,rfl,hP,by omega,by omega,fun k H2 hk0 hk1 hP2 hB2=>?_⟩;obtain⟨v,hv,ha⟩:=Ao (n:=iH.length) rfl hk0 hk1;obtain⟨d,hd1,hd2⟩:=hW v hv;exact⟨_,.inl (bA.of (hB2 _ _ cp hc)),v,ha,q v d H2 (cL.same (uR hB2) d v hd1) hd2 hP2 (hB.trans hB2)⟩
    refine⟨_,s3 _ _ e2,_,e3,by omega,fun c hc z hz=>?_⟩;have s4:Same H3 (upd H3 c (.lst (vs++w3))):=aq hc;have e4:upd H3 c (.lst (vs++w3)) c=some (.lst (vs++w3)):=ao;have cp:c≠p:=fY Gz.ex (s2.trans s3) hc;generalize upd H3 c (.lst (vs++w3))=H4 at s4 e4 hz ⊢;have s5:Same H4 (upd H4 z (.lst [])):=aq hz;have e5:upd H4 z (.lst []) z=some (.lst []):=ao;generalize upd H4 z (.lst [])=H5 at s5 e5 ⊢;have Xo:=s2.trans (s3.trans (s4.trans s5));have P5:=Gz.sS Xo;have B5:But p H H5:=Ew.trans (But.of Xo);have A5:xu (vB m) (hid p H5) (vs++w3):=((a2.same (bV s3)).app a3).same (bV (s4.trans s5));have r5:=Xo _ _ hr1;have c5:=s5 _ _ e4;have W5:(vs++w3).length=9:=by rw[List.length_append];omega
    refine⟨.list (vG (ks.map fun n:Nat=>(n:Int))),⟨r,_,rfl,bA.of r5,Py _⟩,.list [],⟨z,_,rfl,bA.of e5,rfl⟩,by simp[PyData.canLay0,lay_ints],rfl,by have:=Kf (ks.map fun n:Nat=>(n:Int));simp[PyData.depth];omega,?_⟩
    by_cases hm0:m=0
    ·have k0:ks=[]:=List.eq_nil_of_length_eq_zero (by omega);refine⟨false,by rw[k0];rfl,iI.neg rfl ?_⟩;simp -dsimp[au,stC,-Bool.exists_bool,-List.map_take,-Prod.forall,-Prod.exists];exact tail _ _ c _ H5 cp c5 (by omega) (by omega) A5 P5 B5
    · have kne:ks≠[]:=fun e=>hm0 (by rw[← kl,e];rfl);refine⟨true,by cases ks with | nil=>exact absurd rfl kne | cons k ks=>rfl,iI.pos rfl ?_⟩;simp -dsimp[au,stC,-Bool.exists_bool,-List.map_take,-Prod.forall,-Prod.exists];refine⟨_,.inl (bA.of r5),by rw[fJ];omega,?_⟩;rw[fJ,kl];obtain⟨j,hj,hjm⟩:∃j:Nat,at_ % (m:Int)=(j:Int)∧j<m:=⟨(at_ % (m:Int)).toNat,by have:=Int.emod_nonneg at_ (show(m:Int)≠0 by omega);omega,by have:=Int.emod_lt_of_pos at_ (show(0:Int)<m by omega);have:=Int.emod_nonneg at_ (show(m:Int)≠0 by omega);omega⟩;rw[hj];have v2:∀{o3 o4:Option V} {H':Hp},GD p (fVar 2) [some (V.ref p),some (V.ref r),some (V.int (j:Int)),o3,o4] H' (.int (j:Nat)):=Ny rfl (by simp[cL]);have t1:∀{σ:St} {H':Hp},GD p (tC (V.int 1)) σ H' (.int ((1:Nat):Int)):=Ce;have tk:∀(n:Nat),∀e∈(wD ks).take n,oF 3 100 e∧e.hasDict=false:=fun n e he=>od e (List.mem_of_mem_take he);have dk:∀(n:Nat),∀e∈(wD ks).drop n,oF 3 100 e∧e.hasDict=false:=fun n e he=>od e (List.mem_of_mem_drop he);refine xG (φ:=vB m) (p:=p) (n:=3) (
        cU (lK (Qg (v1 Xo) t1) (lD (.inr (by simp[ol];omega)) (dk 1) (by simp[ol];omega))) <|
        cU (lK (tW (v1 Xo) (V2 (v1 Xo) t1) (by simp[ol];omega)) (lD (.inr (by simp[ol];omega)) (app od (tk 1)) (by simp[ol];omega))) <|
        cU (lK (tW (tW (V2 (v1 Xo) v2) (V2 (v1 Xo) t1) (by simp[ol];omega)) (Qg (v1 Xo) v2) (by simp[ol];omega)) (lD (.inr (by simp[ol];omega)) (app (app (tk j) (tk 1)) (dk j)) (by simp[ol];omega))) Aq) P5.ex (by decide) fun b6 w6 H6 hb6 s6 hn6 e6 a6=>?_
      refine⟨_,s6 _ _ c5,_,e6,by omega,fun c7 hc7=>?_⟩;have s7:Same H6 (upd H6 c7 (.lst (vs++w3++w6))):=aq hc7;have e7:upd H6 c7 (.lst (vs++w3++w6)) c7=some (.lst (vs++w3++w6)):=ao;have cp7:c7≠p:=fY P5.ex s6 hc7;have cr7:c7≠r:=fun z=>by rw[z,s6 _ _ r5] at hc7;cases hc7
      generalize upd H6 c7 (.lst (vs++w3++w6))=H7 at s7 e7 ⊢;have S17:=Xo.trans (s6.trans s7);have r7:=S17 _ _ hr1;have A7:xu (vB m) (hid p H7) (vs++w3++w6):=((A5.same (bV s6)).app a6).same (bV s7);have W7:(vs++w3++w6).length=12:=by rw[List.length_append];omega
      refine⟨⟨_,bA.of e7⟩,⟨_,bA.of r7⟩,fun D hD=>Rk (eE ks) (fun j σ H'=>(∃o',σ=[o'])∧H' D=some (.lst (Lw (ks.take j)))∧Same H7 H') ⟨⟨_,rfl⟩,ao,aq hD⟩ (fun j σ H' _ h=>bA.of (h.2.2 _ _ r7)) ?_ ?_⟩
      · rintro i v σ H8 hi ⟨⟨o',rfl⟩,Qq,s8⟩;obtain⟨k,hk2,rfl⟩:=Jg hi;have hi2:=(List.getElem?_eq_some_iff.mp hk2).1;rw[take_one hk2,Lw,List.map_append];simp -dsimp[au,stC,-Bool.exists_bool,-List.map_take,-Prod.forall,-Prod.exists];have ml:((ks.take i).map fun k=>if k<2 then V.bl (decide (k=1)) else V.int (k:Nat)).length<sizeLine:=by rw[List.length_map,List.length_take];omega
        refine iI.of (fun h=>?_) (fun h=>?_)
        · have hk':k<2:=by have:=of_decide_eq_true h;omega
          have e1:decide ((k:Int)=1)=decide (k=1):=decide_eq_decide.mpr (by omega);simp -dsimp[au,stC,-Bool.exists_bool,-List.map_take,-Prod.forall,-Prod.exists];refine⟨_,Qq,ml,?_,aZ s8 hD⟩;rw[ao,e1,if_pos hk'];rfl
        · have hk':¬k<2:=by have:=of_decide_eq_false h;omega
          simp -dsimp[au,stC,-Bool.exists_bool,-List.map_take,-Prod.forall,-Prod.exists];refine⟨_,Qq,ml,?_,aZ s8 hD⟩;rw[ao,if_neg hk'];rfl
      · rintro σ H8 ⟨⟨o',rfl⟩,Qq,s8⟩;rw[fJ,List.take_length] at Qq;simp -dsimp[au,stC,-Bool.exists_bool,-List.map_take,-Prod.forall,-Prod.exists];have Dp:D≠p:=fY P5.ex (s6.trans s7) hD;have Dc:D≠c7:=fun z=>by rw[z,e7] at hD;cases hD
        refine⟨_,s8 _ _ e7,by omega,?_⟩;have S68:Same H6 (upd H8 c7 (.lst (vs++w3++w6++[.ref D]))):=aZ (s7.trans s8) hc7;have e9:upd H8 c7 (.lst (vs++w3++w6++[.ref D])) c7=some (.lst (vs++w3++w6++[.ref D])):=ao;have D9:upd H8 c7 (.lst (vs++w3++w6++[.ref D])) D=some (.lst (Lw ks)):=by rw[aG Dc];exact Qq
        generalize upd H8 c7 (.lst (vs++w3++w6++[.ref D]))=H9 at S68 e9 D9 ⊢;have qf5:Same (hid p H6) (hid c7 (hid p H9)):=fun b u e=>by
          unfold hid at e ⊢;split at e
          ·cases e
          ·rename_i hb;rw[if_neg (fun z=>by rw[z,hc7] at e;cases e),if_neg hb];exact S68 _ _ e
        have A9:xu (vB m) (hid c7 (hid p H9)) (vs++w3++w6++[.ref D]):=(((A5.same (bV s6)).app a6).same qf5).app (fun v hv=>by
          rw[List.mem_singleton] at hv;subst hv;exact⟨_,by simp only[cL];exact⟨D,_,rfl,cj Dc (cj Dp D9),Js ks⟩,Qv hk hm hm0⟩)
        have r9:=S68 _ _ (s6 _ _ r5);have P9:=P5.sS (s6.trans S68);have v19:∀{o2 o3 o4:Option V} {H':Hp},Same H9 H'→GD p (fVar 1) [some (V.ref p),some (V.ref r),o2,o3,o4] H' (.list (wD ks)):=fun s'=>Ny rfl (by simp only[cL];exact⟨r,_,rfl,cj rp (s' _ _ r9),xX ks⟩);refine xG (φ:=Zf m) (p:=p) (n:=5) (
          cU (lK Nu (.inl rfl)) <|
          cU (lK Nv (.inr (.inl rfl))) <|
          cU (lK (yH (qw Ce uT) (by simp)) (.inr (.inr (.inl rfl)))) <|
          cU (lK (V3 Ce) (.inr (.inr (.inr (.inl rfl))))) <|
          cU (lK (V4 (v19 (Same.refl _))) (.inr (.inr (.inr (.inr (by rw[ol])))))) Aq) P9.ex (by decide) fun b10 w10 H10 qdr LQ qgW e10 a10=>?_
        have c10:=LQ _ _ e9;have W9:(vs++w3++w6++[V.ref D]).length=13:=by rw[List.length_append];simp;omega
        have O10:∀v∈w10,∃d,cL (hid c7 (hid p H10)) d v∧Zf m d:=fun v hv=>by
          obtain⟨d,h1,h2⟩:=a10 v hv;exact⟨d,Zg c10 (by omega) h1 h2,h2⟩
        have bc:b10≠c7:=fun z=>by rw[z,e9] at qdr;cases qdr
        have A10:=A9.same (bV (p:=c7) (bV (p:=p) LQ));have r10:=LQ _ _ r9;refine⟨⟨_,bA.of e10⟩,frL w10 (fun i σ H'=>(∃o4,σ=[some (.ref p),some (.ref r),some (.int (j:Int)),some (.ref c7),o4])∧(∃iH,H' c7=some (.lst iH)∧iH.length=13+i∧xu (vB m) (hid c7 (hid p H')) iH)∧∀b u,b≠c7→H10 b=some u→H' b=some u) ⟨⟨_,rfl⟩,⟨_,c10,W9,A10⟩,fun b u _ e=>e⟩ (fun i σ H' _ h=>bA.of (h.2.2 _ _ bc e10)) ?_ ?_⟩
        · rintro i v σ Ss hi ⟨⟨o4,rfl⟩,⟨iH,WK,hW,AW⟩,k11⟩;obtain⟨d,hd1,hd2⟩:=O10 v (List.mem_of_getElem? hi);have hi2:=(List.getElem?_eq_some_iff.mp hi).1;have r11:=k11 _ _ (fun z=>cr7 z.symm) r10;simp -dsimp[au,stC,-Bool.exists_bool,-List.map_take,-Prod.forall,-Prod.exists];have c1:yq (eE ks) none (some (j:Int))=eE (ks.take j):=by rw[VR];simp[eE,List.map_take]
          have c2:yq (eE ks) (some ((j:Int)+1)) none=eE (ks.drop (j+1)):=by rw[show((j:Int)+1)=((j+1:Nat):Int) by omega,Ky];simp[eE,List.map_drop]
          refine⟨⟨_,bA.of WK⟩,_,bA.of r11,fun q1 hq1 q2 hq2=>?_⟩;rw[c1] at hq2 ⊢;have t1:Same Ss (upd Ss q1 (.lst (eE (ks.take j)))):=aq hq1;have u1:upd Ss q1 (.lst (eE (ks.take j))) q1=some (.lst (eE (ks.take j))):=ao;generalize upd Ss q1 (.lst (eE (ks.take j)))=H12 at t1 u1 hq2 ⊢;have t2:Same H12 (upd H12 q2 (.lst [v])):=aq hq2;have u2:upd H12 q2 (.lst [v]) q2=some (.lst [v]):=ao;generalize upd H12 q2 (.lst [v])=H13 at t2 u2 ⊢;refine⟨_,t2 _ _ u1,_,u2,by rw[fJ,List.length_take];simp;omega,fun q3 hq3=>?_⟩;have t3:Same H13 (upd H13 q3 (.lst (eE (ks.take j)++[v]))):=aq hq3;have u3:upd H13 q3 (.lst (eE (ks.take j)++[v])) q3=some (.lst (eE (ks.take j)++[v])):=ao;generalize upd H13 q3 (.lst (eE (ks.take j)++[v]))=H14 at t3 u3 ⊢;have T3:=t1.trans (t2.trans t3);refine⟨_,bA.of (T3 _ _ r11),fun q4 hq4=>?_⟩;rw[c2];have t4:Same H14 (upd H14 q4 (.lst (eE (ks.drop (j+1))))):=aq hq4;have u4:upd H14 q4 (.lst (eE (ks.drop (j+1)))) q4=some (.lst (eE (ks.drop (j+1)))):=ao;generalize upd H14 q4 (.lst (eE (ks.drop (j+1))))=H15 at t4 u4 ⊢;have T4:=T3.trans t4;refine⟨_,t4 _ _ u3,_,u4,by rw[List.length_append,fJ,fJ,List.length_take,List.length_drop];simp;omega,fun q5 hq5=>?_⟩;have t5:Same H15 (upd H15 q5 (.lst (eE (ks.take j)++[v]++eE (ks.drop (j+1))))):=aq hq5;have u5:upd H15 q5 (.lst (eE (ks.take j)++[v]++eE (ks.drop (j+1)))) q5=some (.lst (eE (ks.take j)++[v]++eE (ks.drop (j+1)))):=ao;have q5p:q5≠p:=fun z=>by
            obtain⟨o,ho⟩:=(P9.sS LQ).ex;rw[z,T4 _ _ (k11 _ _ cp7.symm ho)] at hq5;cases hq5
          have q5c:q5≠c7:=fun z=>by rw[z,T4 _ _ WK] at hq5;cases hq5
          generalize upd H15 q5 (.lst (eE (ks.take j)++[v]++eE (ks.drop (j+1))))=H16 at t5 u5 ⊢;have T5:=T4.trans t5;have kU:∀b u,b≠c7→Ss b=some u→upd H16 c7 (.lst (iH++[.ref q5])) b=some u:=fun b u hb e=>by rw[aG hb];exact T5 _ _ e
          have sU:Same (hid c7 (hid p Ss)) (hid c7 (hid p (upd H16 c7 (.lst (iH++[.ref q5]))))):=fun b u e=>by
            unfold hid at e ⊢;split at e
            ·cases e
            · rename_i hb;split at e
              ·cases e
              ·rename_i hb2;rw[if_neg hb,if_neg hb2];exact kU b u hb e
          have sV:Same (hid c7 (hid p H10)) (hid c7 (hid p Ss)):=fun b u e=>by
            unfold hid at e ⊢;split at e
            ·cases e
            · rename_i hb;split at e
              ·cases e
              ·rename_i hb2;rw[if_neg hb,if_neg hb2];exact k11 b u hb e
          have Tv:=cL.same (sV.trans sU) d v hd1;have q5U:upd H16 c7 (.lst (iH++[.ref q5])) q5=some (.lst (eE (ks.take j)++[v]++eE (ks.drop (j+1)))):=by rw[aG q5c];exact u5
          obtain⟨n1,n2,n3⟩:=qbK hm hd2;have sub:∀{l:List Nat},(∀k∈l,k∈ks)→∀e∈wD l,oF 3 100 e∧e.hasDict=false:=fun h e he=>by
            obtain⟨k,hk2,rfl⟩:=List.mem_map.mp he;exact od _ (List.mem_map.mpr ⟨k,h k hk2,rfl⟩)
          refine⟨_,T5 _ _ WK,by omega,⟨_,ao,by simp;omega,(AW.same sU).app fun w hw=>?_⟩,fun b u hb e=>kU b u hb (k11 b u hb e)⟩;rw[List.mem_singleton] at hw;subst hw;refine⟨.list (wD (ks.take j)++[d]++wD (ks.drop (j+1))),?_,lD (.inl (Qu (c:=d) (by simp[kids]) n1)) (app (app (sub fun k h=>List.mem_of_mem_take h) (one n2 n3)) (sub fun k h=>List.mem_of_mem_drop h)) (by simp[wD];omega)⟩;simp only[cL];refine⟨q5,_,rfl,cj q5c (cj q5p q5U),((xX _).append ?_).append (xX _)⟩;simp only[aU];exact⟨_,_,rfl,Tv,rfl⟩
        · rintro σ Ss ⟨⟨o4,rfl⟩,⟨iH,WK,hW,AW⟩,k11⟩;simp -dsimp[au,stC,-Bool.exists_bool,-List.map_take,-Prod.forall,-Prod.exists];have qbL:Same H5 Ss:=fun b u e=>k11 b u (fun z=>by have:=s6 _ _ e;rw[z,hc7] at this;cases this) (LQ _ _ (S68 _ _ (s6 _ _ e)));have B11:But p H Ss:=B5.trans (But.of qbL);have P11:=P5.sS qbL;have r11:=qbL _ _ r5;refine⟨p,3,rfl,P11,by decide,by decide,fun kk H7' hk0 hk1 Sg Qn=>?_⟩;have r12:=Qn _ _ rp r11;simp -dsimp[au,stC,-Bool.exists_bool,-List.map_take,-Prod.forall,-Prod.exists];refine iI.of (fun h=>?_) (fun h=>?_)
          · simp -dsimp[au,stC,-Bool.exists_bool,-List.map_take,-Prod.forall,-Prod.exists];refine⟨⟨_,bA.of r12⟩,fun D hD=>Rk (eE ks) (fun j σ H'=>(∃o',σ=[o'])∧H' D=some (.lst (Lw (ks.take j)))∧Same H7' H') ⟨⟨_,rfl⟩,ao,aq hD⟩ (fun j σ H' _ h=>bA.of (h.2.2 _ _ r12)) ?_ ?_⟩
            · rintro i v σ H8 hi ⟨⟨o',rfl⟩,Qq,s8⟩;obtain⟨k,hk2,rfl⟩:=Jg hi;have hi2:=(List.getElem?_eq_some_iff.mp hk2).1;rw[take_one hk2,Lw,List.map_append];simp -dsimp[au,stC,-Bool.exists_bool,-List.map_take,-Prod.forall,-Prod.exists];have ml:((ks.take i).map fun k=>if k<2 then V.bl (decide (k=1)) else V.int (k:Nat)).length<sizeLine:=by rw[List.length_map,List.length_take];omega
              refine iI.of (fun h=>?_) (fun h=>?_)
              · have hk':k<2:=by have:=of_decide_eq_true h;omega
                have e1:decide ((k:Int)=1)=decide (k=1):=decide_eq_decide.mpr (by omega);simp -dsimp[au,stC,-Bool.exists_bool,-List.map_take,-Prod.forall,-Prod.exists];refine⟨_,Qq,ml,?_,aZ s8 hD⟩;rw[ao,e1,if_pos hk'];rfl
              · have hk':¬k<2:=by have:=of_decide_eq_false h;omega
                simp -dsimp[au,stC,-Bool.exists_bool,-List.map_take,-Prod.forall,-Prod.exists];refine⟨_,Qq,ml,?_,aZ s8 hD⟩;rw[ao,if_neg hk'];rfl
            ·rintro σ H8 ⟨⟨o',rfl⟩,Qq,s8⟩;rw[fJ,List.take_length] at Qq;have Dp:D≠p:=fY Sg.ex (Same.refl _) hD;exact q (.ref D) (.list (R3 ks)) H8 (by simp only[cL];exact⟨D,_,rfl,cj Dp Qq,Js ks⟩) (Qv hk hm hm0) (Sg.sS s8) ((B11.trans Qn).same s8)
          ·simp -dsimp[au,stC,-Bool.exists_bool,-List.map_take,-Prod.forall,-Prod.exists];exact tail _ _ c7 iH H7' cp7 (Qn _ _ cp7 WK) (by omega) (by omega) ((AW.same fB).same (uR Qn)) Sg (B11.trans Qn)
theorem WL {x:Str} (h:nameB x=true):Ltr 4 x:=by
  unfold nameB at h;simp only[Bool.and_eq_true,decide_eq_true_eq] at h;refine⟨fun c hc=>?_,h.1.2⟩;have:=Ux (List.all_eq_true.mp h.2 c hc);have:(16:Nat) ^ 8=4294967296:=by decide
  omega
theorem qbM:∀x∈jO,nameB x=true:=by decide+kernel
theorem Ol {x:Str} (h:nameB x=true):oF 3 100 (.str x)∧rE (.str x):=by
  have h1:=(WL h).ln;have Y8:60≤sizeLine:=by decide
  exact⟨(oF.str (WL h).cp (n:=100) (by omega)).mono (by decide) (Nat.le_refl _),fun y e=>by cases e;omega⟩
theorem Lx {H:Hp}:∀xs:List Str,aW H (xs.map PyData.str) (xs.map V.str)
  | []=>by simp[aW]
  | x::xs=>by simp only[List.map_cons,aW];exact⟨_,_,rfl,by simp[bC],Lx xs⟩
inductive LV (H:Hp):V→PyData→Prop
  | leaf {v d}:Lf v d→LV H v d
  | lst {t} {ss:List Str}:H t=some (.lst (ss.map V.str))→t≠sysModules→LV H (.ref t) (.list (ss.map PyData.str))
  | tup {t}:H t=some (.tup [])→LV H (.ref t) (.tuple [])
theorem LV.same {H H':Hp} {v:V} {d:PyData} (s:Same H H') (h:LV H v d):LV H' v d:=by
  cases h with
  | leaf h=>exact .leaf h
  | lst e n=>exact .lst (s _ _ e) n
  | tup e=>exact .tup (s _ _ e)
theorem LV.thg {H:Hp} {v:V} {d:PyData} (h:LV H v d):bC H d v:=by
  cases h with
  | leaf h=>cases h <;> simp[bC]
  | lst e n=>simp only[bC];exact⟨_,_,rfl,e,Lx _⟩
  | tup e=>simp only[bC];exact⟨_,_,rfl,e,by simp[aW]⟩
theorem LV.hid {H:Hp} {v:V} {d:PyData} {a:Addr} {ks:List (Key×V)} (ha:H a=some (.dK ks)) (h:LV H v d):LV (hid a H) v d:=by
  cases h with
  | leaf h=>exact .leaf h
  | lst e n=>exact .lst (cj (fun z=>by rw[z,ha] at e;cases e) e) n
  | tup e=>exact .tup (cj (fun z=>by rw[z,ha] at e;cases e) e)
def oH (zs:List Str) (f:Str→V):List (Str×V):=zs.map fun x=>(x,f x)
theorem uG (zs:List Str) (f:Str→V):(oH zs f).map (·.1)=zs:=by
  unfold oH;rw[List.map_map];exact(List.map_congr_left fun x _=>rfl).trans (List.map_id _)
theorem Ju (f:Str→V):∀{zs:List Str} {x:Str},x∈zs→vP (fP (oH zs f)) (Sum.inr x)=some (f x)
  | [],x,h=>absurd h (by simp)
  | z::zs,x,h=>by
    by_cases e:z=x
    ·subst e;simp[oH,fP,vP]
    ·have ih:=Ju f (zs:=zs) (x:=x) ((List.mem_cons.mp h).resolve_left fun z'=>e z'.symm);have:(Sum.inr z:Key)≠Sum.inr x:=fun z'=>e (Sum.inr.inj z');simpa [oH,fP,vP,this] using ih
theorem WM {H:Hp} {f:Str→V} {g:Str→PyData}:∀{zs:List Str},(∀x∈zs,LV H (f x) (g x))→Qk H (oH zs f) (zs.map fun x=>(.str x,g x))
  | [],_=>.nil
  | z::zs,h=>by
    have ih:=WM (H:=H) (f:=f) (g:=g) (zs:=zs) fun x hx=>h x (List.mem_cons_of_mem _ hx);have h0:=h z List.mem_cons_self;show Qk H ((z,f z)::oH zs f) ((.str z,g z)::_);generalize f z=v at h0 ⊢;generalize g z=d at h0 ⊢;cases h0 with
    | leaf h0=>exact .leaf h0 ih
    | lst e n=>exact .lst e n ih
    | tup e=>exact .tup e ih
theorem Dr {H:Hp} {f:Str→V} {g:Str→PyData} {zs:List Str} {b:Addr} (e:H b=some (.dK (fP (oH zs f)))) (hl:zs.length≤20) (h:∀x∈zs,nameB x=true∧LV H (f x) (g x)∧oF 3 100 (g x)):Wz H (.ref b) (.dict (zs.map fun x=>(.str x,g x))):=by
  have sm:oF 4 20000 (.dict (zs.map fun x=>(.str x,g x))):=V0 (k:=3) (n:=100) (fun e he=>by
    obtain⟨x,hx,rfl⟩:=List.mem_map.mp he;exact⟨(Ol (h x hx).1).1,(h x hx).2.2⟩) (by rw[List.length_map];omega)
  exact⟨.inr ⟨b,_,_,rfl,rfl,WM fun x hx=>(h x hx).2.1,e⟩,sm.sh,Nat.le_trans sm.dp (by decide),Nat.le_trans sm.ln (by decide)⟩
theorem Jv {H:Hp} {f:Str→V} {zs xs:List Str} {b:Addr} (e:H b=some (.dK (fP (oH zs f)))) (hl:zs.length≤20) (hn:∀x∈zs,nameB x=true) (h:zs.length≠xs.length∨∃z∈zs,z∉xs):Ls H (.ref b) xs:=by
  have kl:(oH zs f).length=zs.length:=by simp[oH]
  refine .inl ⟨b,_,rfl,e,by omega,fun e he=>?_,?_⟩
  ·obtain⟨x,hx,rfl⟩:=List.mem_map.mp he;exact hn x hx
  · rcases h with h | ⟨z,hz,h⟩
    ·exact .inl (by omega)
    ·exact .inr (.inl ⟨_,List.mem_map.mpr ⟨z,hz,rfl⟩,h⟩)
theorem Ly {H:Hp} {f:Str→V} {g:Str→PyData} {zs xs:List Str} {b:Addr} (e:H b=some (.dK (fP (oH zs f)))) (hl:xs.length≤9) (hz:∀x,x∈zs↔x∈xs) (hzl:zs.length≤20) (hn:∀x∈xs,nameB x=true)
    (h:∀x∈xs,LV H (f x) (g x)∧rE (g x)) (hb:(xs.map g).all pK=false∨¬(vM (xs.map g)).Nodup):Ls H (.ref b) xs:=by
  have kl:(oH zs f).length=zs.length:=by simp[oH]
  refine .inl ⟨b,_,rfl,e,by omega,fun e he=>?_,.inr (.inr ⟨fun e he=>?_,f,g,fun x hx=>⟨Ju f ((hz x).mpr hx),((h x hx).1.hid e).thg⟩,⟨?_,fun c hc=>?_⟩,?_⟩)⟩
  ·obtain⟨x,hx,rfl⟩:=List.mem_map.mp he;exact hn x ((hz x).mp hx)
  ·obtain⟨x,hx,rfl⟩:=List.mem_map.mp he;exact(hz x).mp hx
  ·show(xs.map g).length≤50;rw[List.length_map];omega
  ·obtain⟨x,hx,rfl⟩:=List.mem_map.mp hc;exact(h x hx).2
  · show(_ && (_ && ((xs.map g).all pK && decide (vM (xs.map g)).Nodup)))=false
    rcases hb with hb | hb
    ·rw[hb];simp
    ·rw[decide_eq_false hb];simp
structure qbN (H:Hp) (v:V) (d:PyData):Prop where
  lv:LV H v d
  nn:pK d=false
  sh:rE d
  sm:oF 3 100 d
def VE (ψ:Hp→V→Prop) (p:Addr) (t:TE) (σ:St) (H:Hp):Prop:=∀(H1:Hp) (Q:VK),(∃o,H p=some o)→Same H H1→(∀v H2,Same H1 H2→ψ (hid p H2) v→Q v H2)→t σ H1 Q
def Zh (ψ:Hp→V→Prop) (p:Addr) (n:Nat) (t:TA) (σ:St) (H:Hp):Prop:=∀(H1:Hp) (Q:List V→Hp→Prop),(∃o,H p=some o)→Same H H1→(∀vs H2,Same H1 H2→vs.length=n→(∀v∈vs,ψ (hid p H2) v)→Q vs H2)→t σ H1 Q
section
variable {ψ:Hp→V→Prop} {p:Addr} {σ:St} {H:Hp}
theorem Qw:Zh ψ p 0 mZ σ H:=fun H1 Q _ _ q=>q [] H1 (Same.refl _) rfl fun v hv=>absurd hv (by simp)
theorem Lz (mono:∀{H H':Hp} {v:V},Same H H'→ψ H v→ψ H' v) {ta:TE} {tr:TA} {n:Nat} (h1:VE ψ p ta σ H) (h2:Zh ψ p n tr σ H):Zh ψ p (n+1) (dW ta tr) σ H:=fun H1 Q hp s q=>
  h1 H1 _ hp s fun v H2 s2 hv=>h2 H2 _ hp (s.trans s2) fun vs H3 s3 hl hvs=>q _ H3 (s2.trans s3) (by simp[hl]) fun u hu=>by
    rcases List.mem_cons.mp hu with rfl | hu
    ·exact mono (bV s3) hv
    ·exact hvs u hu
theorem Fd {v:V} (h:∀H,ψ H v):VE ψ p (tC v) σ H:=fun H1 Q _ s q=>q _ H1 (Same.refl _) (h _)
theorem WQ (mono:∀{H H':Hp} {v:V},Same H H'→ψ H v→ψ H' v) {t:TA} {n:Nat} (h:Zh ψ p n t σ H) (hp:∃o,H p=some o) (hl:n≤sizeLine) {Q:VK} (q:∀b vs H2,H b=none→Same H H2→vs.length=n→H2 b=some (.lst vs)→(∀v∈vs,ψ (hid p H2) v)→Q (.ref b) H2):big (Bh t) σ H Q:=
  ⟨h H _ hp (Same.refl _) fun vs H2 s2 hn hv=>⟨by rw[hn];exact hl,fun b hb=>q b vs _ (lJ s2 hb) (s2.trans (aq hb)) hn ao fun v h=>mono (bV (aq hb)) (hv v h)⟩⟩
end
theorem WR {ψ:Hp→V→Prop} {p:Addr} {σ:St} {H:Hp} {t:TA} {n:Nat} (h:Zh ψ p n t σ H) (hp:∃o,H p=some o) (hl:n≤sizeLine) {Q:VK} (q:∀b vs H2,H2 b=none→Same H H2→vs.length=n→(∀v∈vs,ψ (hid p H2) v)→Q (.ref b) (upd H2 b (.lst vs))):big (Bh t) σ H Q:=
  ⟨h H _ hp (Same.refl _) fun vs H2 s2 hn hv=>⟨by rw[hn];exact hl,fun b hb=>q b vs _ hb s2 hn hv⟩⟩
theorem qf6 {H H':Hp} {b p:Addr} (hb:H b=none) (k:∀x u,x≠b→H x=some u→H' x=some u):Same (hid p H) (hid b (hid p H')):=fun x u e=>by
  have hx:x≠b:=fun z=>by rw[z] at e;have:=fB _ _ e;rw[hb] at this;cases this
  unfold hid at e ⊢;split at e
  ·cases e
  ·rename_i hp;rw[if_neg hx,if_neg hp];exact k x u hx e
theorem qbO {H H':Hp} {b p:Addr} (k:∀x u,x≠b→H x=some u→H' x=some u):Same (hid b (hid p H)) (hid b (hid p H')):=fun x u e=>by
  unfold hid at e ⊢;split at e
  ·cases e
  · rename_i hb;split at e
    ·cases e
    ·rename_i hp;rw[if_neg hb,if_neg hp];exact k x u hb e
theorem qG {zs:List Str} {h:Str→V} {o:Str} {v:V} (ho:o∉zs):oH zs h++[(o,v)]=oH (zs++[o]) (fun x=>if x=o then v else h x):=by
  unfold oH;rw[List.map_append];congr 1
  ·exact List.map_congr_left fun x hx=>by show(x,h x)=(x,if x=o then v else h x);rw[if_neg fun z=>ho (by rw[← z];exact hx)]
  ·simp
theorem wV {zs:List Str} {o:Str} (nd:zs.Nodup) (ho:o∉zs):(zs++[o]).Nodup:=List.nodup_append.mpr ⟨nd,by simp,fun a ha b hb=>by rw[List.mem_singleton] at hb;exact fun z=>ho (by rw[← hb,← z];exact ha)⟩
def rF (H:Hp) (v:V):Prop:=∃d,qbN H v d
theorem rF.mono {H H':Hp} {v:V} (s:Same H H') (h:rF H v):rF H' v:=by
  obtain⟨d,h⟩:=h;exact⟨d,h.lv.same s,h.nn,h.sh,h.sm⟩
theorem xY {v:V} {d:PyData} (l:Lf v d) (hn:pK d=false:=by decide+kernel) (hs:rE d) (hm:oF 3 100 d:=by exact lit _):∀H,rF H v:=fun H=>⟨d,.leaf l,hn,hs,hm⟩
theorem qbP {s:String} (h:(Str.ofString s).length≤10:=by decide+kernel):rE (.str (Str.ofString s)):=fun y e=>by
  cases e;have Y8:60≤sizeLine:=by decide
  omega
theorem Jw (s:String) (hn:nameB (Str.ofString s)=false:=by decide+kernel) (hl:(Str.ofString s).length≤10:=by decide+kernel) (hm:oF 3 100 (.str (Str.ofString s)):=by exact lit _):∀H,rF H (.str (Str.ofString s)):=xY (.str _) hn (qbP hl) hm
theorem od0:∀H,rF H (.str (Str.ofString "")):=Jw ""
theorem od1:∀H,rF H (.str (Str.ofString "A")):=Jw "A"
theorem od2:∀H,rF H (.str (Str.ofString "abcde")):=Jw "abcde"
theorem od3:∀H,rF H (.str (Str.ofString "a1")):=Jw "a1"
theorem od4:∀H,rF H .non:=xY .non rfl (fun x e=>by cases e)
theorem od5:∀H,rF H (.int 3):=xY (.int 3) rfl (fun x e=>by cases e)
theorem od6:∀H,rF H (.bl true):=xY (.bl true) rfl (fun x e=>by cases e)
def oJ (xs:List Str) (H:Hp) (v:V):Prop:=Ls H v xs∧∃dd,Wz H v dd
theorem Ls.same {H H':Hp} {v:V} {xs:List Str} (s:Same H H') (h:Ls H v xs):Ls H' v xs:=by
  rcases h with⟨a,ks,rfl,h1,h2,h3,h4⟩ | ⟨d,h1,h2⟩
  ·exact .inl ⟨a,ks,rfl,s _ _ h1,h2,h3,h4.same s⟩
  ·exact .inr ⟨d,bC.same s d v h1,h2⟩
theorem oJ.mono {xs:List Str} {H H':Hp} {v:V} (s:Same H H') (h:oJ xs H v):oJ xs H' v:=by
  obtain⟨h1,dd,h2⟩:=h;exact⟨h1.same s,dd,h2.sh.same s,h2.ok,h2.dp,h2.ln⟩
theorem Jx {xs:List Str} {v:V} {d:PyData} (l:Lf v d) (hm:oF 3 100 d:=by exact lit _):∀H,oJ xs H v:=fun H=>by
  refine⟨.inr ⟨d,(LV.leaf l).thg,?_⟩,d,?_,hm.sh,Nat.le_trans hm.dp (by decide),Nat.le_trans hm.ln (by decide)⟩
  ·cases l <;> simp[RW] <;> decide+kernel
  ·refine Jq ?_ (.inl ?_) <;> cases l <;> simp[cL,PyData.hasDict]
theorem Zi {xs:List Str} {H:Hp} {b:Addr} (hX:wu xs) (e:H b=some (.lst (xs.map V.str))):oJ xs H (.ref b):=by
  have l9:=hX.len;have sm:oF 4 2000 (.list (xs.map PyData.str)):=oF.list (k:=3) (n:=100) (fun c hc=>by
    obtain⟨x,hx,rfl⟩:=List.mem_map.mp hc;exact(Ol (hX.nm x hx)).1) (by rw[List.length_map];omega)
  have ta:∀l:List Str,aU H (l.map PyData.str) (l.map V.str):=fun l=>by
    induction l with
    | nil=>simp[aU]
    | cons x l ih=>simp only[List.map_cons,aU];exact⟨_,_,rfl,by simp[cL],ih⟩
  have nd:∀l:List Str,PyData.hasDictAll (l.map PyData.str)=false:=fun l=>by
    induction l with
    | nil=>rfl
    | cons x l ih=>simp[PyData.hasDictAll,PyData.hasDict,ih]
  have th:cL H (.list (xs.map PyData.str)) (.ref b):=by simp only[cL];exact⟨b,_,rfl,e,ta xs⟩
  exact⟨.inr ⟨_,WD _ _ th,by first | (simp[RW];done) | (simp[RW];decide+kernel)⟩,_,Jq th (.inl (by simp only[PyData.hasDict];exact nd xs)),sm.sh,Nat.le_trans sm.dp (by decide),Nat.le_trans sm.ln (by decide)⟩
theorem Om {H0 H:Hp} {tv:List V} {ks:List (Str×V)} (h:NQ H0 H tv (fP ks)):vI H tv ks:=by
  refine⟨by rw[h.1];simp[fP],fun i e he=>?_⟩;obtain⟨t,h1,_,h2⟩:=h.2 i (Sum.inr e.1) e.2 (by unfold fP;rw[List.getElem?_map,he];rfl);exact⟨t,h1,h2⟩
theorem yW {K:W.Frag} {σ:St} {H:Hp} {L:Addr} {ks:List (Str×V)} {x:Str} {v:V} {Q:VK} {i:Nat} {tx tv:TE} (hi:σ[i]? = some (some (.ref L))) (hL:H L=some (.dK (fP ks)))
    (hx:∀H1 Q,Same H H1→Q (.str x) H1→tx σ H1 Q) (hv:∀H1 Q,Same H H1→Q v H1→tv σ H1 Q) (hl:ks.length+1≤sizeLine) (nd:((ks++[(x,v)]).map (·.1)).Nodup)
    (q:∀D H',H D=none→Same H H'→H' D=some (.dK (fP (ks++[(x,v)])))→Q (.ref D) H'):XM (fDP K) (dW (Mj HN (tLI (fVar i)) (Bh (dW (QZ (dW tx (dW tv mZ))) mZ))) mZ) σ H Q:=by
  refine getSt.of hi ⟨_,.inl hL,fun l tvs H1 hl0 el it s1=>?_⟩;refine hx H1 _ s1 (hv H1 _ s1 ⟨show 2≤sizeLine by decide,fun t ht=>?_⟩);have s2:Same H1 (upd H1 t (.tup [.str x,v])):=aq ht;have e2:upd H1 t (.tup [.str x,v]) t=some (.tup [.str x,v]):=ao;generalize upd H1 t (.tup [.str x,v])=H2 at s2 e2 ⊢;refine⟨show 1≤sizeLine by decide,fun b hb=>?_⟩;have s3:Same H2 (upd H2 b (.lst [.ref t])):=aq hb;have e3:upd H2 b (.lst [.ref t]) b=some (.lst [.ref t]):=ao;generalize upd H2 b (.lst [.ref t])=H3 at s3 e3 ⊢;have pl:=Om it;refine⟨tvs,(s2.trans s3) _ _ el,_,e3,by rw[pl.1];exact hl,fun c hc=>?_⟩;have s4:Same H3 (upd H3 c (.lst (tvs++[.ref t]))):=aq hc;have e4:upd H3 c (.lst (tvs++[.ref t])) c=some (.lst (tvs++[.ref t])):=ao;generalize upd H3 c (.lst (tvs++[.ref t]))=H4 at s4 e4 ⊢;have S:=s1.trans (s2.trans (s3.trans s4));refine⟨_,bA.of e4,_,pl.snoc (fun b ys e=>(s2.trans (s3.trans s4)) _ _ e) ((s3.trans s4) _ _ e2),nd,fun D hD=>?_⟩;exact q D _ (lJ S hD) (S.trans (aq hD)) ao
theorem mW {p:Addr} {σ:St} {H:Hp} {ta:TE} {tr:TA} {n:Nat} (h1:VE rF p ta σ H) (h2:Zh rF p n tr σ H):Zh rF p (n+1) (dW ta tr) σ H:=Lz (ψ:=rF) (fun s h=>rF.mono s h) h1 h2
theorem u0 {xs:List Str} {p:Addr} {σ:St} {H:Hp} {ta:TE} {tr:TA} {n:Nat} (h1:VE (oJ xs) p ta σ H) (h2:Zh (oJ xs) p n tr σ H):Zh (oJ xs) p (n+1) (dW ta tr) σ H:=Lz (ψ:=oJ xs) (fun s h=>oJ.mono s h) h1 h2
def nq (o x:Str):Bool:=!decide (x=o)
theorem LC {o:Str}:∀{xs:List Str},xs.Nodup→o∈xs→(xs.filter (nq o)).length+1=xs.length
  | [],_,h=>absurd h (by simp)
  | a::xs,nd,h=>by
    have nd':=List.nodup_cons.mp nd
    by_cases e:a=o
    · have all:xs.filter (nq o)=xs:=List.filter_eq_self.mpr fun x hx=>by
        have:x≠o:=fun z=>nd'.1 (by rw[e,← z];exact hx);simp[nq,this]
      rw[List.filter_cons_of_neg (by simp[nq,e]),all];rfl
    ·rw[List.filter_cons_of_pos (by simp[nq,e]),List.length_cons,List.length_cons,LC nd'.2 ((List.mem_cons.mp h).resolve_left fun z=>e z.symm)]
theorem WT {α β:Type} (f:α→β):∀l:List α,l.zip (l.map f)=l.map fun x=>(x,f x)
  | []=>rfl
  | a::l=>by simp[WT f l]
theorem qbQ {xs ys:List Str} {h:Str→V} (hl:ys.length=xs.length) (nd:xs.Nodup) (hh:∀x,h x = .str (gM xs ys x)):Ay xs ys=fP (oH xs h):=by
  have e:=WT (fun x=>V.str (gM xs ys x)) xs;have r:(xs.map (gM xs ys)).map V.str=ys.map V.str:=by rw[uE hl nd]
  rw[List.map_map] at r;rw[show xs.map (fun x=>V.str (gM xs ys x))=ys.map V.str from r] at e;unfold Ay oH;rw[e];congr 1;exact List.map_congr_left fun x _=>by rw[hh]
def Jy:Sp:=fun vs H Q _=>∃(p n d:Addr) (xs ys:List Str),vs=[.ref p,.ref n,.ref d]∧jj H p∧n≠p∧H n=some (.lst (xs.map V.str))∧wu xs∧d≠p∧H d=some (.dK (Ay xs ys))∧ys.length=xs.length∧wu ys∧
  ∀(v:V) (dd:PyData) (H':Hp),Ls (hid p H') v xs→Wz (hid p H') v dd→jj H' p→But p H H'→Q v H'
theorem Jz (T:Txt K mg a):bZ P w K mg base lH 2 a.fV a.mR ["_law_pot_here", "_law_names_here", "_law_more"] Jy:=by
  refine T.uo.sX ig (fun vs H Q E h=>?_) (fun cdv A outer s H vs Q E hr h=>?_)
  ·obtain⟨p,n,d,xs,ys,rfl,_⟩:=h;rfl
  · obtain⟨p,n,d,xs,ys,rfl,hp,np,hn,hX,dp,hd,hyl,hY,q⟩:=h;refine⟨_,(@Kv.out _ _ _ (dD (Am (i:=3) ig.nd rfl (Or.inl rfl) (qbn (dO (K:=K) rfl) (Qe (Al (bw bL (bw bL (bw bL (bw bL (bw Bd (bw aP (bw iG (bw (YX (aj bL ak)) (bw (eX ak) Ak))))))))))) (Z5.mk (PE.eqv (aO (dj (K:=K) T) (hr.mono (by decide)) rfl T.fH T.eO.kp T.fG .nil aX (aj (aJ 0) (aj aP ak))) (aM _ _ _))) (fun _ _=>rfl)))
      (dD (VJ.mk (bJ (i:=4) ig.nd rfl (Or.inr rfl) (cW (dO (K:=K) rfl) (aJ 1) (PE.eqv (aO (dj (K:=K) T) (hr.mono (by decide)) rfl T.fH T.eO.kp T.fG .nil aX (aj (aJ 0) (aj (aH (bU (K:=K) rfl) rfl T.nm.len PySem.boot_len (aj (aJ 1) ak)) ak))) (aM _ _ _)) (fun _ _=>rfl))))
      (dD (VJ.mk (bJ (i:=5) ig.nd rfl (Or.inl rfl) (bY (yI (K:=K) rfl rfl) rfl T.LR.dict eF (aj (cg rfl rfl (show aR (aB jE) _ ["_law_pot_here", "_law_names_here", "_law_more", "_law_odd", "_law_one", "_law_left", "_law_strange", "_law_some"] ["_law_name"] [2,4] ["_law_name", "_law_more", "_law_one"] from⟨rfl,by decide+kernel,by decide+kernel,rfl,by decide+kernel,by decide+kernel⟩) rfl (PI.eqv (dG (K:=K) rfl (aJ 1)) (cP _ _)) (fun C s H fp pn=>(aY (i:=0) (show(["_law_name", "_law_more", "_law_one"]:List Str).Nodup by decide+kernel) rfl (Or.inl rfl))) (fun C s H fp pn=>(Ab (bR m7 (aJ 0) (aJ 2) (bW _)))) (fun C s H fp pn=>(eX (aj (aJ 0) (aj (PE.eqv (g_ (ql hr) (aJ 1) (aJ 0) (fun _ _=>rfl)) (fu _ _)) ak))))) ak))))
      (dD (VJ.mk (bJ (i:=6) ig.nd rfl (Or.inl rfl) (cW (dO (K:=K) rfl) (cg rfl rfl (show aR (aB jE) _ ["_law_pot_here", "_law_names_here", "_law_more", "_law_odd", "_law_one", "_law_left", "_law_strange", "_law_some"] ["_law_letter"] [1] ["_law_letter", "_law_names_here"] from⟨rfl,by decide+kernel,by decide+kernel,rfl,by decide+kernel,by decide+kernel⟩) rfl (PI.eqv (MN bL) (Bx _)) (fun C s H fp pn=>(aY (i:=0) (show(["_law_letter", "_law_names_here"]:List Str).Nodup by decide+kernel) rfl (Or.inl rfl))) (fun C s H fp pn=>(Ab (bR (Yx (K:=K) rfl) (aJ 0) (aJ 1) rfl))) (fun C s H fp pn=>(aJ 0))) aP (fun _ _=>rfl))))
      (dD (Am (i:=7) ig.nd rfl (Or.inl rfl) (Qe (Al (bw (aJ 5) (bw (bY (yI (K:=K) rfl rfl) rfl T.LR.dict eF (aj (bx cX (qW rfl rfl T.nm.list (aJ 5)) (cC (aj (eX (aj (aJ 4) (aj (aJ 3) ak))) ak))) ak)) (bw (bY (BJ (K:=K) rfl) rfl T.nm.list boot_list (aj (aJ 1) ak)) (bw Bd (bw bL (bw aP Ak)))))))))
      (Kv.mk (aF (jl (pQ (K:=K) rfl PySem.F.plainAttrs_list PySem.F.slot_list_append PySem.F.type_list_append ju (aJ 7) (aj (bY (yI (K:=K) rfl rfl) rfl T.LR.dict eF (aj (bx cX (qW rfl rfl T.nm.list (aJ 5)) (cC (aj (eX (aj (aJ 6) (aj (PE.eqv (g_ (ql hr) (aJ 2) (aJ 4) (fun _ _=>rfl)) (fu _ _)) ak))) ak))) ak)) ak)))
      (aF (jl (pQ (K:=K) rfl PySem.F.plainAttrs_list PySem.F.slot_list_append PySem.F.type_list_append ju (aJ 7) (aj (bY (yI (K:=K) rfl rfl) rfl T.LR.dict eF (aj (bx cX (qW rfl rfl T.nm.list (aJ 2)) (cC (aj (eX (aj (aJ 6) (aj bL ak))) ak))) ak)) ak)))
      (aF (cI (bR yF (aH (bU (K:=K) rfl) rfl T.nm.len PySem.boot_len (aj (aJ 1) ak)) aP (bW _)) (aK (jl (pQ (K:=K) rfl PySem.F.plainAttrs_list PySem.F.slot_list_append PySem.F.type_list_append ju (aJ 7) (aj (bY (yI (K:=K) rfl rfl) rfl T.LR.dict eF (aj (cg rfl rfl (show aR (aB jE) _ ["_law_pot_here", "_law_names_here", "_law_more", "_law_odd", "_law_one", "_law_left", "_law_strange", "_law_some"] ["_law_name"] [2,4] ["_law_name", "_law_more", "_law_one"] from⟨rfl,by decide+kernel,by decide+kernel,rfl,by decide+kernel,by decide+kernel⟩) rfl (PI.eqv (dG (K:=K) rfl (aJ 1)) (cP _ _)) (fun C s H fp pn=>(aY (i:=0) (show(["_law_name", "_law_more", "_law_one"]:List Str).Nodup by decide+kernel) rfl (Or.inl rfl))) (fun C s H fp pn=>bO) (fun C s H fp pn=>(eX (aj (aJ 0) (aj (PE.eqv (g_ (ql hr) (aJ 1) (aJ 2) (fun _ _=>rfl)) (fu _ _)) ak))))) ak)) ak)))) bF)
      (aK (bf (cW (dO (K:=K) rfl) (aJ 7) (PE.eqv (aO (dj (K:=K) T) (hr.mono (by decide)) rfl T.fH T.eO.kp T.fG .nil aX (aj (aJ 0) (aj (aH (bU (K:=K) rfl) rfl T.nm.len PySem.boot_len (aj (aJ 7) ak)) ak))) (aM _ _ _)) (fun _ _=>rfl)))))))))))))),?_⟩
    have Y8:60≤sizeLine:=by decide
    have l9:=hX.len
    let h:Str→V:=fun x=>.str (gM xs ys x)
    have hh:∀x,h x = .str (gM xs ys x):=fun _=>rfl
    clear_value h
    simp -dsimp[au,stC,-Bool.exists_bool,-List.map_take,-Prod.forall,-Prod.exists];generalize h7:XM (fDP K) (dW (Mj HN (tLI (fVar 5)) (Bh (dW (QZ (dW (fVar 6) (dW (Vh (fVar 2) (fVar 4)) mZ))) mZ))) mZ)=t7;generalize h8:XM (fDP K) (dW (Mj HN (tLI (fVar 2)) (Bh (dW (QZ (dW (fVar 6) (dW (tC (V.str (Str.ofString "zzzz"))) mZ))) mZ))) mZ)=t8;refine WQ (ψ:=rF) (fun s h=>rF.mono s h) (p:=p) (n:=9) (
      mW (Fd od0) <| mW (Fd od1) <| mW (Fd od2) <| mW (Fd od3) <| mW (Fd od4) <| mW (Fd od5) <| mW (Fd od6) <|
      mW (fun H1 Q hpe s q=>⟨show 1≤sizeLine by decide,fun t ht hs=>q _ _ (aq ht) ⟨.list ([("a" : Str)].map PyData.str),.lst (cj (fY hpe s ht) ao) hs,rfl,(fun x e=>by cases e),lit _⟩⟩) <|
      mW (fun H1 Q hpe s q=>⟨show 0≤sizeLine by decide,fun t ht=>q _ _ (aq ht) ⟨.tuple [],.tup (cj (fY hpe s ht) ao),rfl,(fun x e=>by cases e),lit _⟩⟩) Qw) hp.ex (by decide) fun b vs H1 hb s1 hn1 e1 a1=>?_
    have bp:b≠p:=fY hp.ex (Same.refl _) hb;refine⟨p,9,rfl,hp.sS s1,by decide,by decide,fun k H2 hk0 hk1 hP2 hB2=>?_⟩;obtain⟨ov,hov,hat⟩:=Ao hn1 hk0 hk1;obtain⟨od,ho⟩:=(a1 ov hov).mono (uR hB2);simp -dsimp[au,stC,-Bool.exists_bool,-List.map_take,-Prod.forall,-Prod.exists];refine⟨_,.inl (bA.of (hB2 _ _ bp e1)),ov,hat,?_⟩;have n2:=hB2 _ _ np (s1 _ _ hn);have d2:=hB2 _ _ dp (s1 _ _ hd);have B2:But p H H2:=(But.of s1).trans hB2;refine⟨_,.inl (bA.of n2),p,xs.length,by rw[List.length_map],hP2,by omega,by omega,fun j H3 hj0 hj1 K5 hB3=>?_⟩;obtain⟨vo,hvo,qf7⟩:=Ao (vs:=xs.map V.str) (n:=xs.length) (by rw[List.length_map]) hj0 hj1;obtain⟨one,hone,rfl⟩:=List.mem_map.mp hvo;have n3:=hB3 _ _ np n2;have d3:=hB3 _ _ dp d2;have B3:=B2.trans hB3;have ho3:qbN (hid p H3) ov od:=⟨ho.lv.same (uR hB3),ho.nn,ho.sh,ho.sm⟩;simp -dsimp[au,stC,-Bool.exists_bool,-List.map_take,-Prod.forall,-Prod.exists];refine⟨_,.inl (bA.of n3),_,qf7,?_⟩;have hg:∀{H6:Hp},Same H3 H6→∀x∈xs,Ed H6 d (V.str x) (some (h x)):=fun s6 x hx=>.inl ⟨_,Sum.inr x,.inl (s6 _ _ d3),rfl,by rw[hh];exact(I_ hyl hx).symm⟩;refine⟨⟨_,bA.of n3⟩,fun D hD=>Rk (xs.map V.str) (fun j σ H'=>(∃o',σ=[o',some (.ref d),some (.str one)])∧(∃us,H' D=some (.lst us)∧vI H' us (oH ((xs.take j).filter (nq one)) h))∧Same H3 H') ⟨⟨_,rfl⟩,⟨[],ao,rfl,fun i e he=>by simp[oH] at he⟩,aq hD⟩ (fun j σ H' _ h=>bA.of (h.2.2 _ _ n3)) ?_ ?_⟩
    · rintro i v σ H4 hi ⟨⟨o',rfl⟩,⟨us,wI,pl⟩,s4⟩;obtain⟨x,hx,rfl⟩:=qN hi;have Xj:=List.mem_of_getElem? hx;have hi2:=(List.getElem?_eq_some_iff.mp hx).1;have hfl:((xs.take i).filter (nq one)).length≤(xs.take i).length:=List.length_filter_le _ _;rw[List.length_take] at hfl;have ul:=pl.1;rw[oH,List.length_map] at ul;rw[take_one hx,List.filter_append];simp -dsimp[au,stC,-Bool.exists_bool,-List.map_take,-Prod.forall,-Prod.exists]
      by_cases hq:x=one
      ·refine⟨false,by simp[hq],iI.neg rfl ⟨⟨_,rfl⟩,⟨us,wI,?_⟩,s4⟩⟩;rw[show[x].filter (nq one)=[] by simp[nq,hq],List.append_nil];exact pl
      · refine⟨true,by simp[hq],iI.pos rfl ?_⟩;rw[show[x].filter (nq one)=[x] by simp[nq,hq]];simp -dsimp[au,stC,-Bool.exists_bool,-List.map_take,-Prod.forall,-Prod.exists];refine⟨_,hg s4 x Xj,fun t ht=>?_⟩;have s5:Same H4 (upd H4 t (.tup [.str x,h x])):=aq ht;have e5:upd H4 t (.tup [.str x,h x]) t=some (.tup [.str x,h x]):=ao;have tD:t≠D:=fun z=>by rw[z,wI] at ht;cases ht
        generalize upd H4 t (.tup [.str x,h x])=H5 at s5 e5 ⊢;refine⟨_,s5 _ _ wI,by omega,⟨_,ao,?_⟩,aZ (s4.trans s5) hD⟩;rw[show oH ((xs.take i).filter (nq one)++[x]) h=oH ((xs.take i).filter (nq one)) h++[(x,h x)] by simp[oH]];refine pl.snoc (fun b ys e=>?_) (by rw[aG tD];exact e5);rw[aG (fun z=>by rw[z,wI] at e;cases e)];exact s5 _ _ e
    · rintro σ H4 ⟨⟨o',rfl⟩,⟨us,wI,pl⟩,s4⟩;rw[List.length_map,List.take_length] at pl;generalize hzs:xs.filter (nq one)=zs at pl;have zm:∀x,x∈zs↔x∈xs∧x≠one:=fun x=>by rw[← hzs,List.mem_filter];simp[nq]
      have znd:zs.Nodup:=by rw[← hzs];exact List.Pairwise.filter _ hX.nd
      have zl:zs.length+1=xs.length:=by rw[← hzs];exact LC hX.nd hone
      simp -dsimp[au,stC,-Bool.exists_bool,-List.map_take,-Prod.forall,-Prod.exists];refine⟨_,bA.of wI,_,pl,by rw[uG];exact znd,fun L hL=>?_⟩;have s5:Same H4 (upd H4 L (.dK (fP (oH zs h)))):=aq hL;have e5:upd H4 L (.dK (fP (oH zs h))) L=some (.dK (fP (oH zs h))):=ao;generalize upd H4 L (.dK (fP (oH zs h)))=H5 at s5 e5 ⊢;have S5:=s4.trans s5;have n5:=S5 _ _ n3;have d5:=S5 _ _ d3;refine fun D hD=>cmS (fun i σ H'=>(∃o',σ=[o',some (.ref n)])∧H' D=some (.lst (((jO.take i).filter fun x=>!decide (x∈xs)).map V.str))∧Same H5 H') ⟨⟨_,rfl⟩,ao,aq hD⟩ ?_ ?_
      · rintro i c σ H6 hi ⟨⟨o',rfl⟩,yS,s6⟩;have hc:jO[i]? = some ⟨#[c]⟩:=by
          unfold jO;rw[List.getElem?_map,Array.getElem?_toList,hi];rfl
        have hi2:i<26:=by
          have:=(List.getElem?_eq_some_iff.mp hc).1
          rwa [Ck] at this
        have hfl:((jO.take i).filter fun x=>!decide (x∈xs)).length≤(jO.take i).length:=List.length_filter_le _ _;rw[List.length_take] at hfl;rw[take_one hc,List.filter_append];simp -dsimp[au,stC,-Bool.exists_bool,-List.map_take,-Prod.forall,-Prod.exists];refine⟨_,.inl (bA.of (s6 _ _ n5)),rfl,List.all_eq_true.mp (uP _),?_⟩;rw[oN]
        by_cases hx:(⟨#[c]⟩:Str)∈xs
        ·refine⟨false,by simp[hx],iI.neg rfl ?_⟩;simp -dsimp[au,stC,-Bool.exists_bool,-List.map_take,-Prod.forall,-Prod.exists];refine⟨?_,s6⟩;rw[yS];simp[hx]
        ·refine⟨true,by simp[hx],iI.pos rfl ?_⟩;simp -dsimp[au,stC,-Bool.exists_bool,-List.map_take,-Prod.forall,-Prod.exists];refine⟨_,yS,by simp;omega,?_,aZ s6 hD⟩;rw[ao];simp[hx]
      · rintro σ H6 ⟨⟨o',rfl⟩,yS,s6⟩;rw[show(Str.ofString "abcdefghijklmnopqrstuvwxyz").cps.size=26 from rfl,show jO.take 26=jO from rfl] at yS;obtain⟨sg,rest,hsg⟩:∃sg rest,(jO.filter fun x=>!decide (x∈xs))=sg::rest:=by
          have h1:=YH (l:=jO) (xs:=xs) RG;rw[Ck] at h1;cases e:(jO.filter fun x=>!decide (x∈xs)) with
          | nil=>rw[e] at h1;simp at h1;omega
          | cons a b=>exact⟨a,b,rfl⟩
        have hsm:sg∈jO.filter fun x=>!decide (x∈xs):=by rw[hsg];exact List.mem_cons_self
        have sgn:=qbM sg (List.mem_filter.mp hsm).1;have sgx:sg∉xs:=by simpa using (List.mem_filter.mp hsm).2
        rw[hsg] at yS;simp -dsimp[au,stC,-Bool.exists_bool,-List.map_take,-Prod.forall,-Prod.exists];refine⟨_,.inl (bA.of yS),.str sg,cJ (show(List.map V.str (sg::rest))[0]? = some (V.str sg) from rfl),?_⟩;have P6:jj H6 p:=K5.sS (S5.trans s6);have L6:=s6 _ _ e5;have n6:=s6 _ _ n5;have d6:=s6 _ _ d5;have Lp:L≠p:=fY K5.ex s4 hL;have ho6:qbN (hid p H6) ov od:=⟨ho3.lv.same (bV (S5.trans s6)),ho3.nn,ho3.sh,ho3.sm⟩;have good:∀{H':Hp} (x:Str),x∈xs→LV H' (h x) (.str (gM xs ys x))∧oF 3 100 (.str (gM xs ys x))∧rE (.str (gM xs ys x)):=fun x hx=>⟨by rw[hh];exact .leaf (.str _),Ol (hY.nm _ (Ja hyl hX.nd hx))⟩;have znm:∀x∈zs,nameB x=true:=fun x hx=>hX.nm x ((zm x).mp hx).1;have onz:one∉zs:=fun z=>((zm one).mp z).2 rfl;have sgz:sg∉zs:=fun z=>sgx ((zm sg).mp z).1;have i1:VE (oJ xs) p (fVar 5) [some (.ref p),some (.ref n),some (.ref d),some ov,some (.str one),some (.ref L),some (.str sg),none] H6:=fun H1 Q hpe s q=>by
          refine getSt.of rfl (q _ H1 (Same.refl _) ⟨Jv (cj Lp (s _ _ L6)) (by omega) znm (.inl (by omega)),_,Dr (g:=fun x=>.str (gM xs ys x)) (cj Lp (s _ _ L6)) (by omega) fun x hx=>⟨znm x hx,(good (H':=hid p H1) x ((zm x).mp hx).1).1,(good (H':=hid p H1) x ((zm x).mp hx).1).2.1⟩⟩)
        have i2:VE (oJ xs) p (XM (fDP K) (dW (Mj HN (tLI (fVar 5)) (Bh (dW (QZ (dW (fVar 4) (dW (fVar 3) mZ))) mZ))) mZ)) [some (.ref p),some (.ref n),some (.ref d),some ov,some (.str one),some (.ref L),some (.str sg),none] H6:=fun H1 Q hpe s q=>by
          refine yW (i:=5) (x:=one) (v:=ov) rfl (s _ _ L6) (fun H1 Q _ q=>getSt.of rfl q) (fun H1 Q _ q=>getSt.of rfl q) (by rw[oH,List.length_map];omega) (by rw[qG onz,uG];exact wV znd onz) fun D H' hD sD eD=>q _ H' sD ?_;rw[qG onz] at eD;have Dp:D≠p:=fY (hpe.imp fun o e=>s _ _ e) (Same.refl _) hD;have hz:∀x,x∈zs++[one]↔x∈xs:=fun x=>by
            rw[List.mem_append,List.mem_singleton,zm];exact⟨fun h=>h.elim (·.1) fun e=>by rw[e];exact hone,fun h=>by by_cases e:x=one;exact .inr e;exact .inl ⟨h,e⟩⟩
          have lv:∀x∈xs,LV (hid p H') (if x=one then ov else h x) (if x=one then od else .str (gM xs ys x))∧oF 3 100 (if x=one then od else .str (gM xs ys x))∧rE (if x=one then od else .str (gM xs ys x)):=fun x hx=>by
            by_cases e:x=one
            ·rw[if_pos e,if_pos e];exact⟨ho6.lv.same (bV (s.trans sD)),ho6.sm,ho6.sh⟩
            ·rw[if_neg e,if_neg e];exact good x hx
          refine⟨Ly (g:=fun x=>if x=one then od else .str (gM xs ys x)) (cj Dp eD) l9.2 hz (by rw[List.length_append];simp;omega) hX.nm (fun x hx=>⟨(lv x hx).1,(lv x hx).2.2⟩) (.inl ?_),_,Dr (g:=fun x=>if x=one then od else .str (gM xs ys x)) (cj Dp eD) (by rw[List.length_append];simp;omega) fun x hx=>⟨hX.nm x ((hz x).mp hx),(lv x ((hz x).mp hx)).1,(lv x ((hz x).mp hx)).2.1⟩⟩
          rw[List.all_eq_false];exact⟨od,List.mem_map.mpr ⟨one,hone,if_pos rfl⟩,by rw[ho6.nn];simp⟩
        have i3:VE (oJ xs) p (XM (Ah K) (dW (fVar 1) mZ)) [some (.ref p),some (.ref n),some (.ref d),some ov,some (.str one),some (.ref L),some (.str sg),none] H6:=fun H1 Q hpe s q=>by
          simp -dsimp[au,stC,-Bool.exists_bool,-List.map_take,-Prod.forall,-Prod.exists];refine⟨_,.inl (bA.of (s _ _ n6)),fun b hb=>q _ _ (aq hb) ?_⟩;exact Zi hX (cj (fY hpe s hb) ao)
        refine WR (ψ:=oJ xs) (p:=p) (n:=6) (u0 i1 <| u0 i2 <| u0 i3 <| u0 (Fd (Jx .non)) <| u0 (Fd (Jx (.str (Str.ofString "a")))) <| u0 (Fd (Jx (.int 3))) Qw) P6.ex (by decide) fun b vs H7 hb s7 hn7 a7=>?_
        have e8:upd H7 b (.lst vs) b=some (.lst vs):=ao;have s8:Same H7 (upd H7 b (.lst vs)):=aq hb;have a8:∀v∈vs,oJ xs (hid b (hid p (upd H7 b (.lst vs)))) v:=fun v hv=>(a7 v hv).mono (qf6 hb fun x u _ e=>s8 x u e);have bp:b≠p:=fY P6.ex s7 hb;generalize upd H7 b (.lst vs)=H8 at e8 s8 a8 ⊢;have S38:=S5.trans (s6.trans (s7.trans s8));generalize hNx:SN (Mj (U4 K) (fVar 7) _) _=Nx;have tail:∀(iH:List V) (H':Hp),H' b=some (.lst iH)→0<iH.length→iH.length≤100→(∀v∈iH,oJ xs (hid b (hid p H')) v)→Same H7 H'→Nx [some (.ref p),some (.ref n),some (.ref d),some ov,some (.str one),some (.ref L),some (.str sg),some (.ref b)] H':=by
          intro iH H' hb' h0 h1 hW S';subst hNx;simp -dsimp[au,stC,-Bool.exists_bool,-List.map_take,-Prod.forall,-Prod.exists];refine⟨_,.inl (bA.of hb'),p,_,rfl,P6.sS (s7.trans S'),by omega,by omega,fun k H2 hk0 hk1 hP2 hB2=>?_⟩;obtain⟨v,hv,ha⟩:=Ao (n:=iH.length) rfl hk0 hk1;obtain⟨b1,dd,b2⟩:=((hW v hv).mono fB).mono (uR hB2);exact⟨_,.inl (bA.of (hB2 _ _ bp hb')),v,ha,q v dd H2 b1 b2 hP2 ((B3.trans (But.of (S5.trans (s6.trans (s7.trans S'))))).trans hB2)⟩
        subst h7 h8;refine⟨.inl ⟨rfl,_,bA.of e8⟩,yW (i:=5) (x:=sg) (v:=h one) rfl (s8 _ _ (s7 _ _ L6)) (fun H1 Q _ q=>getSt.of rfl q) (fun H1 Q s q=>?_) (by rw[oH,List.length_map];omega) (by rw[qG sgz,uG];exact wV znd sgz) fun D H9 hD s9 eD=>?_⟩
        ·simp -dsimp[au,stC,-Bool.exists_bool,-List.map_take,-Prod.forall,-Prod.exists];exact⟨_,hg (S38.trans s) one hone,q⟩
        rw[qG sgz] at eD;have Db:D≠b:=fun z=>by rw[z,e8] at hD;cases hD
        have Dp:D≠p:=fY P6.ex (s7.trans s8) hD;refine⟨_,s9 _ _ e8,by omega,?_⟩;have sA:Same H7 (upd H9 b (.lst (vs++[.ref D]))):=aZ (s8.trans s9) hb;have eA:upd H9 b (.lst (vs++[.ref D])) b=some (.lst (vs++[.ref D])):=ao;have DA:upd H9 b (.lst (vs++[.ref D])) D=some (.dK (fP (oH (zs++[sg]) fun x=>if x=sg then h one else h x))):=by rw[aG Db];exact eD
        have aA:∀v∈vs,oJ xs (hid b (hid p (upd H9 b (.lst (vs++[.ref D]))))) v:=fun v hv=>(a8 v hv).mono (qbO fun x u hx e=>by rw[aG hx];exact s9 _ _ e);generalize upd H9 b (.lst (vs++[.ref D]))=HA at sA eA DA aA ⊢;have bD:oJ xs (hid b (hid p HA)) (.ref D):=by
          have nm:∀x∈zs++[sg],nameB x=true:=fun x hx=>(List.mem_append.mp hx).elim (znm x) fun e=>by rw[List.mem_singleton.mp e];exact sgn
          have hl:(zs++[sg]).length≤20:=by rw[List.length_append];simp;omega
          refine⟨Jv (cj Db (cj Dp DA)) hl nm (.inr ⟨sg,by simp,sgx⟩),_,Dr (g:=fun x=>if x=sg then .str (gM xs ys one) else .str (gM xs ys x)) (cj Db (cj Dp DA)) hl fun x hx=>⟨nm x hx,?_⟩⟩
          by_cases e:x=sg
          ·simp only[if_pos e];exact⟨(good one hone).1,(good (H':=HA) one hone).2.1⟩
          ·simp only[if_neg e];have:=good (H':=hid b (hid p HA)) x ((zm x).mp ((List.mem_append.mp hx).resolve_right fun z=>e (List.mem_singleton.mp z))).1;exact⟨this.1,this.2.1⟩
        have AA:∀v∈vs++[.ref D],oJ xs (hid b (hid p HA)) v:=fun v hv=>(List.mem_append.mp hv).elim (aA v) fun e=>by rw[List.mem_singleton.mp e];exact bD
        have S3A:=S5.trans (s6.trans (s7.trans sA));rw[qbQ hyl hX.nd hh] at d3;refine⟨.inl ⟨rfl,_,bA.of eA⟩,yW (i:=2) (x:=sg) (v:=.str (Str.ofString "zzzz")) rfl (S3A _ _ d3) (fun H1 Q _ q=>getSt.of rfl q) (fun H1 Q s q=>q) (by rw[oH,List.length_map];omega) (by rw[qG sgx,uG];exact wV hX.nd sgx) fun D2 HB hD2 sB eD2=>?_⟩;rw[qG sgx] at eD2;have Db2:D2≠b:=fun z=>by rw[z,eA] at hD2;cases hD2
        have Dp2:D2≠p:=fY P6.ex (s7.trans sA) hD2;refine⟨_,sB _ _ eA,by rw[List.length_append];simp;omega,?_⟩;have sC:Same H7 (upd HB b (.lst (vs++[.ref D]++[.ref D2]))):=aZ (sA.trans sB) hb;have eC:upd HB b (.lst (vs++[.ref D]++[.ref D2])) b=some (.lst (vs++[.ref D]++[.ref D2])):=ao;have DC:upd HB b (.lst (vs++[.ref D]++[.ref D2])) D2=some (.dK (fP (oH (xs++[sg]) fun x=>if x=sg then .str (Str.ofString "zzzz") else h x))):=by rw[aG Db2];exact eD2
        have aC:∀v∈vs++[.ref D],oJ xs (hid b (hid p (upd HB b (.lst (vs++[.ref D]++[.ref D2]))))) v:=fun v hv=>(AA v hv).mono (qbO fun x u hx e=>by rw[aG hx];exact sB _ _ e);generalize upd HB b (.lst (vs++[.ref D]++[.ref D2]))=HC at sC eC DC aC ⊢;have bD2:oJ xs (hid b (hid p HC)) (.ref D2):=by
          have nm:∀x∈xs++[sg],nameB x=true:=fun x hx=>(List.mem_append.mp hx).elim (hX.nm x) fun e=>by rw[List.mem_singleton.mp e];exact sgn
          have hl:(xs++[sg]).length≤20:=by rw[List.length_append];simp;omega
          refine⟨Jv (cj Db2 (cj Dp2 DC)) hl nm (.inl (by rw[List.length_append];simp)),_,Dr (g:=fun x=>if x=sg then .str (Str.ofString "zzzz") else .str (gM xs ys x)) (cj Db2 (cj Dp2 DC)) hl fun x hx=>⟨nm x hx,?_⟩⟩
          by_cases e:x=sg
          ·simp only[if_pos e];exact⟨.leaf (.str _),lit _⟩
          ·simp only[if_neg e];have:=good (H':=hid b (hid p HC)) x ((List.mem_append.mp hx).resolve_right fun z=>e (List.mem_singleton.mp z));exact⟨this.1,this.2.1⟩
        have AC:∀v∈vs++[.ref D]++[.ref D2],oJ xs (hid b (hid p HC)) v:=fun v hv=>(List.mem_append.mp hv).elim (aC v) fun e=>by rw[List.mem_singleton.mp e];exact bD2
        have lC:(vs++[V.ref D]++[V.ref D2]).length=8:=by simp;omega
        have S3C:=S5.trans (s6.trans (s7.trans sC));have nC:=S3C _ _ n3;have dC:=S3C _ _ d3;generalize vs++[V.ref D]++[V.ref D2]=iH at lC AC eC ⊢;refine⟨_,.inl (bA.of nC),?_⟩;rw[List.length_map];refine iI.of (fun h1=>?_) (fun h1=>?_)
        · have two:1<xs.length:=by have:=of_decide_eq_true h1;omega
          simp -dsimp[au,stC,-Bool.exists_bool,-List.map_take,-Prod.forall,-Prod.exists];refine⟨⟨_,bA.of eC⟩,?_⟩;refine⟨⟨_,bA.of nC⟩,fun D3 DY=>Rk (xs.map V.str) (fun j σ H'=>(∃o',σ=[o',some (.ref d),some (.str one)])∧(∃us,H' D3=some (.lst us)∧vI H' us (oH (xs.take j) fun _=>h one))∧Same HC H') ⟨⟨_,rfl⟩,⟨[],ao,rfl,fun i e he=>by simp[oH] at he⟩,aq DY⟩ (fun j σ H' _ h=>bA.of (h.2.2 _ _ nC)) ?_ ?_⟩
          · rintro i v σ H4 hi ⟨⟨o',rfl⟩,⟨us,wI,pl⟩,s4⟩;obtain⟨x,hx,rfl⟩:=qN hi;have hi2:=(List.getElem?_eq_some_iff.mp hx).1;have ul:=pl.1;rw[oH,List.length_map,List.length_take] at ul;rw[take_one hx];simp -dsimp[au,stC,-Bool.exists_bool,-List.map_take,-Prod.forall,-Prod.exists];refine⟨_,.inl ⟨_,Sum.inr one,.inl (s4 _ _ dC),rfl,by rw[Ju h hone]⟩,fun t ht=>?_⟩;have s5:Same H4 (upd H4 t (.tup [.str x,h one])):=aq ht;have e5:upd H4 t (.tup [.str x,h one]) t=some (.tup [.str x,h one]):=ao;have tD:t≠D3:=fun z=>by rw[z,wI] at ht;cases ht
            generalize upd H4 t (.tup [.str x,h one])=H5 at s5 e5 ⊢;refine⟨_,s5 _ _ wI,by omega,⟨_,ao,?_⟩,aZ (s4.trans s5) DY⟩;rw[show oH (xs.take i++[x]) (fun _=>h one)=oH (xs.take i) (fun _=>h one)++[(x,h one)] by simp[oH]];refine pl.snoc (fun b ys e=>?_) (by rw[aG tD];exact e5);rw[aG (fun z=>by rw[z,wI] at e;cases e)];exact s5 _ _ e
          · rintro σ H4 ⟨⟨o',rfl⟩,⟨us,wI,pl⟩,s4⟩;rw[List.length_map,List.take_length] at pl;simp -dsimp[au,stC,-Bool.exists_bool,-List.map_take,-Prod.forall,-Prod.exists];refine⟨_,bA.of wI,_,pl,by rw[uG];exact hX.nd,fun D4 Zj=>?_⟩;have s5:Same H4 (upd H4 D4 (.dK (fP (oH xs fun _=>h one)))):=aq Zj;have e5:upd H4 D4 (.dK (fP (oH xs fun _=>h one))) D4=some (.dK (fP (oH xs fun _=>h one))):=ao;generalize upd H4 D4 (.dK (fP (oH xs fun _=>h one)))=H5 at s5 e5 ⊢;have D4b:D4≠b:=fun z=>by rw[z,s4 _ _ eC] at Zj;cases Zj
            have D4p:D4≠p:=fY P6.ex (s7.trans (sC.trans s4)) Zj;refine⟨_,s5 _ _ (s4 _ _ eC),by omega,tail _ _ ao (by simp) (by simp;omega) (fun v hv=>?_) (aZ (sC.trans (s4.trans s5)) hb)⟩
            rcases List.mem_append.mp hv with hv | hv
            ·exact(AC v hv).mono (qbO fun x u hx e=>by rw[aG hx];exact s5 _ _ (s4 _ _ e))
            · rw[List.mem_singleton] at hv;subst hv;have lv:∀{H':Hp},LV H' (h one) (.str (gM xs ys one)):=(good one hone).1;have sm:=(good (H':=HC) one hone).2;have e6:upd H5 b (.lst (iH++[.ref D4])) D4=some (.dK (fP (oH xs fun _=>h one))):=by rw[aG D4b];exact e5
              refine⟨Ly (g:=fun _=>.str (gM xs ys one)) (cj D4b (cj D4p e6)) l9.2 (fun _=>Iff.rfl) (by omega) hX.nm (fun x hx=>⟨lv,sm.2⟩) (.inr ?_),_,Dr (g:=fun _=>.str (gM xs ys one)) (cj D4b (cj D4p e6)) (by omega) fun x hx=>⟨hX.nm x hx,lv,sm.1⟩⟩
              match xs,two with
              | a::c::r,_=>simp[vM]
        ·simp -dsimp[au,stC,-Bool.exists_bool,-List.map_take,-Prod.forall,-Prod.exists];exact tail iH HC eC (by omega) (by omega) AC sC
theorem cD.qds {C d:Addr} {H H':Hp} {o:Addr} {ks:List (Key×V)} {xs:List Str} {ps:List (Str×Str)} (h:cD C H o xs ps) (hd:H d=some (.dK ks)) (b:∀x u,x≠d→H x=some u→H' x=some u):cD C H' o xs ps:=by
  obtain⟨dx,n,m,tv,h1,h2,h3,h4,h5⟩:=h.ex;have ne:∀{b:Addr} {u:HO},H b=some u→(∀zs,u≠.dK zs)→b≠d:=fun e' k z=>by
    rw[z,hd] at e';exact k _ (Option.some.inj e').symm
  exact⟨⟨dx,n,m,tv,b _ _ (ne h1 (by intro zs z;cases z)) h1,b _ _ (ne h2 (by intro zs z;cases z)) h2,b _ _ (ne h3 (by intro zs z;cases z)) h3,h4.keep (fun c us e'=>b _ _ (ne e' (by intro zs z;cases z)) e'),h5⟩⟩
theorem cD.Zk {C p:Addr} {H H':Hp} {o:Addr} {xs:List Str} {ps:List (Str×Str)} (h:cD C H o xs ps) (hp:jj H p) (b:But p H H'):cD C H' o xs ps:=by
  obtain⟨dx,n,m,tv,h1,h2,h3,h4,h5⟩:=h.ex;obtain⟨x,y,e,_⟩:=hp;have ne:∀{b:Addr} {u:HO},H b=some u→(∀zs,u≠.lst zs)→b≠p:=fun e' k z=>by
    rw[z,e] at e';exact k _ (Option.some.inj e').symm
  exact⟨⟨dx,n,m,tv,b _ _ (ne h1 (by intro zs z;cases z)) h1,b _ _ (ne h2 (by intro zs z;cases z)) h2,b _ _ (ne h3 (by intro zs z;cases z)) h3,h4.keep (fun c us e'=>b _ _ (ne e' (by intro zs z;cases z)) e'),h5⟩⟩
theorem u6 {p:Addr} {H H':Hp} {tv:List V} {ps:List (Str×Str)} (h:aV H tv ps) (hp:jj H p) (b:But p H H'):aV H' tv ps:=by
  obtain⟨x,y,e,_⟩:=hp;exact h.keep fun c us e'=>b _ _ (fun z=>by rw[z,e] at e';cases e') e'
theorem isW {K:W.Frag} {H:Hp} {r:Addr} {s:Str} (h:H r=some (.lst [.str s])):Is K H (.list [.str s]) (.ref r):=⟨r,_,rfl,bA.of h,_,_,rfl,rfl,rfl⟩
def JB (K:W.Frag):Sp:=fun vs H Q _=>∃(l:Addr) (ns:List Int),vs=[.ref l]∧bA K H l (ns.map V.int)∧ns.length≤63∧∀H',Q (.bl true) H'
theorem qbR (T:Txt K mg a):bZ P w K mg base lH 8 a.zN a.Ip ["_law_script"] (JB K):=by
  refine T.qaf.sX uc (fun vs H Q E h=>?_) (fun cdv A outer s H vs Q E hr h=>?_)
  ·obtain⟨l,ns,rfl,_⟩:=h;rfl
  · obtain⟨sl,ns0,rfl,hS,qgB,q⟩:=h;refine⟨_,(aF (yj PassesOwn.never rfl (PI.eqv (mX rfl T.nm.range (aj (aH (BL rfl) rfl T.nm.max boot_max (aj aP (aj (aH (Nj rfl) rfl T.nm.min boot_min (aj (aH (bU (K:=K) rfl) rfl T.nm.len PySem.boot_len (aj (aJ 0) ak)) (aj aP ak))) ak))) ak)) (mY _)) (aY (i:=1) uc.nd rfl (Or.inl rfl))
      (aF (bJ (i:=2) uc.nd rfl (Or.inl rfl) (PE.eqv (aO (qbs (K:=K) T) (hr.mono (by decide)) rfl T.qaa T.Wa.kp T.Z_ .nil aX (aj (aJ 0) (aj (aJ 1) ak))) (aM _ _ _)))
      (aF (Mf (PE.eqv (aO (qbx (K:=K) T) (hr.mono (by decide)) rfl T.qae T.Wc.kp T.qad .nil aX (aj (aJ 2) (aj aP (aj aP ak)))) (aM _ _ _)) (PG.eqv (qM (K:=K) (n:=2) rfl rfl (qJ.eqv (cN (aY (i:=3) uc.nd rfl (Or.inl rfl)) (qJ.eqv (cN (aY (i:=4) uc.nd rfl (Or.inl rfl)) (qJ.mono mL qP)) (cO _ _))) (cO _ _))) (qQ _ _ _)))
      (aF (bJ (i:=5) uc.nd rfl (Or.inl rfl) (PE.eqv (z_ T.KZ (uD (K:=K) T) (hr.mono (by decide)) rfl T.KY T.nH .nil aX (aj (aJ 3) (aj (aJ 4) ak))) (w5 _ _ _ _)))
      (aF (bJ (i:=6) uc.nd rfl (Or.inl rfl) (PE.eqv (aO (Jf (K:=K) T) (hr.mono (by decide)) rfl T.zP T.um.kp T.zO .nil aX (aj (aJ 2) (aj (aJ 3) ak))) (aM _ _ _)))
      (aF (bJ (i:=7) uc.nd rfl (Or.inl rfl) (PE.eqv (aO (xT (K:=K) T) (hr.mono (by decide)) rfl T.xQ T.uX.kp T.xP .nil aX (aj (aJ 2) (aj (Ie rfl rfl T.nm.list rfl T.nm.range (aj (aH (bU (K:=K) rfl) rfl T.nm.len PySem.boot_len (aj (aJ 4) ak)) ak)) ak))) (aM _ _ _)))
      (aF (cI (bR (Ni (K:=K) rfl hr.units) (PE.eqv (aO (Dm (K:=K) T) (hr.mono (by decide)) rfl T.yN T.uZ.kp T.yM .nil aX (aj aP (aj (aJ 5) (aj (PE.eqv (aO (Jz (K:=K) T) (hr.mono (by decide)) rfl T.zR T.uo.kp T.zQ .nil aX (aj (aJ 2) (aj (aJ 3) (aj (aJ 6) ak)))) (aM _ _ _)) ak)))) (aM _ _ _)) (cC (aj bL ak)) (bW _)) (aK (bf iG)) bF)
      (aF (cI (bR (Ni (K:=K) rfl hr.units) (PE.eqv (aO (Dm (K:=K) T) (hr.mono (by decide)) rfl T.yN T.uZ.kp T.yM .nil aX (aj aP (aj (aJ 5) (aj (PE.eqv (aO (Jt (K:=K) T) (hr.mono (by decide)) rfl T.zU T.uq.kp T.zT .nil aX (aj (aJ 2) (aj (aJ 7) ak))) (aM _ _ _)) ak)))) (aM _ _ _)) (cC (aj bL ak)) (bW _)) (aK (bf iG)) bF)
      (aF (cI (bT (bK (PE.eqv (aO (yV (K:=K) T) (hr.mono (by decide)) rfl T.sI T.lZ.kp T.sH .nil aX (aj (aJ 5) (aj (aJ 3) (aj (aJ 4) (aj (aJ 6) ak))))) (aM _ _ _)))) (aK (bf iG)) bF)
      (aK (cI (bT (bK (PE.eqv (aO (wB (K:=K) T) (hr.mono (by decide)) rfl T.pq T.jV.kp T.o_ .nil aX (aj (aJ 5) (aj (aJ 3) (aj (aJ 4) (aj (aJ 7) ak))))) (aM _ _ _)))) (aK (bf iG)) bF)))))))))))
      (aK (bf iG))),?_⟩
    have Y8:60≤sizeLine:=by decide
    simp -dsimp[au,stC,-Bool.exists_bool,-List.map_take,-Prod.forall,-Prod.exists];refine⟨_,.inl hS,?_⟩;simp only[List.length_map];obtain⟨m,hm,hm6⟩:∃m:Nat,(if 2<if 6<(ns0.length:Int) then (6:Int) else ns0.length then if 6<(ns0.length:Int) then (6:Int) else ns0.length else 2)=m∧m≤6:=by
      by_cases h1:6<(ns0.length:Int)
      ·rw[if_pos h1];exact⟨6,rfl,by decide⟩
      · rw[if_neg h1]
        by_cases h2:2<(ns0.length:Int)
        ·exact⟨ns0.length,by rw[if_pos h2],by omega⟩
        ·exact⟨2,by rw[if_neg h2];rfl,by decide⟩
    simp only[hm,Int.toNat_natCast];refine⟨by omega,by omega,frR (fun i σ H'=>(∃o1 o2 o3 o4 o5 o6 o7,σ=[some (.ref sl),o1,o2,o3,o4,o5,o6,o7])∧Same H H') ⟨⟨_,_,_,_,_,_,_,rfl⟩,Same.refl _⟩ ?_ ?_⟩
    · rintro i σ H0 hi ⟨⟨o1,o2,o3,o4,o5,o6,o7,rfl⟩,s0⟩;simp -dsimp[au,stC,-Bool.exists_bool,-List.map_take,-Prod.forall,-Prod.exists];refine⟨sl,ns0,i,rfl,s0.seq hS,by omega,fun p Hp hp0 hPp hBp=>?_⟩;have sp1:Same H0 Hp:=fun b o e=>hBp b o (aN e hp0) e;simp -dsimp[au,stC,-Bool.exists_bool,-List.map_take,-Prod.forall,-Prod.exists];refine⟨p,9,20,rfl,hPp,by decide,by decide,by decide,by decide,fun t n l xs tv ps H1 ht0 hn0 hl0 ht1 hn1 hl1 qbS hX hTs _ _ Gz Ew=>?_⟩;have np:n≠p:=(hPp.ne hn0).symm;have lp:l≠p:=(hPp.ne hl0).symm;have l9:=hX.len;have Xk:=hTs.len;simp -dsimp[au,stC,-Bool.exists_bool,-List.map_take,-Prod.forall,-Prod.exists];refine⟨_,jK.of ht1,rfl,?_⟩;simp -dsimp[au,stC,-Bool.exists_bool,-List.map_take,-Prod.forall,-Prod.exists];refine fun o dx ho hdx qgX=>?_;have so:Same H1 (upd (upd H1 dx (.own o)) o (.ins a.bI dx [])):=fun b u e=>by
        rw[aG (aN e ho),aG (aN e hdx)];exact e
      have hpr:lA H1 tv ps:=⟨qbS.1,fun i v e h1 h2=>by
        obtain⟨t,rfl,z⟩:=qbS.2 i v e h1 h2;exact⟨t,rfl,.inr z⟩⟩
      refine⟨o,dx,n,l,tv,xs,ps,rfl,ao,.inl (so _ _ hl1),hpr.same so,.inl (so _ _ hn1),hX,hTs,fun H2 hW2 hB2=>⟨rfl,?_⟩⟩;have s2:Same H1 H2:=fun b u e=>hB2 b u (aN e ho) (so b u e);have hP2:=Gz.sS s2;have n2:=s2 _ _ hn1;have l2:=s2 _ _ hl1;have t2:=aV.same qbS s2;have B2:But p Hp H2:=Ew.trans (But.of s2);simp -dsimp[au,stC,-Bool.exists_bool,-List.map_take,-Prod.forall,-Prod.exists];refine⟨p,n,xs,rfl,hP2,np,n2,hX,fun d ys H3 hd0 hd3 hyl hY K5 hB3=>?_⟩;have W3:=hW2.Zk hP2 hB3;have n3:=hB3 _ _ np n2;have l3:=hB3 _ _ lp l2;have t3:=u6 t2 hP2 hB3;have dp:d≠p:=(hP2.ne hd0).symm;simp -dsimp[au,stC,-Bool.exists_bool,-List.map_take,-Prod.forall,-Prod.exists];refine⟨_,.inl (bA.of l3),by have:=t3.1;omega,fun g hg=>?_⟩;rw[t3.1];have s4:Same H3 (upd H3 g (.lst ((List.range ps.length).map fun i=>V.int (i:Nat)))):=aq hg;have e4:upd H3 g (.lst ((List.range ps.length).map fun i=>V.int (i:Nat))) g=some (.lst ((List.range ps.length).map fun i=>V.int (i:Nat))):=ao;generalize upd H3 g (.lst ((List.range ps.length).map fun i=>V.int (i:Nat)))=H4 at s4 e4 ⊢;have gp:g≠p:=(K5.ne hg).symm;have JF:=K5.sS s4;refine⟨p,g,_,rfl,JF,gp,e4,by rw[List.length_map,List.length_range];omega,fun r os H5 hr0 er hperm GC K6=>?_⟩;obtain⟨ks,hks,rfl⟩:=qO hperm (List.range ps.length) rfl;replace er:H5 r=some (.lst (eE ks)):=by rw[er];simp[eE]
      have rp:r≠p:=(JF.ne hr0).symm;have W5:=(W3.same s4).Zk JF K6;have n5:=K6 _ _ np (s4 _ _ n3);have l5:=K6 _ _ lp (s4 _ _ l3);have t5:=u6 (aV.same t3 s4) JF K6;have d5:=K6 _ _ dp (s4 _ _ hd3);simp -dsimp[au,stC,-Bool.exists_bool,-List.map_take,-Prod.forall,-Prod.exists];refine⟨p,n,d,xs,ys,rfl,GC,np,n5,hX,dp,d5,hyl,hY,fun v dd H6 hbw hsh Wk IK=>?_⟩;have W6:=W5.Zk GC IK;have n6:=IK _ _ np n5;have l6:=IK _ _ lp l5;have t6:=u6 t5 GC IK;have d6:=IK _ _ dp d5;have r6:=IK _ _ rp er;simp -dsimp[au,stC,-Bool.exists_bool,-List.map_take,-Prod.forall,-Prod.exists];refine⟨0,o,v,dd,xs,ps,rfl,W6,hX,hTs,⟨hsh.sh.same fB,hsh.ok,hsh.dp,hsh.ln⟩,.inl ⟨rfl,hbw.same fB⟩,fun r7 H7 h70 h7 s7=>?_⟩;simp -dsimp[au,stC,-Bool.exists_bool,-List.map_take,-Prod.forall,-Prod.exists];intro b8 hb8;have s8:Same H7 (upd H7 b8 (.lst [V.str (Str.ofString "web")])):=aq hb8;have e8:upd H7 b8 (.lst [V.str (Str.ofString "web")]) b8=some (.lst [V.str (Str.ofString "web")]):=ao;generalize upd H7 b8 (.lst [V.str (Str.ofString "web")])=H8 at s8 e8 ⊢;refine⟨.list [.str "web"],isW (s8 _ _ h7),.list [.str "web"],isW e8,by decide+kernel,by decide+kernel,by decide+kernel,false,by decide+kernel,iI.neg rfl ?_⟩;have S8:=s7.trans s8;have W8:=W6.same S8;have n8:=S8 _ _ n6;have l8:=S8 _ _ l6;have t8:=aV.same t6 S8;have d8:=S8 _ _ d6;have r8:=S8 _ _ r6;have hP8:=Wk.sS S8;simp -dsimp[au,stC,-Bool.exists_bool,-List.map_take,-Prod.forall,-Prod.exists];refine⟨p,r,ks,ps.length,rfl,hP8,r8,rp,hks,Xk,fun v2 d2 H9 hth hbq hP9 hB9=>?_⟩;have W9:=W8.Zk hP8 hB9;have n9:=hB9 _ _ np n8;have l9':=hB9 _ _ lp l8;have t9:=u6 t8 hP8 hB9;have d9:=hB9 _ _ dp d8;have r9:=hB9 _ _ rp r8;simp -dsimp[au,stC,-Bool.exists_bool,-List.map_take,-Prod.forall,-Prod.exists];refine⟨1,o,v2,d2,xs,ps,rfl,W9,hX,hTs,hbq.s (cL.same fB d2 v2 hth),.inr ⟨rfl,hbq.o (cL.same fB d2 v2 hth)⟩,fun rA HA hA0 hA sA=>?_⟩;simp -dsimp[au,stC,-Bool.exists_bool,-List.map_take,-Prod.forall,-Prod.exists];intro bB hbB;have sB:Same HA (upd HA bB (.lst [V.str (Str.ofString "numbers")])):=aq hbB;have eB:upd HA bB (.lst [V.str (Str.ofString "numbers")]) bB=some (.lst [V.str (Str.ofString "numbers")]):=ao;generalize upd HA bB (.lst [V.str (Str.ofString "numbers")])=HB at sB eB ⊢;refine⟨.list [.str "numbers"],isW (sB _ _ hA),.list [.str "numbers"],isW eB,by decide+kernel,by decide+kernel,by decide+kernel,false,by decide+kernel,iI.neg rfl ?_⟩;have SB:=sA.trans sB;have WB:=W9.same SB;have nB:=SB _ _ n9;have lB:=SB _ _ l9';have tB:=aV.same t9 SB;have dB:=SB _ _ d9;have rB:=SB _ _ r9;simp -dsimp[au,stC,-Bool.exists_bool,-List.map_take,-Prod.forall,-Prod.exists];refine⟨o,n,l,d,xs,ys,tv,ps,rfl,WB,nB,lB,tB,hX,hTs,dB,hyl,hY,fun HC kC=>?_⟩;have ld:∀{b:Addr} {vs:List V},HB b=some (.lst vs)→HC b=some (.lst vs):=fun e=>kC _ _ (fun z=>by rw[z,dB] at e;cases e) e;have WC:=WB.qds dB kC;have tC:aV HC tv ps:=tB.keep fun c us e=>kC _ _ (fun z=>by rw[z,dB] at e;cases e) e;have nr:n≠r:=fun z=>by rw[← z] at hr0;rw[s4 _ _ n3] at hr0;cases hr0
      have lr:l≠r:=fun z=>by rw[← z] at hr0;rw[s4 _ _ l3] at hr0;cases hr0
      simp -dsimp[au,stC,-Bool.exists_bool,-List.map_take,-Prod.forall,-Prod.exists];refine⟨o,n,l,r,xs,tv,ps,ks,rfl,WC,ld nB,ld lB,tC,hX,hTs,ld rB,hks,nr,lr,fun HD kD=>?_⟩;simp -dsimp[au,stC,-Bool.exists_bool,-List.map_take,-Prod.forall,-Prod.exists];have BB:But p H4 HB:=(((K6.trans IK).trans (But.of S8)).trans hB9).trans (But.of SB);have dN:Hp d=none:=by
        cases e:Hp d with
        | none=>rfl
        | some u=>rw[B2 d u dp e] at hd0;cases hd0
      have rN:Hp r=none:=by
        cases e:Hp r with
        | none=>rfl
        | some u=>rw[s4 _ _ (hB3 r u rp (B2 r u rp e))] at hr0;cases hr0
      exact s0.trans fun b u e=>kD b u (fun z=>by rw[z] at e;rw[sp1 _ _ e] at rN;cases rN) (kC b u (fun z=>by rw[z] at e;rw[sp1 _ _ e] at dN;cases dN) (BB b u (aN e hp0) (s4 _ _ (hB3 b u (aN e hp0) (B2 b u (aN e hp0) (sp1 b u e))))))
    ·rintro σ H1 ⟨⟨o1,o2,o3,o4,o5,o6,o7,rfl⟩,s1⟩;simp -dsimp[au,stC,-Bool.exists_bool,-List.map_take,-Prod.forall,-Prod.exists];exact q _
end K15
namespace K15
open PySem L2
theorem Xp {α:Type} {n:Nat} (l:List α) (h:l.length=n+1):∃a r,l=a::r:=by
  cases l with
  | nil=>cases h
  | cons a r=>exact⟨a,r,rfl⟩
theorem rG {fd:FuncData} {ps:List Str} (h:∀v0,bindArgs fd {pos:=[v0]}=pure (ps.zip [v0])):∀us:List Value,us.length=1→bindArgs fd {pos:=us}=pure (ps.zip us):=by
  intro us hl;obtain⟨v0,us,rfl⟩:=Xp us hl;replace hl:=Nat.succ.inj hl;obtain rfl:=List.eq_nil_of_length_eq_zero hl;exact h v0
theorem kO {fd:FuncData} {ps:List Str} (h:∀v0 v1,bindArgs fd {pos:=[v0,v1]}=pure (ps.zip [v0,v1])):∀us:List Value,us.length=2→bindArgs fd {pos:=us}=pure (ps.zip us):=by
  intro us hl;obtain⟨v0,us,rfl⟩:=Xp us hl;replace hl:=Nat.succ.inj hl;obtain⟨v1,us,rfl⟩:=Xp us hl;replace hl:=Nat.succ.inj hl;obtain rfl:=List.eq_nil_of_length_eq_zero hl;exact h v0 v1
theorem Ds {fd:FuncData} {ps:List Str} (h:∀v0 v1 v2,bindArgs fd {pos:=[v0,v1,v2]}=pure (ps.zip [v0,v1,v2])):∀us:List Value,us.length=3→bindArgs fd {pos:=us}=pure (ps.zip us):=by
  intro us hl;obtain⟨v0,us,rfl⟩:=Xp us hl;replace hl:=Nat.succ.inj hl;obtain⟨v1,us,rfl⟩:=Xp us hl;replace hl:=Nat.succ.inj hl;obtain⟨v2,us,rfl⟩:=Xp us hl;replace hl:=Nat.succ.inj hl;obtain rfl:=List.eq_nil_of_length_eq_zero hl;exact h v0 v1 v2
theorem WW {fd:FuncData} {ps:List Str} (h:∀v0 v1 v2 v3,bindArgs fd {pos:=[v0,v1,v2,v3]}=pure (ps.zip [v0,v1,v2,v3])):∀us:List Value,us.length=4→bindArgs fd {pos:=us}=pure (ps.zip us):=by
  intro us hl;obtain⟨v0,us,rfl⟩:=Xp us hl;replace hl:=Nat.succ.inj hl;obtain⟨v1,us,rfl⟩:=Xp us hl;replace hl:=Nat.succ.inj hl;obtain⟨v2,us,rfl⟩:=Xp us hl;replace hl:=Nat.succ.inj hl;obtain⟨v3,us,rfl⟩:=Xp us hl;replace hl:=Nat.succ.inj hl;obtain rfl:=List.eq_nil_of_length_eq_zero hl;exact h v0 v1 v2 v3
theorem all_mk {l:W.OpenLaw} {w:World} {K:W.Frag} {h:Heap} {mg:Str→Option Value} {fa bI iu gb gF dg jQ gj eH dh gk gq dZ cT dF d7 zK ud oX oY zL zM gG fQ KN cM cB fV fW jF zN bN aQ dI aD gB cQ bQ dJ dM cR:Addr} (X:K.In h) (G:h.Ns mainGlobals mg) (hfa:mg "law" = some (.ref fa))
    {fd1 fd2 fd3 fd4 fd5 fd6 fd7 fd8 fd9 qdt qdu qdv qdw qdx qdy qdz qdA qdB qdC qdD qdE qdF qdG qdH qdI qdJ qdK qdL:FuncData}
    {qf8 qdM:Option Addr} {qf9:Array (Option Value)} {qf_ qdN qdO qdP qbT qdQ:Value} {wF mj ou rH:Tok}
    (Oo:W.nsIn K mainGlobals "Web" = some (some (.ref bI)))
    (a1:W.nsIn K mainGlobals "is_list" = some (some (.ref iu)))
    (F1:gK K "is_list" "is_list" yK iu fd1)
    (a2:W.nsIn K mainGlobals "is_whole" = some (some (.ref gb)))
    (F2:gK K "is_whole" "is_whole" vU gb fd2)
    (a3:W.nsIn K mainGlobals "is_name" = some (some (.ref gF)))
    (F3:gK K "is_name" "is_name" qx gF fd3)
    (a4:W.nsIn K mainGlobals "are_points" = some (some (.ref dg)))
    (F4:gK K "are_points" "are_points" jP dg fd4)
    (a5:W.nsIn K mainGlobals "is_tie" = some (some (.ref jQ)))
    (F5:gK K "is_tie" "is_tie" tX jQ fd5)
    (a6:W.nsIn K mainGlobals "are_ties" = some (some (.ref gj)))
    (F6:gK K "are_ties" "are_ties" ni gj fd6)
    (a7:W.findIn K (.ref bI) "__init__" = some (some (.ref eH))) (i7:W.isFn K (.ref eH)=true)
    (F7:gK K "__init__" "Web.__init__" nj eH fd7)
    (a8:W.findIn K (.ref bI) "points" = some (some (.ref dh))) (i8:W.isFn K (.ref dh)=true)
    (F8:gK K "points" "Web.points" qX dh fd8)
    (a9:W.findIn K (.ref bI) "ties" = some (some (.ref gk))) (i9:W.isFn K (.ref gk)=true)
    (F9:gK K "ties" "Web.ties" vV gk fd9)
    (a10:W.findIn K (.ref bI) "many" = some (some (.ref gq))) (i10:W.isFn K (.ref gq)=true)
    (F10:gK K "many" "Web.many" vW gq qdt)
    (a11:W.nsIn K mainGlobals "is_number" = some (some (.ref dZ)))
    (F11:gK K "is_number" "is_number" tY dZ qdu)
    (a12:W.nsIn K mainGlobals "are_numbers" = some (some (.ref cT)))
    (F12:gK K "are_numbers" "are_numbers" jf cT qdv)
    (a13:W.nsIn K mainGlobals "renamed" = some (some (.ref dF)))
    (F13:gK K "renamed" "renamed" gD dF qdw)
    (a14:W.nsIn K mainGlobals "reordered" = some (some (.ref d7)))
    (F14:gK K "reordered" "reordered" oU d7 qdx)
    (a15:W.nsIn K mainGlobals "_law_pot" = some (some (.ref zK)))
    (F15:gK K "_law_pot" "_law_pot" V8 zK qdy)
    (a16:W.nsIn K mainGlobals "_law_take" = some (some (.ref ud)))
    (F16:gK K "_law_take" "_law_take" N5 ud qdz)
    (a17:W.nsIn K mainGlobals "_law_names" = some (some (.ref oX)))
    (F17:gK K "_law_names" "_law_names" Ar oX qdA)
    (a18:W.nsIn K mainGlobals "_law_mixed" = some (some (.ref oY)))
    (F18:gK K "_law_mixed" "_law_mixed" Ij oY qdB)
    (a19:W.nsIn K mainGlobals "_law_tie" = some (some (.ref zL)))
    (F19:gK K "_law_tie" "_law_tie" V9 zL qdC)
    (a20:W.nsIn K mainGlobals "_law_web" = some (some (.ref zM)))
    (F20:gK K "_law_web" "_law_web" Gv zM qdD)
    (a21:W.nsIn K mainGlobals "_law_classes" = some (some (.ref gG)))
    (F21:gK K "_law_classes" "_law_classes" qy gG qdE)
    (a22:W.nsIn K mainGlobals "_law_new_names" = some (some (.ref fQ)))
    (F22:gK K "_law_new_names" "_law_new_names" tZ fQ qdF)
    (a23:W.nsIn K mainGlobals "_law_is" = some (some (.ref KN)))
    (F23:gK K "_law_is" "_law_is" qbq KN qdG)
    (a24:W.nsIn K mainGlobals "_law_renamed_right" = some (some (.ref cM)))
    (F24:gK K "_law_renamed_right" "_law_renamed_right" dU cM qdH)
    (a25:W.nsIn K mainGlobals "_law_reordered_right" = some (some (.ref cB)))
    (F25:gK K "_law_reordered_right" "_law_reordered_right" dY cB qdI)
    (a26:W.nsIn K mainGlobals "_law_bad_names" = some (some (.ref fV)))
    (F26:gK K "_law_bad_names" "_law_bad_names" jE fV qdJ)
    (a27:W.nsIn K mainGlobals "_law_bad_order" = some (some (.ref fW)))
    (F27:gK K "_law_bad_order" "_law_bad_order" lM fW qdK)
    (a28:W.nsIn K mainGlobals "_law_refusal" = some (some (.ref jF)))
    (F28:gK K "_law_refusal" "_law_refusal" yL jF qdL)
    (a29:W.nsIn K mainGlobals "law" = some (some (.ref zN)))
    (l29:K.lookup zN=some ⟨qf_,qf8,.func (W.fnOf "law" "law" (uK xH) (jm xH) (aB xH) .none qdN qdO qdP qdM qbT qdQ),qf9⟩) (c29:W.codeIn K qbT "law" = true) (k29:W.keepIn K (.ref zN)=true)
    (kE:W.nsIn K mainGlobals "LETTERS" = some (some (.str "abcdefghijklmnopqrstuvwxyz" wF)))
    (dH:W.nsIn K mainGlobals "MOST_LETTERS" = some (some (.int 4 mj)))
    (eN:W.nsIn K mainGlobals "MOST_POINTS" = some (some (.int 9 ou)))
    (gU:W.nsIn K mainGlobals "MOST_TIES" = some (some (.int 20 rH)))
    (Oq:W.plainGet K bI Str.empty=true) (Ot:W.hasDictIn K bI=true) (Ou:W.plainOver K bI=true) (Ov:W.findIn K (.ref bI) "__setattr__" = some (some (.builtin "object.__setattr__"))) (Ow:W.makesIn K bI=true) (Ox:W.keepIn K (.ref bI)=true)
    (Dt:W.findIn K (.ref bI) "names" = some none)
    (Du:W.findIn K (.ref bI) "pairs" = some none)
    (WX:W.nsIn K mainGlobals "len" = some none)
    (WY:W.nsIn K mainGlobals "max" = some none)
    (W0:W.nsIn K mainGlobals "min" = some none)
    (W2:W.nsIn K mainGlobals "abs" = some none)
    (Dv:W.nsIn K mainGlobals "divmod" = some none)
    (JC:W.nsIn K mainGlobals "range" = some none)
    (W4:W.nsIn K mainGlobals "zip" = some none)
    (Oz:W.nsIn K mainGlobals "list" = some none)
    (JD:W.nsIn K mainGlobals "tuple" = some none)
    (W_:W.nsIn K mainGlobals "int" = some none)
    (Xa:W.nsIn K mainGlobals "str" = some none)
    (Xb:W.nsIn K mainGlobals "set" = some none)
    (Xc:W.nsIn K mainGlobals "all" = some none)
    (rJ:W.nsIn K mainGlobals "isinstance" = some none)
    (uH:W.nsIn K mainGlobals "enumerate" = some none)
    (Xd:W.nsIn K mainGlobals "any" = some none)
    (OD:W.nsIn K mainGlobals "dict" = some none)
    (Dw:W.nsIn K mainGlobals "sorted" = some none)
    (OJ:W.nsIn K mainGlobals "repr" = some none)
    (O1:W.nsIn K mainGlobals "bool" = some none)
    (Xe:W.nsIn K mainGlobals "sum" = some none)
    (qe:W.nsIn K mainGlobals "PointError" = some (some (.ref bN)))
    (Dy:W.nsIn K mainGlobals "NoWeb" = some (some (.ref aQ)))
    (yX:W.nsIn K mainGlobals "NoText" = some (some (.ref dI)))
    (rK:W.nsIn K mainGlobals "NoNumbers" = some (some (.ref aD)))
    (Dz:W.nsIn K mainGlobals "NoLot" = some (some (.ref gB)))
    (wG:W.nsIn K mainGlobals "NoPoint" = some (some (.ref cQ)))
    (qg:W.nsIn K mainGlobals "NoPointing" = some (some (.ref bQ)))
    (yZ:W.nsIn K mainGlobals "Parted" = some (some (.ref dJ)))
    (za:W.nsIn K mainGlobals "Barred" = some (some (.ref dM)))
    (wH:W.nsIn K mainGlobals "TooMuch" = some (some (.ref cR)))
    (jr:W.excIn K aQ zA "ValueError.__new__" = true)
    (gV:W.excIn K aD zA "ValueError.__new__" = true)
    (iD:W.excIn K bN zA "ValueError.__new__" = true)
    (Qx:W.specialIn K (.builtin "object.__class__") "__get__" = some (some (.builtin "getset_descriptor.__get__"))) (Qy:W.takesIn K (.builtin "object.__class__")=some true)
    (DG:W.findIn K (.ref aQ) "__getattribute__" = some (some (.builtin "BaseException.__getattribute__"))) (DK:W.findIn K (.ref aQ) "__getattr__" = some none) (DN:W.findIn K (.ref aQ) "__class__" = some (some (.builtin "object.__class__"))) (DP:W.mroIn K aQ (.type "object")=some true) (DQ:W.mroIn K aQ (.type "BaseException")=some true) (DR:W.isClsIn K aQ=true)
    (iJ:W.mroIn K aQ (.ref bN)=some true) (iK:(aQ == bN)=false)
    (mq:(aQ == dI)=false) (mz:W.subIn K (.ref aQ) (.ref dI)=some false)
    (jw:(aQ == aD)=false) (jx:W.subIn K (.ref aQ) (.ref aD)=some false)
    (oA:(aQ == gB)=false) (oE:W.subIn K (.ref aQ) (.ref gB)=some false)
    (kW:(aQ == cQ)=false) (kY:W.subIn K (.ref aQ) (.ref cQ)=some false)
    (iM:(aQ == bQ)=false) (iQ:W.subIn K (.ref aQ) (.ref bQ)=some false)
    (mC:(aQ == dJ)=false) (mD:W.subIn K (.ref aQ) (.ref dJ)=some false)
    (mF:(aQ == dM)=false) (mG:W.subIn K (.ref aQ) (.ref dM)=some false)
    (kZ:(aQ == cR)=false) (k_:W.subIn K (.ref aQ) (.ref cR)=some false)
    (uI:W.subIn K (.ref aQ) (.type "ValueError")=some true)
    (rM:W.findIn K (.ref aD) "__getattribute__" = some (some (.builtin "BaseException.__getattribute__"))) (rO:W.findIn K (.ref aD) "__getattr__" = some none) (rP:W.findIn K (.ref aD) "__class__" = some (some (.builtin "object.__class__"))) (rQ:W.mroIn K aD (.type "object")=some true) (rR:W.mroIn K aD (.type "BaseException")=some true) (rT:W.isClsIn K aD=true)
    (fK:W.mroIn K aD (.ref bN)=some true) (fL:(aD == bN)=false)
    (jy:(aD == aQ)=false) (jz:W.subIn K (.ref aD) (.ref aQ)=some false)
    (iR:(aD == dI)=false) (iT:W.subIn K (.ref aD) (.ref dI)=some false)
    (jA:(aD == gB)=false) (jB:W.subIn K (.ref aD) (.ref gB)=some false)
    (gW:(aD == cQ)=false) (gY:W.subIn K (.ref aD) (.ref cQ)=some false)
    (fM:(aD == bQ)=false) (fO:W.subIn K (.ref aD) (.ref bQ)=some false)
    (iU:(aD == dJ)=false) (iV:W.subIn K (.ref aD) (.ref dJ)=some false)
    (iW:(aD == dM)=false) (iY:W.subIn K (.ref aD) (.ref dM)=some false)
    (gZ:(aD == cR)=false) (g8:W.subIn K (.ref aD) (.ref cR)=some false)
    (mH:W.subIn K (.ref aD) (.type "ValueError")=some true)
    (DW:W.isClsIn K aQ=true) (DX:W.typeIn K (.ref aQ)=some (.type "type"))
    (u_:W.isClsIn K dI=true) (vd:W.typeIn K (.ref dI)=some (.type "type"))
    (rW:W.isClsIn K aD=true) (rY:W.typeIn K (.ref aD)=some (.type "type"))
    (xZ:W.isClsIn K gB=true) (yc:W.typeIn K (.ref gB)=some (.type "type"))
    (rZ:W.isClsIn K cQ=true) (su:W.typeIn K (.ref cQ)=some (.type "type"))
    (lE:W.isClsIn K bQ=true) (lF:W.typeIn K (.ref bQ)=some (.type "type"))
    (vf:W.isClsIn K dJ=true) (vg:W.typeIn K (.ref dJ)=some (.type "type"))
    (vh:W.isClsIn K dM=true) (vm:W.typeIn K (.ref dM)=some (.type "type"))
    (sy:W.isClsIn K cR=true) (sE:W.typeIn K (.ref cR)=some (.type "type"))
    (gC:W.nsIn K mainGlobals "ValueError" = some none)
    : ∃fd:FuncData,(∀(s:Shared) (v:Value),BindsTo s fd ⟨[v],[]⟩ [("_law_script",v)])∧∀base:Heap,K.In base→base.Ns mainGlobals mg→bZ l.prog w K mg base lH 8 fa fd ["_law_script"] (JB K):=by
  have e:=hfa.symm.trans (W.mg_of X G a29);cases e;have b1:=F1.binds (ps:=["thing"]) fun _ _ _ _ _ _=>rG fun _=>rfl;have b2:=F2.binds (ps:=["thing"]) fun _ _ _ _ _ _=>rG fun _=>rfl;have b3:=F3.binds (ps:=["thing"]) fun _ _ _ _ _ _=>rG fun _=>rfl;have b4:=F4.binds (ps:=["thing"]) fun _ _ _ _ _ _=>rG fun _=>rfl;have b5:=F5.binds (ps:=["thing", "points"]) fun _ _ _ _ _ _=>kO fun _ _=>rfl;have b6:=F6.binds (ps:=["thing", "points"]) fun _ _ _ _ _ _=>kO fun _ _=>rfl;have b7:=F7.binds (ps:=["self", "points", "ties"]) fun _ _ _ _ _ _=>Ds fun _ _ _=>rfl;have b8:=F8.binds (ps:=["self"]) fun _ _ _ _ _ _=>rG fun _=>rfl;have b9:=F9.binds (ps:=["self"]) fun _ _ _ _ _ _=>rG fun _=>rfl;have b10:=F10.binds (ps:=["self"]) fun _ _ _ _ _ _=>rG fun _=>rfl;have b11:=F11.binds (ps:=["web", "thing"]) fun _ _ _ _ _ _=>kO fun _ _=>rfl;have b12:=F12.binds (ps:=["web", "thing"]) fun _ _ _ _ _ _=>kO fun _ _=>rfl;have b13:=F13.binds (ps:=["web", "names"]) fun _ _ _ _ _ _=>kO fun _ _=>rfl;have b14:=F14.binds (ps:=["web", "order"]) fun _ _ _ _ _ _=>kO fun _ _=>rfl;have b15:=F15.binds (ps:=["_law_script", "_law_k"]) fun _ _ _ _ _ _=>kO fun _ _=>rfl;have b16:=F16.binds (ps:=["_law_pot_here", "_law_many"]) fun _ _ _ _ _ _=>kO fun _ _=>rfl;have b17:=F17.binds (ps:=["_law_pot_here", "_law_many"]) fun _ _ _ _ _ _=>kO fun _ _=>rfl;have b18:=F18.binds (ps:=["_law_pot_here", "_law_things"]) fun _ _ _ _ _ _=>kO fun _ _=>rfl;have b19:=F19.binds (ps:=["_law_pot_here", "_law_names_here"]) fun _ _ _ _ _ _=>kO fun _ _=>rfl;have b20:=F20.binds (ps:=["_law_pot_here", "_law_points", "_law_most"]) fun _ _ _ _ _ _=>Ds fun _ _ _=>rfl;have b21:=F21.binds (ps:=["_law_e"]) fun _ _ _ _ _ _=>rG fun _=>rfl;have b22:=F22.binds (ps:=["_law_pot_here", "_law_names_here"]) fun _ _ _ _ _ _=>kO fun _ _=>rfl;have b23:=F23.binds (ps:=["_law_web_here", "_law_names_here", "_law_ties"]) fun _ _ _ _ _ _=>Ds fun _ _ _=>rfl;have b24:=F24.binds (ps:=["_law_web_here", "_law_names_here", "_law_ties", "_law_more"]) fun _ _ _ _ _ _=>WW fun _ _ _ _=>rfl;have b25:=F25.binds (ps:=["_law_web_here", "_law_names_here", "_law_ties", "_law_order"]) fun _ _ _ _ _ _=>WW fun _ _ _ _=>rfl;have b26:=F26.binds (ps:=["_law_pot_here", "_law_names_here", "_law_more"]) fun _ _ _ _ _ _=>Ds fun _ _ _=>rfl;have b27:=F27.binds (ps:=["_law_pot_here", "_law_order"]) fun _ _ _ _ _ _=>kO fun _ _=>rfl;have b28:=F28.binds (ps:=["_law_kind", "_law_web_here", "_law_thing"]) fun _ _ _ _ _ _=>Ds fun _ _ _=>rfl;have F29:=Ud (st:=xH) l29 c29 k29;have b29:=F29.binds (ps:=["_law_script"]) fun _ _ _ _ _ _=>rG fun _=>rfl;have T:Txt K mg {iu:=iu,nA:=fd1,gb:=gb,lN:=fd2,gF:=gF,kh:=fd3,dg:=dg,jh:=fd4,jQ:=jQ,qz:=fd5,gj:=gj,lO:=fd6,eH:=eH,lQ:=fd7,dh:=dh,lu:=fd8,gk:=gk,oV:=fd9,gq:=gq,oW:=qdt,dZ:=dZ,jR:=qdu,cT:=cT,gR:=qdv,dF:=dF,gw:=qdw,d7:=d7,jT:=qdx,zK:=zK,Il:=qdy,ud:=ud,Av:=qdz,oX:=oX,xK:=qdA,oY:=oY,xM:=qdB,zL:=zL,Im:=qdC,zM:=zM,Io:=qdD,gG:=gG,kj:=qdE,fQ:=fQ,mQ:=qdF,KN:=KN,Qm:=qdG,cM:=cM,iw:=qdH,cB:=cB,gA:=qdI,fV:=fV,mR:=qdJ,fW:=fW,mU:=qdK,jF:=jF,q_:=qdL,zN:=fa,Ip:=W.fnOf "law" "law" (uK xH) (jm xH) (aB xH) .none qdN qdO qdP qdM qbT qdQ,kE:=.str "abcdefghijklmnopqrstuvwxyz" wF,dH:=.int 4 mj,eN:=.int 9 ou,gU:=.int 20 rH,bI:=bI,bN:=bN,aQ:=aQ,dI:=dI,aD:=aD,gB:=gB,cQ:=cQ,bQ:=bQ,dJ:=dJ,dM:=dM,cR:=cR}:={fD:=F1,iy:=b1,iz:=W.mg_of X G a1,nF:=F2,vX:=b2,vY:=W.mg_of X G a2,gH:=F3,jG:=b3,jH:=W.mg_of X G a3,jU:=F4,rm:=b4,rz:=W.mg_of X G a4,uf:=F5,Cw:=b5,Cy:=W.mg_of X G a5,nG:=F6,vZ:=b6,wg:=W.mg_of X G a6,wj:=F7,nH:=b7,xO:=F8,iB:=b8,iC:=⟨a8,i8,F8.kp⟩,Cz:=F9,nJ:=b9,nQ:=⟨a9,i9,F9.kp⟩,CG:=F10,nM:=b10,nR:=⟨a10,i10,F10.kp⟩,lR:=F11,ug:=b11,uh:=W.mg_of X G a11,ji:=F12,pW:=b12,pX:=W.mg_of X G a12,kI:=F13,uV:=b13,uW:=W.mg_of X G a13,jJ:=F14,oZ:=b14,o8:=W.mg_of X G a14,Wa:=F15,Z_:=b15,qaa:=W.mg_of X G a15,eO:=F16,fG:=b16,fH:=W.mg_of X G a16,Aw:=F17,Ir:=b17,Iu:=W.mg_of X G a17,uX:=F18,xP:=b18,xQ:=W.mg_of X G a18,Wb:=F19,qab:=b19,qac:=W.mg_of X G a19,Wc:=F20,qad:=b20,qae:=W.mg_of X G a20,uY:=F21,Gx:=b21,Gy:=W.mg_of X G a21,um:=F22,zO:=b22,zP:=W.mg_of X G a22,Iv:=F23,KQ:=b23,KR:=W.mg_of X G a23,lZ:=F24,sH:=b24,sI:=W.mg_of X G a24,jV:=F25,o_:=b25,pq:=W.mg_of X G a25,uo:=F26,zQ:=b26,zR:=W.mg_of X G a26,uq:=F27,zT:=b27,zU:=W.mg_of X G a27,uZ:=F28,yM:=b28,yN:=W.mg_of X G a28,qaf:=F29,qdb:=b29,qdc:=W.mg_of X G a29,yO:=W.mg_of X G kE,yP:=⟨wF,rfl⟩,nO:=W.mg_of X G dH,nP:=⟨mj,rfl⟩,pY:=W.mg_of X G eN,pZ:=⟨ou,rfl⟩,ur:=W.mg_of X G gU,uw:=⟨rH,rfl⟩,Iw:=Dt,Ax:=Du,KY:=W.mg_of X G Oo,jW:=⟨Oq,Ot,Ou,Ov⟩,KZ:=⟨Ow,a7,i7,Ox⟩,nm:=⟨W.mg_none_of X G WX,W.mg_none_of X G WY,W.mg_none_of X G W0,W.mg_none_of X G W2,W.mg_none_of X G Dv,W.mg_none_of X G JC,W.mg_none_of X G W4,W.mg_none_of X G Oz,W.mg_none_of X G JD,W.mg_none_of X G W_,W.mg_none_of X G Xa,W.mg_none_of X G Xb,W.mg_none_of X G Xc,W.mg_none_of X G rJ⟩,LR:=⟨W.mg_none_of X G uH,W.mg_none_of X G Xd,W.mg_none_of X G OD,W.mg_none_of X G Dw,W.mg_none_of X G OJ,W.mg_none_of X G O1⟩,nm3:=⟨W.mg_none_of X G Xe⟩,xR:=W.mg_of X G qe,mV:=W.mg_of X G Dy,CJ:=W.mg_of X G yX,pA:=W.mg_of X G rK,Iz:=W.mg_of X G Dz,yQ:=W.mg_of X G wG,rC:=W.mg_of X G qg,CK:=W.mg_of X G yZ,CN:=W.mg_of X G za,yR:=W.mg_of X G wH,jr:=jr,gV:=gV,iD:=iD,jX:=⟨⟨DG,DK,DN,Qx,Qy,DP,DQ⟩,Option.isSome_iff_exists.mp (show(W.clsIn K aQ).isSome=true from DR)⟩,nU:=⟨iJ,Qf iK⟩,vK:=Kw,ux:=eV mq u_ vd mz,pB:=eV jw rW rY jx,vL:=eV oA xZ yc oE,sJ:=eV kW rZ su kY,nW:=eV iM lE lF iQ,uy:=eV mC vf vg mD,uz:=eV mF vh vm mG,sO:=eV kZ sy sE k_,nY:=VN VL uI,cV:=⟨⟨rM,rO,rP,Qx,Qy,rQ,rR⟩,Option.isSome_iff_exists.mp (show(W.clsIn K aD).isSome=true from rT)⟩,jY:=⟨fK,Qf fL⟩,pC:=eV jy DW DX jz,nZ:=eV iR u_ vd iT,j7:=Kw,pF:=eV jA xZ yc jB,mJ:=eV gW rZ su gY,jZ:=eV fM lE lF fO,n_:=eV iU vf vg iV,oh:=eV iW vh vm iY,mK:=eV gZ sy sE g8,j4:=VN VL mH,gC:=W.mg_none_of X G gC};exact⟨_,fun s v=>.of_eq rfl,fun base _ _=>qbR T⟩
theorem walk {l:W.OpenLaw} {q:Program} {loose:List Str} {XP:(Str→Option Value)→Heap→Prop} {YP:World→Heap→Prop} {d:DefRec} {K:Params→W.Frag} (hn:l.most=some 63) (hdf:d.params.defaults=[])
    (hY:∀(w:World) (h:Heap),YP w h→(K w.params).In h)
    (F:∀(w:World) (mg:Str→Option Value) (fa:Addr) (h:Heap),(K w.params).In h→h.Ns mainGlobals mg→mg d.name=some (.ref fa)→
      ∃fd:FuncData,(∀(s:Shared) (u:Value),BindsTo s fd ⟨[u],[]⟩ [("_law_script",u)])∧∀base:Heap,(K w.params).In base→base.Ns mainGlobals mg→bZ l.prog w (K w.params) mg base lH 8 fa fd ["_law_script"] (JB (K w.params))) :
    W.WalkO q loose XP YP l.row.toRowW d [] (fun f vs=>PySem.call f vs):=
  L2.X5 (n:=63) (k:=8) (x:= "_law_script") (CX:=fun _=>lH) (sp:=fun w=>JB (K w.params)) hn (by decide) hdf ⟨rfl,by decide,by decide,rfl⟩ hY F (fun _ _ a ns hl _ hS=>⟨a,ns,rfl,hS,hl,fun _=>rfl⟩) fun _ _ _ _ _ z=>z
end K15
end
set_option Elab.async false
set_option maxRecDepth 100000
set_option maxHeartbeats 4000000
open PySem PySem.W PyProof.Rows
namespace PySem.W.Fast
def tw15253844689586481950:=0
def tw9138941554992596810:=0
def tw13479491928028859535:=0
def tw15110488210797497270:=0
def tw15655854871707847056:=0
def tw12261325671909007318:=0
def tw305894030021105607:=0
def tw603356564999397633:=0
def tw15214849183898746812:=0
def tw7149583615163037265:=0
def tw10617351579387398294:=0
def tw16909913472281260704:=0
def tw9991601377120612116:=0
def tw15086563745631387873:=0
def tw14450962446650243635:=0
def tw13624129409499364196:=0
def tw16955786351866481514:=0
def tw1334630914963053731:=0
def tw9752930287408012258:=0
def tw6692367352461112942:=0
def tw12742279257429423853:=0
def tw11522298172260945993:=0
def tw9289581426763369741:=0
def tw4056773058669650055:=0
def tw942277888417759603:=0
def tw9789067679586713462:=0
def tw4472158597361414629:=0
def tw10127730963206248684:=0
def tw3100158258691258207:=0
def tw15305868567044461346:=0
end PySem.W.Fast
set_option maxRecDepth 100000 in
set_option maxHeartbeats 0 in
theorem PySem.Challenge.cw_pointways_k15_whole_renamed_reordered_holds : PySem.Challenge.rw_pointways_k15_whole_renamed_reordered.Holds := by
  w_on;o_law;k_head;(case hw=>w_witness2)
  k_fill
  refine' K15.walk (l:=PySem.Challenge.rw_pointways_k15_whole_renamed_reordered) rfl rfl (fun w h Y=>W.kIn_of Y) ?F
  case F=>
    intro w mg fa h KX G hmg;refine' K15.all_mk KX G hmg ?Oo ?a1 ?F1 ?a2 ?F2 ?a3 ?F3 ?a4 ?F4 ?a5 ?F5 ?a6 ?F6 ?a7 ?i7 ?F7 ?a8 ?i8 ?F8 ?a9 ?i9 ?F9 ?a10 ?i10 ?F10 ?a11 ?F11 ?a12 ?F12 ?a13 ?F13 ?a14 ?F14 ?a15 ?F15 ?a16 ?F16 ?a17 ?F17 ?a18 ?F18 ?a19 ?F19 ?a20 ?F20 ?a21 ?F21 ?a22 ?F22 ?a23 ?F23 ?a24 ?F24 ?a25 ?F25 ?a26 ?F26 ?a27 ?F27 ?a28 ?F28 ?a29 ?l29 ?c29 ?k29 ?kE ?dH ?eN ?gU ?Oq ?Ot ?Ou ?Ov ?Ow ?Ox ?Dt ?Du ?WX ?WY ?W0 ?W2 ?Dv ?JC ?W4 ?Oz ?JD ?W_ ?Xa ?Xb ?Xc ?rJ ?uH ?Xd ?OD ?Dw ?OJ ?O1 ?Xe ?qe ?Dy ?yX ?rK ?Dz ?wG ?qg ?yZ ?za ?wH ?jr ?gV ?iD ?Qx ?Qy ?DG ?DK ?DN ?DP ?DQ ?DR ?iJ ?iK ?mq ?mz ?jw ?jx ?oA ?oE ?kW ?kY ?iM ?iQ ?mC ?mD ?mF ?mG ?kZ ?k_ ?uI ?rM ?rO ?rP ?rQ ?rR ?rT ?fK ?fL ?jy ?jz ?iR ?iT ?jA ?jB ?gW ?gY ?fM ?fO ?iU ?iV ?iW ?iY ?gZ ?g8 ?mH ?DW ?DX ?u_ ?vd ?rW ?rY ?xZ ?yc ?rZ ?su ?lE ?lF ?vf ?vg ?vh ?vm ?sy ?sE ?gC
    case Oo | a1 | a2 | a3 | a4 | a5 | a6 | a7 | i7 | a8 | i8 | a9 | i9 | a10 | i10 | a11 | a12 | a13 | a14 | a15 | a16 | a17 | a18 | a19 | a20 | a21 | a22 | a23 | a24 | a25 | a26 | a27 | a28 | a29 | l29 | c29 | k29 | kE | dH | eN | gU | Oq | Ot | Ou | Ov | Ow | Ox | Dt | Du | WX | WY | W0 | W2 | Dv | JC | W4 | Oz | JD | W_ | Xa | Xb | Xc | rJ | uH | Xd | OD | Dw | OJ | O1 | Xe | qe | Dy | yX | rK | Dz | wG | qg | yZ | za | wH | Qx | Qy | DG | DK | DN | DP | DQ | DR | iJ | mz | jx | oE | kY | iQ | mD | mG | k_ | uI | rM | rO | rP | rQ | rR | rT | fK | jz | iT | jB | gY | fO | iV | iY | g8 | mH | DW | DX | u_ | vd | rW | rY | xZ | yc | rZ | su | lE | lF | vf | vg | vh | vm | sy | sE | gC=>k_is
    case F1 | F2 | F3 | F4 | F5 | F6 | F7 | F8 | F9 | F10 | F11 | F12 | F13 | F14 | F15 | F16 | F17 | F18 | F19 | F20 | F21 | F22 | F23 | F24 | F25 | F26 | F27 | F28=>refine' L2.Ud ?l ?c ?k;(case l=>k_is);(case c=>k_is);(case k=>k_is)
    case jr | gV | iD=>k_exc
    case iK | mq | jw | oA | kW | iM | mC | mF | kZ | fL | jy | iR | jA | gW | fM | iU | iW | gZ=>decide+kernel


