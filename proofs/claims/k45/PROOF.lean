import PyProof.Rows.All
import Wide.All
import OpenK.AllK
import Wide.FinOn
import Lean
import PyProof.EqAt
import PyProof.EqKinds
import PyProof.TupleCall
import PyProof.NeData
import PyProof.AttrMissHeap
import PyProof.FactsAll.enumerate_1
import KE.KDictOf
import PyProof.EnumMake
import PyProof.Rows.SumAny
import PyProof.Rows.StrJoin2
import PyProof.Rows.CountFlat
import PyProof.Rows.FoldWordsD
import PyProof.Rows.SeqMore2
import PyProof.Rows.MinMaxN
import PyProof.Rows.StrInSeq3
import PyProof.Rows.ReprR
import PyProof.StrLawsRepr
import PyProof.StrOps2
import PyProof.Rows.SeqMore
import PyProof.DictItems
import KE.KPairComp
import Wide.Seal
import PySem.Challenge.RW_pointways_k45_refused_fixed
set_option genSizeOfSpec false
noncomputable section
set_option Elab.async false
set_option linter.all false
set_option maxRecDepth 100000
namespace L2
open PySem PySem.Spec PyProof.Rows
abbrev Key:=Sum Int Str
def rF:Key→Value→Bool
  | .inl k,v=>Value.isInt k v
  | .inr x,v=>Value.isStrOf x v
def qiZ (w:World):Key→Int
  | .inl k=>hashInt k
  | .inr x=>hashStr w x
theorem cN:∀{k:Key} {v:Value},rF k v=true→(∃i t,k=Sum.inl i∧v=Value.int i t)∨(∃x t,k=Sum.inr x∧v=Value.str x t)
  | .inl i,v,h=>by
    obtain⟨t,e⟩:=Value.isInt_shape (k:=i) (v:=v) h;exact .inl ⟨i,t,rfl,e⟩
  | .inr x,v,h=>by
    obtain⟨t,e⟩:=Value.isStrOf_shape (x:=x) (v:=v) h;exact .inr ⟨x,t,rfl,e⟩
theorem JV (i:Int) (t:Tok):rF (.inl i) (.int i t)=true:=by simp[rF,Value.isInt]
theorem JW (x:Str) (t:Tok):rF (.inr x) (.str x t)=true:=by simp[rF,Value.isStrOf]
theorem qdP (a b:Int):decide ((Sum.inl a:Key)=Sum.inl b)=(a == b):=by
  by_cases e:a=b
  ·subst e;simp
  ·have h:¬(Sum.inl a:Key)=Sum.inl b:=fun q=>e (Sum.inl.inj q);rw[decide_eq_false h];exact(beq_eq_false_iff_ne.mpr e).symm
theorem qdQ (a b:Str):decide ((Sum.inr a:Key)=Sum.inr b)=decide (a=b):=by
  by_cases e:a=b
  ·subst e;simp
  ·have h:¬(Sum.inr a:Key)=Sum.inr b:=fun q=>e (Sum.inr.inj q);rw[decide_eq_false h,decide_eq_false e]
theorem qdR (a:Int) (b:Str):decide ((Sum.inl a:Key)=Sum.inr b)=false:=decide_eq_false (fun q=>nomatch q)
theorem qdS (a:Str) (b:Int):decide ((Sum.inr a:Key)=Sum.inl b)=false:=decide_eq_false (fun q=>nomatch q)
def aV (prog:Program) (w:World):PySem.KeyKind prog w Key where
  is:=rF
  hash:=qiZ w
  inj:=fun v a b ha hb=>by
    rcases cN ha with⟨i,t,rfl,rfl⟩ | ⟨x,t,rfl,rfl⟩
    · rcases cN hb with⟨j,u,rfl,e⟩ | ⟨y,u,rfl,e⟩
      ·injection e with e1 _;rw[e1]
      ·exact nomatch e
    · rcases cN hb with⟨j,u,rfl,e⟩ | ⟨y,u,rfl,e⟩
      ·exact nomatch e
      ·injection e with e1 _;rw[e1]
  byValue:=fun k v h=>by
    rcases cN h with⟨i,t,rfl,rfl⟩ | ⟨x,t,rfl,rfl⟩ <;> rfl
  pyHash:=fun hv h=>by
    rcases cN hv with⟨i,t,rfl,rfl⟩ | ⟨x,t,rfl,rfl⟩
    ·exact wpAny_pyHash_int h
    ·exact wpAny_pyHash_str h
  eqBool:=fun hu hv h=>by
    rcases cN hu with⟨i,t,rfl,rfl⟩ | ⟨x,t,rfl,rfl⟩
    · rcases cN hv with⟨j,u,rfl,rfl⟩ | ⟨y,u,rfl,rfl⟩
      ·rw[qdP] at h;exact wpAny_eqBool_int h
      ·rw[qdR] at h;exact SeqAt.EqAt.int_str i t y u _ _ _ _ h
    · rcases cN hv with⟨j,u,rfl,rfl⟩ | ⟨y,u,rfl,rfl⟩
      ·rw[qdS] at h;exact SeqAt.EqAt.str_int x t j u _ _ _ _ h
      ·rw[qdQ] at h;exact wpAny_eqBool_str h
  «strs»:=fun k x t v h=>by
    rcases cN h with⟨i,u,rfl,e⟩ | ⟨y,u,rfl,e⟩
    ·exact nomatch e
    ·injection e with e1 _;subst e1;cases v <;> rfl
theorem Fx (prog:Program) (w:World) (k:Key) (v:Value):(aV prog w).is k v=rF k v:=rfl
theorem CV (prog:Program) (w:World) (i:Int) (t:Tok):(aV prog w).is (.inl i) (.int i t)=true:=JV i t
theorem O6 (prog:Program) (w:World) (x:Str) (t:Tok):(aV prog w).is (.inr x) (.str x t)=true:=JW x t
inductive V where
  | non | bl (b:Bool) | int (i:Int) | str (x:Str) | Yl (b:Array UInt8) | flt (b:UInt64) | ref (a:Addr) | ty (n:String)
  deriving DecidableEq
def RelV:V→Value→Prop
  | .non,u=>u=Value.none
  | .bl b,u=>u=Value.bool b
  | .int i,u=>∃t,u=Value.int i t
  | .str x,u=>∃t,u=Value.str x t
  | .Yl b,u=>∃t,u=Value.bytes b t
  | .flt b,u=>∃t,u=Value.float b t
  | .ref a,u=>u=Value.ref a
  | .ty n,u=>u=Value.type n
abbrev Vals:List V→List Value→Prop:=Paired RelV
theorem Vals.length {xs:List V} {us:List Value} (r:Vals xs us):xs.length=us.length:=Paired.length r
theorem Vals.get:∀{xs:List V} {us:List Value} {i:Nat} {x:V},Vals xs us→xs[i]? = some x→∃u,us[i]? = some u∧RelV x u
  | _,_,_,_,.nil,e=>by simp at e
  | _,_,0,_,.cons r _,e=>by simp at e;subst e;exact⟨_,rfl,r⟩
  | _,_,i+1,x,.cons _ t,e=>by
    obtain⟨u,h1,h2⟩:=Vals.get (i:=i) (x:=x) t (by simpa using e);exact⟨u,by simpa using h1,h2⟩
theorem Vals.set {x:V} {u:Value} (r:RelV x u):∀{xs:List V} {us:List Value} (i:Nat),Vals xs us→Vals (xs.set i x) (us.set i u)
  | _,_,_,.nil=>.nil
  | _,_,0,.cons _ t=>.cons r t
  | _,_,i+1,.cons q t=>.cons q (Vals.set r i t)
theorem Vals.append:∀{xs ys:List V} {us ws:List Value},Vals xs us→Vals ys ws→Vals (xs++ys) (us++ws)
  | _,_,_,_,.nil,s=>s
  | _,_,_,_,.cons r t,s=>.cons r (Vals.append t s)
theorem Vals.take:∀{xs:List V} {us:List Value} (n:Nat),Vals xs us→Vals (xs.take n) (us.take n)
  | _,_,0,_=>.nil
  | _,_,_+1,.nil=>.nil
  | _,_,n+1,.cons r t=>.cons r (Vals.take n t)
theorem Vals.drop:∀{xs:List V} {us:List Value} (n:Nat),Vals xs us→Vals (xs.drop n) (us.drop n)
  | _,_,0,r=>r
  | _,_,_+1,.nil=>.nil
  | _,_,n+1,.cons _ t=>Vals.drop n t
def mF:Option V→Option Value→Prop
  | some v,some u=>RelV v u
  | none,none=>True
  | _,_=>False
def KV {κ:Type}:List (κ×V)→List (κ×Value)→Prop:=Paired fun(p:κ×V) (q:κ×Value)=>p.1=q.1∧RelV p.2 q.2
def kV:Key→V
  | .inl i=>.int i
  | .inr x=>.str x
inductive HO where
  | lst (xs:List V)
  | tup (xs:List V)
  | dK (kvs:List (Key×V)) | dT (kvs:List (List Key×V))
  | set (S:Int→Bool) (n:Nat)
  | ins (C dx:Addr) (fs:List (Str×V))
  | own (x:Addr)
  | xd (fs:List (Str×V))
  | met (f x:Addr)
  | rng (lo hi:Int)
  | iG (o:Obj) (u:HO)
  | tbl (ps:Array Value)
  | ext (φ:Heap→Prop)
abbrev Hp:=Addr→Option HO
def upd (H:Hp) (a:Addr) (o:HO):Hp:=fun b=>if b=a then some o else H b
theorem ao {H:Hp} {a:Addr} {o:HO}:upd H a o a=some o:=by unfold upd;rw[if_pos rfl]
theorem aB {H:Hp} {a b:Addr} {o:HO} (h:b≠a):upd H a o b=H b:=by unfold upd;rw[if_neg h]
theorem Fy {H:Hp} {a b:Addr} {o u:HO} (h:H a=some o) (h':H b=some u) (d:o≠u):a≠b:=by
  intro e;subst e;rw[h] at h';exact d (Option.some.inj h')
theorem aK {H:Hp} {a b:Addr} {o:HO} (h:H a=some o) (h':H b=none):a≠b:=by
  intro e;subst e;rw[h] at h';cases h'
section
variable (P:Program) (w:World)
def cj (H:Hp) (h:Heap) (a:Addr):HO→Prop
  | .lst xs=>xs.length≤sizeLine∧∃(its:List Value) (n:Nat),Vals xs its∧h.get? a=some {cls:=.type "list",data:=.seq its.toArray n}
  | .tup xs=>xs.length≤sizeLine∧∃its:List Value,Vals xs its∧IsTup h a its.toArray
  | .dK kvs=>kvs.length≤sizeLine∧(a == sysModules)=false∧∃vs,KV kvs vs∧h.DictOf (aV P w) a vs
  | .dT kvs=>kvs.length≤sizeLine∧(a == sysModules)=false∧∃xs:List (List Key×Addr×Value),
      Paired (fun(p:List Key×V) (q:List Key×Addr×Value)=>p.1=q.1∧H q.2.1=some (.tup (p.1.map kV))∧RelV p.2 q.2.2) kvs xs∧
      ∃o es ep,h.get? a=some o∧o.ExactDict∧o.data = .dict es ep∧es.toList=xs.map (entryOfKey (tupleKind (aV P w)))∧(xs.map (·.1)).Nodup
  | .set S n=>h.SetOf (intKind P w) a S n
  | .ins C dx fs=>H dx=some (.own a)∧fs.length≤1000∧dx≠a∧h.get? a=some (W.instObj C dx)∧
      ∃mA,h.Ns1 dx mA∧(∀f,mF (fs.lookup f) (mA f))∧PySem.Within mA (fs.map (·.1))
  | .own _=>∃o,h.get? a=some o
  | .xd fs=>∃mA,h.Ns1 a mA∧∀f,mF (fs.lookup f) (mA f)
  | .rng lo hi=>∃t u v,h.get? a=some {cls:=.type "range",data:=.fields #[.int lo t,.int hi u,.int 1 v]}
  | .iG o u=>h.get? a=some o∧cj H h a u
  | .tbl ps=>h.get? a=some {cls:=.none,data:=.fields ps}
  | .met f x=>h.get? a=some (W.methodObj (.ref f) (.ref x))
  | .ext φ=>φ h∧(∃o,h.get? a=some o)∧∀h1 h2:Heap,φ h1→(∀o,h1.get? a=some o→h2.get? a=some o)→φ h2
def pq (H:Hp) (h:Heap):Prop:=∀a o,H a=some o→cj P w H h a o
end
section
variable {P:Program} {w:World} {H H':Hp} {h h':Heap} {a:Addr} {o:HO}
theorem cj.lt (x:cj P w H h a o):a<h.objs.size:=by
  cases o with
  | lst xs=>obtain⟨_,_,_,_,e⟩:=x;exact Heap.lt_size e
  | tup xs=>obtain⟨_,_,_,p⟩:=x;exact p.lt
  | dK kvs=>obtain⟨_,_,_,_,o,_,_,e,_⟩:=x;exact Heap.lt_size e
  | dT kvs=>obtain⟨_,_,_,_,o,_,_,e,_⟩:=x;exact Heap.lt_size e
  | set S n=>obtain⟨o,_,_,_,e,_⟩:=x;exact Heap.lt_size e
  | ins C dx fs=>obtain⟨_,_,_,e,_⟩:=x;exact Heap.lt_size e
  | own y=>obtain⟨_,e⟩:=x;exact Heap.lt_size e
  | xd fs=>obtain⟨_,⟨_,_,_,e,_⟩,_⟩:=x;exact Heap.lt_size e
  | rng lo hi=>obtain⟨_,_,_,e⟩:=x;exact Heap.lt_size e
  | iG ob u=>obtain⟨e,_⟩:=x;exact Heap.lt_size e
  | tbl ps=>exact Heap.lt_size (show h.get? a=some _ from x)
  | met f y=>exact Heap.lt_size (show h.get? a=some _ from x)
  | ext φ=>obtain⟨_,⟨_,e⟩,_⟩:=x;exact Heap.lt_size e
theorem Paired.qdT {α β:Type} {F G:α→β→Prop}:∀{l₁:List α} {l₂:List β},Paired F l₁ l₂→(∀a b,F a b→G a b)→Paired G l₁ l₂
  | _,_,.nil,_=>.nil
  | _,_,.cons r t,f=>.cons (f _ _ r) (Paired.qdT t f)
theorem cj.stay (x:cj P w H h a o) (k:∀b u,(b=a∨H b=some (.own a))→h.get? b=some u→h'.get? b=some u)
    (ho:∀b,H b=some (.own a)→H' b=some (.own a)) (ht:∀b xs,H b=some (.tup xs)→H' b=some (.tup xs)):cj P w H' h' a o:=by
  induction o with
  | lst xs=>obtain⟨z,its,n,r,e⟩:=x;exact⟨z,its,n,r,k _ _ (.inl rfl) e⟩
  | tup xs=>obtain⟨z,its,r,ob,e,c⟩:=x;exact⟨z,its,r,ob,k _ _ (.inl rfl) e,c⟩
  | dK kvs=>obtain⟨z,y,vs,r,ob,es,ep,e,c⟩:=x;exact⟨z,y,vs,r,ob,es,ep,k _ _ (.inl rfl) e,c⟩
  | dT kvs=>
    obtain⟨z,y,xs,r,ob,es,ep,e,c⟩:=x;exact⟨z,y,xs,Paired.qdT r fun p q z=>⟨z.1,ht _ _ z.2.1,z.2.2⟩,ob,es,ep,k _ _ (.inl rfl) e,c⟩
  | set S n=>obtain⟨ob,es,ep,t,e,c⟩:=x;exact⟨ob,es,ep,t,k _ _ (.inl rfl) e,c⟩
  | ins C dx fs=>
    obtain⟨d,z,ne,e,mA,⟨od,es,ep,e2,c⟩,r⟩:=x;exact⟨ho _ d,z,ne,k _ _ (.inl rfl) e,mA,⟨od,es,ep,k _ _ (.inr d) e2,c⟩,r⟩
  | own y=>obtain⟨ob,e⟩:=x;exact⟨ob,k _ _ (.inl rfl) e⟩
  | xd fs=>obtain⟨mA,⟨od,es,ep,e,c⟩,r⟩:=x;exact⟨mA,⟨od,es,ep,k _ _ (.inl rfl) e,c⟩,r⟩
  | rng lo hi=>obtain⟨t,u,v,e⟩:=x;exact⟨t,u,v,k _ _ (.inl rfl) e⟩
  | iG ob u ih=>obtain⟨e,q⟩:=x;exact⟨k _ _ (.inl rfl) e,ih q⟩
  | tbl ps=>
    have e:h.get? a=some {cls:=.none,data:=.fields ps}:=x;show h'.get? a=some {cls:=.none,data:=.fields ps};exact k a _ (.inl rfl) e
  | met f y=>
    have e:h.get? a=some (W.methodObj (.ref f) (.ref y)):=x;show h'.get? a=some (W.methodObj (.ref f) (.ref y));exact k a _ (.inl rfl) e
  | ext φ=>obtain⟨p,⟨o,e⟩,st⟩:=x;exact⟨st _ _ p fun o q=>k _ _ (.inl rfl) q,⟨o,k _ _ (.inl rfl) e⟩,st⟩
theorem pq.lt (x:pq P w H h) (e:H a=some o):a<h.objs.size:=(x a o e).lt
theorem pq.fresh (x:pq P w H h) (e:h.objs.size≤a):H a=none:=by
  cases q:H a with
  | none=>rfl
  | some u=>exact absurd (Nat.lt_of_lt_of_le (x.lt q) e) (Nat.lt_irrefl _)
theorem pq.kept (x:pq P w H h) (k:∀b u,h.get? b=some u→h'.get? b=some u):pq P w H h':=fun a o e=>
  (x a o e).stay (fun b u _ q=>k b u q) (fun _ q=>q) fun _ _ q=>q
theorem pq.laid (x:pq P w H h) (k:∀b u,h.get? b=some u→h'.get? b=some u) (hp:h.objs.size≤a) (new:cj P w (upd H a o) h' a o):pq P w (upd H a o) h':=fun b u e=>by
  have hn:=x.fresh hp
  by_cases hb:b=a
  ·subst hb;rw[ao] at e;cases e;exact new
  ·rw[aB hb] at e;exact(x b u e).stay (fun c v _ q=>k c v q) (fun c q=>by rw[aB (aK q hn)];exact q) fun c xs q=>by rw[aB (aK q hn)];exact q
end
def Rd (H:Hp) (a:Addr) (u:HO):Prop:=H a=some u∨∃o,H a=some (.iG o u)
theorem Rd.ok {P:Program} {w:World} {H:Hp} {h:Heap} {a:Addr} {u:HO} (r:Rd H a u) (x:pq P w H h):cj P w H h a u:=by
  rcases r with r | ⟨o,r⟩
  ·exact x a u r
  ·obtain⟨_,q⟩:=x a _ r;exact q
def Mut:Option HO→Prop
  | some (.lst _)=>True
  | some (.dK _)=>True
  | some (.dT _)=>True
  | some (.set _ _)=>True
  | some (.ins _ _ _)=>True
  | some (.ext _)=>True
  | _=>False
section
variable {P:Program} {w:World} {H:Hp} {h h':Heap} {x e:Addr} {o':HO}
theorem pq.write (ok:pq P w H h) (mu:Mut (H x)) (he:e=x∨H e=some (.own x)) (k:∀b u,b≠e→h.get? b=some u→h'.get? b=some u) (heo:∃u,h'.get? e=some u)
    (new:cj P w (upd H x o') h' x o'):pq P w (upd H x o') h':=fun b u q=>by
  have qfV:∀c y,H c=some (.own y)→c≠x:=fun c y r z=>by subst z;rw[r] at mu;exact mu
  have qi0:∀c xs,H c=some (.tup xs)→c≠x:=fun c xs r z=>by subst z;rw[r] at mu;exact mu
  by_cases hb:b=x
  ·subst hb;rw[ao] at q;cases q;exact new
  · rw[aB hb] at q
    by_cases hbe:b=e
    · have q':H b=some (.own x):=by
        rcases he with z | z
        ·exact absurd (hbe.trans z) hb
        ·rw[hbe];exact z
      rw[q] at q';cases q';obtain⟨v,hv⟩:=heo;exact⟨v,by rw[hbe];exact hv⟩
    · refine(ok b u q).stay (fun c v hc r=>k c v ?_ r) (fun c r=>by rw[aB (qfV c b r)];exact r) fun c xs r=>by rw[aB (qi0 c xs r)];exact r
      rcases hc with rfl | hc
      ·exact hbe
      · rintro rfl
        rcases he with z | z
        ·exact qfV c b hc z
        ·rw[hc] at z;cases z;exact hb rfl
end
structure Un (fs ex:List Addr) (H H':Hp) (h h':Heap):Prop where
  keep:∀b o,h.get? b=some o→H b=none→b∉fs→b∉ex→h'.get? b=some o
  slot:∀b o,h.get? b=some o→H b=none→b∈fs→b∉ex→∃sl,h'.get? b=some {o with slots:=sl}
  free:∀b o,h.get? b=some o→H b=none→b∉ex→H' b=none
  there:∀b o,h.get? b=some o→b∉ex→∃o',h'.get? b=some o'
  tups:∀b xs,H b=some (.tup xs)→H' b=some (.tup xs)
  qg:∀b o u,H b=some (.iG o u)→H' b=some (.iG o u)
  rM:∀b ps,H b=some (.tbl ps)→∃more,H' b=some (.tbl (ps++more))
section
variable {fs fs' ex ex':List Addr} {H H1 H2:Hp} {h h1 h2 h':Heap} {a x e:Addr} {o:HO}
theorem Un.any (u:Un fs ex H H1 h h1) {b:Addr} {ob:Obj} (q:h.get? b=some ob) (n:H b=none) (hx:b∉ex):∃sl,h1.get? b=some {ob with slots:=sl}:=by
  by_cases hb:b∈fs
  ·exact u.slot b ob q n hb hx
  ·exact⟨ob.slots,u.keep b ob q n hb hx⟩
theorem Un.kept (k:∀b u,h.get? b=some u→h'.get? b=some u):Un fs ex H H h h':=
  ⟨fun b ob q _ _ _=>k b ob q,fun b ob q _ _ _=>⟨ob.slots,k b ob q⟩,fun _ _ _ n _=>n,fun b ob q _=>⟨ob,k b ob q⟩,fun _ _ q=>q,fun _ _ _ q=>q,fun _ ps q=>⟨#[],by rw[q];simp⟩⟩
theorem Un.refl:Un fs ex H H h h:=Un.kept fun _ _ q=>q
theorem Un.laid (k:∀b u,h.get? b=some u→h'.get? b=some u) (hp:h.objs.size≤a) (hn:H a=none):Un fs ex H (upd H a o) h h' where
  keep:=fun b u q _ _ _=>k b u q
  slot:=fun b u q _ _ _=>⟨u.slots,k b u q⟩
  free:=fun b u q n _=>by rw[aB (Nat.ne_of_lt (Nat.lt_of_lt_of_le (Heap.lt_size q) hp))];exact n
  there:=fun b u q _=>⟨u,k b u q⟩
  tups:=fun b xs q=>by rw[aB (aK q hn)];exact q
  qg:=fun b u xs q=>by rw[aB (aK q hn)];exact q
  rM:=fun b ps q=>⟨#[],by rw[aB (aK q hn),q];simp⟩
theorem Un.write (mu:Mut (H x)) (he:e=x∨H e=some (.own x)) (k:∀b u,b≠e→h.get? b=some u→h'.get? b=some u) (heo:∃u,h'.get? e=some u):Un fs ex H (upd H x o) h h':=by
  have hx:∀b,H b=none→b≠x:=fun b n z=>by subst z;rw[n] at mu;exact mu
  have hb:∀b,H b=none→b≠e:=fun b n z=>by
    subst z
    rcases he with r | r
    ·exact hx b n r
    ·rw[n] at r;cases r
  have hm:∀b u,H b=some u→¬Mut (some u)→b≠x:=fun b u q nm z=>by subst z;rw[q] at mu;exact nm mu
  refine⟨fun b u q n _ _=>k b u (hb b n) q,fun b u q n _ _=>⟨u.slots,k b u (hb b n) q⟩,fun b u q n _=>by rw[aB (hx b n)];exact n,fun b u q _=>?_,
    fun b xs q=>by rw[aB (hm b _ q fun z=>z)];exact q,fun b u xs q=>by rw[aB (hm b _ q fun z=>z)];exact q,fun b ps q=>⟨#[],by rw[aB (hm b _ q fun z=>z),q];simp⟩⟩
  by_cases hbe:b=e
  ·subst hbe;exact heo
  ·exact⟨u,k b u hbe q⟩
end
def trk (h:Heap) (H:Hp):List Addr:=(List.range h.objs.size).filter fun a=>(H a).isSome
def Ls (h:Heap) (H:Hp):Heap:=W.hideAll h (trk h H)
theorem VP (h:Heap) (H:Hp):(Ls h H).objs.size=h.objs.size:=W.hideAll_size _ _
theorem Yv {h:Heap} {H:Hp} {b:Addr} {o:Obj} (e:h.get? b=some o) (n:H b=none):(Ls h H).get? b=some o:=
  W.hideAll_get _ e fun hm=>by
    have q:(H b).isSome=true:=(List.mem_filter.mp hm).2;rw[n] at q;simp at q
theorem qbs {h:Heap} {H:Hp} {b:Addr} {o:Obj} (e:(Ls h H).get? b=some o):h.get? b=some o∧H b=none:=by
  have e':h.get? b=some o:=W.of_hideAll (trk h H) e;refine⟨e',?_⟩;cases q:H b with
  | none=>rfl
  | some x=>
    have hm:b∈trk h H:=List.mem_filter.mpr ⟨List.mem_range.mpr (Heap.lt_size e'),by simp[q]⟩;have z:(Ls h H).get? b=none:=W.hideAll_none (trk h H) hm;rw[z] at e;cases e
def qbt (g h:Heap) (L:Addr):List (Addr×Obj):=(List.range h.objs.size).filterMap fun a=>if a=L∨(g.get? a).isSome=true then none else (h.get? a).map fun o=>(a,o)
def rest (g h:Heap) (L d:Addr):List (Addr×Obj):=(qbt g h L).filter fun p=>decide (p.1≠d)
structure Mod (K:W.Frag) (mg:Str→Option Value) (base:Heap):Prop where
  O7:K.In base
  glob:base.Ns mainGlobals mg
  blt:∃mb,base.Ns builtinsNs mb∧∀x:Str,x≠ "__name__" →mb x=bootBuiltins x
  nolimit:base.NoLimit
set_option genInjectivity false in
structure Cx where
  prog:Program
  w:World
  K:W.Frag
  mg:Str→Option Value
  base:Heap
  A:Around
  N:List Str
  s₀:Shared
  H₀:Hp
  env:Env
  outer:List Env
  stack:List Env
  ex:List Addr
  fn:Str→Bool
  calm:Bool
  pn:List (Addr×Obj)
  xe:Value→Shared→Prop
def frs (l:List Env):List Addr:=l.filterMap (·.frame)
abbrev Cx.fs (X:Cx):List Addr:=frs X.outer
def Vis (sc:Scope) (x:Str):Prop:=sc.names.lookup x=some .local∨sc.names.lookup x=some .cell∨sc.names.lookup x=some .free
def Loc (sc:Scope) (x:Str):Prop:=sc.names.lookup x=some .local∨sc.names.lookup x=some .cell
def Look (env:Env) (h:Heap) (m:Str→Option Value) (x:Str) (u:Value):Prop:=
  (env.kindOf x=some .local∧m x=some u)∨((env.kindOf x=some .cell∨env.kindOf x=some .free)∧∃c,env.cells.lookup x=some c∧h.IsCell c (some u))
structure Cx.Ok (X:Cx):Prop where
  mod:Mod X.K X.mg X.base
  kind:X.env.scope.kind = .function
  glob:X.env.globals=mainGlobals
  blt:X.env.builtins=builtinsNs
  above:X.s₀.heap.objs.size≤X.env.locals
  inj:∀x y c,X.env.cells.lookup x=some c→X.env.cells.lookup y=some c→x=y
  has:∀x,(X.env.kindOf x=some .cell∨X.env.kindOf x=some .free)→∃c,X.env.cells.lookup x=some c
  cab:∀x c,X.fn x=true→X.env.cells.lookup x=some c→X.s₀.heap.objs.size≤c
  hd:X.calm=true→X.A.handled=none
  frames:X.A.frames=some X.stack
  stk:X.stack=X.outer∨(X.stack=X.env::X.outer∧X.env.frame=some X.env.locals)
  exf:∀b∈X.ex,b≠X.env.locals∧∀x c,X.env.cells.lookup x=some c→c≠b
  bs:∀b o,X.base.get? b=some o→X.s₀.heap.get? b=some o∧X.H₀ b=none
  VR:X.base.objs.size≤X.s₀.heap.objs.size
  O8:∀b o,X.base.get? b=some o→b∉X.ex
  O9:∀b∈X.ex,b∉X.fs
  rT:X.s₀.heap.FunFrames X.base X.outer
  Yw:∀b∈X.fs,X.H₀ b=none
structure Inv (X:Cx) (p_:List (Addr×Obj)) (σ:List (Option V)) (H:Hp) (s:Shared):Prop where
  ok:X.Ok
  os:s.os=X.s₀.os
  bare:AllBare s.gens
  base:Un X.fs X.ex X.H₀ H X.s₀.heap s.heap
  loc:∃m,s.heap.Ns X.env.locals m∧∀(i:Nat) (x:Str) (v:V),X.N[i]? = some x→σ[i]? = some (some v)→Vis X.env.scope x→∃u,RelV v u∧Look X.env s.heap m x u
  cell:∀x c,X.env.cells.lookup x=some c→∃v,s.heap.IsCell c v
  free:H X.env.locals=none
  iw:∀x c,X.env.cells.lookup x=some c→H c=none
  pin:∀p∈X.pn++p_,s.heap.get? p.1=some p.2∧H p.1=none∧p.1≠X.env.locals∧p.1∉X.fs∧∀v,p.2.data≠.cell v
  hok:pq X.prog X.w H s.heap
  len:σ.length=X.N.length
section
variable {X:Cx} {p_:List (Addr×Obj)} {σ:List (Option V)} {H H':Hp} {s:Shared} {h':Heap}
theorem Cx.Ok.qi1 (ok:X.Ok) {b:Addr} {o:Obj} (e:X.base.get? b=some o):b∉X.fs:=fun hb=>by
  have:=(ok.rT.mem hb).1;rw[e] at this;cases this
theorem Inv.bs (I:Inv X p_ σ H s):∀b o,X.base.get? b=some o→s.heap.get? b=some o∧H b=none:=fun b o e=>
  ⟨I.base.keep b o (I.ok.bs b o e).1 (I.ok.bs b o e).2 (I.ok.qi1 e) (I.ok.O8 b o e),I.base.free b o (I.ok.bs b o e).1 (I.ok.bs b o e).2 (I.ok.O8 b o e)⟩
theorem Inv.bk (I:Inv X p_ σ H s):∀b o,X.base.get? b=some o→s.heap.get? b=some o:=fun b o e=>(I.bs b o e).1
theorem Inv.mod (I:Inv X p_ σ H s):Mod X.K X.mg X.base:=I.ok.mod
theorem Inv.mZ (I:Inv X p_ σ H s):X.K.In s.heap:=I.ok.mod.O7.keeps I.bk
theorem Inv.lt (I:Inv X p_ σ H s):X.env.locals<s.heap.objs.size:=let ⟨_,hn,_⟩:=I.loc;hn.lt
theorem Inv.sz (I:Inv X p_ σ H s):X.s₀.heap.objs.size≤s.heap.objs.size:=Nat.le_trans I.ok.above (Nat.le_of_lt I.lt)
theorem Inv.qi2 (I:Inv X p_ σ H s) {a:Addr} (h:s.heap.objs.size≤a):a∉X.fs:=fun hb=>by
  obtain⟨_,o,ho,_⟩:=I.ok.rT.mem hb;exact absurd (Nat.lt_of_lt_of_le (Heap.lt_size ho) (Nat.le_trans I.sz h)) (Nat.lt_irrefl _)
theorem Inv.cne (I:Inv X p_ σ H s):∀x c,X.env.cells.lookup x=some c→c≠X.env.locals:=fun x c e z=>by
  obtain⟨v,o,ho,hd⟩:=I.cell x c e;obtain⟨m,⟨o',es,ep,ho',hd',_⟩,_⟩:=I.loc;rw[z,ho'] at ho;cases ho;rw[hd'] at hd;cases hd
theorem Inv.rT (I:Inv X p_ σ H s):s.heap.FunFrames X.base X.outer:=by
  have all:∀(l:List Env),(∀b∈frs l,b∈X.fs)→X.s₀.heap.FunFrames X.base l→s.heap.FunFrames X.base l:=by
    intro l
    induction l with
    | nil=>intro _ _;trivial
    | cons env r ih=>
      intro hs hl;obtain⟨hk,⟨L,o,hf,hn,ho,hd⟩,hr⟩:=hl;have hL:L∈X.fs:=hs L (by unfold frs;rw[List.filterMap_cons,hf];exact List.mem_cons_self);obtain⟨sl,e⟩:=I.base.slot L o ho (I.ok.Yw L hL) hL fun z=>I.ok.O9 L z hL;exact⟨hk,⟨L,_,hf,hn,e,hd⟩,ih (fun b hb=>hs b (by unfold frs;rw[List.filterMap_cons,hf];exact List.mem_cons_of_mem _ hb)) hr⟩
  exact all X.outer (fun _ hb=>hb) I.ok.rT
theorem Inv.stack (I:Inv X p_ σ H s):s.heap.FunFrames X.base X.stack:=by
  rcases I.ok.stk with e | ⟨e,hf⟩
  ·rw[e];exact I.rT
  ·rw[e];obtain⟨m,hn,_⟩:=I.loc;refine .cons (by rw[I.ok.kind];decide) hf hn ?_ I.rT;exact Heap.get?_none_of_le (Nat.le_trans I.ok.VR I.ok.above)
theorem Inv.vP (I:Inv X p_ σ H s):∀b∈frs X.stack,b∈X.env.locals::X.fs:=fun b hb=>by
  rcases I.ok.stk with e | ⟨e,hf⟩
  ·rw[e] at hb;exact List.mem_cons_of_mem _ hb
  ·rw[e] at hb;unfold frs at hb;rw[List.filterMap_cons,hf] at hb;exact hb
theorem Inv.Ec (I:Inv X p_ σ H s):∀b∈frs X.stack,H b=none:=fun b hb=>by
  rcases List.mem_cons.mp (I.vP b hb) with e | hb
  ·rw[e];exact I.free
  ·obtain⟨_,o,ho,_⟩:=I.ok.rT.mem hb;exact I.base.free b o ho (I.ok.Yw b hb) fun z=>I.ok.O9 b z hb
theorem Inv.step {g':Array GenState} {t':Nat} {d':Drawn} {ch:List Addr} (I:Inv X p_ σ H s)
    (hch:∀b∈ch,(b∈X.ex∨X.s₀.heap.objs.size≤b)∧b≠X.env.locals∧(∀x c,X.env.cells.lookup x=some c→c≠b)∧∀p∈X.pn++p_,p.1≠b)
    (keep:∀b o,b≠X.env.locals→b∉X.fs→b∉ch→s.heap.get? b=some o→H b=none→h'.get? b=some o)
    (slot:∀b o,b≠X.env.locals→b∈X.fs→b∉ch→s.heap.get? b=some o→H b=none→∃sl,h'.get? b=some {o with slots:=sl}) (free:∀b o,b∉ch→s.heap.get? b=some o→H b=none→H' b=none)
    (there:∀b o,b∉ch→s.heap.get? b=some o→∃o',h'.get? b=some o')
    (tups:∀b xs,H b=some (.tup xs)→H' b=some (.tup xs)) (qg:∀b o u,H b=some (.iG o u)→H' b=some (.iG o u)) (rM:∀b ps,H b=some (.tbl ps)→∃more,H' b=some (.tbl (ps++more)))
    (ns:∀m,s.heap.Ns X.env.locals m→h'.Ns X.env.locals m) (hok:pq X.prog X.w H' h') (hg:AllBare g') :
    Inv X p_ σ H' {s with heap:=h',gens:=g',drawn:=d',toks:=t'}:=by
  have neL:∀b o,X.s₀.heap.get? b=some o→b≠X.env.locals:=fun b o e=>Nat.ne_of_lt (Nat.lt_of_lt_of_le (Heap.lt_size e) I.ok.above);have neC:∀b o,X.s₀.heap.get? b=some o→b∉X.ex→b∉ch:=fun b o e hx hb=>by
    rcases(hch b hb).1 with z | z
    ·exact hx z
    ·exact absurd (Nat.lt_of_lt_of_le (Heap.lt_size e) z) (Nat.lt_irrefl _)
  have cellK:∀x c,X.env.cells.lookup x=some c→∀v,s.heap.IsCell c v→h'.IsCell c v:=fun x c e v ⟨o,ho,hd⟩=>by
    have nch:c∉ch:=fun z=>(hch c z).2.2.1 x c e rfl
    by_cases hc:c∈X.fs
    ·obtain⟨sl,q⟩:=slot c o (I.cne x c e) hc nch ho (I.iw x c e);exact⟨_,q,hd⟩
    ·exact⟨o,keep c o (I.cne x c e) hc nch ho (I.iw x c e),hd⟩
  refine⟨I.ok,I.os,hg,⟨fun b o e n hb hx=>?_,fun b o e n hb hx=>?_,fun b o e n hx=>?_,fun b o e hx=>?_,fun b xs e=>tups b xs (I.base.tups b xs e),fun b o xs e=>qg b o xs (I.base.qg b o xs e),fun b ps e=>?_⟩,?_,fun x c e=>?_,?_,fun x c e=>?_,fun p hp=>?_,hok,I.len⟩
  ·exact keep b o (neL b o e) hb (neC b o e hx) (I.base.keep b o e n hb hx) (I.base.free b o e n hx)
  ·obtain⟨sl,e1⟩:=I.base.slot b o e n hb hx;obtain⟨sl',e2⟩:=slot b _ (neL b o e) hb (neC b o e hx) e1 (I.base.free b o e n hx);exact⟨sl',e2⟩
  ·obtain⟨o',e1⟩:=I.base.there b o e hx;exact free b o' (neC b o e hx) e1 (I.base.free b o e n hx)
  ·obtain⟨o',e1⟩:=I.base.there b o e hx;exact there b o' (neC b o e hx) e1
  ·obtain⟨m1,e1⟩:=I.base.rM b ps e;obtain⟨m2,e2⟩:=rM b _ e1;exact⟨m1++m2,by rw[e2,Array.append_assoc]⟩
  · obtain⟨m,hn,hl⟩:=I.loc;refine⟨m,ns m hn,fun i x v e1 e2 e3=>?_⟩;obtain⟨u,r,l⟩:=hl i x v e1 e2 e3;refine⟨u,r,?_⟩
    rcases l with l | ⟨k,c,e,z⟩
    ·exact .inl l
    ·exact .inr ⟨k,c,e,cellK x c e _ z⟩
  ·obtain⟨v,z⟩:=I.cell x c e;exact⟨v,cellK x c e v z⟩
  ·obtain⟨m,⟨o,_,_,ho,_⟩,_⟩:=I.loc;exact free _ o (fun z=>(hch _ z).2.1 rfl) ho I.free
  ·obtain⟨v,o,ho,hd⟩:=I.cell x c e;exact free c o (fun z=>(hch c z).2.2.1 x c e rfl) ho (I.iw x c e)
  ·obtain⟨e,n,ne,nf,d⟩:=I.pin p hp;have nch:p.1∉ch:=fun z=>(hch p.1 z).2.2.2 p hp rfl;exact⟨keep p.1 p.2 ne nf nch e n,free p.1 p.2 nch e n,ne,nf,d⟩
theorem Inv.un {t':Nat} (I:Inv X p_ σ H s) (u:Un X.fs [] H H' s.heap h') (hok:pq X.prog X.w H' h'):Inv X p_ σ H' {s with heap:=h',toks:=t'}:=by
  obtain⟨m,⟨o,es,ep,ho,r⟩,_⟩:=id I.loc;obtain⟨sl,hL⟩:=u.any ho I.free (by simp);exact I.step (g':=s.gens) (d':=s.drawn) (ch:=[]) (fun _ z=>nomatch z) (fun b o _ hb _ e n=>u.keep b o e n hb (by simp)) (fun b o _ hb _ e n=>u.slot b o e n hb (by simp)) (fun b o _ e n=>u.free b o e n (by simp)) (fun b o _ e=>u.there b o e (by simp)) u.tups u.qg u.rM (fun m' hm=>by
    obtain⟨o',es',ep',ho',r'⟩:=hm;rw[ho] at ho';cases ho';exact⟨_,es',ep',hL,r'⟩) hok I.bare
theorem Inv.call {g':Array GenState} {t':Nat} {d':Drawn} {ch:List Addr} (I:Inv X p_ σ H s) (u:Un (frs X.stack) ch H H' s.heap h') (hok:pq X.prog X.w H' h') (hg:AllBare g')
    (hch:∀b∈ch,(b∈X.ex∨X.s₀.heap.objs.size≤b)∧b≠X.env.locals∧(∀x c,X.env.cells.lookup x=some c→c≠b)∧∀p∈X.pn++p_,p.1≠b) :
    Inv X p_ σ H' {s with heap:=h',gens:=g',drawn:=d',toks:=t'}:=by
  obtain⟨m,⟨o,es,ep,ho,r⟩,_⟩:=id I.loc;obtain⟨sl,hL⟩:=u.any ho I.free fun z=>(hch _ z).2.1 rfl;exact I.step (ch:=ch) hch (fun b o hL hb hc e n=>u.keep b o e n (fun z=>(List.mem_cons.mp (I.vP b z)).elim hL hb) hc) (fun b o _ _ hc e n=>u.any e n hc) (fun b o hc e n=>u.free b o e n hc) (fun b o hc e=>u.there b o e hc) u.tups u.qg u.rM (fun m' hm=>by
    obtain⟨o',es',ep',ho',r'⟩:=hm;rw[ho] at ho';cases ho';exact⟨_,es',ep',hL,r'⟩) hok hg
theorem Inv.turned {t':Nat} {it:Addr} (I:Inv X p_ σ H s) (k:∀b o,b≠it→s.heap.get? b=some o→h'.get? b=some o) (hn:H it=none) (hL:it≠X.env.locals)
    (h1:it∈X.ex∨X.s₀.heap.objs.size≤it) (h2:∀x c,X.env.cells.lookup x=some c→c≠it) (h3:∀p∈X.pn++p_,p.1≠it):Inv X p_ σ H {s with heap:=h',toks:=t'}:=by
  have nit:∀b u,H b=some u→b≠it:=fun b u e z=>by rw[z,hn] at e;cases e
  refine I.step (g':=s.gens) (d':=s.drawn) (ch:=[it]) (fun b hb=>?_) (fun b o _ _ hc e _=>k b o (fun z=>hc (by simp[z])) e) (fun b o _ _ hc e _=>⟨o.slots,k b o (fun z=>hc (by simp[z])) e⟩) (fun _ _ _ _ n=>n)
    (fun b o hc e=>⟨o,k b o (fun z=>hc (by simp[z])) e⟩) (fun _ _ e=>e) (fun _ _ _ e=>e) (fun b ps e=>⟨#[],by rw[e];simp⟩) (fun m hm=>?_) (fun b u e=>?_) I.bare
  · have e:b=it:=by simpa using hb
    subst e;exact⟨h1,hL,h2,h3⟩
  ·obtain⟨o,es,ep,ho,r⟩:=hm;exact⟨o,es,ep,k _ o (Ne.symm hL) ho,r⟩
  · refine(I.hok b u e).stay (fun c v hc q=>k c v ?_ q) (fun _ q=>q) fun _ _ q=>q
    rcases hc with z | z
    ·rw[z];exact nit b u e
    ·exact nit c _ z
theorem Inv.tok (I:Inv X p_ σ H s) (t:Nat):Inv X p_ σ H {s with toks:=t}:=I.un (h':=s.heap) (t':=t) Un.refl I.hok
theorem Inv.kept {t':Nat} (I:Inv X p_ σ H s) (k:∀b u,s.heap.get? b=some u→h'.get? b=some u):Inv X p_ σ H {s with heap:=h',toks:=t'}:=I.un (Un.kept k) (I.hok.kept k)
theorem Inv.laid {a:Addr} {o:HO} {t':Nat} (I:Inv X p_ σ H s) (k:∀b u,s.heap.get? b=some u→h'.get? b=some u) (hp:s.heap.objs.size≤a) (new:cj X.prog X.w (upd H a o) h' a o) :
    Inv X p_ σ (upd H a o) {s with heap:=h',toks:=t'}:=I.un (Un.laid k hp (I.hok.fresh hp)) (I.hok.laid k hp new)
theorem Inv.write {x e:Addr} {o:HO} {t':Nat} (I:Inv X p_ σ H s) (mu:Mut (H x)) (he:e=x∨H e=some (.own x)) (k:∀b u,b≠e→s.heap.get? b=some u→h'.get? b=some u) (heo:∃u,h'.get? e=some u)
    (new:cj X.prog X.w (upd H x o) h' x o):Inv X p_ σ (upd H x o) {s with heap:=h',toks:=t'}:=I.un (Un.write mu he k heo) (I.hok.write mu he k heo new)
theorem Inv.Ut {CW:List (Addr×Obj)} (I:Inv X p_ σ H s) (h:∀p∈CW,s.heap.get? p.1=some p.2∧H p.1=none∧p.1≠X.env.locals∧p.1∉X.fs∧∀v,p.2.data≠.cell v):Inv X CW σ H s:=
  ⟨I.ok,I.os,I.bare,I.base,I.loc,I.cell,I.free,I.iw,fun p hp=>(List.mem_append.mp hp).elim (fun z=>I.pin p (List.mem_append_left _ z)) (h p),I.hok,I.len⟩
theorem Fz {N:List Str} (hN:N.Nodup) {i j:Nat} {x:Str} (a:N[i]? = some x) (b:N[j]? = some x):i=j:=by
  obtain⟨h1,e1⟩:=List.getElem?_eq_some_iff.mp a;obtain⟨h2,e2⟩:=List.getElem?_eq_some_iff.mp b;exact(List.getElem_inj hN).mp (e1.trans e2.symm)
theorem uy {M:Model} {A:Around} {E:Value→Shared→Prop} {i:Nat} {x:Str} {v:V} {u:Value} {Q:Unit→Shared→Prop} (I:Inv X p_ σ H s) (hN:X.N.Nodup) (hi:X.N[i]? = some x) (hx:Loc X.env.scope x) (r:RelV v u)
    (h:∀s',Inv X p_ (σ.set i (some v)) H s'→(∃a,Heap.SameBut a s.heap s'.heap∧(a=X.env.locals∨X.env.cells.lookup x=some a))→Q () s') (hf:X.fn x=true∨X.env.scope.names.lookup x=some .local:=by first | exact .inl rfl | exact .inr rfl | assumption):wpAny M A (storeName X.env x u) Q E s:=by
  obtain⟨m,hn,hl⟩:=id I.loc;have hcls:(X.env.scope.kind == .class || (X.env.scope.kind == .module && X.env.locals != X.env.globals))=false:=by rw[I.ok.kind];rfl
  have hiσ:i<σ.length:=by rw[I.len];exact(List.getElem?_eq_some_iff.mp hi).1
  have cne:=I.cne;have tracked:∀{a:Addr} {h':Heap},(∃o,s.heap.get? a=some o∧H a=none)→Heap.SameBut a s.heap h'→pq X.prog X.w H h':=fun {a h'} ha hs b ob e=>by
    obtain⟨_,_,hfree⟩:=ha;refine(I.hok b ob e).stay (fun c w' hc q=>(hs.2 c ?_).trans q) (fun _ q=>q) fun _ _ q=>q;rintro rfl
    rcases hc with rfl | hc
    ·rw[hfree] at e;cases e
    ·rw[hfree] at hc;cases hc
  rcases hx with hk | hk
  · refine wpAny_storeName_local hk hn (fun h' hn' hs=>?_) hcls;obtain⟨oL,_,_,hoL,_⟩:=id hn;refine h _ ⟨I.ok,I.os,I.bare,⟨fun b o e n hb hx=>?_,fun b o e n hb hx=>?_,I.base.free,fun b o e hx=>?_,I.base.tups,I.base.qg,I.base.rM⟩,⟨_,hn',fun j y v' e1 e2 e3=>?_⟩,fun y c e=>?_,I.free,I.iw,fun p hp=>?_,tracked ⟨oL,hoL,I.free⟩ hs,by simpa using I.len⟩ ⟨_,hs,.inl rfl⟩
    ·exact(hs.2 b (Nat.ne_of_lt (Nat.lt_of_lt_of_le (Heap.lt_size e) I.ok.above))).trans (I.base.keep b o e n hb hx)
    ·obtain⟨sl,e1⟩:=I.base.slot b o e n hb hx;exact⟨sl,(hs.2 b (Nat.ne_of_lt (Nat.lt_of_lt_of_le (Heap.lt_size e) I.ok.above))).trans e1⟩
    ·obtain⟨o',e1⟩:=I.base.there b o e hx;exact⟨o',(hs.2 b (Nat.ne_of_lt (Nat.lt_of_lt_of_le (Heap.lt_size e) I.ok.above))).trans e1⟩
    · by_cases hj:j=i
      ·subst hj;rw[hi] at e1;cases e1;rw[List.getElem?_set_self hiσ] at e2;cases e2;exact⟨u,r,.inl ⟨hk,by simp⟩⟩
      · rw[List.getElem?_set_ne (Ne.symm hj)] at e2;obtain⟨u',r',q⟩:=hl j y v' e1 e2 e3;refine⟨u',r',?_⟩
        rcases q with⟨k,e⟩ | ⟨k,c,e,z⟩
        ·refine .inl ⟨k,?_⟩;have:y≠x:=fun e=>hj (Fz hN e1 (e▸hi));simp[this,e]
        ·exact .inr ⟨k,c,e,z.sameBut hs (cne y c e)⟩
    ·obtain⟨w',z⟩:=I.cell y c e;exact⟨w',z.sameBut hs (cne y c e)⟩
    ·obtain⟨e,n,ne,nf,d⟩:=I.pin p hp;exact⟨(hs.2 p.1 ne).trans e,n,ne,nf,d⟩
  · have hfn:X.fn x=true:=by
      rcases hf with z | z
      ·exact z
      ·rw[z] at hk;cases hk
    obtain⟨c,hc⟩:=I.ok.has x (.inl hk);obtain⟨w',z⟩:=I.cell x c hc;refine wpAny_storeName_cell I.ok.kind hk hc z (fun h' hc' hs=>?_);obtain⟨oc,hoc,qi3⟩:=id z;refine h {s with heap:=h'} ⟨I.ok,I.os,I.bare,⟨fun b o e n hb hx=>?_,fun b o e n hb hx=>?_,I.base.free,fun b o e hx=>?_,I.base.tups,I.base.qg,I.base.rM⟩,⟨m,hn.sameBut hs (Ne.symm (cne x c hc)),fun j y v' e1 e2 e3=>?_⟩,fun y c' e=>?_,I.free,I.iw,fun p hp=>?_,tracked ⟨oc,hoc,I.iw x c hc⟩ hs,by simpa using I.len⟩ ⟨c,hs,.inr hc⟩
    ·exact(hs.2 b (Nat.ne_of_lt (Nat.lt_of_lt_of_le (Heap.lt_size e) (I.ok.cab x c hfn hc)))).trans (I.base.keep b o e n hb hx)
    ·obtain⟨sl,e1⟩:=I.base.slot b o e n hb hx;exact⟨sl,(hs.2 b (Nat.ne_of_lt (Nat.lt_of_lt_of_le (Heap.lt_size e) (I.ok.cab x c hfn hc)))).trans e1⟩
    ·obtain⟨o',e1⟩:=I.base.there b o e hx;exact⟨o',(hs.2 b (Nat.ne_of_lt (Nat.lt_of_lt_of_le (Heap.lt_size e) (I.ok.cab x c hfn hc)))).trans e1⟩
    · by_cases hj:j=i
      ·subst hj;rw[hi] at e1;cases e1;rw[List.getElem?_set_self hiσ] at e2;cases e2;exact⟨u,r,.inr ⟨.inl hk,c,hc,hc'⟩⟩
      · rw[List.getElem?_set_ne (Ne.symm hj)] at e2;obtain⟨u',r',q⟩:=hl j y v' e1 e2 e3;refine⟨u',r',?_⟩
        rcases q with q | ⟨k,c',e,z'⟩
        ·exact .inl q
        ·refine .inr ⟨k,c',e,z'.sameBut hs ?_⟩;rintro rfl;exact hj (Fz hN e1 (I.ok.inj _ _ _ e hc▸hi))
    · by_cases hcc:c'=c
      ·subst hcc;exact⟨_,hc'⟩
      ·obtain⟨w2,z2⟩:=I.cell y c' e;exact⟨w2,z2.sameBut hs hcc⟩
    ·obtain⟨e,n,ne,nf,d⟩:=I.pin p hp;refine⟨(hs.2 p.1 ?_).trans e,n,ne,nf,d⟩;intro q;rw[q,hoc] at e;have q':oc=p.2:=Option.some.inj e;exact d w' (by rw[← q'];exact qi3)
theorem FJ {M:Model} {A:Around} {E:Value→Shared→Prop} {i:Nat} {x:Str} {v:V} {u:Value} {Q:Unit→Shared→Prop} (I:Inv X p_ σ H s) (hN:X.N.Nodup) (hi:X.N[i]? = some x) (hx:Loc X.env.scope x) (r:RelV v u)
    (h:∀s',Inv X p_ (σ.set i (some v)) H s'→Q () s') (hf:X.fn x=true∨X.env.scope.names.lookup x=some .local:=by first | exact .inl rfl | exact .inr rfl | assumption):wpAny M A (storeName X.env x u) Q E s:=
  uy I hN hi hx r (fun s' I' _=>h s' I') hf
theorem Inv.call' {s':Shared} {ch:List Addr} (I:Inv X p_ σ H s) (ho:s'.os=s.os) (u:Un (frs X.stack) ch H H' s.heap s'.heap) (hok:pq X.prog X.w H' s'.heap) (hg:AllBare s'.gens)
    (hch:∀b∈ch,(b∈X.ex∨X.s₀.heap.objs.size≤b)∧b≠X.env.locals∧(∀x c,X.env.cells.lookup x=some c→c≠b)∧∀p∈X.pn++p_,p.1≠b):Inv X p_ σ H' s':=by
  obtain⟨h',g',d',t',o'⟩:=s';have e:o'=s.os:=ho;subst e;exact I.call (g':=g') (t':=t') (d':=d') u hok hg hch
end
abbrev XK:=Value→Option Addr→Hp→Prop
abbrev St:=List (Option V)
abbrev VK:=V→Hp→Prop
abbrev TE:=St→Hp→VK→Prop
abbrev TT:=St→Hp→(Bool→Hp→Prop)→Prop
abbrev TA:=St→Hp→(List V→Hp→Prop)→Prop
structure Ends where
  nx:St→Hp→Prop
  rt:VK
  bk:St→Hp→Prop:=fun _ _=>False
  ct:St→Hp→Prop:=fun _ _=>False
abbrev TS:=Ends→St→Hp→Prop
def EP (X:Cx) (p_:List (Addr×Obj)) (σ:St) (Q:VK) (u:Value) (s':Shared):Prop:=∃v H',Inv X p_ σ H' s'∧RelV v u∧Q v H'
def TP (X:Cx) (p_:List (Addr×Obj)) (σ:St) (Q:Bool→Hp→Prop) (b:Bool) (s':Shared):Prop:=∃H',Inv X p_ σ H' s'∧Q b H'
def AP (X:Cx) (p_:List (Addr×Obj)) (σ:St) (Q:List V→Hp→Prop) (us:List Value) (s':Shared):Prop:=∃vs H',Inv X p_ σ H' s'∧Vals vs us∧Q vs H'
def SP (X:Cx) (p_:List (Addr×Obj)) (D:Ends) (f:Flow) (s':Shared):Prop:=
  match f with
  | .next=>∃σ' H',Inv X p_ σ' H' s'∧D.nx σ' H'
  | .brk=>∃σ' H',Inv X p_ σ' H' s'∧D.bk σ' H'
  | .cont=>∃σ' H',Inv X p_ σ' H' s'∧D.ct σ' H'
  | .ret u=>∃v σ' H',Inv X p_ σ' H' s'∧RelV v u∧D.rt v H'
def PE (X:Cx) (e:Expr) (t:TE):Prop:=
  ∀(p_:List (Addr×Obj)) (s:Shared) (σ:St) (H:Hp) (Q:VK),Inv X p_ σ H s→t σ H Q→wpAny (model X.prog X.w) X.A (eval e X.env) (EP X p_ σ Q) X.xe s
def PT (X:Cx) (e:Expr) (t:TT):Prop:=
  ∀(p_:List (Addr×Obj)) (s:Shared) (σ:St) (H:Hp) (Q:Bool→Hp→Prop),Inv X p_ σ H s→t σ H Q→wpAny (model X.prog X.w) X.A (isTrue e X.env (eval e X.env)) (TP X p_ σ Q) X.xe s
def PW (X:Cx) (e:Expr) (t:TT):Prop:=
  ∀(whole:Sem Value) (p_:List (Addr×Obj)) (s:Shared) (σ:St) (H:Hp) (Q:Bool→Hp→Prop),Inv X p_ σ H s→t σ H Q→wpAny (model X.prog X.w) X.A (isTrue e X.env whole) (TP X p_ σ Q) X.xe s
theorem PW.pt {X:Cx} {e:Expr} {t:TT} (h:PW X e t):PT X e t:=h _
def PA (X:Cx) (es:List Expr) (t:TA):Prop:=
  ∀(pos:Pos) (p_:List (Addr×Obj)) (s:Shared) (σ:St) (H:Hp) (Q:List V→Hp→Prop),Inv X p_ σ H s→t σ H Q→wpAny (model X.prog X.w) X.A (spliced (backTo pos (starEach es X.env))) (AP X p_ σ Q) X.xe s
def PS (X:Cx) (st:Stmt) (t:TS):Prop:=
  ∀(p_:List (Addr×Obj)) (s:Shared) (σ:St) (H:Hp) (D:Ends),Inv X p_ σ H s→t D σ H→wpAny (model X.prog X.w) X.A (exec st X.env) (SP X p_ D) X.xe s
def Jm (X:Cx) (st:List Stmt) (t:TS):Prop:=
  ∀(p_:List (Addr×Obj)) (s:Shared) (σ:St) (H:Hp) (D:Ends),Inv X p_ σ H s→t D σ H→wpAny (model X.prog X.w) X.A (execs st X.env) (SP X p_ D) X.xe s
theorem cR {α:Type} {t:Sem α} {Q Q':α→Shared→Prop} {M:Model} {A:Around} {E:Value→Shared→Prop} {s:Shared} (h:wpAny M A t Q E s) (hQ:∀a s,Q a s→Q' a s):wpAny M A t Q' E s:=wpAny_mono h hQ fun _ _ x=>x
section
variable {X:Cx}
def qdU (i:Nat):TE:=fun σ H Q=>∃v,σ[i]? = some (some v)∧Q v H
def tC (v:V):TE:=fun _ H Q=>Q v H
theorem qdV {i:Nat} {x:Str} {pos:Pos} (hN:X.N[i]? = some x) (hv:Vis X.env.scope x) (hd:(x == ("__debug__" : Str))=false:=by decide) (hcd:(x == ("__classdict__" : Str))=false:=by decide):PE X (.Name x pos) (qdU i):=by
  intro p_ s σ H Q I h;obtain⟨v,e,h⟩:=h;obtain⟨m,hn,hl⟩:=I.loc;obtain⟨u,r,l⟩:=hl i x v hN e hv;have fin:EP X p_ σ Q u s:=⟨v,H,I,r,h⟩
  rcases l with⟨hk,hm⟩ | ⟨hk,c,hc,hcell⟩
  ·exact wpAny_Name (wpAny_loadName_local I.ok.kind hk hn hm fin) hd
  · rcases hk with hk | hk
    ·exact wpAny_Name (wpAny_loadName_cell I.ok.kind hk hc hcell fin) hd
    ·exact wpAny_Name (wpAny_loadName_free I.ok.kind hk hc hcell fin hcd) hd
theorem aG {i j pos}:PE X (.Constant (.int i) j pos) (tC (.int i)):=fun _ _ _ H _ I h=>wpAny_Constant_int ⟨.int i,H,I.tok _,⟨_,rfl⟩,h⟩
theorem pA {b j pos}:PE X (.Constant (.bool b) j pos) (tC (.bl b)):=fun _ _ _ H _ I h=>Constant_bool ⟨.bl b,H,I,rfl,h⟩
theorem vQ {j pos}:PE X (.Constant .none j pos) (tC .non):=fun _ _ _ H _ I h=>Constant_none ⟨.non,H,I,rfl,h⟩
theorem c7 {x j pos}:PE X (.Constant (.str x) j pos) (tC (.str x)):=fun _ _ _ H _ I h=>Calls.Constant_str ⟨.str x,H,I.tok _,⟨_,rfl⟩,h⟩
def Gl (X:Cx) (x:Str):Prop:=X.env.kindOf x=some .globalImplicit
theorem lV {E:Value→Shared→Prop} {p_:List (Addr×Obj)} {s:Shared} {σ:St} {H:Hp} {x:Str} {u:Value} {pos:Pos} {Q:Value→Shared→Prop} (I:Inv X p_ σ H s) (hg:Gl X x) (hm:X.mg x=some u) (h:Q u s)
    (hd:(x == ("__debug__" : Str))=false:=by decide):wpAny (model X.prog X.w) X.A (eval (.Name x pos) X.env) Q E s:=
  Calls.Name_function_global I.ok.kind hg (Calls.loadGlobal_global (by rw[I.ok.glob];exact I.mod.glob.keeps I.bk) hm h) hd
theorem qj {E:Value→Shared→Prop} {p_:List (Addr×Obj)} {s:Shared} {σ:St} {H:Hp} {x:Str} {u:Value} {pos:Pos} {Q:Value→Shared→Prop} (I:Inv X p_ σ H s) (hg:Gl X x) (hm:X.mg x=none) (hv:bootBuiltins x=some u) (h:Q u s)
    (hn:x≠ "__name__" :=by decide) (hd:(x == ("__debug__" : Str))=false:=by decide):wpAny (model X.prog X.w) X.A (eval (.Name x pos) X.env) Q E s:=by
  obtain⟨mb,h1,h2⟩:=I.mod.blt;exact Calls.Name_function_global I.ok.kind hg (Calls.loadGlobal_builtin (by rw[I.ok.glob];exact I.mod.glob.keeps I.bk) hm (by rw[I.ok.blt];exact h1.keeps I.bk) ((h2 x hn).trans hv) h) hd
theorem cX {x:Str} {v:V} {u:Value} {pos:Pos} (hg:Gl X x) (hm:X.mg x=some u) (r:RelV v u) (hd:(x == ("__debug__" : Str))=false:=by decide):PE X (.Name x pos) (tC v):=
  fun _ _ _ H _ I h=>lV I hg hm ⟨v,H,I,r,h⟩ hd
theorem iU {x:Str} {v:V} {u:Value} {pos:Pos} (hg:Gl X x) (hm:X.mg x=none) (hv:bootBuiltins x=some u) (r:RelV v u) (hn:x≠ "__name__" :=by decide) (hd:(x == ("__debug__" : Str))=false:=by decide):PE X (.Name x pos) (tC v):=
  fun _ _ _ H _ I h=>qj I hg hm hv ⟨v,H,I,r,h⟩ hn hd
variable {a b:Expr} {ta tb:TE} {pos:Pos}
def PC (X:Cx) (op:CmpOp) (a b:Expr) (t:TE):Prop:=
  ∀(p_:List (Addr×Obj)) (s:Shared) (σ:St) (H:Hp) (Q:VK),Inv X p_ σ H s→t σ H Q→
    wpAny (model X.prog X.w) X.A (eval a X.env) (fun v s₁=>wpAny (model X.prog X.w) X.A (eval b X.env) (fun u s₂=>wpAny (model X.prog X.w) X.A (compareOp op v u) (EP X p_ σ Q) X.xe s₂) X.xe s₁) X.xe s
theorem O_ (b:Expr) {op:CmpOp} (h:op≠.In) (h2:op≠.NotIn):behindInMarks op b=false:=by
  have e1:(op == CmpOp.In)=false:=by cases op <;> first | rfl | exact absurd rfl h
  have e2:(op == CmpOp.NotIn)=false:=by cases op <;> first | rfl | exact absurd rfl h2
  cases b <;> simp[behindInMarks,e1,e2]
def tB (t:TE):TT:=fun σ H Q=>t σ H fun x H1=>∃c,x = .bl c∧Q c H1
theorem qdW {op:CmpOp} {t:TE} (h:PC X op a b t) (h1:behindInMarks op b=false:=by first | exact O_ _ (by decide) (by decide) | rfl):PT X (.Compare a [op] [b] pos) (tB t):=by
  intro p_ s σ H Q I hw;refine wpAny_isTrue_Compare1 (cR (h p_ s σ H _ I hw) fun v s1 h1=>cR h1 fun u s2 h2=>cR h2 fun c s3 zz=>?_) h1;obtain⟨x,H1,I1,r1,q1⟩:=zz;obtain⟨d,rfl,q⟩:=q1;cases r1;exact wpAny_truthy_bool ⟨H1,I1,q⟩
theorem qdX {e:Expr} {t:TE} (h:PE X e t) (he:∀whole,isTrue e X.env whole=(do let v ← whole;standAt e.pos;holding [v] (truthy v)):=by intro _;rfl):PT X e (tB t):=by
  intro p_ s σ H Q I hw;refine isTrue_plain (cR (h p_ s σ H _ I hw) fun v s1 zz=>?_) (he _);obtain⟨x,H1,I1,r1,q1⟩:=zz;obtain⟨d,rfl,q⟩:=q1;cases r1;exact wpAny_truthy_bool ⟨H1,I1,q⟩
variable {tA tB':TT} {rest:List Expr}
def qfW (t u:TT):TT:=fun σ H Q=>t σ H fun c H1=>if c=true then u σ H1 Q else Q false H1
def tOr (t u:TT):TT:=fun σ H Q=>t σ H fun c H1=>if c=true then Q true H1 else u σ H1 Q
def qfX (t:TT):TT:=fun σ H Q=>t σ H fun c H1=>Q (!c) H1
theorem qbu (ha:PT X a tA):PW X (.BoolOp .And [a] pos) tA:=by
  intro wh p_ s σ H Q I h;refine isTrue_and (cR (ha p_ s σ H Q I h) fun c s1 e=>?_);cases c with
  | true=>exact isTrue_and_nil e
  | false=>exact e
theorem lD (ha:PT X a tA):PW X (.BoolOp .Or [a] pos) tA:=by
  intro wh p_ s σ H Q I h;refine isTrue_or (cR (ha p_ s σ H Q I h) fun c s1 e=>?_);cases c with
  | false=>exact isTrue_or_nil e
  | true=>exact e
theorem qdY (ha:PT X a tA) (hb:PW X (.BoolOp .And (b::rest) pos) tB'):PW X (.BoolOp .And (a::b::rest) pos) (qfW tA tB'):=by
  intro wh p_ s σ H Q I h;refine isTrue_and (cR (ha p_ s σ H _ I h) fun c s1 zz=>?_);obtain⟨H1,I1,q1⟩:=zz;cases c with
  | true=>exact hb wh p_ s1 σ H1 Q I1 q1
  | false=>exact⟨H1,I1,q1⟩
theorem pB (ha:PT X a tA) (hb:PW X (.BoolOp .Or (b::rest) pos) tB'):PW X (.BoolOp .Or (a::b::rest) pos) (tOr tA tB'):=by
  intro wh p_ s σ H Q I h;refine isTrue_or (cR (ha p_ s σ H _ I h) fun c s1 zz=>?_);obtain⟨H1,I1,q1⟩:=zz;cases c with
  | true=>exact⟨H1,I1,q1⟩
  | false=>exact hb wh p_ s1 σ H1 Q I1 q1
theorem d8 (ha:PT X a tA):PT X (.UnaryOp .Not a pos) (qfX tA):=by
  intro p_ s σ H Q I h;exact isTrue_not (ha p_ s σ H (fun c H1=>Q (!c) H1) I h)
def Yx (ta tb:TE):TE:=fun σ H Q=>ta σ H fun x H1=>∃c,x = .bl c∧if c=true then tb σ H1 Q else Q (.bl false) H1
def Yy (ta:TE):TE:=fun σ H Q=>ta σ H fun x H1=>∃c,x = .bl c∧Q (.bl (!c)) H1
theorem rW {op} {t:TE} (h:PE X a t):PE X (.BoolOp op [a] pos) t:=fun p_ s σ H Q I hw=>BoolOp_one (h p_ s σ H Q I hw)
theorem qdZ (ha:PE X a ta) (hb:PE X (.BoolOp .And (b::rest) pos) tb):PE X (.BoolOp .And (a::b::rest) pos) (Yx ta tb):=by
  intro p_ s σ H Q I h;refine BoolOp_and (cR (ha p_ s σ H _ I h) fun v s1 zz=>?_);obtain⟨x,H1,I1,r1,q1⟩:=zz;obtain⟨c,rfl,q1⟩:=q1;cases r1;refine wpAny_truthy_bool ?_;cases c with
  | true=>exact hb p_ s1 σ H1 Q I1 q1
  | false=>exact⟨.bl false,H1,I1,rfl,q1⟩
theorem qd0 (ha:PE X a ta):PE X (.UnaryOp .Not a pos) (Yy ta):=by
  intro p_ s σ H Q I h;refine UnaryOp_ (cR (ha p_ s σ H _ I h) fun v s1 zz=>?_);obtain⟨x,H1,I1,r1,q1⟩:=zz;obtain⟨c,rfl,q1⟩:=q1;cases r1;exact not_of (wpAny_truthy_bool ⟨.bl (!c),H1,I1,rfl,q1⟩)
def tIf (t:TT) (ta tb:TE):TE:=fun σ H Q=>t σ H fun c H1=>if c=true then ta σ H1 Q else tb σ H1 Q
theorem Pa {c:Expr} (hc:PT X c tA) (ha:PE X a ta) (hb:PE X b tb):PE X (.IfExp c a b pos) (tIf tA ta tb):=by
  intro p_ s σ H Q I h;refine wpAny_IfExp (cR (hc p_ s σ H _ I h) fun d s1 zz=>?_);obtain⟨H1,I1,q1⟩:=zz;cases d with
  | true=>exact ha p_ s1 σ H1 Q I1 q1
  | false=>exact hb p_ s1 σ H1 Q I1 q1
end
def bU (K:W.Frag) (H:Hp) (a:Addr) (xs:List V):Prop:=
  Rd H a (.lst xs)∨
    ∃(o:Obj) (its:Array Value) (n:Nat),K.lookup a=some o∧o.cls = .type "list" ∧o.dict=none∧o.data = .seq its n∧its.size≤sizeLine∧Vals xs its.toList
def gY (K:W.Frag) (H:Hp) (a:Addr) (xs:List V):Prop:=
  Rd H a (.tup xs)∨
    ∃(o:Obj) (its:Array Value) (n:Nat),K.lookup a=some o∧o.cls = .type "tuple" ∧o.data = .seq its n∧its.size≤sizeLine∧Vals xs its.toList
def qi4:Value→Option V
  | .none=>some .non
  | .bool b=>some (.bl b)
  | .int i _=>some (.int i)
  | .str x _=>some (.str x)
  | .bytes b _=>some (.Yl b)
  | .float b _=>some (.flt b)
  | .ref a=>some (.ref a)
  | .type n=>some (.ty n)
  | _=>none
theorem RelV.abs {x:V} {u:Value} (r:RelV x u):qi4 u=some x:=by
  cases x with
  | non=>cases r;rfl
  | bl _=>cases r;rfl
  | int _=>obtain⟨t,rfl⟩:=r;rfl
  | str _=>obtain⟨t,rfl⟩:=r;rfl
  | Yl _=>obtain⟨t,rfl⟩:=r;rfl
  | flt _=>obtain⟨t,rfl⟩:=r;rfl
  | ref _=>cases r;rfl
  | ty _=>cases r;rfl
theorem RelV.inj {x y:V} {u:Value} (r:RelV x u) (q:RelV y u):x=y:=Option.some.inj (r.abs.symm.trans q.abs)
theorem Vals.inj:∀{xs ys:List V} {us:List Value},Vals xs us→Vals ys us→xs=ys
  | _,_,_,.nil,.nil=>rfl
  | _,_,_,.cons r t,.cons r' t'=>by rw[r.inj r',Vals.inj t t']
section
variable {X:Cx} {p_:List (Addr×Obj)} {σ:St} {H:Hp} {s:Shared} {a:Addr} {xs ys:List V}
theorem bU.of {K:W.Frag} (h:H a=some (.lst xs)):bU K H a xs:=.inl (.inl h)
theorem gY.of {K:W.Frag} (h:H a=some (.tup xs)):gY K H a xs:=.inl (.inl h)
theorem Inv.list (I:Inv X p_ σ H s) (h:bU X.K H a xs):∃its:List Value,Vals xs its∧PlainL s.heap a its.toArray∧xs.length≤sizeLine:=by
  rcases h with h | ⟨o,its,n,hk,hc,hd,hs,hz,r⟩
  ·obtain⟨z,its,n,r,e⟩:=h.ok I.hok;exact⟨its,r,⟨_,n,e,rfl,rfl,rfl⟩,z⟩
  ·refine⟨its.toList,r,⟨o,n,I.mZ a o hk,hc,hd,by simpa using hs⟩,?_⟩;have e:=r.length;simp only[Array.length_toList] at e;omega
theorem Inv.tuple (I:Inv X p_ σ H s) (h:gY X.K H a xs):∃its:List Value,Vals xs its∧IsTup s.heap a its.toArray∧xs.length≤sizeLine:=by
  rcases h with h | ⟨o,its,n,hk,hc,hs,hz,r⟩
  ·obtain⟨z,its,r,p⟩:=h.ok I.hok;exact⟨its,r,p,z⟩
  ·refine⟨its.toList,r,⟨o,I.mZ a o hk,hc,n,by simpa using hs⟩,?_⟩;have e:=r.length;simp only[Array.length_toList] at e;omega
theorem Inv.yp (I:Inv X p_ σ H s) (h:bU X.K H a xs) (h':bU X.K H a ys):xs=ys:=by
  obtain⟨its,r,⟨o,n,e,_,_,d⟩,_⟩:=I.list h;obtain⟨its',r',⟨o',n',e',_,_,d'⟩,_⟩:=I.list h';rw[e] at e';cases e';rw[d] at d';injection d' with d1 _;have:its=its':=by simpa using congrArg Array.toList d1
  subst this;exact r.inj r'
theorem Inv.V0 (I:Inv X p_ σ H s) (h:gY X.K H a xs) (h':gY X.K H a ys):xs=ys:=by
  obtain⟨its,r,⟨o,e,_,n,d⟩,_⟩:=I.tuple h;obtain⟨its',r',⟨o',e',_,n',d'⟩,_⟩:=I.tuple h';rw[e] at e';cases e';rw[d] at d';injection d' with d1 _;have:its=its':=by simpa using congrArg Array.toList d1
  subst this;exact r.inj r'
end
abbrev Cx.wish (X:Cx) (E:Value→Shared→Prop):Cx:={X with xe:=E}
abbrev Cx.Ym (X:Cx):Cx:=X.wish fun _ _=>False
theorem Cx.Ok.wish {X:Cx} (ok:X.Ok) (E:Value→Shared→Prop):(X.wish E).Ok:=
  ⟨ok.mod,ok.kind,ok.glob,ok.blt,ok.above,ok.inj,ok.has,ok.cab,ok.hd,ok.frames,ok.stk,ok.exf,ok.bs,ok.VR,ok.O8,ok.O9,ok.rT,ok.Yw⟩
theorem Cx.Ok.rY {X:Cx} {E:Value→Shared→Prop} (ok:(X.wish E).Ok):X.Ok:=
  ⟨ok.mod,ok.kind,ok.glob,ok.blt,ok.above,ok.inj,ok.has,ok.cab,ok.hd,ok.frames,ok.stk,ok.exf,ok.bs,ok.VR,ok.O8,ok.O9,ok.rT,ok.Yw⟩
section
variable {X:Cx} {p_:List (Addr×Obj)} {σ:St} {H:Hp} {s:Shared} {E:Value→Shared→Prop}
theorem Inv.wish (I:Inv X p_ σ H s) (E:Value→Shared→Prop):Inv (X.wish E) p_ σ H s:=⟨I.ok.wish E,I.os,I.bare,I.base,I.loc,I.cell,I.free,I.iw,I.pin,I.hok,I.len⟩
theorem Inv.rY (I:Inv (X.wish E) p_ σ H s):Inv X p_ σ H s:=⟨I.ok.rY,I.os,I.bare,I.base,I.loc,I.cell,I.free,I.iw,I.pin,I.hok,I.len⟩
theorem SP.rY {D:Ends} {f:Flow} {s':Shared} (h:SP (X.wish E) p_ D f s'):SP X p_ D f s':=by
  cases f with
  | next=>obtain⟨σ',H',I,q⟩:=h;exact⟨σ',H',I.rY,q⟩
  | brk=>obtain⟨σ',H',I,q⟩:=h;exact⟨σ',H',I.rY,q⟩
  | cont=>obtain⟨σ',H',I,q⟩:=h;exact⟨σ',H',I.rY,q⟩
  | ret u=>obtain⟨v,σ',H',I,r,q⟩:=h;exact⟨v,σ',H',I.rY,r,q⟩
theorem Jm.Ym {st:List Stmt} {t:TS} (h:Jm X.Ym st t):Jm X st t:=fun p_ s σ H D I hw=>
  wpAny_mono (h p_ s σ H D (I.wish _) hw) (fun _ _ q=>q.rY) fun _ _ z=>False.elim z
end
section
variable {X:Cx} {st:Stmt} {rest:List Stmt} {t u:TS} {e:Expr} {te:TE} {pos:Pos}
def qda:TS:=fun D σ H=>D.nx σ H
def qbw (t u:TS):TS:=fun D σ H=>t {D with nx:=u D} σ H
theorem bM:Jm X [] qda:=fun _ _ σ H _ I h=>wpAny_execs_nil ⟨σ,H,I,h⟩
theorem aC (h1:PS X st t) (h2:Jm X rest u):Jm X (st::rest) (qbw t u):=by
  intro p_ s σ H D I h;refine wpAny_execs_cons (cR (h1 p_ s σ H {D with nx:=u D} I h) fun f s1 q=>?_);cases f with
  | next=>
    obtain⟨σ',H',I',q⟩:=q;exact h2 p_ s1 σ' H' D I' q
  | ret v=>exact q
  | brk=>exact q
  | cont=>exact q
theorem aF (h1:PS X st t):Jm X [st] t:=by
  intro p_ s σ H D I h;refine wpAny_execs_cons (cR (h1 p_ s σ H D I h) fun f s1 q=>?_);cases f with
  | next=>exact wpAny_execs_nil q
  | ret v=>exact q
  | brk=>exact q
  | cont=>exact q
theorem Inv.quiet {p_:List (Addr×Obj)} {σ:St} {H:Hp} {s:Shared} (I:Inv X p_ σ H s):interactive X.env=false:=by simp[interactive,I.ok.kind]
def qdb (te:TE):TS:=fun D σ H=>te σ H fun _ H1=>D.nx σ H1
theorem eN (he:PE X e te) (hs:swapsWith e none pos.line X.env=pure false:=by rfl):PS X (.Expr e pos) (qdb te):=by
  intro p_ s σ H D I h;refine wpAny_Expr_any (cR (he p_ s σ H _ I h) fun v s1 zz=>?_) I.quiet hs;obtain⟨x,H1,I1,r1,q1⟩:=zz;exact⟨σ,H1,I1,q1⟩
def qd1 (te:TE):TS:=fun D σ H=>te σ H D.rt
theorem bh (he:PE X e te):PS X (.Return (some e) pos) (qd1 te):=by
  intro p_ s σ H D I h;refine wpAny_Return_some (cR (he p_ s σ H _ I h) fun v s1 zz=>?_);obtain⟨x,H1,I1,r1,q1⟩:=zz;exact⟨x,σ,H1,I1,r1,q1⟩
def qd2 (c:TT) (t u:TS):TS:=fun D σ H=>c σ H fun b H1=>if b=true then t D σ H1 else u D σ H1
theorem dg {c:Expr} {a b:List Stmt} {tc:TT} (hc:PT X c tc) (ha:Jm X a t) (hb:Jm X b u):PS X (.If c a b pos) (qd2 tc t u):=by
  intro p_ s σ H D I h;refine wpAny_If (cR (hc p_ s σ H _ I h) fun d s1 zz=>?_);obtain⟨H1,I1,q1⟩:=zz;cases d with
  | true=>exact ha p_ s1 σ H1 D I1 q1
  | false=>exact hb p_ s1 σ H1 D I1 q1
def Rx:TS:=fun _ _ _=>False
theorem yq:PS X st Rx:=fun _ _ _ _ _ _ h=>h.elim
theorem JX {sts:List Stmt}:Jm X sts Rx:=fun _ _ _ _ _ _ h=>h.elim
end
abbrev TG:=V→St→Hp→(St→Hp→Prop)→Prop
abbrev O5:=List V→St→Hp→(St→Hp→Prop)→Prop
def PG (X:Cx) (target:Expr) (t:TG):Prop:=
  ∀(p_:List (Addr×Obj)) (s:Shared) (σ:St) (H:Hp) (v:V) (u:Value) (Q:St→Hp→Prop),Inv X p_ σ H s→RelV v u→t v σ H Q→
    wpAny (model X.prog X.w) X.A (assign target X.env u) (fun _ s'=>∃σ' H',Inv X p_ σ' H' s'∧Q σ' H') X.xe s
def lE (X:Cx) (ts:List Expr) (t:O5):Prop:=
  ∀(p_:List (Addr×Obj)) (s:Shared) (σ:St) (H:Hp) (vs:List V) (us:List Value) (Q:St→Hp→Prop),Inv X p_ σ H s→Vals vs us→t vs σ H Q→
    wpAny (model X.prog X.w) X.A (assignInOrder ((assignEach ts X.env).map (·.2)) us) (fun _ s'=>∃σ' H',Inv X p_ σ' H' s'∧Q σ' H') X.xe s
abbrev V1:=V→V→V→Hp→(Hp→Prop)→Prop
def V2 (X:Cx) (t:V1):Prop:=
  ∀(p_:List (Addr×Obj)) (s:Shared) (σ:St) (H:Hp) (o i v:V) (ov iv u:Value) (Q:Hp→Prop),Inv X p_ σ H s→RelV o ov→RelV i iv→RelV v u→t o i v H Q→
    wpAny (model X.prog X.w) X.A (setItem ov iv u) (fun _ s'=>∃H',Inv X p_ σ H' s'∧Q H') X.xe s
abbrev TIp:=V→V→Hp→VK→Prop
def PIp (X:Cx) (op:Operator) (t:TIp):Prop:=
  ∀(p_:List (Addr×Obj)) (s:Shared) (σ:St) (H:Hp) (x y:V) (v u:Value) (Q:VK),Inv X p_ σ H s→RelV x v→RelV y u→t x y H Q→
    wpAny (model X.prog X.w) X.A (inplaceOp op v u) (EP X p_ σ Q) X.xe s
section
variable {X:Cx} {pos:Pos}
def JZ (i:Nat):TG:=fun v σ H Q=>Q (σ.set i (some v)) H
theorem aU {i:Nat} {x:Str} (hN:X.N.Nodup) (hi:X.N[i]? = some x) (hx:Loc X.env.scope x) (hf:X.fn x=true∨X.env.scope.names.lookup x=some .local:=by first | exact .inl rfl | exact .inr rfl | assumption):PG X (.Name x pos) (JZ i):=by
  intro p_ s σ H v u Q I r h;exact wpAny_assign_Name (FJ I hN hi hx r (fun s' I'=>⟨_,H,I',h⟩) hf)
def qd3:O5:=fun vs σ H Q=>vs=[]∧Q σ H
def Yz (t:TG) (u:O5):O5:=fun vs σ H Q=>∃v r,vs=v::r∧t v σ H fun σ' H'=>u r σ' H' Q
theorem gZ:lE X [] qd3:=by
  intro p_ s σ H vs us Q I r h;obtain⟨e,h⟩:=h;subst e;cases r;exact assignInOrder_nil ⟨σ,H,I,h⟩
theorem bN {e:Expr} {es:List Expr} {t:TG} {u:O5} (h1:PG X e t) (h2:lE X es u)
    (hs:(assignEach (e::es) X.env).map (·.2)=assign e X.env::(assignEach es X.env).map (·.2):=by rfl):lE X (e::es) (Yz t u):=by
  intro p_ s σ H vs us Q I r h;obtain⟨v,vr,e1,h⟩:=h;subst e1;cases r with
  | cons r rr=>
    rw[hs];refine assignInOrder_cons (cR (h1 p_ s σ H _ _ _ I r h) fun _ s1 zz=>?_);obtain⟨σ1,H1,I1,q1⟩:=zz;exact h2 p_ s1 σ1 H1 _ _ Q I1 rr q1
def qbx (K:W.Frag) (n:Nat) (t:O5):TG:=fun v σ H Q=>∃a xs,v = .ref a∧gY K H a xs∧xs.length=n∧t xs σ H Q
theorem qd4 {es:List Expr} {k:Nat} {t:O5} {n:Nat} (hc:X.calm=true) (h:lE X es t)
    (hn:(assignEach es X.env).length=n:=by rfl) (hst:(assignEach es X.env).findIdx? (·.1)=none:=by rfl):PG X (.Tuple es k pos) (qbx X.K n t):=by
  intro p_ s σ H v u Q I r hw;obtain⟨a,xs,e1,hq,hl,hw⟩:=hw;subst e1;cases r;obtain⟨its,rv,ht,hz⟩:=I.tuple hq;refine assign_Tuple_tuple (I.ok.hd hc) ht (by simp[hn,← hl,rv.length]) hst fun h' hx=>?_;have I1:Inv X p_ σ H {s with heap:=h'}:=I.kept (t':=s.toks) fun b o e=>hx b o (Nat.ne_of_lt (Heap.lt_size e)) e;exact h p_ _ σ H xs _ Q I1 (by simpa using rv) hw
def qfY (to ti:TE) (t:V1):TG:=fun v σ H Q=>to σ H fun o H1=>ti σ H1 fun i H2=>t o i v H2 fun H3=>Q σ H3
theorem YB {o i:Expr} {to ti:TE} {t:V1} (ho:PE X o to) (hi:PE X i ti) (hs:V2 X t)
    (ha:∀v,assign (.Subscript o i pos) X.env v=(do
      let ov ← holding [v] (eval o X.env)
      let iv ← holding [v,ov] (eval i X.env)
      standAt pos
      holding [v,ov,iv] (setItem ov iv v)
      release [v,ov,iv] []):=by intro _;rfl):PG X (.Subscript o i pos) (qfY to ti t):=by
  intro p_ s σ H v u Q I r h;rw[ha];refine wpAny_bind (wpAny_holding (cR (ho p_ s σ H _ I h) fun ov s1 zz=>?_));obtain⟨x,H1,I1,r1,q1⟩:=zz;refine wpAny_bind (wpAny_holding (cR (hi p_ s1 σ H1 _ I1 q1) fun iv s2 zz=>?_));obtain⟨y,H2,I2,r2,q2⟩:=zz;refine wpAny_bind (wpAny_standAt (wpAny_bind (wpAny_holding (cR (hs p_ s2 σ H2 x y v ov iv u _ I2 r1 r2 r q2) fun _ s3 zz=>?_))));obtain⟨H3,I3,q3⟩:=zz;exact wpAny_release ⟨σ,H3,I3,q3⟩
def V3 (te:TE) (g:TG):TS:=fun D σ H=>te σ H fun x H1=>g x σ H1 D.nx
theorem Ry {tg e:Expr} {te:TE} {g:TG} (he:PE X e te) (hg:PG X tg g) (hs:swapsWithSole [tg] e pos.line X.env=pure false:=by rfl) (hw:swappedStores [tg] e X.env=pure none:=by rfl)
    (h1:(assignEach [tg] X.env).map (·.2)=[assign tg X.env]:=by rfl):PS X (.Assign [tg] e pos) (V3 te g):=by
  intro p_ s σ H D I h;refine wpAny_Assign_stores (cR (he p_ s σ H _ I h) fun v s1 zz=>?_) hs hw;obtain⟨x,H1,I1,r1,q1⟩:=zz;rw[h1];exact cR (hg p_ s1 σ H1 x v _ I1 r1 q1) fun _ s2 q=>q
theorem bI {i:Nat} {x:Str} {e:Expr} {te:TE} {pos':Pos} (hN:X.N.Nodup) (hi:X.N[i]? = some x) (hx:Loc X.env.scope x) (he:PE X e te) (hs:swapsWith e (some (.Name x pos')) pos.line X.env=pure false:=by rfl) (hf:X.fn x=true∨X.env.scope.names.lookup x=some .local:=by first | exact .inl rfl | exact .inr rfl | assumption) :
    PS X (.Assign [.Name x pos'] e pos) (V3 te (JZ i)):=by
  intro p_ s σ H D I h;refine wpAny_Assign_Name (cR (he p_ s σ H _ I h) fun v s1 zz=>?_) hs;obtain⟨y,H1,I1,r1,q1⟩:=zz;exact FJ I1 hN hi hx r1 (fun s2 I2=>⟨_,H1,I2,q1⟩) hf
def qd5 (i:Nat) (te:TE) (ti:TIp):TS:=fun D σ H=>∃x,σ[i]? = some (some x)∧te σ H fun y H1=>ti x y H1 fun z H2=>D.nx (σ.set i (some z)) H2
theorem qd6 {i:Nat} {x:Str} {e:Expr} {te:TE} {op:Operator} {ti:TIp} {pos':Pos} (hN:X.N.Nodup) (hi:X.N[i]? = some x) (hx:Loc X.env.scope x) (he:PE X e te) (ho:PIp X op ti) (hf:X.fn x=true∨X.env.scope.names.lookup x=some .local:=by first | exact .inl rfl | exact .inr rfl | assumption) :
    PS X (.AugAssign (.Name x pos') op e pos) (qd5 i te ti):=by
  intro p_ s σ H D I h;obtain⟨v,e1,h⟩:=h;obtain⟨m,hn,hl⟩:=I.loc;have vis:Vis X.env.scope x:=by rcases hx with k | k;exact .inl k;exact .inr (.inl k)
  obtain⟨u,r,l⟩:=hl i x v hi e1 vis;refine wpAny_AugAssign_Name ?_;have go:wpAny (model X.prog X.w) X.A (eval e X.env) (fun w s₂=>wpAny (model X.prog X.w) X.A (inplaceOp op u w) (fun r s₃=>wpAny (model X.prog X.w) X.A (storeName X.env x r) (fun _=>SP X p_ D .next) X.xe s₃) X.xe s₂) X.xe s:=by
    refine cR (he p_ s σ H _ I h) fun w s1 zz=>?_;obtain⟨y,H1,I1,r1,q1⟩:=zz;refine cR (ho p_ s1 σ H1 v y u w _ I1 r r1 q1) fun z s2 zz=>?_;obtain⟨zv,H2,I2,r2,q2⟩:=zz;exact FJ I2 hN hi hx r2 (fun s3 I3=>⟨_,H2,I3,q2⟩) hf
  rcases l with⟨hk,hm⟩ | ⟨hk,c,hc,hcell⟩
  ·exact wpAny_loadName_local I.ok.kind hk hn hm go
  · rcases hk with hk | hk
    ·exact wpAny_loadName_cell I.ok.kind hk hc hcell go
    · rcases hx with k | k
      ·have:X.env.scope.names.lookup x=some .free:=hk;rw[k] at this;cases this
      ·have:X.env.scope.names.lookup x=some .free:=hk;rw[k] at this;cases this
def ipI (f:Int→Int→Int):TIp:=fun x y H Q=>∃i j,x = .int i∧y = .int j∧Q (.int (f i j)) H
theorem qd7:PIp X .Add (ipI fun i j=>i+j):=by
  intro p_ s σ H x y v u Q I r1 r2 h;obtain⟨i,j,e1,e2,q⟩:=h;subst e1;subst e2;obtain⟨t,rfl⟩:=r1;obtain⟨t',rfl⟩:=r2;exact iadd_int ⟨.int _,H,I.tok _,⟨_,rfl⟩,q⟩
end
section
variable {X:Cx} {pos:Pos}
def Lw (c:TT) (tb:TS):TS:=fun D σ H=>∃o_:Nat→St→Hp→Prop,(∃m,o_ m σ H)∧∀m σ H,o_ m σ H→
  c σ H fun b H1=>if b=true then ∃N:St→Hp→Prop,(∀σ' H',N σ' H'→∃m',m'<m∧o_ m' σ' H')∧tb {D with nx:=N,ct:=N,bk:=D.nx} σ H1 else D.nx σ H1
theorem YC {c:Expr} {body:List Stmt} {tc:TT} {tb:TS} (hp:PassesOwn (model X.prog X.w) X.A X.env X.xe) (hc:PT X c tc) (hb:Jm X body tb):PS X (.While c body [] pos) (Lw tc tb):=by
  intro p_ s σ H D I h;obtain⟨o_,⟨m0,w0⟩,turn⟩:=h;refine wpAny_While (codeAny_whileLoop (fun n s'=>∃σ' H',Inv X p_ σ' H' s'∧o_ n σ' H') ?_ m0 ⟨σ,H,I,w0⟩);rintro n s1 ⟨σ1,H1,I1,w1⟩;refine wpAny_passesOwn hp (cR (hc p_ s1 σ1 H1 _ I1 (turn n σ1 H1 w1)) fun b s2 zz=>?_);obtain⟨H2,I2,q2⟩:=zz;cases b with
  | true=>
    obtain⟨N,hN,q2⟩:=q2;rw[if_pos rfl];refine wpAny_passesOwn hp (cR (hb p_ s2 σ1 H2 _ I2 q2) fun f s3 q3=>?_);cases f with
    | next=>
      obtain⟨σ3,H3,I3,n3⟩:=q3;obtain⟨m',hm,w3⟩:=hN σ3 H3 n3;exact⟨m',hm,σ3,H3,I3,w3⟩
    | cont=>
      obtain⟨σ3,H3,I3,n3⟩:=q3;obtain⟨m',hm,w3⟩:=hN σ3 H3 n3;exact⟨m',hm,σ3,H3,I3,w3⟩
    | brk=>exact q3
    | ret v=>exact q3
  | false=>
    rw[if_neg Bool.false_ne_true];exact wpAny_execs_nil ⟨σ1,H2,I2,q2⟩
end
structure It where
  go:Nat→Hp→Prop
  yld:Nat→Hp→V→Hp→Prop
  stop:Nat→Hp→Prop
def vg (X:Cx) (p_:List (Addr×Obj)) (H:Hp) (b:Addr):Prop:=
  H b=none∧b≠X.env.locals∧b∉X.fs∧(b∈X.ex∨X.s₀.heap.objs.size≤b)∧(∀x c,X.env.cells.lookup x=some c→c≠b)∧∀p∈X.pn++p_,p.1≠b
theorem Inv.FN {X:Cx} {p_:List (Addr×Obj)} {σ:St} {H H':Hp} {s:Shared} {b:Addr} (I:Inv X p_ σ H s) (hb:s.heap.objs.size≤b) (hn:H' b=none):vg X p_ H' b:=by
  refine⟨hn,Nat.ne_of_gt (Nat.lt_of_lt_of_le I.lt hb),I.qi2 hb,.inr (Nat.le_trans I.sz hb),fun x c e z=>?_,fun p hp z=>?_⟩
  ·obtain⟨v,q⟩:=I.cell x c e;exact absurd (Nat.lt_of_lt_of_le q.lt (by rw[z];exact hb)) (Nat.lt_irrefl _)
  ·exact absurd (Nat.lt_of_lt_of_le (Heap.lt_size (I.pin p hp).1) (by rw[z];exact hb)) (Nat.lt_irrefl _)
structure Turn (P:Program) (w:World) (K:W.Frag) (tg:Expr) (J:It) (fp:List Addr) (it:Addr) (tn:Nat→Heap→Prop):Prop where
  mem:it∈fp
  obj:∀i h,tn i h→∀b∈fp,∃o,h.get? b=some o∧∀v,o.data≠.cell v
  keep:∀i h h',tn i h→(∀b∈fp,∀o,h.get? b=some o→h'.get? b=some o)→tn i h'
  item:∀(X:Cx),X.prog=P→X.w=w→X.K=K→X.calm=true→∀(i:Nat) (p_:List (Addr×Obj)) (s:Shared) (σ:St) (H:Hp) (E:Value→Shared→Prop),Inv X p_ σ H s→(∀b∈fp,vg X p_ H b)→tn i s.heap→J.go i H→
    wpAny (model P w) X.A (pyNext (.ref it)) (fun r s1=>∃u,r=some u∧
      wpAny (model P w) X.A (letOwnedTupleGo tg (.ref it) u) (fun _ s2=>∃x H',Inv X p_ σ H' s2∧RelV x u∧J.yld i H x H'∧tn (i+1) s2.heap∧∀b∈fp,H' b=none) E s1) E s
  done:∀(X:Cx),X.prog=P→X.w=w→X.K=K→X.calm=true→∀(i:Nat) (p_:List (Addr×Obj)) (s:Shared) (σ:St) (H:Hp) (E:Value→Shared→Prop),Inv X p_ σ H s→(∀b∈fp,vg X p_ H b)→tn i s.heap→J.stop i H→
    wpAny (model P w) X.A (pyNext (.ref it)) (fun r s1=>r=none∧Inv X p_ σ H s1) E s
  self:∀(A:Around) (i:Nat) (s:Shared) (Q:Value→Shared→Prop) (E:Value→Shared→Prop),tn i s.heap→Q (.ref it) s→wpAny (model P w) A (pyIter (.ref it)) Q E s
abbrev TI:=St→Hp→(It→Hp→Prop)→Prop
def PIE (X:Cx) (p_:List (Addr×Obj)) (σ:St) (tg:Expr) (R:It→Hp→Prop) (itv:Value) (s2:Shared):Prop:=
  ∃(it:Addr) (fp:List Addr) (tn:Nat→Heap→Prop) (J:It) (H':Hp),itv = .ref it∧Inv X p_ σ H' s2∧Turn X.prog X.w X.K tg J fp it tn∧tn 0 s2.heap∧(∀b∈fp,vg X p_ H' b)∧R J H'
def PI (X:Cx) (tg iter:Expr) (wi:TI):Prop:=
  ∀(p_:List (Addr×Obj)) (s:Shared) (σ:St) (H:Hp) (R:It→Hp→Prop),Inv X p_ σ H s→wi σ H R→
    wpAny (model X.prog X.w) X.A (eval iter X.env) (fun v s1=>wpAny (model X.prog X.w) X.A (pyIter v) (PIE X p_ σ tg R) X.xe s1) X.xe s
theorem YD {M:Model} {A:Around} {E:Value→Shared→Prop} {s:Shared} {tg:Expr} {it:Addr} {u:Value} {o:Obj} {n:String} {vs:Array Value} {Q:Unit→Shared→Prop} (ho:s.heap.get? it=some o) (hc:o.cls = .type n) (hd:o.data = .fields vs)
    (hn : ["enumerate", "zip", "dict_itemiterator", "dict_reverseitemiterator", "odict_iterator", "itertools.zip_longest", "itertools.pairwise"].contains n=false) (hQ:Q () s):wpAny M A (letOwnedTupleGo tg (.ref it) u) Q E s:=by
  unfold letOwnedTupleGo;cases tg <;> first
    | exact wpAny_pure hQ
    | (cases u <;> first
        | exact wpAny_pure hQ
        | (refine wpAny_bind (wpAny_load ho ?_)
           rw[hc,hd];show wpAny M A (if (["enumerate", "zip", "dict_itemiterator", "dict_reverseitemiterator", "odict_iterator", "itertools.zip_longest", "itertools.pairwise"].contains n && vs[0]? == some (rawInt _))=true then _ else _) Q E s
           rw[if_neg (by intro h;rw[hn,Bool.false_and] at h;cases h)];exact wpAny_pure hQ))
def Yn (K:W.Frag) (a:Addr):It:=
  ⟨fun i H=>∃xs x,bU K H a xs∧xs[i]? = some x,fun i H x H'=>H'=H∧∀xs,bU K H a xs→xs[i]? = some x,fun i H=>∃xs,bU K H a xs∧xs.length≤i⟩
def Itt (K:W.Frag) (a:Addr):It:=
  ⟨fun i H=>∃xs x,gY K H a xs∧xs[i]? = some x,fun i H x H'=>H'=H∧∀xs,gY K H a xs→xs[i]? = some x,fun i H=>∃xs,gY K H a xs∧xs.length≤i⟩
def Ru (lo:Int) (n:Nat):It:=⟨fun i _=>i<n,fun i H x H'=>H'=H∧x = .int (lo+i),fun i _=>n≤i⟩
theorem J0 {P:Program} {w:World} {K:W.Frag} {tg:Expr} (a it:Addr):Turn P w K tg (Yn K a) [it] it (fun i h=>h.IsListIter it a i) where
  mem:=by simp
  obj:=fun i h st b hb=>by
    have e:b=it:=by simpa using hb
    subst e;obtain⟨o,e,c,d⟩:=st;exact⟨o,e,fun v z=>by rw[d] at z;cases z⟩
  keep:=fun i h h' st k=>st.at fun o e=>k it (by simp) o e
  item:=by
    intro X hP hw hK hc i p_ s σ H E I hf st hg;subst hP hw hK;obtain⟨xs,x,hq,hx⟩:=hg;obtain⟨its,rv,p,hz⟩:=I.list hq;obtain⟨u,hu,ru⟩:=rv.get hx;obtain⟨f0,f1,f2,f3,f4,f5⟩:=hf it (by simp);refine wpAny_pyNext_list_item st p.isList (x:=u) (by simpa using hu) fun h' st' sb=>?_;have I1:Inv X p_ σ H {s with heap:=h'}:=I.turned (t':=s.toks) (fun b o hb e=>(sb.2 b hb).trans e) f0 f1 f3 f4 f5;obtain⟨o,e,c,d⟩:=id st';exact⟨u,rfl,YD (s:={s with heap:=h'}) e c d (by decide) ⟨x,H,I1,ru,⟨rfl,fun ys hy=>by rw[I.yp hy hq];exact hx⟩,st',fun b hb=>(hf b hb).1⟩⟩
  done:=by
    intro X hP hw hK hc i p_ s σ H E I hf st hg;subst hP hw hK;obtain⟨xs,hq,hx⟩:=hg;obtain⟨its,rv,p,hz⟩:=I.list hq;obtain⟨f0,f1,f2,f3,f4,f5⟩:=hf it (by simp);have hl:=rv.length;exact wpAny_pyNext_list_end (I.ok.hd hc) st p.isList (by simp;omega) fun h' eb=>⟨rfl,I.turned (t':=s.toks) (fun b o hb e=>eb b o hb e) f0 f1 f3 f4 f5⟩
  self:=fun _ _ _ _ _ st h=>wpAny_pyIter_listiter st h
theorem FP {P:Program} {w:World} {K:W.Frag} {tg:Expr} (a it:Addr):Turn P w K tg (Itt K a) [it] it (fun i h=>h.IsTupleIter it a i) where
  mem:=by simp
  obj:=fun i h st b hb=>by
    have e:b=it:=by simpa using hb
    subst e;obtain⟨o,e,c,d⟩:=st;exact⟨o,e,fun v z=>by rw[d] at z;cases z⟩
  keep:=fun i h h' st k=>st.at fun o e=>k it (by simp) o e
  item:=by
    intro X hP hw hK hc i p_ s σ H E I hf st hg;subst hP hw hK;obtain⟨xs,x,hq,hx⟩:=hg;obtain⟨its,rv,p,hz⟩:=I.tuple hq;obtain⟨u,hu,ru⟩:=rv.get hx;obtain⟨f0,f1,f2,f3,f4,f5⟩:=hf it (by simp);refine wpAny_pyNext_tuple_item st (show s.heap.IsTuple a its.toArray from p) (x:=u) (by simpa using hu) fun h' st' sb=>?_;have I1:Inv X p_ σ H {s with heap:=h'}:=I.turned (t':=s.toks) (fun b o hb e=>(sb.2 b hb).trans e) f0 f1 f3 f4 f5;obtain⟨o,e,c,d⟩:=id st';exact⟨u,rfl,YD (s:={s with heap:=h'}) e c d (by decide) ⟨x,H,I1,ru,⟨rfl,fun ys hy=>by rw[I.V0 hy hq];exact hx⟩,st',fun b hb=>(hf b hb).1⟩⟩
  done:=by
    intro X hP hw hK hc i p_ s σ H E I hf st hg;subst hP hw hK;obtain⟨xs,hq,hx⟩:=hg;obtain⟨its,rv,p,hz⟩:=I.tuple hq;obtain⟨f0,f1,f2,f3,f4,f5⟩:=hf it (by simp);have hl:=rv.length;exact wpAny_pyNext_tuple_end (I.ok.hd hc) st (show s.heap.IsTuple a its.toArray from p) (by simp;omega) fun h' eb=>⟨rfl,I.turned (t':=s.toks) (fun b o hb e=>eb b o hb e) f0 f1 f3 f4 f5⟩
  self:=fun _ _ _ _ _ st h=>wpAny_pyIter_tupleiter st h
theorem Rz {P:Program} {w:World} {K:W.Frag} {tg:Expr} (it:Addr) (lo:Int) (n:Nat):Turn P w K tg (Ru lo n) [it] it (fun i h=>IsRangeIter h it (lo+(i:Nat) * 1) ((n:Int) - (i:Nat)) 1) where
  mem:=by simp
  obj:=fun i h st b hb=>by
    have e:b=it:=by simpa using hb
    subst e;exact⟨_,st,fun v z=>by
      have z':Data.fields _=Data.cell v:=z;cases z'⟩
  keep:=fun i h h' st k=>k it (by simp) _ st
  item:=by
    intro X hP hw hK hc i p_ s σ H E I hf st hg;subst hP hw hK;obtain⟨f0,f1,f2,f3,f4,f5⟩:=hf it (by simp);have o_:=Walks.range (prog:=X.prog) (w:=X.w) (I.ok.hd hc) it lo 1 n;refine o_.item i s _ _ hg st fun v h' tk hv st' kk=>?_;obtain⟨t,rfl⟩:=hv;have I1:Inv X p_ σ H {s with heap:=h',toks:=tk}:=I.turned (fun b o hb e=>kk b o (by simpa using hb) e) f0 f1 f3 f4 f5;refine⟨_,rfl,YD (s:={s with heap:=h',toks:=tk}) (n:= "range_iterator") st' rfl rfl (by decide) ⟨.int (lo+i),H,I1,⟨t,?_⟩,⟨rfl,rfl⟩,st',fun b hb=>(hf b hb).1⟩⟩;rw[Int.mul_one]
  done:=by
    intro X hP hw hK hc i p_ s σ H E I hf st hg;subst hP hw hK;obtain⟨f0,f1,f2,f3,f4,f5⟩:=hf it (by simp);exact wpAny_pyNext_range_end (I.ok.hd hc) st (by have:n≤i:=hg;omega) fun h' eb=>⟨rfl,I.turned (t':=s.toks) (fun b o hb e=>eb b o hb e) f0 f1 f3 f4 f5⟩
  self:=fun _ _ _ _ _ st h=>wpAny_pyIter_rangeiter st h
section
variable {X:Cx} {tg:Expr}
def Uu (K:W.Frag) (tl:TE):TI:=fun σ H R=>tl σ H fun x H1=>∃a,x = .ref a∧(∃xs,bU K H1 a xs)∧R (Yn K a) H1
def qd8 (K:W.Frag) (tl:TE):TI:=fun σ H R=>tl σ H fun x H1=>∃a,x = .ref a∧(∃xs,gY K H1 a xs)∧R (Itt K a) H1
theorem qby {l:Expr} {tl:TE} (hl:PE X l tl):PI X tg l (Uu X.K tl):=by
  intro p_ s σ H R I h;refine cR (hl p_ s σ H _ I h) fun v s1 zz=>?_;obtain⟨x,H1,I1,r1,q1⟩:=zz;obtain⟨a,e,⟨xs,hq⟩,q⟩:=q1;subst e;cases r1;obtain⟨its,rv,p,hz⟩:=I1.list hq;refine wpAny_pyIter_list p.isList ?_;refine⟨s1.heap.objs.size,[s1.heap.objs.size],_,_,H1,rfl,I1.kept (t':=s1.toks) fun b o e=>Heap.get?_push_of_some _ e,J0 a _,⟨_,Heap.get?_push_size _ rfl,rfl,rfl⟩,fun b hb=>?_,q⟩;have e:b=s1.heap.objs.size:=by simpa using hb
  subst e;exact I1.FN (Nat.le_refl _) (I1.hok.fresh (Nat.le_refl _))
theorem qd9 {l:Expr} {tl:TE} (hl:PE X l tl):PI X tg l (qd8 X.K tl):=by
  intro p_ s σ H R I h;refine cR (hl p_ s σ H _ I h) fun v s1 zz=>?_;obtain⟨x,H1,I1,r1,q1⟩:=zz;obtain⟨a,e,⟨xs,hq⟩,q⟩:=q1;subst e;cases r1;obtain⟨its,rv,p,hz⟩:=I1.tuple hq;refine wpAny_pyIter_tuple (show s1.heap.IsTuple a its.toArray from p) ?_;refine⟨s1.heap.objs.size,[s1.heap.objs.size],_,_,H1,rfl,I1.kept (t':=s1.toks) fun b o e=>Heap.get?_push_of_some _ e,FP a _,⟨_,Heap.get?_push_size _ rfl,rfl,rfl⟩,fun b hb=>?_,q⟩;have e:b=s1.heap.objs.size:=by simpa using hb
  subst e;exact I1.FN (Nat.le_refl _) (I1.hok.fresh (Nat.le_refl _))
theorem Pb {p_:List (Addr×Obj)} {σ:St} {H:Hp} {s:Shared} {R:It→Hp→Prop} {E:Value→Shared→Prop} {lo hi:Int} {t u v:Tok} {tk:Nat} (I:Inv X p_ σ H s) (h1 : -(2 ^ 62)≤lo) (h2:lo<2 ^ 62) (h3 : -(2 ^ 62)≤hi) (h4:hi<2 ^ 62)
    (q:R (Ru lo (hi - lo).toNat) H):wpAny (model X.prog X.w) X.A (pyIter (.ref s.heap.objs.size)) (PIE X p_ σ tg R) E {s with heap:=s.heap.push {cls:=.type "range",data:=.fields #[.int lo t,.int hi u,.int 1 v]},toks:=tk}:=by
  refine wpAny_pyIter_range (IsRange.new ..) (small_one h1 h2 h3 h4) ?_;have I1:Inv X p_ σ H {s with heap:=s.heap.push {cls:=.type "range",data:=.fields #[.int lo t,.int hi u,.int 1 v]},toks:=tk}:=I.kept fun b o e=>Heap.get?_push_of_some _ e;refine⟨(s.heap.push {cls:=.type "range",data:=.fields #[.int lo t,.int hi u,.int 1 v]}).objs.size,[(s.heap.push {cls:=.type "range",data:=.fields #[.int lo t,.int hi u,.int 1 v]}).objs.size],_,_,H,rfl,
    I1.kept (t':=tk) fun b o e=>Heap.get?_push_of_some _ e,Rz _ lo (hi - lo).toNat,?_,fun b hb=>?_,q⟩
  · have e1:lo+((0:Nat):Int) * 1=lo:=by simp
    have e2:(((hi - lo).toNat:Nat):Int) - ((0:Nat):Int)=Builtin.Range.rangeSize lo hi 1:=by rw[rangeSize_one];split <;> omega
    show IsRangeIter _ _ (lo+((0:Nat):Int) * 1) ((((hi - lo).toNat:Nat):Int) - ((0:Nat):Int)) 1;rw[e1,e2];exact Heap.get?_push_size _ rfl
  · have e:b=(s.heap.push {cls:=.type "range",data:=.fields #[.int lo t,.int hi u,.int 1 v]}).objs.size:=by simpa using hb
    subst e;exact I1.FN (Nat.le_refl _) (I1.hok.fresh (Nat.le_refl _))
def YF (ta:TA):TI:=fun σ H R=>ta σ H fun vs H1=>∃j:Int,vs=[.int j]∧-(2 ^ 62)≤j∧j<2 ^ 62∧R (Ru 0 j.toNat) H1
def YG (ta:TA):TI:=fun σ H R=>ta σ H fun vs H1=>∃i j:Int,vs=[.int i,.int j]∧(-(2 ^ 62)≤i∧i<2 ^ 62∧-(2 ^ 62)≤j∧j<2 ^ 62)∧R (Ru i (j - i).toNat) H1
theorem jC {a:Expr} {ta:TA} {p pos:Pos} (hg:Gl X "range") (hm:X.mg "range" = none) (ha:PA X [a] ta) (hs:starEach [a] X.env=[(false,eval a X.env)]:=by rfl):PI X tg (.Call (.Name "range" p) [a] [] pos) (YF ta):=by
  intro p_ s σ H R I h;refine Call_ (qj I hg hm boot_range (PyProof.Rows.callWith_type1 (cR (ha pos p_ s σ H _ I h) fun us s1 zz=>?_) hs rfl));obtain⟨vs,H1,I1,r1,q1⟩:=zz;obtain⟨j,e,q1,q2,q⟩:=q1;subst e;cases r1 with
  | cons r rr=>
    cases rr;obtain⟨t,rfl⟩:=r;exact call_range_1 (Pb I1 (by omega) (by omega) q1 q2 (by simpa using q))
theorem V4 {a b:Expr} {ta:TA} {p pos:Pos} (hg:Gl X "range") (hm:X.mg "range" = none) (ha:PA X [a,b] ta) (hs:starEach [a,b] X.env=[(false,eval a X.env),(false,eval b X.env)]:=by rfl) (hs2:starEach [b] X.env=[(false,eval b X.env)]:=by rfl) :
    PI X tg (.Call (.Name "range" p) [a,b] [] pos) (YG ta):=by
  intro p_ s σ H R I h;refine Call_ (qj I hg hm boot_range (PyProof.Rows.callWith_type1 (cR (ha pos p_ s σ H _ I h) fun us s1 zz=>?_) (by rw[hs,hs2]) (by rw[hs2];rfl)));obtain⟨vs,H1,I1,r1,q1⟩:=zz;obtain⟨i,j,e,⟨q1,q2,q3,q4⟩,q⟩:=q1;subst e;cases r1 with
  | cons r rr=>
    cases rr with
    | cons r' rr=>
      cases rr;obtain⟨t,rfl⟩:=r;obtain⟨t',rfl⟩:=r';exact call_range_2 (Pb I1 q1 q2 q3 q4 q)
def qfZ (wi:TI) (g:TG) (tb:TS):TS:=fun D σ H=>wi σ H fun J H1=>∃o_:Nat→Nat→St→Hp→Prop,(∃m,o_ 0 m σ H1)∧∀i m σ H,o_ i m σ H→
  (J.stop i H∧D.nx σ H)∨(J.go i H∧∃N:St→Hp→Prop,(∀σ' H',N σ' H'→∃m',m'<m∧o_ (i+1) m' σ' H')∧∀x H',J.yld i H x H'→g x σ H' fun σ2 H2=>tb {D with nx:=N,ct:=N,bk:=D.nx} σ2 H2)
def FQ (fp:List Addr) (h:Heap):List (Addr×Obj):=fp.filterMap fun b=>(h.get? b).map fun o=>(b,o)
theorem ql {fp:List Addr} {h:Heap} {b:Addr} {o:Obj} (hb:b∈fp) (e:h.get? b=some o):(b,o)∈FQ fp h:=List.mem_filterMap.mpr ⟨b,hb,by rw[e];rfl⟩
theorem V5 {fp:List Addr} {h:Heap} {p:Addr×Obj} (hp:p∈FQ fp h):p.1∈fp∧h.get? p.1=some p.2:=by
  obtain⟨b,hb,e⟩:=List.mem_filterMap.mp hp;cases q:h.get? b with
  | none=>rw[q] at e;cases e
  | some o=>
    rw[q] at e;have e':(b,o)=p:=Option.some.inj e;subst e';exact⟨hb,q⟩
theorem Inv.pinned {p_:List (Addr×Obj)} {σ:St} {H:Hp} {s:Shared} {fp:List Addr} (I:Inv X p_ σ H s) (hf:∀b∈fp,vg X p_ H b) (ho:∀b∈fp,∃o,s.heap.get? b=some o∧∀v,o.data≠.cell v):Inv X (p_++FQ fp s.heap) σ H s:=
  I.Ut fun p hp=>(List.mem_append.mp hp).elim (fun z=>I.pin p (List.mem_append_right _ z)) fun z=>by
    obtain⟨hb,e⟩:=V5 z;obtain⟨f0,f1,f2,_⟩:=hf p.1 hb;obtain⟨o,e',d⟩:=ho p.1 hb;rw[e] at e';cases e';exact⟨e,f0,f1,f2,d⟩
theorem Inv.yr {p_ pl:List (Addr×Obj)} {σ:St} {H:Hp} {s:Shared} (I:Inv X (p_++pl) σ H s):Inv X p_ σ H s:=I.Ut fun p hp=>I.pin p (List.mem_append_right _ (List.mem_append_left _ hp))
theorem iy {iter:Expr} {body:List Stmt} {wi:TI} {g:TG} {tb:TS} {pos:Pos} (hp:PassesOwn (model X.prog X.w) X.A X.env X.xe) (hc:X.calm=true) (hi:PI X tg iter wi) (hg:PG X tg g) (hb:Jm X body tb)
    (hs:∀x,foldedSetIterable iter X.env x=pure x:=by intro _;rfl):PS X (.For tg iter body [] pos) (qfZ wi g tb):=by
  intro p_ s σ H D I h;refine wpAny_For (cR (hi p_ s σ H _ I h) fun v s1 h1=>cR h1 fun itv s2 h2=>?_) hs;obtain⟨it,fp,tn,J,H2,e,I2,T,st2,f2,o_,⟨m0,w0⟩,turn⟩:=h2;subst e;have stat:∀{H':Hp},(∀b∈fp,H' b=none)→∀b∈fp,vg X p_ H' b:=fun hn b hb=>⟨hn b hb,(f2 b hb).2⟩;refine codeAny_forLoop_any (fun n s'=>∃i σ' H',Inv X p_ σ' H' s'∧tn i s'.heap∧(∀b∈fp,H' b=none)∧o_ i n σ' H') ?_ m0 ⟨0,σ,H2,I2,st2,fun b hb=>(f2 b hb).1,w0⟩;rintro n s3 ⟨i,σ3,H3,I3,st3,fr3,w3⟩
  rcases turn i n σ3 H3 w3 with⟨stop,qn⟩ | ⟨go,N,hN,step⟩
  ·refine wpAny_passesOwn hp (cR (T.done X rfl rfl rfl hc i p_ s3 σ3 H3 X.xe I3 (stat fr3) st3 stop) fun r s4 zz=>?_);obtain⟨hr,I4⟩:=zz;subst hr;exact wpAny_execs_nil ⟨σ3,H3,I4,qn⟩
  · refine wpAny_passesOwn hp (cR (T.item X rfl rfl rfl hc i p_ s3 σ3 H3 X.xe I3 (stat fr3) st3 go) fun r s4 zz=>?_);obtain⟨u,hr,h4⟩:=zz;subst hr;refine wpAny_passesOwn hp (cR h4 fun _ s5 zz=>?_);obtain⟨x,H5,I5,r5,y5,st5,fr5⟩:=zz;have I5':=I5.pinned (stat fr5) (T.obj _ _ st5);refine wpAny_passesOwn hp (cR (hg _ s5 σ3 H5 x u _ I5' r5 (step x H5 y5)) fun _ s6 zz=>?_);obtain⟨σ6,H6,I6,q6⟩:=zz;refine wpAny_passesOwn hp (cR (hb _ s6 σ6 H6 _ I6 q6) fun f s7 q7=>?_);have again:∀{σ7:St} {H7:Hp},Inv X (p_++FQ fp s5.heap) σ7 H7 s7→N σ7 H7→∃m,m<n∧∃i σ' H',Inv X p_ σ' H' s7∧tn i s7.heap∧(∀b∈fp,H' b=none)∧o_ i m σ' H':=fun {σ7 H7} I7 n7=>by
      obtain⟨m',hm,w7⟩:=hN σ7 H7 n7;refine⟨m',hm,i+1,σ7,H7,I7.yr,T.keep _ _ _ st5 fun b hb o e=>(I7.pin (b,o) (List.mem_append_right _ (List.mem_append_right _ (ql hb e)))).1,fun b hb=>?_,w7⟩;obtain⟨o,e,d⟩:=T.obj _ _ st5 b hb;exact(I7.pin (b,o) (List.mem_append_right _ (List.mem_append_right _ (ql hb e)))).2.1
    cases f with
    | next=>obtain⟨σ7,H7,I7,n7⟩:=q7;exact again I7 n7
    | cont=>obtain⟨σ7,H7,I7,n7⟩:=q7;exact again I7 n7
    | brk=>obtain⟨σ7,H7,I7,q7⟩:=q7;exact⟨σ7,H7,I7.yr,q7⟩
    | ret v=>obtain⟨x7,σ7,H7,I7,r7,q7⟩:=q7;exact⟨x7,σ7,H7,I7.yr,r7,q7⟩
end
theorem YH {K:W.Frag} {a:Addr} {xs:List V} {g:TG} {tb:TS} {D:Ends} {σ:St} {H:Hp} (Pv:Nat→St→Hp→Prop) (h0:Pv 0 σ H) (hl:∀i σ H,i≤xs.length→Pv i σ H→bU K H a xs)
    (hs:∀i x σ H,xs[i]? = some x→Pv i σ H→g x σ H fun σ2 H2=>tb {D with nx:=Pv (i+1),ct:=Pv (i+1),bk:=D.nx} σ2 H2) (hd:∀σ H,Pv xs.length σ H→D.nx σ H) :
    ∃o_:Nat→Nat→St→Hp→Prop,(∃m,o_ 0 m σ H)∧∀i m σ H,o_ i m σ H→
      ((Yn K a).stop i H∧D.nx σ H)∨((Yn K a).go i H∧∃N:St→Hp→Prop,(∀σ' H',N σ' H'→∃m',m'<m∧o_ (i+1) m' σ' H')∧∀x H',(Yn K a).yld i H x H'→g x σ H' fun σ2 H2=>tb {D with nx:=N,ct:=N,bk:=D.nx} σ2 H2):=by
  refine⟨fun i m σ H=>m=xs.length - i∧i≤xs.length∧Pv i σ H,⟨xs.length,by simp,Nat.zero_le _,h0⟩,?_⟩;rintro i m σ H ⟨rfl,hi,p⟩;have q:=hl i σ H hi p
  by_cases hlt:i<xs.length
  ·refine .inr ⟨⟨xs,xs[i],q,by simp[hlt]⟩,Pv (i+1),fun σ' H' p'=>⟨xs.length - (i+1),by omega,rfl,hlt,p'⟩,fun x H' y=>?_⟩;obtain⟨e,y⟩:=y;subst e;exact hs i x σ _ (y xs q) p
  · have e:i=xs.length:=by omega
    subst e;exact .inl ⟨⟨xs,q,Nat.le_refl _⟩,hd σ H p⟩
theorem qbz {K:W.Frag} {a:Addr} {xs:List V} {g:TG} {tb:TS} {D:Ends} {σ:St} {H:Hp} (Pv:Nat→St→Hp→Prop) (h0:Pv 0 σ H) (hl:∀i σ H,i≤xs.length→Pv i σ H→gY K H a xs)
    (hs:∀i x σ H,xs[i]? = some x→Pv i σ H→g x σ H fun σ2 H2=>tb {D with nx:=Pv (i+1),ct:=Pv (i+1),bk:=D.nx} σ2 H2) (hd:∀σ H,Pv xs.length σ H→D.nx σ H) :
    ∃o_:Nat→Nat→St→Hp→Prop,(∃m,o_ 0 m σ H)∧∀i m σ H,o_ i m σ H→
      ((Itt K a).stop i H∧D.nx σ H)∨((Itt K a).go i H∧∃N:St→Hp→Prop,(∀σ' H',N σ' H'→∃m',m'<m∧o_ (i+1) m' σ' H')∧∀x H',(Itt K a).yld i H x H'→g x σ H' fun σ2 H2=>tb {D with nx:=N,ct:=N,bk:=D.nx} σ2 H2):=by
  refine⟨fun i m σ H=>m=xs.length - i∧i≤xs.length∧Pv i σ H,⟨xs.length,by simp,Nat.zero_le _,h0⟩,?_⟩;rintro i m σ H ⟨rfl,hi,p⟩;have q:=hl i σ H hi p
  by_cases hlt:i<xs.length
  ·refine .inr ⟨⟨xs,xs[i],q,by simp[hlt]⟩,Pv (i+1),fun σ' H' p'=>⟨xs.length - (i+1),by omega,rfl,hlt,p'⟩,fun x H' y=>?_⟩;obtain⟨e,y⟩:=y;subst e;exact hs i x σ _ (y xs q) p
  · have e:i=xs.length:=by omega
    subst e;exact .inl ⟨⟨xs,q,Nat.le_refl _⟩,hd σ H p⟩
theorem V6 {lo:Int} {n:Nat} {g:TG} {tb:TS} {D:Ends} {σ:St} {H:Hp} (Pv:Nat→St→Hp→Prop) (h0:Pv 0 σ H)
    (hs:∀i σ H,i<n→Pv i σ H→g (.int (lo+i)) σ H fun σ2 H2=>tb {D with nx:=Pv (i+1),ct:=Pv (i+1),bk:=D.nx} σ2 H2) (hd:∀σ H,Pv n σ H→D.nx σ H) :
    ∃o_:Nat→Nat→St→Hp→Prop,(∃m,o_ 0 m σ H)∧∀i m σ H,o_ i m σ H→
      ((Ru lo n).stop i H∧D.nx σ H)∨((Ru lo n).go i H∧∃N:St→Hp→Prop,(∀σ' H',N σ' H'→∃m',m'<m∧o_ (i+1) m' σ' H')∧∀x H',(Ru lo n).yld i H x H'→g x σ H' fun σ2 H2=>tb {D with nx:=N,ct:=N,bk:=D.nx} σ2 H2):=by
  refine⟨fun i m σ H=>m=n - i∧i≤n∧Pv i σ H,⟨n,by simp,Nat.zero_le _,h0⟩,?_⟩;rintro i m σ H ⟨rfl,hi,p⟩
  by_cases hlt:i<n
  ·refine .inr ⟨hlt,Pv (i+1),fun σ' H' p'=>⟨n - (i+1),by omega,rfl,hlt,p'⟩,fun x H' y=>?_⟩;obtain⟨e,y⟩:=y;subst e y;exact hs i σ _ hlt p
  · have e:i=n:=by omega
    subst e;exact .inl ⟨Nat.le_refl _,hd σ H p⟩
theorem YJ {c:TT} {tb:TS} {D:Ends} {σ:St} {H:Hp} (Pv:St→Hp→Prop) (μ:St→Hp→Nat) (h0:Pv σ H)
    (hs:∀σ H,Pv σ H→c σ H fun b H1=>if b=true then tb {D with nx:=fun σ' H'=>Pv σ' H'∧μ σ' H'<μ σ H,ct:=fun σ' H'=>Pv σ' H'∧μ σ' H'<μ σ H,bk:=D.nx} σ H1 else D.nx σ H1)
    (mono:∀σ H Q Q',(∀b H1,Q b H1→Q' b H1)→c σ H Q→c σ H Q'):Lw c tb D σ H:=by
  refine⟨fun m σ H=>m=μ σ H∧Pv σ H,⟨_,rfl,h0⟩,?_⟩;rintro m σ H ⟨rfl,p⟩;refine mono σ H _ _ (fun b H1 q=>?_) (hs σ H p);cases b with
  | true=>exact⟨_,fun σ' H' ⟨p',l⟩=>⟨_,l,rfl,p'⟩,q⟩
  | false=>exact q
abbrev R2:=V→V→Hp→VK→Prop
def jk (X:Cx) (f:Value→Value→Sem Value) (r:R2):Prop:=
  ∀(p_:List (Addr×Obj)) (s:Shared) (σ:St) (H:Hp) (x y:V) (v u:Value) (Q:VK),Inv X p_ σ H s→RelV x v→RelV y u→r x y H Q→
    wpAny (model X.prog X.w) X.A (f v u) (EP X p_ σ Q) X.xe s
def UnR (X:Cx) (f:Value→Sem Value) (r:V→Hp→VK→Prop):Prop:=
  ∀(p_:List (Addr×Obj)) (s:Shared) (σ:St) (H:Hp) (x:V) (v:Value) (Q:VK),Inv X p_ σ H s→RelV x v→r x H Q→
    wpAny (model X.prog X.w) X.A (f v) (EP X p_ σ Q) X.xe s
def cu (X:Cx) (f:Value) (r:List V→Hp→VK→Prop):Prop:=
  ∀(p_:List (Addr×Obj)) (s:Shared) (σ:St) (H:Hp) (xs:List V) (us:List Value) (Q:VK),Inv X p_ σ H s→Vals xs us→r xs H Q→
    wpAny (model X.prog X.w) X.A (call f us) (EP X p_ σ Q) X.xe s
def tOp (r:R2) (ta tb:TE):TE:=fun σ H Q=>ta σ H fun x H1=>tb σ H1 fun y H2=>r x y H2 Q
def tUn (r:V→Hp→VK→Prop) (ta:TE):TE:=fun σ H Q=>ta σ H fun x H1=>r x H1 Q
def rI (C:Int→Int→Prop) (g:Int→Int→V):R2:=fun x y H Q=>∃i j,x = .int i∧y = .int j∧C i j∧Q (g i j) H
def rI0 (g:Int→Int→V):R2:=fun x y H Q=>∃i j,x = .int i∧y = .int j∧Q (g i j) H
def rU (g:Int→V):V→Hp→VK→Prop:=fun x H Q=>∃i,x = .int i∧Q (g i) H
section
variable {X:Cx} {a b c:Expr} {ta tb tc:TE} {pos:Pos}
theorem qd_ (ha:PE X a ta) (hb:PE X b tb) {p_:List (Addr×Obj)} {s:Shared} {σ:St} {H:Hp} {R:V→V→Hp→Prop} (I:Inv X p_ σ H s)
    (h:ta σ H fun x H1=>tb σ H1 fun y H2=>R x y H2) {Q:Value→Shared→Prop} {f:Value→Value→Sem Value}
    (hf:∀v u s2 x y H2,Inv X p_ σ H2 s2→RelV x v→RelV y u→R x y H2→wpAny (model X.prog X.w) X.A (f v u) Q X.xe s2) :
    wpAny (model X.prog X.w) X.A (eval a X.env) (fun v s₁=>wpAny (model X.prog X.w) X.A (eval b X.env) (fun u s₂=>wpAny (model X.prog X.w) X.A (f v u) Q X.xe s₂) X.xe s₁) X.xe s:=by
  refine cR (ha p_ s σ H _ I h) fun v s1 zz=>?_;obtain⟨x,H1,I1,r1,q1⟩:=zz;refine cR (hb p_ s1 σ H1 _ I1 q1) fun u s2 zz=>?_;obtain⟨y,H2,I2,r2,q2⟩:=zz;exact hf v u s2 x y H2 I2 r1 r2 q2
theorem dj {op:Operator} {r:R2} (ho:jk X (binaryOp op) r) (ha:PE X a ta) (hb:PE X b tb):PE X (.BinOp a op b pos) (tOp r ta tb):=by
  intro p_ s σ H Q I h;exact wpAny_BinOp (qd_ ha hb I h fun v u s2 x y H2 I2 rx ry q=>ho p_ s2 σ H2 x y v u Q I2 rx ry q)
theorem Uv {op:UnaryOp} {r:V→Hp→VK→Prop} (ho:UnR X (unaryOp op) r) (ha:PE X a ta):PE X (.UnaryOp op a pos) (tUn r ta):=by
  intro p_ s σ H Q I h;refine UnaryOp_ (cR (ha p_ s σ H _ I h) fun v s1 zz=>?_);obtain⟨x,H1,I1,r1,q1⟩:=zz;exact ho p_ s1 σ H1 x v Q I1 r1 q1
theorem opI {f:Value→Value→Sem Value} {C:Int→Int→Prop} {g:Int→Int→Int}
    (rule:∀(i j:Int) (t u:Tok) (s:Shared) (Q:Value→Shared→Prop) (E:Value→Shared→Prop),C i j→Q (.int (g i j) s.toks) {s with toks:=s.toks+1}→wpAny (model X.prog X.w) X.A (f (.int i t) (.int j u)) Q E s) :
    jk X f (rI C fun i j=>.int (g i j)):=by
  intro p_ s σ H x y v u Q I rx ry h;obtain⟨i,j,rfl,rfl,hc,q⟩:=h;obtain⟨t,rfl⟩:=rx;obtain⟨t',rfl⟩:=ry;exact rule i j t t' s _ _ hc ⟨.int (g i j),H,I.tok _,⟨_,rfl⟩,q⟩
theorem qf0 {f:Value→Value→Sem Value} {g:Int→Int→Int}
    (rule:∀(i j:Int) (t u:Tok) (s:Shared) (Q:Value→Shared→Prop) (E:Value→Shared→Prop),Q (.int (g i j) s.toks) {s with toks:=s.toks+1}→wpAny (model X.prog X.w) X.A (f (.int i t) (.int j u)) Q E s) :
    jk X f (rI0 fun i j=>.int (g i j)):=by
  intro p_ s σ H x y v u Q I rx ry h;obtain⟨i,j,rfl,rfl,q⟩:=h;obtain⟨t,rfl⟩:=rx;obtain⟨t',rfl⟩:=ry;exact rule i j t t' s _ _ ⟨.int (g i j),H,I.tok _,⟨_,rfl⟩,q⟩
theorem qea {f:Value→Value→Sem Value} {g:Int→Int→Bool}
    (rule:∀(i j:Int) (t u:Tok) (s:Shared) (Q:Value→Shared→Prop) (E:Value→Shared→Prop),Q (.bool (g i j)) s→wpAny (model X.prog X.w) X.A (f (.int i t) (.int j u)) Q E s) :
    jk X f (rI0 fun i j=>.bl (g i j)):=by
  intro p_ s σ H x y v u Q I rx ry h;obtain⟨i,j,rfl,rfl,q⟩:=h;obtain⟨t,rfl⟩:=rx;obtain⟨t',rfl⟩:=ry;exact rule i j t t' s _ _ ⟨.bl (g i j),H,I,rfl,q⟩
@[simp] def V7 (i j:Int):Prop:=0<j∧j<1073741824
@[simp] def qf1 (i j:Int):Prop:=0≤j∧j≤1000000∧i.natAbs<2 ^ 64
@[simp] def qbA (i j:Int):Prop:=(-(2 ^ 64)<i∧i<2 ^ 64)∨(-(2 ^ 64)<j∧j<2 ^ 64)
theorem qbA.ok {i j:Int} (h:qbA i j):IntMulOk i j:=by
  rcases h with⟨h1,h2⟩ | ⟨h1,h2⟩
  ·exact .of_left (intBits_le_64 h1 h2)
  ·exact .of_right (intBits_le_64 h1 h2)
theorem qeb:jk X (binaryOp .Add) (rI0 fun i j=>.int (i+j)):=qf0 fun _ _ _ _ _ _ _ q=>add_int q
theorem qec:jk X (binaryOp .Sub) (rI0 fun i j=>.int (i - j)):=qf0 fun _ _ _ _ _ _ _ q=>sub_int q
theorem qee:jk X (binaryOp .Mult) (rI qbA fun i j=>.int (i * j)):=opI fun _ _ _ _ _ _ _ hc q=>mul_int q hc.ok
theorem qbB:jk X (binaryOp .FloorDiv) (rI V7 fun i j=>.int (i / j)):=opI fun i j _ _ _ _ _ hc q=>by
  have h1:(0:Int)<j:=hc.1;have h2:j<1073741824:=hc.2;exact floordiv_int (by omega) (by rw[Int.fdiv_eq_ediv_of_nonneg i (by omega)];exact q) (.inl (PyProof.noPylong_small (by omega)))
theorem qef:jk X (binaryOp .Mod) (rI (fun _ j=>0<j) fun i j=>.int (i % j)):=opI fun i j _ _ _ _ _ hc q=>by
  have h1:(0:Int)<j:=hc;exact mod_int' (by omega) (by rw[Int.fmod_eq_emod_of_nonneg i (by omega)];exact q)
theorem qeg:jk X (binaryOp .Pow) (rI qf1 fun i j=>.int (i ^ j.toNat)):=opI fun _ _ _ _ _ _ _ hc q=>pow_int_small hc.1 hc.2.1 hc.2.2 q
theorem unI {f:Value→Sem Value} {g:Int→Int}
    (rule:∀(i:Int) (t:Tok) (s:Shared) (Q:Value→Shared→Prop) (E:Value→Shared→Prop),Q (.int (g i) s.toks) {s with toks:=s.toks+1}→wpAny (model X.prog X.w) X.A (f (.int i t)) Q E s) :
    UnR X f (rU fun i=>.int (g i)):=by
  intro p_ s σ H x v Q I rx h;obtain⟨i,rfl,q⟩:=h;obtain⟨t,rfl⟩:=rx;exact rule i t s _ _ ⟨.int (g i),H,I.tok _,⟨_,rfl⟩,q⟩
theorem qeh:UnR X (unaryOp .USub) (rU fun i=>.int (-i)):=unI fun _ _ _ _ _ q=>neg_int q
end
def DY:V→V→Bool
  | .non,.non=>true | .non,.int _=>true | .int _,.non=>true | .non,.bl _=>true | .bl _,.non=>true | .non,.str _=>true | .str _,.non=>true
  | .int _,.int _=>true | .bl _,.bl _=>true | .str _,.str _=>true | .Yl _,.Yl _=>true
  | .int _,.str _=>true | .str _,.int _=>true | .bl _,.str _=>true | .str _,.bl _=>true
  | _,_=>false
def rEq:R2:=fun x y H Q=>DY x y=true∧Q (.bl (decide (x=y))) H
def rNe:R2:=fun x y H Q=>DY x y=true∧Q (.bl (!decide (x=y))) H
theorem Uw {i j:Int}:decide (V.int i=V.int j)=(i == j):=by
  rw[Bool.eq_iff_iff];simp
theorem YK {i j:Bool}:decide (V.bl i=V.bl j)=(i == j):=by
  rw[Bool.eq_iff_iff];simp
theorem Ux {i j:Str}:decide (V.str i=V.str j)=(i == j):=by
  rw[Bool.eq_iff_iff];simp
theorem Uy {i j:Array UInt8}:decide (V.Yl i=V.Yl j)=(i.toList == j.toList):=by
  rw[Bool.eq_iff_iff];cases i;cases j;simp
section
variable {X:Cx} {a b c:Expr} {ta tb tc:TE} {pos:Pos}
theorem cG {p_:List (Addr×Obj)} {σ:St} {H:Hp} {s:Shared} {Q:VK} {k k':Bool} (I:Inv X p_ σ H s) (q:Q (.bl k) H) (e:k=k'):EP X p_ σ Q (.bool k') s:=by
  subst e;exact⟨.bl k,H,I,rfl,q⟩
theorem qf2:jk X (compareOp .Eq) rEq:=by
  intro p_ s σ H x y v u Q I rx ry h;obtain⟨hs,q⟩:=h;cases x with
  | non=>
    cases rx;cases y with
    | non=>cases ry;exact PySem.EqNone.eq_none_none (cG I q (by simp))
    | bl j=>cases ry;exact PySem.EqNone.eq_none_bool (cG I q (by simp))
    | int j=>obtain⟨t',rfl⟩:=ry;exact PySem.EqNone.eq_none_int (cG I q (by simp))
    | str j=>obtain⟨t',rfl⟩:=ry;exact PySem.EqNone.eq_none_str (cG I q (by simp))
    | _=>exact absurd (show false=true from hs) Bool.false_ne_true
  | bl i=>
    cases rx;cases y with
    | non=>cases ry;exact PySem.EqNone.eq_bool_none (cG I q (by simp))
    | bl j=>cases ry;exact eq_bool (cG I q YK)
    | str j=>obtain⟨t',rfl⟩:=ry;exact PySem.EqMixed.eq_bool_str (cG I q (by simp))
    | _=>exact absurd (show false=true from hs) Bool.false_ne_true
  | int i=>
    obtain⟨t,rfl⟩:=rx;cases y with
    | non=>cases ry;exact PySem.EqNone.eq_int_none (cG I q (by simp))
    | int j=>obtain⟨t',rfl⟩:=ry;exact eq_int (cG I q Uw)
    | str j=>obtain⟨t',rfl⟩:=ry;exact PySem.EqMixed.eq_int_str (cG I q (by simp))
    | _=>exact absurd (show false=true from hs) Bool.false_ne_true
  | str i=>
    obtain⟨t,rfl⟩:=rx;cases y with
    | non=>cases ry;exact PySem.EqNone.eq_str_none (cG I q (by simp))
    | bl j=>cases ry;exact PySem.EqMixed.eq_str_bool (cG I q (by simp))
    | int j=>obtain⟨t',rfl⟩:=ry;exact PySem.EqMixed.eq_str_int (cG I q (by simp))
    | str j=>obtain⟨t',rfl⟩:=ry;exact eq_str (cG I q Ux)
    | _=>exact absurd (show false=true from hs) Bool.false_ne_true
  | Yl i=>
    obtain⟨t,rfl⟩:=rx;cases y with
    | Yl j=>obtain⟨t',rfl⟩:=ry;exact W.eq_bytes (cG I q Uy)
    | _=>exact absurd (show false=true from hs) Bool.false_ne_true
  | _=>cases y <;> exact absurd (show false=true from hs) Bool.false_ne_true
theorem qf3:jk X (compareOp .NotEq) rNe:=by
  intro p_ s σ H x y v u Q I rx ry h;obtain⟨hs,q⟩:=h;cases x with
  | non=>
    cases rx;cases y with
    | non=>cases ry;exact PySem.EqNone.ne_none_none (cG I q (by simp))
    | bl j=>cases ry;exact PySem.EqNone.ne_none_bool (cG I q (by simp))
    | int j=>obtain⟨t',rfl⟩:=ry;exact PySem.EqNone.ne_none_int (cG I q (by simp))
    | str j=>obtain⟨t',rfl⟩:=ry;exact PySem.EqNone.ne_none_str (cG I q (by simp))
    | _=>exact absurd (show false=true from hs) Bool.false_ne_true
  | bl i=>
    cases rx;cases y with
    | non=>cases ry;exact PySem.EqNone.ne_bool_none (cG I q (by simp))
    | bl j=>cases ry;exact ne_bool (cG I q (congrArg not YK))
    | str j=>obtain⟨t',rfl⟩:=ry;exact PySem.EqMixed.ne_bool_str (cG I q (by simp))
    | _=>exact absurd (show false=true from hs) Bool.false_ne_true
  | int i=>
    obtain⟨t,rfl⟩:=rx;cases y with
    | non=>cases ry;exact PySem.EqNone.ne_int_none (cG I q (by simp))
    | int j=>obtain⟨t',rfl⟩:=ry;exact ne_int (cG I q (congrArg not Uw))
    | str j=>obtain⟨t',rfl⟩:=ry;exact PySem.EqMixed.ne_int_str (cG I q (by simp))
    | _=>exact absurd (show false=true from hs) Bool.false_ne_true
  | str i=>
    obtain⟨t,rfl⟩:=rx;cases y with
    | non=>cases ry;exact PySem.EqNone.ne_str_none (cG I q (by simp))
    | bl j=>cases ry;exact PySem.EqMixed.ne_str_bool (cG I q (by simp))
    | int j=>obtain⟨t',rfl⟩:=ry;exact PySem.EqMixed.ne_str_int (cG I q (by simp))
    | str j=>obtain⟨t',rfl⟩:=ry;exact ne_str (cG I q (congrArg not Ux))
    | _=>exact absurd (show false=true from hs) Bool.false_ne_true
  | Yl i=>
    obtain⟨t,rfl⟩:=rx;cases y with
    | Yl j=>obtain⟨t',rfl⟩:=ry;exact W.ne_bytes (cG I q (congrArg not Uy))
    | _=>exact absurd (show false=true from hs) Bool.false_ne_true
  | _=>cases y <;> exact absurd (show false=true from hs) Bool.false_ne_true
theorem qf4:jk X (compareOp .Lt) (rI0 fun i j=>.bl (decide (i<j))):=qea fun _ _ _ _ _ _ _ q=>lt_int q
theorem qf5:jk X (compareOp .LtE) (rI0 fun i j=>.bl (decide (i≤j))):=qea fun _ _ _ _ _ _ _ q=>le_int q
theorem qf6:jk X (compareOp .Gt) (rI0 fun i j=>.bl (decide (j<i))):=qea fun _ _ _ _ _ _ _ q=>gt_int q
theorem V8:jk X (compareOp .In) (fun x y H Q=>∃i j,x = .str i∧y = .str j∧Q (.bl (!(Builtin.Str.occurrences j i 0 j.length 1).isEmpty)) H):=by
  intro p_ s σ H x y v u Q I rx ry h;obtain⟨i,j,rfl,rfl,q⟩:=h;obtain⟨t,rfl⟩:=rx;obtain⟨t',rfl⟩:=ry;exact in_str (cG I q rfl)
theorem qei:jk X (compareOp .Is) (fun x y H Q=>y = .non∧Q (.bl (decide (x = .non))) H):=by
  intro p_ s σ H x y v u Q I rx ry h;obtain⟨rfl,q⟩:=h;cases ry;refine is_none_gen (cG I q ?_);cases x <;> first
    | (cases rx;rfl)
    | (obtain⟨t,rfl⟩:=rx;rfl)
theorem Uz:jk X (compareOp .IsNot) (fun x y H Q=>y = .non∧Q (.bl (!decide (x = .non))) H):=by
  intro p_ s σ H x y v u Q I rx ry h;obtain⟨rfl,q⟩:=h;cases ry;refine isnot_none_gen (cG I q ?_);cases x <;> first
    | (cases rx;rfl)
    | (obtain⟨t,rfl⟩:=rx;rfl)
theorem jk.or {f:Value→Value→Sem Value} {r r':R2} (h:jk X f r) (h':jk X f r'):jk X f (fun x y H Q=>r x y H Q∨r' x y H Q):=by
  intro p_ s σ H x y v u Q I rx ry q
  rcases q with q | q
  ·exact h p_ s σ H x y v u Q I rx ry q
  ·exact h' p_ s σ H x y v u Q I rx ry q
theorem cP (b:Expr) {op:CmpOp} (h:op≠.In:=by decide) (h2:op≠.NotIn:=by decide):behindInMarks op b=false:=by
  have e1:(op == CmpOp.In)=false:=by cases op <;> first | rfl | exact absurd rfl h
  have e2:(op == CmpOp.NotIn)=false:=by cases op <;> first | rfl | exact absurd rfl h2
  cases b <;> simp[behindInMarks,e1,e2]
theorem yt {op:CmpOp} {r:R2} (ho:jk X (compareOp op) r) (ha:PE X a ta) (hb:PE X b tb) (hm:behindInMarks op b=false):PE X (.Compare a [op] [b] pos) (tOp r ta tb):=by
  intro p_ s σ H Q I h;exact wpAny_Compare1 (qd_ ha hb I h fun v u s2 x y H2 I2 rx ry q=>ho p_ s2 σ H2 x y v u Q I2 rx ry q) hm
def UG (t:TE):TT:=fun σ H Q=>t σ H fun x H'=>∃k,x = .bl k∧Q k H'
theorem qbC {op:CmpOp} {r:R2} (ho:jk X (compareOp op) r) (ha:PE X a ta) (hb:PE X b tb) (hm:behindInMarks op b=false):PT X (.Compare a [op] [b] pos) (UG (tOp r ta tb)):=by
  intro p_ s σ H Q I h;refine wpAny_isTrue_Compare1 (cR (ha p_ s σ H _ I h) fun v s1 ⟨x,H1,I1,r1,q1⟩=>cR (hb p_ s1 σ H1 _ I1 q1) fun u s2 ⟨y,H2,I2,r2,q2⟩=>
    cR (ho p_ s2 σ H2 x y v u _ I2 r1 r2 q2) fun c s3 ⟨z,H3,I3,r3,k,e,q3⟩=>?_) hm
  subst e;cases r3;exact wpAny_truthy_bool ⟨H3,I3,q3⟩
def Lx (r r':R2) (ta tb tc:TE):TE:=fun σ H Q=>ta σ H fun x H1=>tb σ H1 fun y H2=>r x y H2 fun z H3=>∃k,z = .bl k∧
  (if k=true then tc σ H3 fun w' H4=>r' y w' H4 Q else Q (.bl false) H3)
theorem YL {op op':CmpOp} {r r':R2} (ho:jk X (compareOp op) r) (ho':jk X (compareOp op') r') (ha:PE X a ta) (hb:PE X b tb) (hc:PE X c tc)
    (hm:lastMarks [op,op'] [b,c]=false:=by with_unfolding_all rfl):PE X (.Compare a [op,op'] [b,c] pos) (Lx r r' ta tb tc):=by
  intro p_ s σ H Q I h;refine Compare_chain (cR (ha p_ s σ H _ I h) fun v s1 ⟨x,H1,I1,r1,q1⟩=>chain_link (cR (hb p_ s1 σ H1 _ I1 q1) fun u s2 ⟨y,H2,I2,r2,q2⟩=>
    cR (ho p_ s2 σ H2 x y v u _ I2 r1 r2 q2) fun d s3 ⟨z,H3,I3,r3,k,e,q3⟩=>?_)) hm
  subst e;cases r3;refine wpAny_truthy_bool ?_;cases k with
  | false=>exact ite_ff ⟨.bl false,H3,I3,rfl,q3⟩
  | true=>exact ite_tt (chain_last (cR (hc p_ s3 σ H3 _ I3 q3) fun w' s4 ⟨z',H4,I4,r4,q4⟩=>ho' p_ s4 σ H4 y z' u w' Q I4 r2 r4 q4))
theorem YM {op op':CmpOp} {r r':R2} (ho:jk X (compareOp op) r) (ho':jk X (compareOp op') r') (ha:PE X a ta) (hb:PE X b tb) (hc:PE X c tc)
    (hm:lastMarks [op,op'] [b,c]=false:=by with_unfolding_all rfl):PT X (.Compare a [op,op'] [b,c] pos) (UG (Lx r r' ta tb tc)):=by
  intro p_ s σ H Q I h;refine isTrue_chain (cR (ha p_ s σ H _ I h) fun v s1 ⟨x,H1,I1,r1,q1⟩=>test_link (cR (hb p_ s1 σ H1 _ I1 q1) fun u s2 ⟨y,H2,I2,r2,q2⟩=>
    cR (ho p_ s2 σ H2 x y v u _ I2 r1 r2 q2) fun d s3 ⟨z,H3,I3,r3,k,e,q3⟩=>?_)) hm
  subst e;cases r3;refine wpAny_truthy_bool ?_;cases k with
  | false=>
    obtain⟨k',e',q'⟩:=q3;cases e';exact ite_ff ⟨H3,I3,q'⟩
  | true=>
    refine ite_tt (test_last (cR (hc p_ s3 σ H3 _ I3 q3) fun w' s4 ⟨z',H4,I4,r4,q4⟩=>cR (ho' p_ s4 σ H4 y z' u w' _ I4 r2 r4 q4) fun d' s5 ⟨z2,H5,I5,r5,k2,e2,q5⟩=>?_));subst e2;cases r5;exact wpAny_truthy_bool ⟨H5,I5,q5⟩
theorem vR:(sizeLine:Nat)<2 ^ 63:=by rw[sizeLine_eq];decide
theorem RB:jk X (binaryOp .Add) (fun x y H Q=>∃i j,x = .str i∧y = .str j∧i.length+j.length≤sizeLine∧Q (.str (i++j)) H):=by
  intro p_ s σ H x y v u Q I rx ry h;obtain⟨i,j,rfl,rfl,hz,q⟩:=h;obtain⟨t,rfl⟩:=rx;obtain⟨t',rfl⟩:=ry;exact add_str (fun t' tk=>⟨.str (i++j),H,I.tok _,⟨_,rfl⟩,q⟩) hz
theorem vals1 {x:V} {us:List Value} (r:Vals [x] us):∃u,us=[u]∧RelV x u:=by
  cases r with
  | cons r1 r2=>cases r2;exact⟨_,rfl,r1⟩
theorem vals2 {x y:V} {us:List Value} (r:Vals [x,y] us):∃u w',us=[u,w']∧RelV x u∧RelV y w':=by
  cases r with
  | cons r1 r2=>
    cases r2 with
    | cons r3 r4=>cases r4;exact⟨_,_,rfl,r1,r3⟩
theorem YQ:cu X (.builtin "abs") (fun xs H Q=>∃i,xs=[.int i]∧Q (.int (if i<0 then -i else i)) H):=by
  intro p_ s σ H xs us Q I r h;obtain⟨i,rfl,q⟩:=h;obtain⟨u,rfl,t,rfl⟩:=vals1 r;exact call_abs_int fun u tk=>⟨.int (if i<0 then -i else i),H,I.tok _,⟨_,rfl⟩,q⟩
theorem V9 (hc:X.calm=true):cu X (.builtin "max") (fun xs H Q=>∃i j,xs=[.int i,.int j]∧Q (.int (if j > i then j else i)) H):=by
  intro p_ s σ H xs us Q I r h;obtain⟨i,j,rfl,q⟩:=h;obtain⟨u,w',rfl,⟨t,rfl⟩,⟨t',rfl⟩⟩:=vals2 r;refine max_two_ints (I.ok.hd hc) fun h' tk k=>⟨_,H,I.kept k,?_,q⟩
  by_cases hj:j > i
  ·rw[if_pos hj,if_pos hj];exact⟨_,rfl⟩
  ·rw[if_neg hj,if_neg hj];exact⟨_,rfl⟩
theorem V_ (hc:X.calm=true):cu X (.builtin "min") (fun xs H Q=>∃i j,xs=[.int i,.int j]∧Q (.int (if j<i then j else i)) H):=by
  intro p_ s σ H xs us Q I r h;obtain⟨i,j,rfl,q⟩:=h;obtain⟨u,w',rfl,⟨t,rfl⟩,⟨t',rfl⟩⟩:=vals2 r;refine min_two_ints (I.ok.hd hc) fun h' tk k=>⟨_,H,I.kept k,?_,q⟩
  by_cases hj:j<i
  ·rw[if_pos hj,if_pos hj];exact⟨_,rfl⟩
  ·rw[if_neg hj,if_neg hj];exact⟨_,rfl⟩
theorem Wa:cu X (.type "int") (fun xs H Q=>(∃i,xs=[.int i]∧Q (.int i) H)∨∃k,xs=[.bl k]∧Q (.int (if k then 1 else 0)) H):=by
  intro p_ s σ H xs us Q I r h
  rcases h with⟨i,rfl,q⟩ | ⟨k,rfl,q⟩
  ·obtain⟨u,rfl,t,rfl⟩:=vals1 r;exact call_int_int ⟨.int i,H,I,⟨_,rfl⟩,q⟩
  ·obtain⟨u,rfl,r1⟩:=vals1 r;cases r1;exact call_int_bool ⟨.int (if k then 1 else 0),H,I.tok _,⟨_,rfl⟩,q⟩
theorem Pg:cu X (.builtin "divmod") (fun xs H Q=>∃i j,xs=[.int i,.int j]∧V7 i j∧∀p,H p=none→Q (.ref p) (upd H p (.tup [.int (i / j),.int (i % j)]))):=by
  intro p_ s σ H xs us Q I r h;obtain⟨i,j,rfl,⟨h1,h2⟩,q⟩:=h;obtain⟨u,w',rfl,⟨t,rfl⟩,⟨t',rfl⟩⟩:=vals2 r;refine divmod_int (by omega) ?_ (.inl (PyProof.noPylong_small (by omega)));rw[Int.fdiv_eq_ediv_of_nonneg i (by omega),Int.fmod_eq_emod_of_nonneg i (by omega)];have hn:H s.heap.objs.size=none:=I.hok.fresh (Nat.le_refl _);refine⟨.ref s.heap.objs.size,_,?_,rfl,q _ hn⟩;refine I.laid (fun b o e=>Heap.get?_push_of_some _ e) (Nat.le_refl _) ⟨by simp only[List.length_cons,List.length_nil];rw[sizeLine_eq];decide,[.int (i / j) s.toks,.int (i % j) (s.toks+1)],.cons ⟨_,rfl⟩ (.cons ⟨_,rfl⟩ .nil),?_⟩;exact⟨_,Heap.get?_push_size s.heap rfl,rfl,0,rfl⟩
end
structure RD (h:Heap) (x dx C:Addr) (mA:Str→Option Value):Prop where
  obj:h.get? x=some (W.instObj C dx)
  ns:h.Ns1 dx mA
  ne:dx≠x
theorem Wb {h:Heap} {dx:Addr} {mA:Str→Option Value} (n:h.Ns1 dx mA):∃od,h.get? dx=some od∧∀name,W.lookIn name od=some (mA name):=by
  obtain⟨o,es,ep,ho,hd,hk,_,hm⟩:=n;refine⟨o,ho,fun name=>?_⟩;have e:=hm name;unfold nsFind findBy at e;rw[← Array.find?_toList] at e;unfold W.lookIn;rw[hd];dsimp only;split
  ·rename_i y q;rw[q] at e;exact congrArg some e
  · rename_i q;rw[q] at e;have a:es.toList.any (·.refKey)=false:=by
      rw[List.any_eq_false];intro y hy;obtain⟨z,t,hkey⟩:=hk y (Array.mem_toList_iff.mp hy);simp[DictEntry.refKey,hkey]
    have a':¬es.toList.any (·.refKey)=true:=by rw[a];exact Bool.false_ne_true
    rw[if_neg a'];exact congrArg some e
theorem RD.look {h:Heap} {x dx C:Addr} {mA:Str→Option Value} (I:RD h x dx C mA):∃od,W.InstAt h x (W.instObj C dx) C (some od)∧∀name,W.lookIn name od=some (mA name):=
  let ⟨od,ho,hl⟩:=Wb I.ns
  ⟨od,⟨I.obj,rfl,rfl,ho⟩,hl⟩
section
variable {prog:Program} {w:World} {A:Around} {E:Value→Shared→Prop} {s:Shared} {K:W.Frag} {x dx C f:Addr} {mA:Str→Option Value} {name:Str} {v:Value}
theorem get_map {expr:Bool} {Q:Value→Shared→Prop} (X:K.In s.heap) (I:RD s.heap x dx C mA) (hg:W.plainGet K C name=true) (hh:W.hasDictIn K C=true)
    (ha:W.findIn K (.ref C) name=some none) (hv:mA name=some v) (hv':W.handedIn v=true) (h:Q v {s with toks:=s.toks+1}) :
    wpAny (model prog w) A (getAttr (.ref x) name expr) Q E s:=by
  obtain⟨od,J,hl⟩:=I.look;exact W.get_value X J (W.plainGet_of hg).1 (W.findObj_own hh ha rfl (by rw[hl,hv])) hv' h
theorem YS {pl:Sem Bool} {Q:Value×List Value→Shared→Prop} (X:K.In s.heap) (I:RD s.heap x dx C mA) (hg:W.plainGet K C name=true)
    (hf:W.findIn K (.ref C) name=some (some (.ref f))) (ht:W.isFn K (.ref f)=true) (hv:mA name=none) (h:Q (.ref f,[.ref x]) s) :
    wpAny (model prog w) A (getMethod (.ref x) name pl) Q E s:=by
  obtain⟨od,J,hl⟩:=I.look;exact W.method_fn X J (W.plainGet_of hg).1 (W.plainGet_of hg).2 hf (beq_iff_eq.mp ht) (by show(W.lookIn name od).map (·.isSome)=some false;rw[hl,hv];rfl) h
theorem qbD {ns:List Str} {Q:Unit→Shared→Prop} (X:K.In s.heap) (I:RD s.heap x dx C mA)
    (hs:W.findIn K (.ref C) "__setattr__" = some (some (.builtin "object.__setattr__"))) (hp:W.plainOver K C=true) (ht:W.takerIn K C name=some none) (hh:W.hasDictIn K C=true)
    (hw:PySem.Within mA ns) (hsz:ns.length≤sizeLine)
    (h:∀h',RD h' x dx C (fun y=>if y=name then some v else mA y)→Heap.SameBut dx s.heap h'→Q () {s with heap:=h',toks:=s.toks+2}) :
    wpAny (model prog w) A (setAttr (.ref x) name v) Q E s:=by
  obtain⟨od,J,hl⟩:=I.look;refine W.set_plain X J hs (W.osa_open (s:={s with toks:=s.toks+1}) (r:=none) X J hp ht fun b=>?_);obtain⟨cd,hc,hd'⟩:=W.any_some hh;have hx:s.heap.get? x=some ⟨.ref C,some dx,.plain,#[]⟩:=I.obj;refine wpAny_bind (wpAny_pure (wpAny_bind (wpAny_bind (wpAny_loadPart hx (wpAny_bind (W.Looks.here (s:={s with toks:=s.toks+1}) (W.looks_clsIn X hc) ?_))))));rw[hd'];refine wpAny_pure (a:=some dx) (wpAny_bind (wpAny_pure (wpAny_bind ?_)));refine wpAny_nsSet1 (s:={s with toks:=s.toks+1}) I.ns fun h' hn2 hs2=>?_;obtain⟨oD,esD,epD,hoD,hdD,hcD⟩:=hn2.count (PySem.Within.cons name v hw);refine wpAny_bind (wpAny_lookBehind hoD (by rw[hdD];exact pastItsLine_dict (Nat.le_trans hcD (by rw[List.length_cons];omega))) ?_);exact wpAny_pure (h _ ⟨(hs2.2 _ (Ne.symm I.ne)).trans I.obj,hn2,I.ne⟩ hs2)
theorem YT {R:Result→Shared→Prop} {vs:List Value} {kw:List (Str×Value)} (X:K.In s.heap) (hm:W.makesIn K C=true)
    (hi:W.findIn K (.ref C) "__init__" = some (some (.ref f))) (hf:W.typeIn K (.ref f)=some (.type "function"))
    (h:codeAny (model prog w) (A.under (.builtin "type.__call__" ⟨.ref C::vs,kw⟩)) (.call (.ref f) ⟨.ref (s.heap.objs.size+1)::vs,kw⟩) (W.InitBack (s.heap.objs.size+1) R)
      {s with heap:=(s.heap.push W.emptyDict).push (W.instObj C s.heap.objs.size)}) :
    codeAny (model prog w) A (.call (.ref C) ⟨vs,kw⟩) R s:=by
  obtain⟨hh,g,d,t,os⟩:=s;exact W.make_core (W.makes_of X hm) (W.looks_findIn X hi) (fun self=>W.bind_fn X self hf) (.inl rfl) h
end
def jD (f:Str) (v:V):List (Str×V)→List (Str×V)
  | []=>[(f,v)]
  | (g,x)::r=>if g=f then (g,v)::r else (g,x)::jD f v r
theorem m5 (f g:Str) (v:V):∀fs:List (Str×V),(jD f v fs).lookup g=if g=f then some v else fs.lookup g
  | []=>by
    show List.lookup g [(f,v)]=_
    by_cases h:g=f
    ·have hb:(g == f)=true:=beq_iff_eq.mpr h;simp only[List.lookup,hb,if_pos h]
    ·have hb:(g == f)=false:=beq_eq_false_iff_ne.mpr h;simp only[List.lookup,hb,if_neg h]
  | (k,x)::r=>by
    have ih:=m5 f g v r;rw[show jD f v ((k,x)::r)=(if k=f then (k,v)::r else (k,x)::jD f v r) from rfl]
    by_cases hk:k=f
    · rw[if_pos hk]
      by_cases h:g=k
      ·have hb:(g == k)=true:=beq_iff_eq.mpr h;simp only[List.lookup,hb,if_pos (h.trans hk)]
      ·have hb:(g == k)=false:=beq_eq_false_iff_ne.mpr h;simp only[List.lookup,hb,if_neg (fun e:g=f=>h (e.trans hk.symm))]
    · rw[if_neg hk]
      by_cases h:g=k
      ·have hb:(g == k)=true:=beq_iff_eq.mpr h;simp only[List.lookup,hb,if_neg (fun e:g=f=>hk (h.symm.trans e))]
      ·have hb:(g == k)=false:=beq_eq_false_iff_ne.mpr h;simp only[List.lookup,hb];exact ih
theorem pC (f:Str) (v:V):∀fs:List (Str×V),f∈(jD f v fs).map (·.1)∧∀g,g∈fs.map (·.1)→g∈(jD f v fs).map (·.1)
  | []=>⟨by simp[jD],fun g h=>by simp at h⟩
  | (k,x)::r=>by
    obtain⟨i1,i2⟩:=pC f v r;rw[show jD f v ((k,x)::r)=(if k=f then (k,v)::r else (k,x)::jD f v r) from rfl]
    by_cases hk:k=f
    ·rw[if_pos hk];subst hk;exact⟨by simp,fun g h=>by simpa using h⟩
    · rw[if_neg hk];refine⟨?_,fun g h=>?_⟩
      ·rw[List.map_cons];exact List.mem_cons_of_mem _ i1
      · rw[List.map_cons] at h ⊢
        rcases List.mem_cons.mp h with e | e
        ·exact List.mem_cons.mpr (.inl e)
        ·exact List.mem_cons_of_mem _ (i2 g e)
theorem rZ (f:Str) (v:V):∀fs:List (Str×V),(jD f v fs).length≤fs.length+1
  | []=>by simp[jD]
  | (k,x)::r=>by
    have ih:=rZ f v r;rw[show jD f v ((k,x)::r)=(if k=f then (k,v)::r else (k,x)::jD f v r) from rfl]
    by_cases hk:k=f
    ·rw[if_pos hk,List.length_cons,List.length_cons];omega
    ·rw[if_neg hk,List.length_cons,List.length_cons];omega
theorem mF.some_of {v:V} {o:Option Value} (r:mF (some v) o):∃u,o=some u∧RelV v u:=by
  cases o with
  | none=>exact(show False from r).elim
  | some u=>exact⟨u,rfl,r⟩
theorem mF.none_of {o:Option Value} (r:mF none o):o=none:=by
  cases o with
  | none=>rfl
  | some u=>exact(show False from r).elim
theorem Wc {v:V} {u:Value} (r:RelV v u):W.handedIn u=true:=by
  cases v with
  | non=>cases (show u=Value.none from r);rfl
  | bl b=>cases (show u=Value.bool b from r);rfl
  | int i=>obtain⟨t,e⟩:=(show ∃t,u=Value.int i t from r);cases e;rfl
  | str x=>obtain⟨t,e⟩:=(show ∃t,u=Value.str x t from r);cases e;rfl
  | Yl b=>obtain⟨t,e⟩:=(show ∃t,u=Value.bytes b t from r);cases e;rfl
  | flt b=>obtain⟨t,e⟩:=(show ∃t,u=Value.float b t from r);cases e;rfl
  | ref a=>cases (show u=Value.ref a from r);rfl
  | ty n=>cases (show u=Value.type n from r);rfl
section
variable {P:Program} {w:World} {H H':Hp} {h h':Heap} {a C dx:Addr} {fs fs':List (Str×V)}
theorem yu (hok:pq P w H h) (e:H a=some (.ins C dx fs)):∃mA,RD h a dx C mA∧(∀f,mF (fs.lookup f) (mA f))∧PySem.Within mA (fs.map (·.1))∧fs.length≤1000∧H dx=some (.own a):=by
  obtain⟨d,z,ne,ob,mA,n,r,q⟩:=(show cj P w H h a (.ins C dx fs) from hok a _ e);exact⟨mA,⟨ob,n,ne⟩,r,q,z,d⟩
end
structure Cls (K:W.Frag) (C:Addr):Prop where
  pg:W.plainGet K C Str.empty=true
  hd:W.hasDictIn K C=true
  po:W.plainOver K C=true
  sa:W.findIn K (.ref C) "__setattr__" = some (some (.builtin "object.__setattr__"))
theorem Cls.get {K:W.Frag} {C:Addr} (c:Cls K C) (f:Str):W.plainGet K C f=true:=c.pg
def lF (K:W.Frag) (C:Addr) (f:Str):Prop:=W.findIn K (.ref C) f=some none
theorem lF.taker {K:W.Frag} {C:Addr} {f:Str} (n:lF K C f):W.takerIn K C f=some none:=by
  unfold W.takerIn;rw[show W.findIn K (.ref C) f=some none from n];rfl
structure Meth (K:W.Frag) (C:Addr) (m:Str) (f:Addr):Prop where
  at_:W.findIn K (.ref C) m=some (some (.ref f))
  fn:W.isFn K (.ref f)=true
  kp:W.keepIn K (.ref f)=true
section
variable {X:Cx} {p_:List (Addr×Obj)} {σ:St} {H:Hp} {s:Shared} {a C dx:Addr} {fs:List (Str×V)} {f:Str} {v:V} {A:Around} {E:Value→Shared→Prop}
theorem RG {b:Bool} {Q:Value→Shared→Prop} (I:Inv X p_ σ H s) (e:H a=some (.ins C dx fs)) (c:Cls X.K C) (n:lF X.K C f) (l:fs.lookup f=some v)
    (h:∀u s',Inv X p_ σ H s'→RelV v u→Q u s'):wpAny (model X.prog X.w) A (getAttr (.ref a) f b) Q E s:=by
  obtain⟨mA,O,r,_,_,_⟩:=yu I.hok e;obtain⟨u,hu,ru⟩:=mF.some_of (v:=v) (o:=mA f) (by rw[← l];exact r f);exact get_map I.mZ O (c.get f) c.hd n hu (Wc ru) (h u _ (I.tok _) ru)
theorem RJ {m:Str} {g:Addr} {pl:Sem Bool} {Q:Value×List Value→Shared→Prop} (I:Inv X p_ σ H s) (e:H a=some (.ins C dx fs)) (c:Cls X.K C) (k:Meth X.K C m g) (l:fs.lookup m=none)
    (h:Q (.ref g,[.ref a]) s):wpAny (model X.prog X.w) A (getMethod (.ref a) m pl) Q E s:=by
  obtain⟨mA,O,r,_,_,_⟩:=yu I.hok e;have hn:mA m=none:=mF.none_of (by rw[← l];exact r m);exact YS I.mZ O (c.get m) k.at_ k.fn hn h
theorem RK {y:V} {u:Value} {Q:Unit→Shared→Prop} (I:Inv X p_ σ H s) (e:H a=some (.ins C dx fs)) (c:Cls X.K C) (n:lF X.K C f) (hl:fs.length<1000) (ry:RelV y u)
    (h:∀s',Inv X p_ σ (upd H a (.ins C dx (jD f y fs))) s'→Q () s'):wpAny (model X.prog X.w) A (setAttr (.ref a) f u) Q E s:=by
  obtain⟨mA,O,r,wi,_,ho⟩:=yu I.hok e;have hz:(fs.map (·.1)).length≤sizeLine:=by rw[List.length_map,sizeLine_eq];omega
  refine qbD I.mZ O c.sa c.po n.taker c.hd wi hz fun h' O' sb=>h _ ?_;have hd:∃o,h'.get? dx=some o:=let ⟨o,_,_,e',_⟩:=O'.ns;⟨o,e'⟩;refine I.write (x:=a) (e:=dx) (by rw[e];exact True.intro) (.inr ho) (fun b q hb z=>(sb.2 b hb).trans z) hd ?_;refine⟨by rw[aB O.ne];exact ho,?_,O.ne,O'.obj,_,O'.ns,fun g=>?_,fun g hg=>?_⟩
  ·have:=rZ f y fs;omega
  · show mF ((jD f y fs).lookup g) (if g=f then some u else mA g)
    rw[m5]
    by_cases q:g=f
    ·rw[if_pos q,if_pos q];exact ry
    ·rw[if_neg q,if_neg q];exact r g
  · by_cases q:g=f
    ·rw[q];exact(pC f y fs).1
    · refine(pC f y fs).2 g (wi g fun z=>hg ?_);show(if g=f then some u else mA g)=none
      rw[if_neg q];exact z
theorem Inv.made (I:Inv X p_ σ H s):Inv X p_ σ (upd (upd H s.heap.objs.size (.own (s.heap.objs.size+1))) (s.heap.objs.size+1) (.ins C s.heap.objs.size []))
    {s with heap:=(s.heap.push W.emptyDict).push (W.instObj C s.heap.objs.size)}:=by
  have e1:(s.heap.push W.emptyDict).get? s.heap.objs.size=some W.emptyDict:=Heap.get?_push_size s.heap rfl;have e2:((s.heap.push W.emptyDict).push (W.instObj C s.heap.objs.size)).get? (s.heap.objs.size+1)=some (W.instObj C s.heap.objs.size):=by
    have:=Heap.get?_push_size (s.heap.push W.emptyDict) (o:=W.instObj C s.heap.objs.size) rfl
    rwa [Heap.size_push] at this
  have e3:(s.heap.push W.emptyDict).Ns s.heap.objs.size (fun _=>none):=⟨W.emptyDict,#[],_,e1,rfl,(fun e he=>absurd he (by simp)),fun _=>rfl⟩;have I1:=I.laid (a:=s.heap.objs.size) (o:=.own (s.heap.objs.size+1)) (h':=s.heap.push W.emptyDict) (t':=s.toks) (fun b u q=>Heap.get?_push_of_some _ q) (Nat.le_refl _) ⟨_,e1⟩;refine I1.laid (a:=s.heap.objs.size+1) (o:=.ins C s.heap.objs.size []) (t':=s.toks) (fun b u q=>Heap.get?_push_of_some _ q) (Nat.le_of_eq (Heap.size_push _ _)) ?_;have ne:s.heap.objs.size≠s.heap.objs.size+1:=Nat.ne_of_lt (Nat.lt_succ_self _);refine⟨by rw[aB ne,ao],Nat.zero_le _,ne,e2,fun _=>none,(Heap.Ns1.of_empty e3).at fun o q=>Heap.get?_push_of_some _ q,fun _=>True.intro,fun y hy=>absurd rfl hy⟩
theorem qbE {prog:Program} {w:World} {env:Env} {e:Expr} {f:Str} {pos:Pos} {s:Shared} {Q:Value→Shared→Prop} (hb:attributeBase e f env (eval e env)=eval e env)
    (h:wpAny (model prog w) A (eval e env) (fun o s₁=>wpAny (model prog w) A (getAttr o f true) Q E s₁) E s):wpAny (model prog w) A (eval (.Attribute e f pos) env) Q E s:=
  Attribute_any_ h (by rw[arm_eval_Attribute,hb])
end
def qbF (K:W.Frag) (ta:TE) (f:Str):TE:=fun σ H Q=>ta σ H fun x H1=>∃a C dx fs v,x = .ref a∧H1 a=some (.ins C dx fs)∧Cls K C∧lF K C f∧fs.lookup f=some v∧Q v H1
def qej (K:W.Frag) (ta tv:TE) (f:Str):TS:=fun D σ H=>tv σ H fun y H1=>ta σ H1 fun x H2=>∃a C dx fs,x = .ref a∧H2 a=some (.ins C dx fs)∧Cls K C∧lF K C f∧fs.length<1000∧
  D.nx σ (upd H2 a (.ins C dx (jD f y fs)))
section
variable {X:Cx} {o e value:Expr} {f:Str} {pos pos' tpos:Pos} {ta tv:TE}
theorem qek (he:PE X e ta) (hb:attributeBase e f X.env (eval e X.env)=eval e X.env):PE X (.Attribute e f pos) (qbF X.K ta f):=by
  intro p_ s σ H Q I h;refine qbE hb (cR (he p_ s σ H _ I h) fun u s1 zz=>?_);obtain⟨x,H1,I1,rx,a,C,dx,fs,v,ex,ea,c,n,l,q⟩:=zz;subst ex;obtain rfl:u=Value.ref a:=rx;exact RG I1 ea c n l fun u' s2 I2 ru=>⟨v,H1,I2,ru,q⟩
theorem qel (ha:PE X o ta) (hv:PE X value tv) (hs:swapsWith value (some (.Attribute o f pos')) pos.line X.env=pure false):PS X (.Assign [.Attribute o f pos'] value pos) (qej X.K ta tv f):=by
  intro p_ s σ H D I h;refine plainObj_wpAny_Assign_Attribute (cR (hv p_ s σ H _ I h) fun u s1 ⟨y,H1,I1,ry,q⟩=>cR (ha p_ s1 σ H1 _ I1 q) fun ov s2 ⟨x,H2,I2,rx,a,C,dx,fs,ex,ea,c,n,l,q2⟩=>?_) hs;subst ex;obtain rfl:ov=Value.ref a:=rx;exact RK I2 ea c n l ry fun s3 I3=>⟨σ,_,I3,q2⟩
end
section
variable {X:Cx} {p_:List (Addr×Obj)} {σ:St} {H:Hp} {s:Shared} {A:Around} {E:Value→Shared→Prop} {Q:Value→Shared→Prop} {c:Value} {b:Bool}
inductive lG (K:W.Frag) (H:Hp):V→Value→Prop where
  | non:lG K H .non (.type "NoneType")
  | bl (x:Bool):lG K H (.bl x) (.type "bool")
  | int (i:Int):lG K H (.int i) (.type "int")
  | str (x:Str):lG K H (.str x) (.type "str")
  | flt (x:UInt64):lG K H (.flt x) (.type "float")
  | lst {a:Addr} {xs:List V} (e:H a=some (.lst xs)):lG K H (.ref a) (.type "list")
  | iG {a:Addr} {o:Obj} {xs:List V} (e:H a=some (.iG o (.lst xs))):lG K H (.ref a) (.type "list")
  | tup {a:Addr} {xs:List V} (e:H a=some (.tup xs)):lG K H (.ref a) (.type "tuple")
  | dK {a:Addr} {kvs:List (Key×V)} (e:H a=some (.dK kvs)):lG K H (.ref a) (.type "dict")
  | dT {a:Addr} {kvs:List (List Key×V)} (e:H a=some (.dT kvs)):lG K H (.ref a) (.type "dict")
  | ins {a C dx:Addr} {fs:List (Str×V)} (e:H a=some (.ins C dx fs)) (cl:Cls K C) (ha:W.findIn K (.ref C) "__class__" = some (some (.builtin "object.__class__")))
      (hn:W.specialIn K (.builtin "object.__class__") "__get__" = some (some (.builtin "getset_descriptor.__get__"))) (htk:W.takesIn K (.builtin "object.__class__")=some true)
      (hm:W.mroIn K C (.type "object")=some true):lG K H (.ref a) (.ref C)
theorem Wd {x:V} {u t:Value} (I:Inv X p_ σ H s) (rx:RelV x u) (ty:lG X.K H x t) (e:W.kitOne X.K t c=some b) (h:∀tk,Q (.bool b) {s with toks:=tk}) :
    wpAny (model X.prog X.w) A (call (.builtin "isinstance") [u,c]) Q E s:=by
  cases ty with
  | non=>cases (show u=Value.none from rx);exact W.kia_one W.kitx_none I.mZ True.intro e (fun z=>nomatch z) h
  | bl y=>cases (show u=Value.bool y from rx);exact W.kia_one W.kitx_bool I.mZ True.intro e (fun z=>nomatch z) h
  | int i=>obtain⟨t,q⟩:=(show ∃t,u=Value.int i t from rx);cases q;exact W.kia_one W.kitx_int I.mZ True.intro e (fun z=>nomatch z) h
  | str y=>obtain⟨t,q⟩:=(show ∃t,u=Value.str y t from rx);cases q;exact W.kia_one W.kitx_str I.mZ True.intro e (fun z=>nomatch z) h
  | flt y=>obtain⟨t,q⟩:=(show ∃t,u=Value.float y t from rx);cases q;exact W.kia_one W.kitx_float I.mZ True.intro e (fun z=>nomatch z) h
  | @lst a xs ea=>
    cases (show u=Value.ref a from rx);obtain⟨_,_,n,_,h1⟩:=(show cj X.prog X.w H s.heap a (.lst xs) from I.hok a _ ea);exact W.kia_one W.kitx_list I.mZ ⟨_,h1,rfl⟩ e (fun z=>nomatch z) h
  | @iG a ob xs ea=>
    cases (show u=Value.ref a from rx);obtain⟨_,_,_,n,_,h1⟩:=(show cj X.prog X.w H s.heap a (.iG ob (.lst xs)) from I.hok a _ ea);exact W.kia_one W.kitx_list I.mZ ⟨_,h1,rfl⟩ e (fun z=>nomatch z) h
  | @tup a xs ea=>
    cases (show u=Value.ref a from rx);obtain⟨_,_,_,p⟩:=(show cj X.prog X.w H s.heap a (.tup xs) from I.hok a _ ea);obtain⟨o,h1,h2,_⟩:=p;exact W.kia_one W.kitx_tuple I.mZ ⟨o,h1,h2⟩ e (fun z=>nomatch z) h
  | @dK a kvs ea=>
    cases (show u=Value.ref a from rx);obtain⟨_,_,vs,_,p⟩:=(show cj X.prog X.w H s.heap a (.dK kvs) from I.hok a _ ea);obtain⟨o,es,ep,h1,h2,_⟩:=p;exact W.kia_one W.kitx_dict I.mZ ⟨o,h1,h2.1⟩ e (fun z=>nomatch z) h
  | @dT a kvs ea=>
    cases (show u=Value.ref a from rx);obtain⟨_,_,xs,_,o,es,ep,h1,h2,_⟩:=(show cj X.prog X.w H s.heap a (.dT kvs) from I.hok a _ ea);exact W.kia_one W.kitx_dict I.mZ ⟨o,h1,h2.1⟩ e (fun z=>nomatch z) h
  | @ins a C dx fs ea cl ha hn htk hm=>
    cases (show u=Value.ref a from rx);obtain⟨mA,O,_⟩:=yu I.hok ea;obtain⟨od,J,_⟩:=O.look;exact W.kia_one (W.kitx_own (cl.get _) cl.hd ha hn htk hm) I.mZ J e (fun z=>nomatch z) h
end
structure iz (k:Nat) (A:Around):Prop where
  hd:A.handled=none
  dp:A.depth+3 * k+5<recursionLimit
  un:A.units+16 * k+200<cLine
  gd:A.guards=some []
theorem iz.mono {j k:Nat} {A:Around} (r:iz k A) (h:j≤k):iz j A:=⟨r.hd,by have:=r.dp;omega,by have:=r.un;omega,r.gd⟩
theorem iz.deeper {k:Nat} {A:Around} (r:iz (k+1) A) (env:Env):iz k (A.deeper env):=
  ⟨r.hd,by have:=r.dp;show A.depth+1+3 * k+5<_;omega,by have:=r.un;show A.units+3+16 * k+200<_;omega,r.gd⟩
theorem RL {A:Around} {C:Addr} {us:List Value} {kw:List (Str×Value)}:(A.under (.builtin "type.__call__" ⟨.ref C::us,kw⟩)).depth=A.depth+1:=by
  first | rfl | simp[Around.under,Code.weight,Code.isCreation,Code.isGuard,Code.isCaller,Code.frames,Code.isFrame,guardIds]
theorem RM {A:Around} {C:Addr} {us:List Value} {kw:List (Str×Value)}:(A.under (.builtin "type.__call__" ⟨.ref C::us,kw⟩)).units=A.units+1:=by
  first | rfl | simp[Around.under,Code.cUnits,Code.frames,Code.isFrame]
theorem Ph {A:Around} {C:Addr} {us:List Value} {kw:List (Str×Value)}:(A.under (.builtin "type.__call__" ⟨.ref C::us,kw⟩)).guards=A.guards:=by
  first | rfl | simp[Around.under,Code.isGuard,guardIds]
theorem iz.make {k:Nat} {A:Around} (r:iz (k+1) A) (C:Addr) (us:List Value) (kw:List (Str×Value)):iz k (A.under (.builtin "type.__call__" ⟨.ref C::us,kw⟩)):=
  ⟨r.hd,by have:=r.dp;rw[RL];omega,by have:=r.un;rw[RM];omega,by rw[Ph];exact r.gd⟩
theorem iz.depth {k:Nat} {A:Around} (r:iz k A):A.depth<recursionLimit:=by have:=r.dp;omega
theorem iz.units {k:Nat} {A:Around} (r:iz k A):A.units+64<cLine:=by have:=r.un;omega
def Jq:TA:=fun _ H Q=>Q [] H
def vm (ta:TE) (tr:TA):TA:=fun σ H Q=>ta σ H fun x H1=>tr σ H1 fun xs H2=>Q (x::xs) H2
section
variable {X:Cx} {e:Expr} {es:List Expr} {te:TE} {t:TA} {pos:Pos}
theorem ak:PA X [] Jq:=fun _ _ _ _ H Q I h=>Calls.spliced_nil ⟨[],H,I,.nil,h⟩
theorem aj (ha:PE X e te) (hr:PA X es t) (hs:starEach (e::es) X.env=(false,eval e X.env)::starEach es X.env:=by rfl):PA X (e::es) (vm te t):=by
  intro pos p_ s σ H Q I h;rw[hs];show wpAny _ _ (spliced ((false,eval e X.env)::backTo pos (starEach es X.env))) _ _ s;refine Calls.spliced_cons (cR (ha p_ s σ H _ I h) fun u s1 zz=>?_);obtain⟨x,H1,I1,r1,q1⟩:=zz;refine cR (hr pos p_ s1 σ H1 _ I1 q1) fun us s2 zz=>?_;obtain⟨xs,H2,I2,r2,q2⟩:=zz;exact⟨x::xs,H2,I2,.cons r1 r2,q2⟩
def qem (t:TA):TE:=fun σ H Q=>t σ H fun xs H1=>xs.length≤sizeLine∧∀p,H1 p=none→Q (.ref p) (upd H1 p (.tup xs))
def YW (t:TA):TE:=fun σ H Q=>t σ H fun xs H1=>xs.length≤sizeLine∧∀p,H1 p=none→Q (.ref p) (upd H1 p (.lst xs))
theorem d9 {x1} (h:PA X es t):PE X (.Tuple es x1 pos) (qem t):=by
  intro p_ s σ H Q I hq;refine wpAny_Tuple_spliced (cR (h pos p_ s σ H _ I hq) fun us s1 zz=>?_);obtain⟨xs,H1,I1,r,z,q⟩:=zz;refine⟨by rw[← r.length];exact z,?_⟩;have hf:H1 s1.heap.objs.size=none:=I1.hok.fresh (Nat.le_refl _);refine⟨.ref s1.heap.objs.size,upd H1 s1.heap.objs.size (.tup xs),I1.laid (t':=s1.toks) (fun b u e=>Heap.get?_push_of_some _ e) (Nat.le_refl _) ?_,rfl,q _ hf⟩;exact⟨z,us,r,⟨_,Heap.get?_push_size _ rfl,rfl,_,rfl⟩⟩
theorem jc (h:PA X es t):PE X (.List es pos) (YW t):=by
  intro p_ s σ H Q I hq;refine wpAny_List_spliced (cR (h pos p_ s σ H _ I hq) fun us s1 zz=>?_);obtain⟨xs,H1,I1,r,z,q⟩:=zz;refine⟨by rw[← r.length];exact z,?_⟩;have hf:H1 s1.heap.objs.size=none:=I1.hok.fresh (Nat.le_refl _);refine⟨.ref s1.heap.objs.size,upd H1 s1.heap.objs.size (.lst xs),I1.laid (t':=s1.toks) (fun b u e=>Heap.get?_push_of_some _ e) (Nat.le_refl _) ?_,rfl,q _ hf⟩;exact⟨z,us,0,r,Heap.get?_push_size _ rfl⟩
end
abbrev Sp:=List V→Hp→VK→XK→Prop
abbrev Wf:=List Env→Hp→Shared→XK→Value→Shared→Prop
structure Pj (P:Program) (w:World) (K:W.Frag) (mg:Str→Option Value) (base:Heap) (A:Around) (outer:List Env) (s:Shared) (H:Hp):Prop where
  frames:A.frames=some outer
  mod:Mod K mg base
  bs:∀b o,base.get? b=some o→s.heap.get? b=some o∧H b=none
  VR:base.objs.size≤s.heap.objs.size
  rT:s.heap.FunFrames base outer
  Yw:∀b∈frs outer,H b=none
  hok:pq P w H s.heap
  bare:AllBare s.gens
def CE (outer:List Env) (P:Program) (w:World) (H:Hp) (s:Shared) (Q:VK) (u:Value) (s':Shared):Prop:=
  ∃v H',s'.os=s.os∧AllBare s'.gens∧Un (frs outer) [] H H' s.heap s'.heap∧pq P w H' s'.heap∧RelV v u∧Q v H'
def CR (CX:Wf) (outer:List Env) (P:Program) (w:World) (H:Hp) (s:Shared) (Q:VK) (E:XK) (r:Result) (s':Shared):Prop:=
  match r with
  | .ok (.ret u)=>CE outer P w H s Q u s'
  | .ok _=>False
  | .error e=>CX outer H s E e s'
structure bZ (P:Program) (w:World) (K:W.Frag) (mg:Str→Option Value) (base:Heap) (CX:Wf) (k:Nat) (f:Addr) (fd:FuncData) (ps:List Str) (sp:Sp):Prop where
  len:∀vs H Q E,sp vs H Q E→vs.length=ps.length
  run:∀(A:Around) (outer:List Env) (s:Shared) (H:Hp) (args:Args) (us:List Value) (vs:List V) (Q:VK) (E:XK),iz k A→Pj P w K mg base A outer s H→BindsTo s fd args (ps.zip us)→Vals vs us→sp vs H Q E→
    codeAny (model P w) A (.call (.ref f) args) (CR CX outer P w H s Q E) s
theorem bZ.imp {P:Program} {w:World} {K:W.Frag} {mg:Str→Option Value} {base:Heap} {CX:Wf} {k:Nat} {f:Addr} {fd:FuncData} {ps:List Str} {sp sp':Sp} (F:bZ P w K mg base CX k f fd ps sp)
    (h:∀vs H Q E,sp' vs H Q E→sp vs H Q E):bZ P w K mg base CX k f fd ps sp':=
  ⟨fun vs H Q E q=>F.len vs H Q E (h _ _ _ _ q),fun A outer s H args us vs Q E hr he hb hv hs=>F.run A outer s H args us vs Q E hr he hb hv (h _ _ _ _ hs)⟩
theorem Pj.make {P:Program} {w:World} {K:W.Frag} {mg:Str→Option Value} {base:Heap} {A:Around} {outer:List Env} {s:Shared} {H:Hp} (e:Pj P w K mg base A outer s H) (C:Addr) (us:List Value) (kw:List (Str×Value)) :
    Pj P w K mg base (A.under (.builtin "type.__call__" ⟨.ref C::us,kw⟩)) outer s H:=⟨by first | exact e.frames | (simpa [Around.under,Code.envs,Code.isFrame,pushEnvs] using e.frames),e.mod,e.bs,e.VR,e.rT,e.Yw,e.hok,e.bare⟩
section
variable {X:Cx} {p_:List (Addr×Obj)} {σ:St} {H:Hp} {s s':Shared}
theorem Inv.env0 (I:Inv X p_ σ H s):Pj X.prog X.w X.K X.mg X.base X.A X.stack s H:=
  ⟨I.ok.frames,I.ok.mod,I.bs,Nat.le_trans I.ok.VR I.sz,I.stack,I.Ec,I.hok,I.bare⟩
theorem Inv.after {Q:VK} {u:Value} (I:Inv X p_ σ H s) (h:CE X.stack X.prog X.w H s Q u s'):EP X p_ σ Q u s':=by
  obtain⟨v,H',os,bare,un,hok,r,q⟩:=h;obtain⟨hh,g,d,t,os'⟩:=s';obtain rfl:os'=s.os:=os;exact⟨v,H',I.call (h':=hh) (g':=g) (d':=d) (t':=t) (ch:=[]) un hok bare (fun b z=>absurd z (by simp)),r,q⟩
end
def YX (sp:Sp) (Ai:List V) (E:XK) (t:TA):TE:=fun σ H Q=>t σ H fun vs H1=>sp (vs++Ai) H1 Q E
def YZ (C:Addr) (m:Str) (sp:Sp) (Ai:List V) (E:XK) (ta:TE) (t:TA):TE:=fun σ H Q=>ta σ H fun x H1=>∃a dx fs,x = .ref a∧H1 a=some (.ins C dx fs)∧fs.lookup m=none∧
  t σ H1 fun vs H2=>sp (x::(vs++Ai)) H2 Q E
def Y0 (C:Addr) (sp:Sp) (Ai:List V) (E:XK) (t:TA):TE:=fun σ H Q=>t σ H fun vs H1=>∀x dx,H1 x=none→H1 dx=none→dx≠x→
  sp (.ref x::(vs++Ai)) (upd (upd H1 dx (.own x)) x (.ins C dx [])) (fun v H2=>v = .non∧Q (.ref x) H2) E
def Binds (K:W.Frag) (fd:FuncData) (ps:List Str) (ds:List Value):Prop:=
  ∀(s:Shared) (us:List Value),K.In s.heap→(us++ds).length=ps.length→BindsTo s fd ⟨us,[]⟩ (ps.zip (us++ds))
theorem Binds.all {K:W.Frag} {fd:FuncData} {ps:List Str} (h:∀us:List Value,us.length=ps.length→bindArgs fd ⟨us,[]⟩=pure (ps.zip us)):Binds K fd ps []:=fun s us _ hl=>by
  rw[List.append_nil] at hl ⊢;exact .of_eq (h us hl)
def Passes (CX:Wf) (X:Cx) (E:XK):Prop:=∀(p_:List (Addr×Obj)) (σ:St) (H:Hp) (s:Shared) (e:Value) (s':Shared),Inv X p_ σ H s→CX X.stack H s E e s'→X.xe e s'
section
variable {X:Cx} {CX:Wf} {k:Nat} {f C:Addr} {fd:FuncData} {ps:List Str} {sp:Sp} {Ai:List V} {ds:List Value} {E:XK} {x m:Str} {p pos apos:Pos} {e o:Expr} {es:List Expr} {ta:TE} {t:TA}
theorem Y4 {p_:List (Addr×Obj)} {σ:St} {H:Hp} {s:Shared} {Q:VK} {us:List Value} {vs:List V} (F:bZ X.prog X.w X.K X.mg X.base CX k f fd ps sp) (hr:iz k X.A) (hb:Binds X.K fd ps ds) (hd:Vals Ai ds) (hx:Passes CX X E)
    (I:Inv X p_ σ H s) (r:Vals vs us) (h:sp (vs++Ai) H Q E):wpAny (model X.prog X.w) X.A (call (.ref f) us) (EP X p_ σ Q) X.xe s:=by
  have r2:Vals (vs++Ai) (us++ds):=r.append hd;have hl:(us++ds).length=ps.length:=by rw[← r2.length];exact F.len _ _ _ _ h
  refine wpAny_call (codeAny_mono (F.run X.A X.stack s H ⟨us,[]⟩ (us++ds) (vs++Ai) Q E hr I.env0 (hb s us I.mZ hl) r2 h) fun r s' hq=>?_);cases r with
  | error e=>exact hx p_ σ H s e s' I hq
  | ok fl=>
    cases fl with
    | ret u=>exact I.after hq
    | next=>exact False.elim hq
    | brk=>exact False.elim hq
    | cont=>exact False.elim hq
theorem aJ (F:bZ X.prog X.w X.K X.mg X.base CX k f fd ps sp) (hr:iz k X.A) (hg:Gl X x) (hm:X.mg x=some (.ref f)) (hk:W.keepIn X.K (.ref f)=true) (hb:Binds X.K fd ps ds) (hd:Vals Ai ds) (hx:Passes CX X E)
    (ha:PA X (e::es) t) (hdb:(x == ("__debug__" : Str))=false:=by decide) (he:starEach (e::es) X.env=(false,eval e X.env)::starEach es X.env:=by rfl) (hpl:(backTo pos (starEach es X.env)).any (·.1)=false:=by rfl) :
    PE X (.Call (.Name x p) (e::es) [] pos) (YX sp Ai E t):=by
  intro p_ s σ H Q I h;refine wpAny_Call_Name_kw (lV I hg hm ?_ hdb);refine W.callWith_K (h₀:=X.base) I.ok.mod.O7 hk (cR (ha pos p_ s σ H _ I h) fun us s1 zz=>?_) he hpl;obtain⟨vs,H1,I1,r,q⟩:=zz;refine⟨I1.mZ,?_⟩;exact Y4 F hr hb hd hx I1 r q
theorem j9 {pl:Sem Bool} (he:PE X o ta) (c:Cls X.K C) (hm:Meth X.K C m f) (F:bZ X.prog X.w X.K X.mg X.base CX k f fd ps sp) (hr:iz k X.A) (hb:Binds X.K fd ps ds) (hd:Vals Ai ds) (hx:Passes CX X E)
    (ht:eval (.Call (.Attribute o m apos) [] [] pos) X.env=(do
      let ov ← eval o X.env
      standAt apos.atName
      let (f,first) ← holding [ov] (getMethod ov m pl)
      callWith pos f first (backTo pos (starEach [] X.env)) (backToKw pos (keywordEach [] X.env))):=by rfl) :
    PE X (.Call (.Attribute o m apos) [] [] pos) (YZ C m sp Ai E ta Jq):=by
  intro p_ s σ H Q I h;refine W.methodCall_KW (pl:=pl) (cR (he p_ s σ H _ I h) fun u s1 zz=>?_) ht;obtain⟨x,H1,I1,rx,a,dx,fs,ex,ea,l,q⟩:=zz;subst ex;obtain rfl:u=Value.ref a:=rx;refine RJ I1 ea c hm l ?_;exact W.callWith_K0 (first:=[.ref a]) I1.mZ hm.kp (Y4 (us:=[.ref a]) (vs:=[.ref a]) F hr hb hd hx I1 (.cons rfl .nil) q)
structure Mk (K:W.Frag) (C f:Addr):Prop where
  makes:W.makesIn K C=true
  init:W.findIn K (.ref C) "__init__" = some (some (.ref f))
  fn:W.isFn K (.ref f)=true
  kp:W.keepIn K (.ref C)=true
theorem Y5 {p_:List (Addr×Obj)} {σ:St} {H:Hp} {s:Shared} {Q:VK} {us:List Value} {vs:List V} (M:Mk X.K C f) (F:bZ X.prog X.w X.K X.mg X.base CX k f fd ps sp) (hr:iz (k+1) X.A) (hb:Binds X.K fd ps ds) (hd:Vals Ai ds)
    (hx:Passes CX X E) (I:Inv X p_ σ H s) (r:Vals vs us)
    (h:∀x dx,H x=none→H dx=none→dx≠x→sp (.ref x::(vs++Ai)) (upd (upd H dx (.own x)) x (.ins C dx [])) (fun v H2=>v = .non∧Q (.ref x) H2) E) :
    wpAny (model X.prog X.w) X.A (call (.ref C) us) (EP X p_ σ Q) X.xe s:=by
  have hq:=h (s.heap.objs.size+1) s.heap.objs.size (I.hok.fresh (Nat.le_succ _)) (I.hok.fresh (Nat.le_refl _)) (Nat.ne_of_lt (Nat.lt_succ_self _));have I2:=Inv.made (C:=C) I;have r2:Vals (V.ref (s.heap.objs.size+1)::(vs++Ai)) (Value.ref (s.heap.objs.size+1)::(us++ds)):=.cons rfl (r.append hd);have hl:(Value.ref (s.heap.objs.size+1)::us++ds).length=ps.length:=by
    have e:=r2.length;rw[F.len _ _ _ _ hq] at e;exact e.symm
  refine wpAny_call (YT (f:=f) I.mZ M.makes M.init (beq_iff_eq.mp M.fn) (codeAny_mono (F.run _ X.stack _ _ ⟨Value.ref (s.heap.objs.size+1)::us,[]⟩ (Value.ref (s.heap.objs.size+1)::(us++ds)) _ _ E (hr.make C us [])
    (I2.env0.make C us []) (hb _ (Value.ref (s.heap.objs.size+1)::us) I2.mZ hl) r2 hq) fun r s' hq'=>?_))
  cases r with
  | error e=>exact hx p_ σ _ _ e s' I2 hq'
  | ok fl=>
    cases fl with
    | ret u=>
      obtain⟨v,H',I3,rv,ev,q3⟩:=I2.after hq';subst ev;exact⟨rv,⟨V.ref (s.heap.objs.size+1),H',I3,rfl,q3⟩⟩
    | next=>exact False.elim hq'
    | brk=>exact False.elim hq'
    | cont=>exact False.elim hq'
theorem qbG (M:Mk X.K C f) (F:bZ X.prog X.w X.K X.mg X.base CX k f fd ps sp) (hr:iz (k+1) X.A) (hg:Gl X x) (hm:X.mg x=some (.ref C)) (hb:Binds X.K fd ps ds) (hd:Vals Ai ds) (hx:Passes CX X E)
    (ha:PA X (e::es) t) (hdb:(x == ("__debug__" : Str))=false:=by decide) (he:starEach (e::es) X.env=(false,eval e X.env)::starEach es X.env:=by rfl) (hpl:(backTo pos (starEach es X.env)).any (·.1)=false:=by rfl) :
    PE X (.Call (.Name x p) (e::es) [] pos) (Y0 C sp Ai E t):=by
  intro p_ s σ H Q I h;refine wpAny_Call_Name_kw (lV I hg hm ?_ hdb);refine W.callWith_K (h₀:=X.base) I.ok.mod.O7 M.kp (cR (ha pos p_ s σ H _ I h) fun us s1 zz=>?_) he hpl;obtain⟨vs,H1,I1,r,q⟩:=zz;refine⟨I1.mZ,?_⟩;exact Y5 M F hr hb hd hx I1 r q
end
structure aX (N P:List Str) (sc:Scope):Prop where
  kind:sc.kind = .function
  co:sc.isCoroutine=false
  gen:sc.isGenerator=false
  nd:N.Nodup
  pre:N.take P.length=P
  par:∀x∈P,sc.names.lookup x=some .local∨sc.names.lookup x=some .cell
  qen:∀y∈sc.names,y.2≠.free
theorem J1 {kindOf:Str→Option NameKind} {x:Str}:∀{binds:List (Str×Value)} {m:Str→Option Value},(∀v,(x,v)∉binds)→bindL kindOf binds m x=m x
  | [],_,_=>rfl
  | (n,v)::r,m,h=>by
    unfold bindL;rw[J1 fun w hw=>h w (List.mem_cons_of_mem _ hw)];split
    · have:x≠n:=by rintro rfl;exact h v List.mem_cons_self
      simp[this]
    ·rfl
theorem J2 {kindOf:Str→Option NameKind} {x:Str}:∀{binds:List (Str×Value)} {m:Str→Option Value},(∀v,(x,v)∉binds)→bindC kindOf binds m x=m x
  | [],_,_=>rfl
  | (n,v)::r,m,h=>by
    unfold bindC;rw[J2 fun w hw=>h w (List.mem_cons_of_mem _ hw)];split
    ·rfl
    · have:x≠n:=by rintro rfl;exact h v List.mem_cons_self
      simp[this]
theorem J3 {kindOf:Str→Option NameKind} {x:Str} {v:Value}:∀{P:List Str} {vs:List Value} {i:Nat} {m:Str→Option Value},P.Nodup→P[i]? = some x→vs[i]? = some v→kindOf x=some .local→
    bindL kindOf (P.zip vs) m x=some v
  | [],_,_,_,_,h,_,_=>by simp at h
  | _::_,[],_,_,_,_,h,_=>by simp at h
  | p::P,w::vs,0,m,nd,h1,h2,hk=>by
    simp at h1 h2;subst h1;subst h2;show bindL kindOf ((p,w)::P.zip vs) m p=_;unfold bindL;rw[J1 fun v hv=>(List.nodup_cons.mp nd).1 (List.of_mem_zip hv).1,if_pos hk];simp
  | p::P,w::vs,i+1,m,nd,h1,h2,hk=>by
    show bindL kindOf ((p,w)::P.zip vs) m x=_;unfold bindL;exact J3 (i:=i) (List.nodup_cons.mp nd).2 (by simpa using h1) (by simpa using h2) hk
theorem J4 {kindOf:Str→Option NameKind} {x:Str} {v:Value}:∀{P:List Str} {vs:List Value} {i:Nat} {m:Str→Option Value},P.Nodup→P[i]? = some x→vs[i]? = some v→kindOf x≠some .local→
    bindC kindOf (P.zip vs) m x=some v
  | [],_,_,_,_,h,_,_=>by simp at h
  | _::_,[],_,_,_,_,h,_=>by simp at h
  | p::P,w::vs,0,m,nd,h1,h2,hk=>by
    simp at h1 h2;subst h1;subst h2;show bindC kindOf ((p,w)::P.zip vs) m p=_;unfold bindC;rw[J2 fun v hv=>(List.nodup_cons.mp nd).1 (List.of_mem_zip hv).1,if_neg hk];simp
  | p::P,w::vs,i+1,m,nd,h1,h2,hk=>by
    show bindC kindOf ((p,w)::P.zip vs) m x=_;unfold bindC;exact J4 (i:=i) (List.nodup_cons.mp nd).2 (by simpa using h1) (by simpa using h2) hk
def start (N:List Str) (vs:List V):St:=vs.map some++List.replicate (N.length - vs.length) none
def au (CX:Wf) (P:Program) (w:World) (K:W.Frag) (mg:Str→Option Value) (base:Heap) (N:List Str) (qual:Str) (scope:Scope) (f:Addr) (cd:Value) (A:Around) (outer:List Env) (s:Shared) (H:Hp) (E:XK):Cx where
  prog:=P
  w:=w
  K:=K
  mg:=mg
  base:=base
  A:=A.deeper (envOfC qual scope s.heap.objs.size f cd)
  N:=N
  s₀:=s
  H₀:=H
  env:=envOfC qual scope s.heap.objs.size f cd
  outer:=outer
  stack:=envOfC qual scope s.heap.objs.size f cd::outer
  ex:=[]
  calm:=true
  fn:=fun _=>true
  pn:=[]
  xe:=fun e s'=>wpAny (model P w) (A.deeper (envOfC qual scope s.heap.objs.size f cd)) (leaving (envOfC qual scope s.heap.objs.size f cd) e) (fun _ s''=>CX outer H s E e s'') (fun e' s''=>CX outer H s E e' s'') s'
theorem Pk {sc:Scope} {n:Nat} {x:Str} (h:sc.names.lookup x=some .cell):∃c,(cellsFrom n sc.names []).lookup x=some c:=by
  have q:=W.cellsFrom_some sc.names n [] (.inl h);exact Option.isSome_iff_exists.mp q
theorem J_ {CX:Wf} {P:Program} {w:World} {K:W.Frag} {mg:Str→Option Value} {base:Heap} {N ps:List Str} {qual:Str} {scope:Scope} {f:Addr} {cd:Value} {A:Around} {outer:List Env} {s s1:Shared} {H:Hp} {E:XK} {us:List Value} {vs:List V}
    (S:aX N ps scope) (hd:A.handled=none) (e0:Pj P w K mg base A outer s H) (hl:vs.length=ps.length) (r:Vals vs us)
    (x:InCallC s s.heap.objs.size (bindL (envOfC qual scope s.heap.objs.size f cd).kindOf (ps.zip us) fun _=>none) (cellsFrom (s.heap.objs.size+1) scope.names []) (bindC (envOfC qual scope s.heap.objs.size f cd).kindOf (ps.zip us) fun _=>none) s1) :
    Inv (au CX P w K mg base N qual scope f cd A outer s H E) [] (start N vs) H s1:=by
  have hpl:ps.length≤N.length:=by have:=congrArg List.length S.pre;rw[List.length_take] at this;omega
  obtain⟨h1,tk,rfl,hk⟩:=x.done;have noA:∀b:Addr,b∉(au CX P w K mg base N qual scope f cd A outer s H E).ex:=fun b z=>absurd (show b∈([]:List Addr) from z) (by simp);refine⟨⟨e0.mod,S.kind,rfl,rfl,Nat.le_refl _,fun y z c h1 h2=>?_,fun y hy=>?_,fun y c _ h=>?_,fun _=>hd,Around.frames_deeper e0.frames,.inr ⟨rfl,rfl⟩,fun b z=>absurd z (noA b),e0.bs,e0.VR,fun b _ _=>noA b,fun b z=>absurd z (noA b),e0.rT,e0.Yw⟩,
    rfl,e0.bare,Un.kept hk,⟨_,x.toInCall.ns,fun i y v h1 h2 h3=>?_⟩,fun y c h=>⟨_,x.cell y c h⟩,e0.hok.fresh (Nat.le_refl _),fun y c h=>?_,fun p hp=>absurd (show p∈([]:List (Addr×Obj)) from hp) (by simp),e0.hok.kept hk,?_⟩
  ·exact name_of_addr x.apart (PySem.mem_of_lookup h1) (PySem.mem_of_lookup h2)
  · have hy:scope.names.lookup y=some .cell∨scope.names.lookup y=some .free:=hy
    rcases hy with hy | hy
    ·exact Pk hy
    ·exact absurd rfl (S.qen _ (PySem.mem_of_lookup hy))
  ·exact Nat.le_of_lt (x.above y c (PySem.mem_of_lookup h))
  · have hi:i<vs.length:=by
      unfold start at h2
      by_cases hi:i<vs.length
      ·exact hi
      ·rw[List.getElem?_append_right (by simpa using hi)] at h2;rw[List.getElem?_replicate] at h2;split at h2 <;> cases h2
    have ha:vs[i]? = some v:=by
      unfold start at h2;rw[List.getElem?_append_left (by simpa using hi),List.getElem?_map] at h2;cases e:vs[i]? with
      | none=>rw[e] at h2;cases h2
      | some a=>rw[e] at h2;cases h2;rfl
    obtain⟨u,hu,rv⟩:=r.get ha;have hp:ps[i]? = some y:=by
      rw[← S.pre,List.getElem?_take_of_lt (by omega)];exact h1
    have ndP:ps.Nodup:=by rw[← S.pre];exact S.nd.sublist (List.take_sublist _ _)
    refine⟨u,rv,?_⟩
    rcases S.par y (List.mem_of_getElem? hp) with k | k
    ·exact .inl ⟨k,J3 ndP hp hu k⟩
    ·obtain⟨c,e⟩:=Pk (n:=s.heap.objs.size+1) k;refine .inr ⟨.inl k,c,e,?_⟩;have q:=x.cell y c e;rw[J4 ndP hp hu (by show scope.names.lookup y≠_;rw[k];decide)] at q;exact q
  ·exact e0.hok.fresh (Nat.le_of_lt (x.above y c (PySem.mem_of_lookup h)))
  ·unfold start;show _=N.length;rw[List.length_append,List.length_map,List.length_replicate];omega
theorem qdc {CX:Wf} {P:Program} {w:World} {K:W.Frag} {mg:Str→Option Value} {base:Heap} {k:Nat} {f:Addr} {name qual:Str} {params:Arguments} {body:List Stmt} {scope:Scope} {dV kV doc pm cdv ct oc:Value} {an od:Option Addr}
    {osl:Array (Option Value)} {N ps:List Str} {sp:Sp} (lk:K.lookup f=some ⟨oc,od,.func (W.fnOf name qual params body scope dV kV doc pm an cdv ct),osl⟩) (hcd:W.codeIn K cdv qual=true) (S:aX N ps scope)
    (len:∀vs H Q E,sp vs H Q E→vs.length=ps.length)
    (hbody:∀(A:Around) (outer:List Env) (s:Shared) (H:Hp) (vs:List V) (Q:VK) (E:XK),iz k (A.deeper (envOfC qual scope s.heap.objs.size f cdv))→sp vs H Q E→
      ∃t,Jm (au CX P w K mg base N qual scope f cdv A outer s H E) body t∧t {nx:=fun _ H'=>Q .non H',rt:=Q} (start N vs) H) :
    bZ P w K mg base CX (k+1) f (W.fnOf name qual params body scope dV kV doc pm an cdv ct) ps sp:=by
  refine⟨len,fun A outer s H args us vs Q E hr e0 hb r hsp=>?_⟩;have hl:=len _ _ _ _ hsp;have KX:K.In s.heap:=e0.mod.O7.keeps fun b o e=>(e0.bs b o e).1;have lim:s.heap.NoLimit:=e0.mod.nolimit.keeps fun b o e=>(e0.bs b o e).1;have hkind:∀y∈ps.zip us,scope.names.lookup y.1=some .local∨(scope.names.lookup y.1=some .cell∧((cellsFrom (s.heap.objs.size+1) scope.names []).lookup y.1).isSome=true):=fun⟨n,v⟩ hy=>by
    rcases S.par n (List.of_mem_zip hy).1 with q | q
    ·exact .inl q
    ·exact .inr ⟨q,W.cellsFrom_some _ _ _ (.inl q)⟩
  refine codeAny_call_function hr.depth (KX _ _ lk) rfl S.co S.gen rfl (W.codeRec_of KX hcd) (hb _ _ _ _ ?_);refine wpAny_newFunctionEnv_cells S.kind hkind fun env he s1 x=>?_;subst he;refine⟨lim.keeps x.toInCall.keep,codeAny_func ?_⟩;obtain⟨t,ht,hq⟩:=hbody A outer s H vs Q E (hr.deeper _) hsp;have I:Inv (au CX P w K mg base N qual scope f cdv A outer s H E) [] (start N vs) H s1:=J_ S hr.hd e0 hl r x;refine wpAny_mono (ht [] s1 (start N vs) H _ I hq) (fun fl s' hs=>?_) fun e s' hs=>hs;have fin:∀{σ':St} {H':Hp} {v:V} {u:Value},Inv (au CX P w K mg base N qual scope f cdv A outer s H E) [] σ' H' s'→RelV v u→Q v H'→CE outer P w H s Q u s':=
    fun {σ' H' v u} J rv q=>⟨v,H',J.os,J.bare,J.base,J.hok,rv,q⟩
  cases fl with
  | ret u=>
    obtain⟨v,σ',H',J,rv,q⟩:=hs;exact fin J rv q
  | next=>
    obtain⟨σ',H',J,q⟩:=hs;exact fin (v:=V.non) (u:=Value.none) J rfl q
  | brk=>
    obtain⟨_,_,_,q⟩:=hs;exact False.elim q
  | cont=>
    obtain⟨_,_,_,q⟩:=hs;exact False.elim q
section
variable {X:Cx} {x:Str} {p pos:Pos} {e:Expr} {es:List Expr} {t:TA} {id T:String} {r:List V→Hp→VK→Prop}
def tCB (r:List V→Hp→VK→Prop) (t:TA):TE:=fun σ H Q=>t σ H fun vs H1=>r vs H1 Q
theorem aM (hc:cu X (.builtin id) r) (hg:Gl X x) (hm:X.mg x=none) (hv:bootBuiltins x=some (.builtin id)) (ha:PA X (e::es) t) (hn:x≠ "__name__" :=by decide) (hdb:(x == ("__debug__" : Str))=false:=by decide)
    (he:starEach (e::es) X.env=(false,eval e X.env)::starEach es X.env:=by rfl) (hpl:(backTo pos (starEach es X.env)).any (·.1)=false:=by rfl):PE X (.Call (.Name x p) (e::es) [] pos) (tCB r t):=by
  intro p_ s σ H Q I h;refine wpAny_Call_Name_kw (qj I hg hm hv ?_ hn hdb);refine PyProof.Rows.callWith_builtin1 (cR (ha pos p_ s σ H _ I h) fun us s1 zz=>?_) he hpl;obtain⟨vs,H1,I1,r1,q1⟩:=zz;exact hc p_ s1 σ H1 vs us Q I1 r1 q1
theorem eE (hc:cu X (.type T) r) (hg:Gl X x) (hm:X.mg x=none) (hv:bootBuiltins x=some (.type T)) (ha:PA X (e::es) t) (hn:x≠ "__name__" :=by decide) (hdb:(x == ("__debug__" : Str))=false:=by decide)
    (he:starEach (e::es) X.env=(false,eval e X.env)::starEach es X.env:=by rfl) (hpl:(backTo pos (starEach es X.env)).any (·.1)=false:=by rfl):PE X (.Call (.Name x p) (e::es) [] pos) (tCB r t):=by
  intro p_ s σ H Q I h;refine wpAny_Call_Name_kw (qj I hg hm hv ?_ hn hdb);refine PyProof.Rows.callWith_type1 (cR (ha pos p_ s σ H _ I h) fun us s1 zz=>?_) he hpl;obtain⟨vs,H1,I1,r1,q1⟩:=zz;exact hc p_ s1 σ H1 vs us Q I1 r1 q1
end
abbrev TO:=St→Hp→(Option Int→Hp→Prop)→Prop
section
variable {X:Cx} {e:Expr} {te:TE} {lo hi:Option Expr} {tl th:TO} {pos p2:Pos}
end
def ixN (n:Nat) (i:Int):Option Nat:=if 0≤i then (if i<n then some i.toNat else none) else if -(n:Int)≤i then some (i+n).toNat else none
def Ka {α:Type} (xs:List α) (i:Int):Option α:=(ixN xs.length i).bind fun j=>xs[j]?
theorem UJ {n:Nat} {i:Int} {j:Nat} (h:ixN n i=some j):seqIndex? i n=some j∧j<n∧-(n:Int)≤i∧i<n:=by
  unfold ixN at h
  by_cases h0:0≤i
  · rw[if_pos h0] at h
    by_cases h1:i<n
    ·rw[if_pos h1] at h;have e:i.toNat=j:=Option.some.inj h;exact⟨by rw[seqIndex_of h0 h1,e],by omega,by omega,h1⟩
    ·rw[if_neg h1] at h;cases h
  · rw[if_neg h0] at h
    by_cases h1 : -(n:Int)≤i
    ·rw[if_pos h1] at h;have e:(i+n).toNat=j:=Option.some.inj h;exact⟨by rw[seqIndex_neg (by omega) h1,e],by omega,h1,by omega⟩
    ·rw[if_neg h1] at h;cases h
theorem Ly {α:Type} {xs:List α} {i:Int} {v:α} (h:Ka xs i=some v):∃j,seqIndex? i xs.length=some j∧xs[j]? = some v∧j<xs.length∧-(xs.length:Int)≤i∧i<xs.length:=by
  unfold Ka at h;cases e:ixN xs.length i with
  | none=>rw[e] at h;cases h
  | some j=>
    rw[e] at h;obtain⟨h1,h2,h3,h4⟩:=UJ e;exact⟨j,h1,h,h2,h3,h4⟩
theorem dh {α:Type} {xs:List α} {j:Nat} {v:α} (h:xs[j]? = some v):Ka xs (j:Int)=some v:=by
  have hj:j<xs.length:=(List.getElem?_eq_some_iff.mp h).1;have e:ixN xs.length (j:Int)=some j:=by
    unfold ixN;rw[if_pos (by omega),if_pos (by omega)];simp
  unfold Ka;rw[e];exact h
def UL (b:Expr):Prop:=∀o i,subscripted b false o i=operate [o,i] (getItem o i)
def Yo (X:Cx) (r:R2):Prop:=
  ∀(value slice:Expr) (p_:List (Addr×Obj)) (s:Shared) (σ:St) (H:Hp) (x y:V) (v u:Value) (Q:VK),Inv X p_ σ H s→RelV x v→RelV y u→r x y H Q→
    subscripted slice false v u=operate [v,u] (getItem v u)→wpAny (model X.prog X.w) X.A (subscriptTail value slice v u) (EP X p_ σ Q) X.xe s
def Wg (X:Cx) (id:String) (r:V→List V→Hp→VK→Prop):Prop:=
  ∀(p_:List (Addr×Obj)) (s:Shared) (σ:St) (H:Hp) (x:V) (xs:List V) (v:Value) (us:List Value) (Q:VK),Inv X p_ σ H s→RelV x v→Vals xs us→r x xs H Q→
    wpAny (model X.prog X.w) X.A (call (.builtin id) (v::us)) (EP X p_ σ Q) X.xe s
section
variable {X:Cx} {a b:Expr} {ta tb:TE} {pos:Pos}
theorem gj {r:R2} (hr:Yo X r) (ha:PE X a ta) (hb:PE X b tb) (hs:UL b):PE X (.Subscript a b pos) (tOp r ta tb):=by
  intro p_ s σ H Q I h;exact Subscript_ (qd_ ha hb I h fun v u s2 x y H2 I2 rx ry q=>hr a b p_ s2 σ H2 x y v u Q I2 rx ry q (hs _ _))
def qi5 (K:W.Frag):R2:=fun x y H Q=>∃p xs i v,x = .ref p∧y = .int i∧bU K H p xs∧Ka xs i=some v∧Q v H
def qi6 (K:W.Frag):R2:=fun x y H Q=>∃p xs i v,x = .ref p∧y = .int i∧gY K H p xs∧Ka xs i=some v∧Q v H
def qf7:R2:=fun x y H Q=>∃z i c,x = .str z∧y = .int i∧z.length≤sizeLine∧Ka z.cps.toList i=some c∧Q (.str ⟨#[c]⟩) H
theorem qbH:Yo X (qi5 X.K):=by
  intro value slice p_ s σ H x y v u Q I rx ry h hs;obtain⟨p,xs,i,z,rfl,rfl,hq,he,q⟩:=h;cases rx;obtain⟨t,rfl⟩:=ry;obtain⟨its,r,pl,hz⟩:=I.list hq;obtain⟨j,h1,h2,h3,h4,h5⟩:=Ly he;obtain⟨w,ew,Wh⟩:=r.get h2;have hl:=r.length;have hn:=vR;have fin:EP X p_ σ Q w s:=⟨z,H,I,Wh,q⟩
  by_cases h0:0≤i
  · have hj:i.toNat=j:=by
      rw[seqIndex_of h0 h5] at h1;exact Option.some.inj h1
    exact item_listR pl.isList h0 (by omega) (by rw[hj];simpa using ew) fin hs
  · have hj:(i+(its.toArray.size:Int)).toNat=j:=by
      rw[seqIndex_neg (by omega) h4] at h1;rw[List.size_toArray,← hl];exact Option.some.inj h1
    exact subscriptTail_builtinR (x:=w) pl.isList.typeIs slot_list_getitem.lookup
      (wpAny_getItem_list_neg (Q:=fun r s'=>r=w∧EP X p_ σ Q r s') pl.isList (by omega) (by rw[List.size_toArray] <;> omega) (by omega) (by rw[hj];simpa using ew) ⟨rfl,fin⟩) hs
theorem qeo:Yo X (qi6 X.K):=by
  intro value slice p_ s σ H x y v u Q I rx ry h hs;obtain⟨p,xs,i,z,rfl,rfl,hq,he,q⟩:=h;cases rx;obtain⟨t,rfl⟩:=ry;obtain⟨its,r,pl,hz⟩:=I.tuple hq;obtain⟨j,h1,h2,h3,h4,h5⟩:=Ly he;obtain⟨w,ew,Wh⟩:=r.get h2;have hl:=r.length;have hn:=vR;have fin:EP X p_ σ Q w s:=⟨z,H,I,Wh,q⟩;exact subscriptTail_builtinR (x:=w) pl.typeIs slot_tuple_getitem.lookup
    (getItem_tuple (j:=j) (Q:=fun r s'=>r=w∧EP X p_ σ Q r s') pl (by omega) (by omega) (by rw[List.size_toArray,← hl];exact h1) (by simpa using ew) ⟨rfl,fin⟩) hs
theorem qep:Yo X qf7:=by
  intro value slice p_ s σ H x y v u Q I rx ry h hs;obtain⟨z,i,c,rfl,rfl,hz,he,q⟩:=h;obtain⟨t,rfl⟩:=rx;obtain⟨t',rfl⟩:=ry;obtain⟨j,h1,h2,h3,h4,h5⟩:=Ly he;have hl:z.cps.toList.length=z.length:=by simp[Str.length]
  rw[hl] at h1 h4 h5;have hn:=vR;exact tail_any (typeIs_str s z t) slot_str_getitem.lookup (getItem_str (c:=c) (by
    have e1:decide (i < -(2 ^ 63:Int))=false:=decide_eq_false (by omega);have e2:decide (i≥2 ^ 63)=false:=decide_eq_false (by omega);rw[e1,e2,Bool.or_false]) (by rw[h1];simpa using h2) ⟨.str ⟨#[c]⟩,H,I.tok _,⟨_,rfl⟩,q⟩) hs
theorem RN (its:List Value) (n j:Nat) (u:Value):Obj.mapSeq (·.setIfInBounds j u) {cls:=.type "list",data:=.seq its.toArray n}={cls:=.type "list",data:=.seq (its.set j u).toArray n}:=by
  simp[Obj.mapSeq]
theorem Inv.lst {p_:List (Addr×Obj)} {σ:St} {H:Hp} {s:Shared} {p:Addr} {xs:List V} (I:Inv X p_ σ H s) (h:H p=some (.lst xs)) :
    ∃(its:List Value) (n:Nat),Vals xs its∧s.heap.get? p=some {cls:=.type "list",data:=.seq its.toArray n}∧xs.length≤sizeLine:=by
  obtain⟨z,its,n,r,e⟩:=I.hok p _ h;exact⟨its,n,r,e,z⟩
theorem Inv.qeq {p_:List (Addr×Obj)} {σ:St} {H:Hp} {s:Shared} {p:Addr} {xs ys:List V} {its its':List Value} {n n':Nat} {f:Obj→Obj} (I:Inv X p_ σ H s) (h:H p=some (.lst xs))
    (ho:s.heap.get? p=some {cls:=.type "list",data:=.seq its.toArray n}) (hf:f {cls:=.type "list",data:=.seq its.toArray n}={cls:=.type "list",data:=.seq its'.toArray n'}) (r:Vals ys its') (hz:ys.length≤sizeLine) (t:Nat) :
    Inv X p_ σ (upd H p (.lst ys)) {s with heap:=s.heap.update p f,toks:=t}:=by
  have e:(s.heap.update p f).get? p=some {cls:=.type "list",data:=.seq its'.toArray n'}:=by
    rw[Heap.get?_update_self f ho (by rw[hf] <;> rfl),hf]
  refine I.write (x:=p) (e:=p) (by rw[h];trivial) (.inl rfl) (fun b u hb q=>(Heap.get?_update_other _ _ (Ne.symm hb)).trans q) ⟨_,e⟩ ?_;exact⟨hz,its',n',r,e⟩
def qdd:V→V→V→Hp→(Hp→Prop)→Prop:=fun o i v H Q=>∃p xs k j,o = .ref p∧i = .int k∧H p=some (.lst xs)∧ixN xs.length k=some j∧Q (upd H p (.lst (xs.set j v)))
theorem set_list:V2 X qdd:=by
  intro p_ s σ H o i v ov iv u Q I ro ri rv h;obtain⟨p,xs,k,j,rfl,rfl,hp,hj,q⟩:=h;cases ro;obtain⟨t,rfl⟩:=ri;obtain⟨its,n,r,ho,hz⟩:=I.lst hp;obtain⟨h1,h2,h3,h4⟩:=UJ hj;have hl:=r.length;have hn:=vR;have I':Inv X p_ σ (upd H p (.lst (xs.set j v))) {s with heap:=s.heap.update p (Obj.mapSeq (·.setIfInBounds j u))}:=
    I.qeq hp ho (RN its n j u) (r.set rv j) (by rw[List.length_set];exact hz) s.toks
  by_cases h0:0≤k
  · have hk:k.toNat=j:=by
      rw[seqIndex_of h0 h4] at h1;exact Option.some.inj h1
    exact W.ki_setAt ho h0 (by omega) (by rw[List.size_toArray,← hl];exact h4) (by rw[hk];exact⟨_,I',q⟩)
  · have hk:(k+(its.toArray.size:Int)).toNat=j:=by
      rw[seqIndex_neg (by omega) h3] at h1;rw[List.size_toArray,← hl];exact Option.some.inj h1
    exact W.ki_setBack ho (by omega) (by rw[List.size_toArray,← hl];exact h3) (by omega) (by rw[hk];exact⟨_,I',q⟩)
def jz:V→Bool
  | .non=>true
  | .bl _=>true
  | .int _=>true
  | .str _=>true
  | _=>false
def Y6:V→V→Bool
  | .non,.non=>true
  | .bl a,.bl b=>a == b
  | .bl a,.int b=>(if a then 1 else 0) == b
  | .int a,.bl b=>a == (if b then 1 else 0)
  | .int a,.int b=>a == b
  | .str a,.str b=>a == b
  | _,_=>false
theorem qer {A:Around} {s:Shared} {y x:V} {u v:Value} (ry:RelV y u) (rx:RelV x v) (fy:jz y=true) (fx:jz x=true):SeqAt.EqAt A s u v (Y6 y x):=by
  cases y with
  | non=>
    cases ry;cases x with
    | non=>cases rx;exact SeqAt.EqAt.same _
    | bl b=>cases rx;exact SeqAt.EqAt.none_bool b
    | int b=>obtain⟨t,rfl⟩:=rx;exact SeqAt.EqAt.none_int b t
    | str b=>obtain⟨t,rfl⟩:=rx;exact SeqAt.EqAt.none_str b t
    | _=>exact absurd (show false=true from fx) Bool.false_ne_true
  | bl a=>
    cases ry;cases x with
    | non=>cases rx;exact SeqAt.EqAt.bool_none a
    | bl b=>cases rx;exact SeqAt.EqAt.bool_bool a b
    | int b=>obtain⟨t,rfl⟩:=rx;exact SeqAt.EqAt.bool_int a b t
    | str b=>obtain⟨t,rfl⟩:=rx;exact SeqAt.EqAt.bool_str a b t
    | _=>exact absurd (show false=true from fx) Bool.false_ne_true
  | int a=>
    obtain⟨t',rfl⟩:=ry;cases x with
    | non=>cases rx;exact SeqAt.EqAt.int_none a t'
    | bl b=>cases rx;exact SeqAt.EqAt.int_bool a t' b
    | int b=>obtain⟨t,rfl⟩:=rx;exact SeqAt.EqAt.int_int a t' b t
    | str b=>obtain⟨t,rfl⟩:=rx;exact SeqAt.EqAt.int_str a t' b t
    | _=>exact absurd (show false=true from fx) Bool.false_ne_true
  | str a=>
    obtain⟨t',rfl⟩:=ry;cases x with
    | non=>cases rx;exact SeqAt.EqAt.str_none a t'
    | bl b=>cases rx;exact SeqAt.EqAt.str_bool a t' b
    | int b=>obtain⟨t,rfl⟩:=rx;exact SeqAt.EqAt.str_int a t' b t
    | str b=>obtain⟨t,rfl⟩:=rx;exact SeqAt.EqAt.str_str a t' b t
    | _=>exact absurd (show false=true from fx) Bool.false_ne_true
  | _=>exact absurd (show false=true from fy) Bool.false_ne_true
def RP (x:V) (u:Value):Bool:=match u with
  | .none=>Y6 .non x
  | .bool b=>Y6 (.bl b) x
  | .int i _=>Y6 (.int i) x
  | .str z _=>Y6 (.str z) x
  | _=>false
theorem Y7 {x y:V} {u:Value} (r:RelV y u) (f:jz y=true):RP x u=Y6 y x:=by
  cases y with
  | non=>cases r;rfl
  | bl b=>cases r;rfl
  | int i=>obtain⟨t,rfl⟩:=r;rfl
  | str z=>obtain⟨t,rfl⟩:=r;rfl
  | _=>exact absurd (show false=true from f) Bool.false_ne_true
theorem yx {x:V}:∀{xs:List V} {us:List Value},Vals xs us→xs.all jz=true→us.any (RP x)=xs.any fun y=>Y6 y x
  | _,_,.nil,_=>rfl
  | y::xs,u::us,.cons r t,f=>by
    rw[List.all_cons,Bool.and_eq_true] at f;rw[List.any_cons,List.any_cons,Y7 r f.1,yx t f.2]
theorem su {A:Around} {s:Shared} {x:V} {v:Value} (rx:RelV x v) (fx:jz x=true):∀{xs:List V} {us:List Value},Vals xs us→xs.all jz=true→∀u∈us,SeqAt.EqAt A s u v (RP x u)
  | _,_,.nil,_=>fun u hu=>by cases hu
  | y::xs,u::us,.cons r t,f=>fun u' hu=>by
    rw[List.all_cons,Bool.and_eq_true] at f
    rcases List.mem_cons.mp hu with rfl | hu
    ·rw[Y7 r f.1];exact qer r rx f.1 fx
    ·exact su rx fx t f.2 u' hu
def inV (x:V) (xs:List V):Bool:=xs.any fun y=>Y6 y x
def rIn (K:W.Frag) (neg:Bool):R2:=fun x y H Q=>∃p xs,y = .ref p∧(bU K H p xs∨gY K H p xs)∧jz x=true∧xs.all jz=true∧Q (.bl (if neg then !inV x xs else inV x xs)) H
theorem Wi:jk X (compareOp .In) (rIn X.K false):=by
  intro p_ s σ H x y v u Q I rx ry h;obtain⟨p,xs,rfl,hq,fx,fs,q⟩:=h;cases ry
  rcases hq with hq | hq
  ·obtain⟨its,r,pl,hz⟩:=I.list hq;refine SeqAt.in_listAt (RP x) pl.isList (fun w hw=>su rx fx r fs w (by simpa using hw)) ⟨.bl _,H,I,rfl,?_⟩;rw[show its.toArray.any (RP x)=its.any (RP x) by simp,yx r fs];exact q
  ·obtain⟨its,r,pl,hz⟩:=I.tuple hq;refine SeqAt.in_tupleAt (RP x) pl (fun w hw=>su rx fx r fs w (by simpa using hw)) ⟨.bl _,H,I,rfl,?_⟩;rw[show its.toArray.any (RP x)=its.any (RP x) by simp,yx r fs];exact q
theorem Lz:jk X (compareOp .NotIn) (rIn X.K true):=by
  intro p_ s σ H x y v u Q I rx ry h;obtain⟨p,xs,rfl,hq,fx,fs,q⟩:=h;cases ry
  rcases hq with hq | hq
  ·obtain⟨its,r,pl,hz⟩:=I.list hq;refine SeqAt.notIn_listAt (RP x) pl.isList (fun w hw=>su rx fx r fs w (by simpa using hw)) ⟨.bl _,H,I,rfl,?_⟩;rw[show its.toArray.any (RP x)=its.any (RP x) by simp,yx r fs];exact q
  ·obtain⟨its,r,pl,hz⟩:=I.tuple hq;refine SeqAt.notIn_tupleAt (RP x) pl (fun w hw=>su rx fx r fs w (by simpa using hw)) ⟨.bl _,H,I,rfl,?_⟩;rw[show its.toArray.any (RP x)=its.any (RP x) by simp,yx r fs];exact q
theorem LC:jk X (compareOp .NotIn) (fun x y H Q=>∃i j,x = .str i∧y = .str j∧Q (.bl (!(!(Builtin.Str.occurrences j i 0 j.length 1).isEmpty))) H):=by
  intro p_ s σ H x y v u Q I rx ry h;obtain⟨i,j,rfl,rfl,q⟩:=h;obtain⟨t,rfl⟩:=rx;obtain⟨t',rfl⟩:=ry;exact notIn_str ⟨.bl _,H,I,rfl,q⟩
theorem LK:cu X (.builtin "len") (fun xs H Q=>∃p ys,xs=[.ref p]∧(bU X.K H p ys∨gY X.K H p ys)∧Q (.int ys.length) H):=by
  intro p_ s σ H xs us Q I r h;obtain⟨p,ys,rfl,hq,q⟩:=h;obtain⟨u,rfl,rx⟩:=vals1 r;cases rx;have hn:=vR
  rcases hq with hq | hq
  ·obtain⟨its,r',pl,hz⟩:=I.list hq;have hlen:=r'.length;exact Calls.call_len_list pl.isList (by simp only[List.size_toArray] <;> omega) ⟨.int ys.length,H,I.tok _,⟨s.toks+1,by rw[List.size_toArray,hlen]⟩,q⟩
  ·obtain⟨its,r',pl,hz⟩:=I.tuple hq;have hlen:=r'.length;exact len_tuple pl (by simp only[List.size_toArray] <;> omega) ⟨.int ys.length,H,I.tok _,⟨s.toks+1,by rw[List.size_toArray,hlen]⟩,q⟩
theorem LQ:cu X (.builtin "len") (fun xs H Q=>∃z,xs=[.str z]∧z.length≤sizeLine∧Q (.int z.length) H):=by
  intro p_ s σ H xs us Q I r h;obtain⟨z,rfl,hz,q⟩:=h;obtain⟨u,rfl,t,rfl⟩:=vals1 r;have hn:=vR;exact len_str (by omega) ⟨.int z.length,H,I.tok _,⟨_,rfl⟩,q⟩
theorem LR:cu X (.type "list") (fun xs H Q=>∃p ys,xs=[.ref p]∧(bU X.K H p ys∨gY X.K H p ys)∧∀l,H l=none→Q (.ref l) (upd H l (.lst ys))):=by
  intro p_ s σ H xs us Q I r h;obtain⟨p,ys,rfl,hq,q⟩:=h;obtain⟨u,rfl,rx⟩:=vals1 r;cases rx;have fin:∀(its:List Value),Vals ys its→ys.length≤sizeLine→∀(h':Heap) (c':Nat),(∀b o',s.heap.get? b=some o'→h'.get? b=some o')→
      h'.get? s.heap.objs.size=some {cls:=.type "list",dict:=none,data:=.seq its.toArray c',slots:=#[]}→EP X p_ σ Q (.ref s.heap.objs.size) {s with heap:=h'}:=fun its r' hz h' c' kp e=>
    ⟨.ref s.heap.objs.size,_,I.laid (t':=s.toks) kp (Nat.le_refl _) (show cj X.prog X.w _ h' _ (.lst ys) from⟨hz,its,c',r',e⟩),rfl,q _ (I.hok.fresh (Nat.le_refl _))⟩
  rcases hq with hq | hq
  ·obtain⟨its,r',pl,hz⟩:=I.list hq;have hlen:=r'.length;obtain⟨o,ho,hc,n,hd⟩:=pl.isList;exact call_list_seq p (.inl rfl) ho hc hd (fun h' c' kp e=>fin its r' hz h' c' kp e) (by simp only[List.size_toArray] <;> omega)
  ·obtain⟨its,r',pl,hz⟩:=I.tuple hq;have hlen:=r'.length;obtain⟨o,ho,hc,n,hd⟩:=pl;exact call_list_seq p (.inr rfl) ho hc hd (fun h' c' kp e=>fin its r' hz h' c' kp e) (by simp only[List.size_toArray] <;> omega)
theorem Jr:cu X (.type "tuple") (fun xs H Q=>∃p ys,xs=[.ref p]∧((bU X.K H p ys∧∀l,H l=none→Q (.ref l) (upd H l (.tup ys)))∨(gY X.K H p ys∧Q (.ref p) H))):=by
  intro p_ s σ H xs us Q I r h;obtain⟨p,ys,rfl,h⟩:=h;obtain⟨u,rfl,rx⟩:=vals1 r;cases rx
  rcases h with⟨hq,q⟩ | ⟨hq,q⟩
  · obtain⟨its,r',pl,hz⟩:=I.list hq;have hlen:=r'.length;refine call_tuple_list pl.isList (fun h' kp=>?_) (by simp only[List.size_toArray] <;> omega);have I1:Inv X p_ σ H {s with heap:=h'}:=I.kept (t':=s.toks) kp;have I2:Inv X p_ σ (upd H h'.objs.size (.tup ys)) {s with heap:=h'.push {cls:=.type "tuple",data:=.seq its.toArray}}:=
      I1.laid (t':=s.toks) (fun b o e=>Heap.get?_push_of_some _ e) (Nat.le_refl _) (show cj X.prog X.w _ _ _ (.tup ys) from⟨hz,its,r',IsTup.new _ _⟩)
    exact⟨.ref h'.objs.size,_,I2,rfl,q _ (I1.hok.fresh (Nat.le_refl _))⟩
  ·obtain⟨its,r',pl,hz⟩:=I.tuple hq;exact call_tuple_same pl ⟨.ref p,H,I,rfl,q⟩
def tyV (K:W.Frag) (T:String) (x:V) (H:Hp):Prop:=match x with
  | .str _=>T = "str"
  | .int _=>T = "int"
  | .ref p=>(T = "list" ∧∃xs,bU K H p xs)∨(T = "tuple" ∧∃o,K.lookup p=some o∧o.cls = .type "tuple" ∧o.dict=none)∨
      (T = "dict" ∧((∃kvs,H p=some (.dK kvs))∨∃kvs,H p=some (.dT kvs)))∨(T = "set" ∧∃S n,H p=some (.set S n))
  | _=>False
theorem qes {p_:List (Addr×Obj)} {σ:St} {H:Hp} {s:Shared} {T:String} {x:V} {v:Value} (I:Inv X p_ σ H s) (r:RelV x v) (ty:tyV X.K T x H) :
    s.TypeIs v T∧∀a,v = .ref a→∃ob,s.heap.get? a=some ob∧ob.dict=none:=by
  cases x with
  | str z=>
    obtain⟨t,rfl⟩:=r;cases (show T = "str" from ty);exact⟨typeIs_str s z t,fun _ e=>nomatch e⟩
  | int i=>
    obtain⟨t,rfl⟩:=r;cases (show T = "int" from ty);exact⟨typeIs_int s i t,fun _ e=>nomatch e⟩
  | ref p=>
    cases r
    rcases ty with⟨rfl,xs,hq⟩ | ⟨rfl,o,hk,hc,hd⟩ | ⟨rfl,hk⟩ | ⟨rfl,S,n,hk⟩
    ·obtain⟨its,_,pl,_⟩:=I.list hq;refine⟨pl.isList.typeIs,fun a e=>?_⟩;cases e;obtain⟨o,n,e,c,hd,_⟩:=pl;exact⟨o,e,hd⟩
    ·refine⟨⟨o,I.mZ p o hk,hc⟩,fun a e=>?_⟩;cases e;exact⟨o,I.mZ _ o hk,hd⟩
    · have z:∃o,s.heap.get? p=some o∧o.ExactDict:=by
        rcases hk with⟨kvs,hk⟩ | ⟨kvs,hk⟩
        ·obtain⟨_,_,_,_,o,_,_,e,ex,_⟩:=I.hok p _ hk;exact⟨o,e,ex⟩
        ·obtain⟨_,_,_,_,o,_,_,e,ex,_⟩:=I.hok p _ hk;exact⟨o,e,ex⟩
      obtain⟨o,e,ex⟩:=z;refine⟨⟨o,e,ex.1⟩,fun a e2=>?_⟩;cases e2;exact⟨o,e,ex.2.1⟩
    ·obtain⟨o,_,_,_,e,ex,_⟩:=I.hok p _ hk;refine⟨⟨o,e,ex.1⟩,fun a e2=>?_⟩;cases e2;exact⟨o,e,ex.2.1⟩
  | _=>exact False.elim ty
def tBM (K:W.Frag) (T:String) (r:V→List V→Hp→VK→Prop) (to:TE) (t:TA):TE:=fun σ H Q=>to σ H fun x H1=>tyV K T x H1∧t σ H1 fun xs H2=>r x xs H2 Q
variable {o e:Expr} {es:List Expr} {to:TE} {t:TA} {name:Str} {apos cpos:Pos} {T id:String} {r:V→List V→Hp→VK→Prop}
theorem qf8 (pa:PlainAttrs T) (slot:Slot T name id) (hty:typeOf (.builtin id)=pure (.type "method_descriptor")) (hm:Wg X id r) (ho:PE X o to) (ha:PA X (e::es) t)
    (hbase:attributeBase o name X.env (eval o X.env)=eval o X.env:=by rfl)
    (hfew:((backTo cpos (starEach (e::es) X.env)).all (fun x=>!x.1) && (backToKw cpos (keywordEach [] X.env)).all (fun x=>x.1.isSome)
      && decide ((e::es).length+([]:List Keyword).length+(if ([]:List Keyword).isEmpty then 0 else 1)<30))=true:=by rfl)
    (hline:(apos.endLine == cpos.line)=true:=by rfl) (hs:starEach (e::es) X.env=(false,eval e X.env)::starEach es X.env:=by rfl) (hplain:(backTo cpos (starEach es X.env)).any (·.1)=false:=by rfl) :
    PE X (.Call (.Attribute o name apos) (e::es) [] cpos) (tBM X.K T r to t):=by
  intro p_ s σ H Q I h;refine wpAny_Call_method_late hbase hfew hline rfl (cR (ho p_ s σ H _ I h) fun v s1 zz=>?_);obtain⟨x,H1,I1,r1,ty,q1⟩:=zz;obtain⟨h1,h2⟩:=qes I1 r1 ty;refine⟨T,id,pa,slot,hty,h1,h2,?_⟩;have hA:=ha cpos p_ s1 σ H1 _ I1 q1;rw[hs] at hA ⊢;refine Calls.callWith_builtin (by show(false || (backTo cpos (starEach es X.env)).any (·.1))=false;rw[hplain] <;> rfl) (Calls.evalArgs_plain ?_)
  refine cR hA fun us s2 zz=>?_;obtain⟨vs,H2,I2,r2,q2⟩:=zz;exact hm p_ s2 σ H2 x vs v us Q I2 r1 r2 q2
end
def MtM (X:Cx) (id:String) (r:V→List V→Hp→VK→Prop):Prop:=
  ∀(p_:List (Addr×Obj)) (s:Shared) (σ:St) (H:Hp) (x:V) (xs:List V) (v:Value) (us:List Value) (Q:VK),Inv X p_ σ H s→RelV x v→Vals xs us→r x xs H Q→
    wpAny (model X.prog X.w) X.A (call (.builtin id) (v::us)) (EP X p_ σ Q) X.xe s
theorem Vals.one {x:V} {us:List Value} (h:Vals [x] us):∃u,us=[u]∧RelV x u:=vals1 h
theorem Vals.two {x y:V} {us:List Value} (h:Vals [x,y] us):∃u v,us=[u,v]∧RelV x u∧RelV y v:=vals2 h
section
variable {X:Cx} {p_:List (Addr×Obj)} {σ:St} {H:Hp} {s:Shared} {l b:Addr} {xs ys zs:List V}
theorem Inv.qf9 {its its':List Value} {n:Nat} {f:Array Value→Array Value} {t':Nat} (I:Inv X p_ σ H s) (hH:H l=some (.lst xs))
    (e:s.heap.get? l=some {cls:=.type "list",data:=.seq its.toArray n}) (hf:f its.toArray=its'.toArray) (hv:Vals ys its') (hz:ys.length≤sizeLine) :
    Inv X p_ σ (upd H l (.lst ys)) {s with heap:=s.heap.update l (Obj.mapSeq f),toks:=t'}:=by
  have q:=PySem.IsL.update e f;rw[hf] at q;refine I.write (x:=l) (e:=l) (by rw[hH];exact trivial) (.inl rfl) (fun b' u hb hu=>(Heap.get?_update_other s.heap (Obj.mapSeq f) (Ne.symm hb)).trans hu) ⟨_,q⟩ ?_;exact⟨hz,its',_,hv,q⟩
theorem Inv.qet {its:List Value} {t':Nat} (I:Inv X p_ σ H s) (hv:Vals ys its) (hz:ys.length≤sizeLine) :
    Inv X p_ σ (upd H s.heap.objs.size (.lst ys)) {s with heap:=s.heap.push {cls:=.type "list",data:=.seq its.toArray},toks:=t'}:=
  I.laid (fun _ _ q=>Heap.get?_push_of_some _ q) (Nat.le_refl _) ⟨hz,its,0,hv,Heap.get?_push_size _ rfl⟩
theorem Inv.fresh (I:Inv X p_ σ H s):H s.heap.objs.size=none:=I.hok.fresh (Nat.le_refl _)
theorem Inv.Y8 (I:Inv X p_ σ H s) (hH:H l=some (.lst xs)):xs.length≤sizeLine∧∃(its:List Value) (n:Nat),Vals xs its∧xs.length=its.length∧s.heap.get? l=some {cls:=.type "list",data:=.seq its.toArray n}:=by
  obtain⟨z,its,n,r,e⟩:=I.hok l _ hH;exact⟨z,its,n,r,r.length,e⟩
end
section
variable {X:Cx}
def L_:V→List V→Hp→VK→Prop:=fun x vs H Q=>∃l xs y,x = .ref l∧vs=[y]∧H l=some (.lst xs)∧xs.length<sizeLine∧Q .non (upd H l (.lst (xs++[y])))
theorem Kc:MtM X "list.append" L_:=by
  intro p_ s σ H x vs v us Q I rx rv h;obtain⟨l,xs,y,rfl,rfl,hH,hz,q⟩:=h;cases rx;obtain⟨u,rfl,ru⟩:=rv.one;obtain⟨z,its,n,r,hl,e⟩:=I.Y8 hH;refine call_meets F.slot_list_append ⟨_,e,rfl⟩ F.entry_list_append (F.args_list_append_2 _ _) (PySem.list_append l its.toArray n u (by rw[List.size_toArray];omega)) ⟨e,?_⟩;refine⟨.non,_,I.qf9 (its':=its++[u]) hH e (by simp) (r.append (.cons ru .nil)) ?_,rfl,q⟩;rw[List.length_append,List.length_singleton];omega
def qf_:R2:=fun x y H Q=>∃l b xs zs,x = .ref l∧y = .ref b∧H l=some (.lst xs)∧H b=some (.lst zs)∧xs.length+zs.length≤sizeLine∧∀p,H p=none→Q (.ref p) (upd H p (.lst (xs++zs)))
theorem qeu:jk X (binaryOp .Add) qf_:=by
  intro p_ s σ H x y v u Q I rx ry h;obtain⟨l,b,xs,zs,rfl,rfl,hH,hB,hz,q⟩:=h;cases rx;cases ry;obtain⟨z,its,n,r,hl,e⟩:=I.Y8 hH;obtain⟨z2,its2,n2,r2,hl2,e2⟩:=I.Y8 hB;refine PySem.P.add_list e e2 ?_ (by rw[List.size_toArray,List.size_toArray];omega);have ea:its.toArray++its2.toArray=(its++its2).toArray:=by simp
  rw[ea];exact⟨.ref _,_,I.qet (t':=s.toks) (r.append r2) (by rw[List.length_append];omega),rfl,q _ I.fresh⟩
end
end L2
namespace Att
open PySem PySem.W PySem.Calls PyProof.Rows
theorem D_ {P:Params} {h:Heap}:∀(ns:List Int) (vs:List Value),WellAll P h vs (ns.map WData.int)→IntsAre vs ns:=by
  intro ns
  induction ns with
  | nil=>
    intro vs w;rw[List.map_nil] at w;cases w;exact .nil
  | cons n ns ih=>
    intro vs w;rw[List.map_cons] at w;cases w with
    | cons a b=>
      cases a;exact .cons _ _ (ih _ b)
theorem Wj {l:OpenLaw} {n:Nat} (hn:l.most=some n) {P:Params} {h:Heap} {args:List WData} {vals:List Value}
    (hpre:l.row.toRowW.claim.pre args=true) (hwl:WellAll P h vals args) :
    ∃a vs ns,vals=[Value.ref a]∧args=[WData.list (ns.map WData.int)]∧h.get? a=some {cls:=.type "list",data:=.seq vs.toArray}∧IntsAre vs ns∧ns.length≤n:=by
  have hsh:WShape.hasAll [] args [.list .int]=true:=(pre_splitW hpre).1;have hc:l.pre.holds [] {args:=args}=true:=(pre_splitW hpre).2;obtain⟨d,r,rfl,h1,h2⟩:=hasAllW_cons hsh;obtain rfl:=hasAllW_nil h2;obtain⟨xs,rfl,h3⟩:=hasW_list h1;obtain⟨ns,rfl⟩:=items_int h3;have hlen:ns.length≤n:=by
    unfold OpenLaw.pre at hc;have h4:(WTm.not (.lt (.lit (.int (n:Int))) (.len (.arg 0)))).holds [] {args:=[.list (ns.map .int)]}=true:=by
      have h4:=(holds_andW hc).1;rw[hn] at h4;exact h4
    have h5:=condW_of h4 (w_not (w_lt w_lit (w_len_list (w_arg rfl))));rw[List.length_map] at h5;refine Nat.le_of_not_lt fun q=>?_;have q':(n:Int)<((ns.length:Nat):Int):=by omega
    first
      | (rw[decide_eq_true q'] at h5;exact absurd h5 (by decide))
      | (simp at h5;omega)
  cases hwl with
  | cons w1 w2=>
    cases w2;cases w1 with
    | list ho hall=>exact⟨_,_,ns,rfl,rfl,ho,D_ ns _ hall,hlen⟩
theorem Wk (l:OpenLaw) (args:List WData):l.row.toRowW.claim.post args (.bool true) args=true:=
  postW_of (r:=l.row.toRowW) (X:=(true == true))
    (show WShape.has [] (.bool true) .bool=true by first | rfl | decide | simp[WShape.has,WShape.arms,WShape.armsAll])
    (show(WTm.eq .res (.lit (.bool true))).value [] {args:=args,res:=some (.bool true),after:=args}=some (.bool (true == true)) from w_eq_bool (w_res rfl) w_lit) rfl
theorem Pn {l:OpenLaw} {n:Nat} {q:Program} {loose:List Str} {XP:(Str→Option Value)→Heap→Prop} {YP:World→Heap→Prop} {d:DefRec}
    (hn:l.most=some n) (hdf:d.params.defaults=[])
    (call:∀(w:World) (s₀ s₁:Shared) (mg mb:Str→Option Value) (fa:Addr) (o:Obj) (pm cd doc:Value) (a:Addr) (vs:List Value) (ns:List Int),
      Ground q loose [] XP w s₀ mg mb s₁.heap→YP w s₁.heap→
      s₁.heap.get? fa=some o→o.data = .func (docDef d.name d.params d.body d.scope pm cd doc)→s₁.heap.CodeRec cd d.name→mg d.name=some (.ref fa)→
      s₁.heap.get? a=some {cls:=.type "list",data:=.seq vs.toArray}→IntsAre vs ns→ns.length≤n→s₁.gens = #[]→
      codeAny (model l.prog w) callerA (.call (.ref fa) ⟨[.ref a],[]⟩) (fun r s'=>r = .ok (.ret (.bool true))∧OldK s₁.heap s'.heap∧s'.os=s₁.os∧AllBare s'.gens) s₁) :
    WalkO q loose XP YP l.row.toRowW d [] (fun f vs=>PySem.call f vs):=by
  intro w s₀ s₁ mg mb G Y fa o pm cd doc dV kV ho hd hcd hD hmg hg args vals as hpre hlay hrd hwl hlo;obtain rfl:dV = .none:=Dflts.none hD hdf;obtain rfl:kV = .none:=Dflts.noKw hD;obtain⟨a,vs,ns,rfl,rfl,hobj,hints,hlen⟩:=Wj hn hpre hwl;refine enter_call (codeAny_mono (call w s₀ s₁ mg mb fa o pm cd doc a vs ns G Y ho (fd_plain hd) hcd hmg hobj hints hlen hg) fun r s' hq=>?_);obtain⟨rfl,h2,h3,h4⟩:=hq;exact⟨.inl ⟨.bool true,.bool true,[],rfl,fun _=>rfl,.bool true,Wk l _,fun _=>⟨List.Pairwise.nil,fun _ hm=>(nomatch hm)⟩⟩,h2,h3,h4⟩
end Att
namespace L2
open PySem PySem.Spec PyProof.Rows
theorem Kd:∀{vs:List Value} {ns:List Int},IntsAre vs ns→Vals (ns.map V.int) vs
  | _,_,.nil=>.nil
  | _,_,.cons n t h=>.cons ⟨t,rfl⟩ (Kd h)
def Only (H:Hp):Prop:=∀b,H b=none∨∃o xs,H b=some (.iG o (.lst xs))
theorem Y9 {P:Program} {w:World} {K:W.Frag} {mg mb:Str→Option Value} {CX:Wf} {k:Nat} {fa a:Addr} {fd:FuncData} {x:Str} {sp:Sp} {s₁:Shared} {vs:List Value} {ns:List Int}
    (KX:K.In s₁.heap) (hns:s₁.heap.Ns mainGlobals mg) (hb:s₁.heap.Ns builtinsNs mb) (hbb:∀x:Str,x≠ "__name__" →mb x=bootBuiltins x) (hlim:s₁.heap.NoLimit) (hg:s₁.gens = #[])
    (ha:s₁.heap.get? a=some {cls:=.type "list",data:=.seq vs.toArray}) (hi:IntsAre vs ns) (hl:ns.length≤sizeLine) (hr:iz k callerA)
    (F:∀base:Heap,K.In base→base.Ns mainGlobals mg→bZ P w K mg base CX k fa fd [x] sp) (hbind:∀(s:Shared) (u:Value),BindsTo s fd ⟨[u],[]⟩ [(x,u)])
    (hsp:∀H:Hp,Only H→bU K H a (ns.map V.int)→sp [.ref a] H (fun v _=>v = .bl true) fun _ _ _=>False)
    (hCX:∀H e s',CX [] H s₁ (fun _ _ _=>False) e s'→False) :
    codeAny (model P w) callerA (.call (.ref fa) ⟨[.ref a],[]⟩) (fun r s'=>r = .ok (.ret (.bool true))∧OldK s₁.heap s'.heap∧s'.os=s₁.os∧AllBare s'.gens) s₁:=by
  have rv:=Kd hi;have lenV:=hi.length;have core:∀H:Hp,Only H→bU K H a (ns.map V.int)→pq P w H s₁.heap→(∀b,H b≠none→b=a)→(H a≠none→K.lookup a=none)→
      codeAny (model P w) callerA (.call (.ref fa) ⟨[.ref a],[]⟩) (fun r s'=>r = .ok (.ret (.bool true))∧OldK s₁.heap s'.heap∧s'.os=s₁.os∧AllBare s'.gens) s₁:=by
    intro H hO hS hok hA hK;have UW:∀{b:Addr} {o:Obj},s₁.heap.get? b=some o→H b=none→(Ls s₁.heap H).get? b=some o:=fun e n=>Yv e n;have noA:∀{b:Addr} {o:Obj} {es:Array DictEntry} {ep:Nat},s₁.heap.get? b=some o→o.data = .dict es ep→H b=none:=fun {b o es ep} e d=>by
      cases q:H b with
      | none=>rfl
      | some u=>
        have e':b=a:=hA b (by rw[q];simp);subst e';rw[ha] at e;cases e;have d':Data.seq vs.toArray _=Data.dict es ep:=d;cases d'
    have nsK:∀{b:Addr} {m:Str→Option Value},s₁.heap.Ns b m→(Ls s₁.heap H).Ns b m:=fun {b m} ⟨o,es,ep,e,d,r⟩=>⟨o,es,ep,UW e (noA e d),d,r⟩;have hKb:K.In (Ls s₁.heap H):=fun b o e=>UW (KX b o e) (by
      cases q:H b with
      | none=>rfl
      | some u=>
        have e':b=a:=hA b (by rw[q];simp);subst e';rw[hK (by rw[q];simp)] at e;cases e)
    have hM:Mod K mg (Ls s₁.heap H):=⟨hKb,nsK hns,⟨mb,nsK hb,hbb⟩,let ⟨mc,h1,h2⟩:=hlim;⟨mc,nsK h1,h2⟩⟩;have e0:Pj P w K mg (Ls s₁.heap H) callerA [] s₁ H:=⟨rfl,hM,fun b o e=>qbs e,Nat.le_of_eq (VP _ _),trivial,fun b hb=>absurd (show b∈([]:List Addr) from hb) (by simp),hok,.of_eq hg⟩;refine codeAny_mono ((F _ hKb (nsK hns)).run callerA [] s₁ H ⟨[.ref a],[]⟩ [.ref a] [.ref a] _ _ hr e0 (hbind s₁ (.ref a)) (.cons rfl .nil) (hsp H hO hS)) fun r s' h=>?_;cases r with
    | error e=>exact(hCX H e s' h).elim
    | ok fl=>
      cases fl with
      | next=>exact False.elim h
      | brk=>exact False.elim h
      | cont=>exact False.elim h
      | ret u=>
        obtain⟨v,H',os,bare,un,hok',r',q⟩:=h;have q':v = .bl true:=q;subst q';obtain rfl:u=Value.bool true:=r';refine⟨rfl,OldK.of_keep fun b o e=>?_,os,bare⟩;cases q:H b with
        | none=>exact un.keep b o e q (by intro z;exact absurd (show b∈([]:List Addr) from z) (by simp)) (by simp)
        | some u=>
          rcases hO b with z | ⟨ob,xs,z⟩
          ·rw[q] at z;cases z
          ·have z2:=un.qg b ob _ z;obtain⟨e1,_⟩:=hok b _ z;obtain⟨e2,_⟩:=hok' b _ z2;rw[e] at e1;cases e1;exact e2
  cases hk:K.lookup a with
  | some o=>
    have e:=KX a o hk;rw[ha] at e;cases e;refine core (fun _=>none) (fun _=>.inl rfl) (.inr ⟨_,vs.toArray,_,hk,rfl,rfl,rfl,by rw[List.size_toArray,lenV];exact hl,by simpa using rv⟩) (fun b u z=>by have z':(none:Option HO)=some u:=z;cases z') (fun b z=>absurd rfl z) fun z=>absurd rfl z
  | none=>
    refine core (fun b=>if b=a then some (.iG {cls:=.type "list",data:=.seq vs.toArray} (.lst (ns.map V.int))) else none) (fun b=>?_) (.inl (.inr ⟨{cls:=.type "list",data:=.seq vs.toArray},if_pos rfl⟩)) (fun b u z=>?_) (fun b z=>?_) fun _=>hk
    · by_cases hb:b=a
      ·exact .inr ⟨_,_,if_pos hb⟩
      ·exact .inl (if_neg hb)
    · by_cases hb:b=a
      ·have z':=(if_pos hb).symm.trans z;cases z';subst hb;exact⟨ha,by rw[List.length_map];exact hl,vs,_,rv,ha⟩
      ·have z':=(if_neg hb).symm.trans z;cases z'
    · by_cases hb:b=a
      ·exact hb
      ·exact absurd (if_neg hb) z
theorem qbI {l:W.OpenLaw} {n k:Nat} {q:Program} {loose:List Str} {XP:(Str→Option Value)→Heap→Prop} {YP:World→Heap→Prop} {d:DefRec} {K:Params→W.Frag} {CX:World→Wf} {sp:World→Sp} {x:Str}
    (hn:l.most=some n) (hn2:n≤sizeLine) (hdf:d.params.defaults=[]) (hr:iz k callerA)
    (hY:∀(w:World) (h:Heap),YP w h→(K w.params).In h)
    (F:∀(w:World) (mg:Str→Option Value) (fa:Addr) (h:Heap),(K w.params).In h→h.Ns mainGlobals mg→mg d.name=some (.ref fa)→
      ∃fd:FuncData,(∀(s:Shared) (u:Value),BindsTo s fd ⟨[u],[]⟩ [(x,u)])∧
        ∀base:Heap,(K w.params).In base→base.Ns mainGlobals mg→bZ l.prog w (K w.params) mg base (CX w) k fa fd [x] (sp w))
    (hsp:∀(w:World) (H:Hp) (a:Addr) (ns:List Int),ns.length≤n→Only H→bU (K w.params) H a (ns.map V.int)→sp w [.ref a] H (fun v _=>v = .bl true) fun _ _ _=>False)
    (hCX:∀(w:World) (H:Hp) (s:Shared) (e:Value) (s':Shared),CX w [] H s (fun _ _ _=>False) e s'→False) :
    W.WalkO q loose XP YP l.row.toRowW d [] (fun f vs=>PySem.call f vs):=by
  refine Att.Pn hn hdf fun w s₀ s₁ mg mb fa o pm cd doc a vs ns G Y ho hd hcd hmg hobj hints hlen hg=>?_;have KX:=hY w _ Y;obtain⟨fd,hb,hF⟩:=F w mg fa _ KX G.T.g hmg;exact Y9 KX G.T.g G.T.b G.T.builtins G.T.nolimit hg hobj hints (Nat.le_trans hlen hn2) hr hF hb (fun H hO hS=>hsp w H a ns hlen hO hS) fun H e s'=>hCX w H s₁ e s'
def inClass (s:Stmt) (j:Nat):Stmt:=match s with
  | .ClassDef _ _ _ body _ _ _ _ _ _ _=>body.getD j (.Pass ⟨0,0,0,0⟩)
  | _=>.Pass ⟨0,0,0,0⟩
def uz (s:Stmt):Arguments:=match s with
  | .FunctionDef _ a _ _ _ _ _ _ _ _=>a
  | _=>{posonlyargs:=[],args:=[],vararg:=none,kwonlyargs:=[],kw_defaults:=[],kwarg:=none,defaults:=[]}
def iV (s:Stmt):List Stmt:=match s with
  | .FunctionDef _ _ b _ _ _ _ _ _ _=>b
  | _=>[]
def aD (s:Stmt):Scope:=match s with
  | .FunctionDef _ _ _ _ _ _ sc _ _ _=>sc
  | _=>{kind:=.function,names:=[],isGenerator:=false,isCoroutine:=false}
abbrev lB:Wf:=fun _ _ _ _ _ _=>False
abbrev E0:XK:=fun _ _ _=>False
theorem aW {X:Cx}:Passes lB X E0:=fun _ _ _ _ _ _ _ h=>h.elim
structure dZ (K:W.Frag) (x qual:Str) (st:Stmt) (f:Addr) (fd:FuncData):Prop where
  ex:∃(oc:Value) (od:Option Addr) (kV doc pm:Value) (an:Option Addr) (cdv ct:Value) (osl:Array (Option Value)),
    fd=W.fnOf x qual (uz st) (iV st) (aD st) .none kV doc pm an cdv ct∧K.lookup f=some ⟨oc,od,.func fd,osl⟩∧W.codeIn K cdv qual=true
  kp:W.keepIn K (.ref f)=true
section
variable {P:Program} {w:World} {K:W.Frag} {mg:Str→Option Value} {base:Heap}
theorem dZ.ok {x qual:Str} {st:Stmt} {f:Addr} {fd:FuncData} {N ps:List Str} {k:Nat} {sp:Sp} (F:dZ K x qual st f fd) (S:aX N ps (aD st)) (len:∀vs H Q E,sp vs H Q E→vs.length=ps.length)
    (hbody:∀(cdv:Value) (A:Around) (outer:List Env) (s:Shared) (H:Hp) (vs:List V) (Q:VK) (E:XK),iz k (A.deeper (envOfC qual (aD st) s.heap.objs.size f cdv))→sp vs H Q E→
      ∃t,Jm (au lB P w K mg base N qual (aD st) f cdv A outer s H E).Ym (iV st) t∧t {nx:=fun _ H'=>Q .non H',rt:=Q} (start N vs) H):bZ P w K mg base lB (k+1) f fd ps sp:=by
  obtain⟨oc,od,kV,doc,pm,an,cdv,ct,osl,rfl,lk,hcd⟩:=F.ex;refine qdc lk hcd S len fun A outer s H vs Q E hr hsp=>?_;obtain⟨t,h,q⟩:=hbody cdv A outer s H vs Q E hr hsp;exact⟨t,h.Ym,q⟩
theorem dZ.binds {x qual:Str} {st:Stmt} {f:Addr} {fd:FuncData} {ps:List Str} (F:dZ K x qual st f fd)
    (h:∀(kV doc pm:Value) (an:Option Addr) (cdv ct:Value) (us:List Value),us.length=ps.length→bindArgs (W.fnOf x qual (uz st) (iV st) (aD st) .none kV doc pm an cdv ct) ⟨us,[]⟩=pure (ps.zip us)):Binds K fd ps []:=by
  obtain⟨oc,od,kV,doc,pm,an,cdv,ct,osl,rfl,lk,hcd⟩:=F.ex;exact .all (h kV doc pm an cdv ct)
theorem Y_ {x qual:Str} {st:Stmt} {f:Addr} {oc:Value} {od an:Option Addr} {osl:Array (Option Value)} {kV doc pm cdv ct:Value} (l:K.lookup f=some ⟨oc,od,.func (W.fnOf x qual (uz st) (iV st) (aD st) .none kV doc pm an cdv ct),osl⟩)
    (c:W.codeIn K cdv qual=true) (k:W.keepIn K (.ref f)=true):dZ K x qual st f (W.fnOf x qual (uz st) (iV st) (aD st) .none kV doc pm an cdv ct):=⟨⟨oc,od,kV,doc,pm,an,cdv,ct,osl,rfl,l,c⟩,k⟩
end
theorem sy {A:Around} {k:Nat} (hr:iz k A):A.units+1<cLine:=Nat.lt_of_le_of_lt (Nat.add_le_add_left (by decide:1≤64) _) hr.units
def Same (H H':Hp):Prop:=∀b o,H b=some o→H' b=some o
theorem Same.refl (H:Hp):Same H H:=fun _ _ h=>h
theorem Same.trans {H H1 H2:Hp} (a:Same H H1) (b:Same H1 H2):Same H H2:=fun c o h=>b c o (a c o h)
theorem Same.seq {K:W.Frag} {H H':Hp} {a:Addr} {xs:List V} (e:Same H H') (h:bU K H a xs):bU K H' a xs:=by
  rcases h with(h | ⟨o,h⟩) | h
  ·exact .inl (.inl (e _ _ h))
  ·exact .inl (.inr ⟨o,e _ _ h⟩)
  ·exact .inr h
def nP (env:Env) (cs:List (Str×Addr)) (p:Str×NameKind):List (Str×Addr):=if p.2 == .free then (p.1,(env.cells.lookup p.1).getD 0)::cs else cs
def Pq (env:Env) (names:List (Str×NameKind)):List (Str×Addr):=names.foldl (nP env) []
theorem CZ {α β:Type} (f:α→β→Sem (ForInStep β)) (g:β→α→β):∀(l:List α) (b:β),(∀x∈l,∀b,f x b=pure (.yield (g b x)))→forIn l b f=pure (l.foldl g b)
  | [],_,_=>rfl
  | x::l,b,h=>by
    rw[List.forIn_cons,h x List.mem_cons_self,pure_bind];exact CZ f g l (g b x) fun y hy=>h y (List.mem_cons_of_mem _ hy)
theorem rG {sc:Scope} {env:Env} (h:∀x,(x,NameKind.free)∈sc.names→∃c,env.cells.lookup x=some c):closureFor sc env=pure (Pq env sc.names):=by
  simp only[closureFor];rw[CZ _ (nP env) sc.names [] (fun p hp cs=>by
    obtain⟨n,k⟩:=p;cases k with
    | free=>
      obtain⟨c,hc⟩:=h n hp;simp only[nP,cellOf,hc,beq_self_eq_true,if_true,Option.getD_some,pure_bind]
    | _=>simp only[nP];rfl)]
  rfl
theorem yC {env:Env}:∀(names:List (Str×NameKind)) (acc:List (Str×Addr)) (x:Str) (c:Addr),(∀x,(x,NameKind.free)∈names→∃c,env.cells.lookup x=some c)→(∀x c,(x,c)∈acc→env.cells.lookup x=some c)→
    (x,c)∈names.foldl (nP env) acc→env.cells.lookup x=some c
  | [],_,x,c,_,h,m=>h x c m
  | (n,k)::r,acc,x,c,hf,h,m=>by
    refine yC r (nP env acc (n,k)) x c (fun y hy=>hf y (List.mem_cons_of_mem _ hy)) (fun y d hy=>?_) m;unfold nP at hy;split at hy
    · rename_i hk;have hk':k = .free:=by simpa using hk
      subst hk';obtain⟨e,he⟩:=hf n List.mem_cons_self
      rcases List.mem_cons.mp hy with z | z
      ·cases z;show env.cells.lookup n=some _;rw[he];rfl
      ·exact h y d z
    ·exact h y d hy
theorem Aj {env:Env} {x:Str}:∀(names:List (Str×NameKind)) (acc:List (Str×Addr)),((x,NameKind.free)∈names∨(acc.lookup x).isSome=true)→((names.foldl (nP env) acc).lookup x).isSome=true
  | [],_,h=>h.elim (fun z=>nomatch z) id
  | (n,k)::r,acc,h=>by
    refine Aj r (nP env acc (n,k)) ?_
    by_cases hm:(x,NameKind.free)∈r
    ·exact .inl hm
    · refine .inr ?_;unfold nP
      rcases h with h | h
      · rcases List.mem_cons.mp h with z | z
        ·cases z;simp[List.lookup_cons]
        ·exact absurd z hm
      · split
        ·simp only[List.lookup_cons];cases x == n <;> simp[h]
        ·exact h
def FT (env:Env) (sc:Scope) (C:Addr):List (Str×Addr):=cellsFrom (C+1) sc.names (Pq env sc.names)
theorem iH {x:Str}:∀(names:List (Str×NameKind)) (n:Nat) (acc:List (Str×Addr)),(x,NameKind.cell)∈names∨(acc.lookup x).isSome=true→((cellsFrom n names acc).lookup x).isSome=true
  | [],_,_,h=>h.elim (fun z=>nomatch z) id
  | (y,k)::r,n,acc,h=>by
    unfold cellsFrom;split
    · refine iH r (n+1) ((y,n)::acc) ?_
      by_cases hm:(x,NameKind.cell)∈r
      ·exact .inl hm
      · refine .inr ?_
        rcases h with h | h
        · rcases List.mem_cons.mp h with z | z
          ·cases z;simp[List.lookup_cons]
          ·exact absurd z hm
        ·simp only[List.lookup_cons];cases x == y <;> simp[h]
    · rename_i hk;refine iH r n acc ?_
      rcases h with h | h
      · rcases List.mem_cons.mp h with z | z
        ·cases z;exact absurd rfl hk
        ·exact .inl z
      ·exact .inr h
theorem RQ:∀(names:List (Str×NameKind)) (h:Heap) (acc:List (Str×Addr)) (x:Str) (c:Addr),(x,c)∈cellsFrom h.objs.size names acc→(x,c)∈acc∨(h.objs.size≤c∧(pushCells h names).IsCell c none)
  | [],_,_,_,_,m=>.inl m
  | (n,k)::r,h,acc,x,c,m=>by
    unfold cellsFrom at m;unfold pushCells;split at m
    · rename_i hk;rw[if_pos hk];have m':(x,c)∈cellsFrom (h.push {cls:=.type "cell",data:=.cell none}).objs.size r ((n,h.objs.size)::acc):=by rw[Heap.size_push];exact m
      rcases RQ r (h.push {cls:=.type "cell",data:=.cell none}) _ x c m' with z | ⟨z1,z2⟩
      · rcases List.mem_cons.mp z with e | e
        ·cases e;exact .inr ⟨Nat.le_refl _,⟨_,pushCells_keeps _ _ _ _ (Heap.get?_push_size _ rfl),rfl⟩⟩
        ·exact .inl e
      ·rw[Heap.size_push] at z1;exact .inr ⟨by omega,z2⟩
    ·rename_i hk;rw[if_neg hk];exact RQ r h acc x c m
theorem RV {n0:Nat} {x:Str}:∀(names:List (Str×NameKind)) (n:Nat) (acc:List (Str×Addr)) (c:Addr),((x,NameKind.cell)∈names∨∀d,acc.lookup x=some d→n0≤d)→n0≤n→(cellsFrom n names acc).lookup x=some c→n0≤c
  | [],_,_,c,h,_,e=>h.elim (fun z=>nomatch z) fun z=>z c e
  | (y,k)::r,n,acc,c,h,hn,e=>by
    unfold cellsFrom at e;split at e
    · refine RV r (n+1) ((y,n)::acc) c ?_ (by omega) e
      by_cases hm:(x,NameKind.cell)∈r
      ·exact .inl hm
      · refine .inr fun d hd=>?_
        by_cases hxy:x=y
        · subst hxy;have hnd:n=d:=by simpa [List.lookup_cons] using hd
          rw[← hnd];exact hn
        · have hb:(x == y)=false:=by simpa using hxy
          simp only[List.lookup_cons,hb] at hd
          rcases h with h | h
          · rcases List.mem_cons.mp h with z | z
            ·cases z;exact absurd rfl hxy
            ·exact absurd z hm
          ·exact h d hd
    · rename_i hk;refine RV r n acc c ?_ hn e
      rcases h with h | h
      · rcases List.mem_cons.mp h with z | z
        ·cases z;exact absurd rfl hk
        ·exact .inl z
      ·exact .inr h
theorem RW:∀(names:List (Str×NameKind)) (n:Nat) (acc:List (Str×Addr)),(∀y d,(y,d)∈acc→d<n)→(∀y z d,(y,d)∈acc→(z,d)∈acc→y=z)→
    ∀y z d,(y,d)∈cellsFrom n names acc→(z,d)∈cellsFrom n names acc→y=z
  | [],_,_,_,h=>h
  | (x,k)::r,n,acc,hl,h=>by
    unfold cellsFrom;split
    · refine RW r (n+1) ((x,n)::acc) (fun y d hm=>?_) fun y z d h1 h2=>?_
      · rcases List.mem_cons.mp hm with e | e
        ·cases e;exact Nat.lt_succ_self _
        ·exact Nat.lt_succ_of_lt (hl y d e)
      · rcases List.mem_cons.mp h1 with e1 | e1 <;> rcases List.mem_cons.mp h2 with e2 | e2
        ·cases e1;cases e2;rfl
        ·cases e1;exact absurd (hl z n e2) (Nat.lt_irrefl _)
        ·cases e2;exact absurd (hl y n e1) (Nat.lt_irrefl _)
        ·exact h y z d e1 e2
    ·exact RW r n acc hl h
abbrev NoE:Value→Shared→Prop:=fun _ _=>False
theorem Pr {prog:Program} {w:World} {A:Around} {R:Result→Shared→Prop} {s:Shared} {elt target iter:Expr} {ifs:List Expr} {scope:Scope} {pos:Pos} {it acc:Value} {env:Env} (I:Nat→Shared→Prop)
    (turn:∀n s,I n s→wpAny (model prog w) A (pyNext it) (fun r s₁=>match r with
      | none=>R (.ok .next) s₁
      | some v=>wpAny (model prog w) A (letOwnedTupleGo target it v) (fun _ s₂=>wpAny (model prog w) A (assign target env v) (fun _ s₃=>
          wpAny (model prog w) A (forIn ifs true fun c r=>if r=true then do let ok ← isTrue c env (eval c env);pure (ForInStep.yield ok) else pure (ForInStep.yield r)) (fun ok s₄=>
            if ok=true then wpAny (model prog w) A (eval elt env) (fun x s₅=>
              wpAny (model prog w) A (call (.builtin "list.append") [acc,x]) (fun _ s₆=>∃m,m<n∧I m s₆) NoE s₅) NoE s₄
            else ∃m,m<n∧I m s₄) NoE s₃) NoE s₂) NoE s₁) NoE s)
    (n:Nat) (h:I n s):codeAny (model prog w) A (.compLoop (.ListComp elt [⟨target,iter,ifs,0⟩] scope pos) 0 it acc env) R s:=by
  refine codeAny_loop rfl I (fun n s hI=>?_) n h;show wpAny _ A ((compTurn (.ListComp elt [⟨target,iter,ifs,0⟩] scope pos) 0 it acc env).onRaise (fun x=>do noteFrame x env;theTreesLotGoes x)) _ _ s
  refine wpAny_noted ?_;rw[compTurn_list];refine wpAny_bind (wpAny_standAt (wpAny_bind (wpAny_mono (turn n s hI) (fun r s₁ h₁=>?_) fun _ _ h'=>h'.elim)));cases r with
  | none=>exact wpAny_pure h₁
  | some v=>
    refine wpAny_bind (wpAny_mono h₁ (fun _ s₂ h₂=>?_) fun _ _ h'=>h'.elim);refine wpAny_bind (wpAny_mono h₂ (fun _ s₃ h₃=>wpAny_bind (wpAny_mono h₃ (fun ok s₄ h₄=>?_) fun _ _ h'=>h'.elim)) fun _ _ h'=>h'.elim);cases ok with
    | false=>exact wpAny_pure ⟨rfl,h₄⟩
    | true=>
      exact wpAny_bind (wpAny_bind (wpAny_mono h₄ (fun x s₅ h₅=>wpAny_bind (wpAny_mono h₅ (fun _ s₆ h₆=>wpAny_pure (wpAny_pure ⟨rfl,h₆⟩)) fun _ _ h'=>h'.elim)) fun _ _ h'=>h'.elim))
def fJ (X:Cx) (sc:Scope) (N:List Str) (C:Addr) (s:Shared) (H:Hp) (fp:List Addr) (pn:List (Addr×Obj)):Cx:=
  {X with env:=compEnvC sc (FT X.env sc C) C X.env,N:=N,s₀:=s,H₀:=H,outer:=X.stack,ex:=fp,fn:=fun x=>sc.names.any fun p=>p.1 == x && p.2 == .cell,pn:=pn,xe:=NoE}
theorem sE {sc:Scope} {env:Env} (x:Str):(relabel sc env).names.lookup x=(sc.names.lookup x).map fun k=>if (k == NameKind.free && env.scope.kind == .function && env.kindOf x == some .cell)=true then NameKind.cell else k:=by
  unfold relabel;show List.lookup x (sc.names.map _)=_
  induction sc.names with
  | nil=>rfl
  | cons p r ih=>
    obtain⟨n,k⟩:=p;rw[List.map_cons];have e1:(if (k == NameKind.free && env.scope.kind == .function && env.kindOf n == some .cell)=true then (n,NameKind.cell) else (n,k))=(n,if (k == NameKind.free && env.scope.kind == .function && env.kindOf n == some .cell)=true then NameKind.cell else k):=by split <;> rfl
    show List.lookup x ((if (k == NameKind.free && env.scope.kind == .function && env.kindOf n == some .cell)=true then (n,NameKind.cell) else (n,k))::_)=_
    rw[e1]
    by_cases hx:x=n
    ·subst hx;simp only[List.lookup_cons,beq_self_eq_true,Option.map_some]
    · have hb:(x == n)=false:=by simpa using hx
      simp only[List.lookup_cons,hb];exact ih
structure bK (ps sc:Scope) (pN own:List Str) (caps:List Nat) (N:List Str):Prop where
  kind:sc.kind = .function
  uniq:∀p∈sc.names,sc.names.lookup p.1=some p.2
  nd:N.Nodup
  names:N=own++caps.map fun j=>pN.getD j ""
  free:∀p∈sc.names,p.2 = .free→ps.names.lookup p.1=some .cell∨ps.names.lookup p.1=some .free
  qi7:∀j∈caps,j<pN.length∧sc.names.lookup (pN.getD j "")=some .free
def stC (own:List Str) (caps:List Nat) (σ:St):St:=own.map (fun _=>none)++caps.map fun j=>(σ[j]?).getD none
section
variable {X:Cx} {p_:List (Addr×Obj)} {σ:St} {H:Hp} {s:Shared} {ps sc:Scope} {own pN:List Str} {caps:List Nat} {N:List Str} {fp:List Addr}
theorem bK.cells (S:bK ps sc pN own caps N) (hps:X.env.scope=ps) (ok:X.Ok):∀x,(x,NameKind.free)∈sc.names→∃c,X.env.cells.lookup x=some c:=fun x hx=>by
  refine ok.has x ?_;show X.env.scope.names.lookup x=_∨X.env.scope.names.lookup x=_;rw[hps];exact S.free (x,.free) hx rfl
theorem FW (hfr:∀x,(x,NameKind.free)∈sc.names→∃c,X.env.cells.lookup x=some c) {C:Addr} {x:Str} {c:Addr} {h:Heap} (hC:C+1=h.objs.size) (m:(x,c)∈FT X.env sc C):X.env.cells.lookup x=some c∨(h.objs.size≤c∧(pushCells h sc.names).IsCell c none):=by
  unfold FT at m;rw[hC] at m
  rcases RQ sc.names h _ x c m with z | z
  ·exact .inl (yC sc.names [] x c hfr (fun _ _ z=>nomatch z) z)
  ·exact .inr z
theorem U0 (I:Inv X p_ σ H s) (hps:X.env.scope=ps) (S:bK ps sc pN own caps N) (hf:∀b∈fp,vg X p_ H b) (ho:∀b∈fp,∃o,s.heap.get? b=some o∧∀v,o.data≠.cell v) :
    (fJ X sc N s.heap.objs.size s H fp (X.pn++p_)).Ok where
  mod:=I.ok.mod
  kind:=S.kind
  glob:=I.ok.glob
  blt:=I.ok.blt
  above:=Nat.le_refl _
  inj:=fun x y c h1 h2=>by
    have cl:∀y d,(y,d)∈Pq X.env sc.names→X.env.cells.lookup y=some d:=fun y d m=>yC sc.names [] y d (S.cells hps I.ok) (fun _ _ z=>nomatch z) m;refine RW sc.names (s.heap.objs.size+1) (Pq X.env sc.names) (fun y d m=>?_) (fun y z d m1 m2=>I.ok.inj y z d (cl y d m1) (cl z d m2)) x y c (PySem.mem_of_lookup h1) (PySem.mem_of_lookup h2);obtain⟨v,q⟩:=I.cell y d (cl y d m);exact Nat.lt_succ_of_lt q.lt
  has:=fun x hx=>by
    have hx1:(relabel sc X.env).names.lookup x=some .cell∨(relabel sc X.env).names.lookup x=some .free:=hx;have hx':(x,NameKind.cell)∈sc.names∨(x,NameKind.free)∈sc.names:=by
      rw[sE] at hx1;cases e:sc.names.lookup x with
      | none=>rw[e] at hx1;simp at hx1
      | some k=>
        rw[e] at hx1;have hm:=PySem.mem_of_lookup e;cases k with
        | free=>exact .inr hm
        | cell=>exact .inl hm
        | _=>simp at hx1
    have q:((cellsFrom (s.heap.objs.size+1) sc.names (Pq X.env sc.names)).lookup x).isSome=true:=by
      rcases hx' with z | z
      ·exact iH sc.names _ _ (.inl z)
      ·exact iH sc.names _ _ (.inr (Aj sc.names [] (.inl z)))
    exact Option.isSome_iff_exists.mp q
  cab:=fun x c hx h=>by
    have hx':(x,NameKind.cell)∈sc.names:=by
      have hx:(sc.names.any fun p=>p.1 == x && p.2 == .cell)=true:=hx;obtain⟨⟨a,b⟩,hm,he⟩:=List.any_eq_true.mp hx;simp at he;obtain⟨rfl,rfl⟩:=he;exact hm
    exact RV (n0:=s.heap.objs.size) sc.names (s.heap.objs.size+1) (Pq X.env sc.names) c (.inl hx') (Nat.le_succ _) h
  hd:=I.ok.hd
  frames:=I.ok.frames
  stk:=.inl rfl
  exf:=fun b hb=>by
    obtain⟨o,e,_⟩:=ho b hb;refine⟨Nat.ne_of_lt (Heap.lt_size e),fun x c h z=>?_⟩;subst z
    rcases FW (S.cells hps I.ok) (h:=s.heap.push {cls:=.type "dict",data:=.dict #[]}) (by rw[Heap.size_push]) (PySem.mem_of_lookup h) with q | ⟨q,_⟩
    ·exact(hf c hb).2.2.2.2.1 x c q rfl
    ·rw[Heap.size_push] at q;exact absurd (Nat.lt_of_lt_of_le (Nat.lt_of_lt_of_le (Heap.lt_size e) (Nat.le_succ _)) q) (Nat.lt_irrefl _)
  bs:=I.bs
  VR:=Nat.le_trans I.ok.VR I.sz
  O8:=fun b o e hb=>by
    rcases(hf b hb).2.2.2.1 with z | z
    ·exact I.ok.O8 b o e z
    ·exact absurd (Nat.lt_of_lt_of_le (Heap.lt_size e) (Nat.le_trans I.ok.VR z)) (Nat.lt_irrefl _)
  O9:=fun b hb z=>by
    rcases List.mem_cons.mp (I.vP b z) with q | q
    ·exact(hf b hb).2.1 q
    ·exact(hf b hb).2.2.1 q
  rT:=I.stack
  Yw:=I.Ec
def blockAt (sc:Scope) (s:Shared):Shared:={s with heap:=pushCells (s.heap.push {cls:=.type "dict",data:=.dict #[]}) sc.names}
theorem Za (I:Inv X p_ σ H s) (hps:X.env.scope=ps) (hpN:X.N=pN) (S:bK ps sc pN own caps N) (hf:∀b∈fp,vg X p_ H b) (ho:∀b∈fp,∃o,s.heap.get? b=some o∧∀v,o.data≠.cell v) :
    Inv (fJ X sc N s.heap.objs.size s H fp (X.pn++p_)) [] (stC own caps σ) H (blockAt sc s):=by
  have hk:∀b o,s.heap.get? b=some o→(blockAt sc s).heap.get? b=some o:=fun b o e=>pushCells_keeps _ _ b o (Heap.get?_push_of_some _ e);have hns:(blockAt sc s).heap.Ns s.heap.objs.size fun _=>none:=(Heap.Ns.new s.heap (.type "dict")).keeps (pushCells_keeps _ _);have hcl:∀x c,(FT X.env sc s.heap.objs.size).lookup x=some c→X.env.cells.lookup x=some c∨(s.heap.objs.size+1≤c∧(blockAt sc s).heap.IsCell c none):=fun x c e=>by
    rcases FW (S.cells hps I.ok) (h:=s.heap.push {cls:=.type "dict",data:=.dict #[]}) (by rw[Heap.size_push]) (PySem.mem_of_lookup e) with q | ⟨q,r⟩
    ·exact .inl q
    ·rw[Heap.size_push] at q;exact .inr ⟨q,r⟩
  refine⟨U0 I hps S hf ho,rfl,I.bare,Un.kept hk,⟨_,hns,fun i x v e1 e2 e3=>?_⟩,fun x c e=>?_,I.hok.fresh (Nat.le_refl _),fun x c e=>?_,fun p hp=>?_,I.hok.kept hk,?_⟩
  · have e1':N[i]? = some x:=e1;rw[S.names] at e1';unfold stC at e2
    by_cases hi:i<own.length
    · rw[List.getElem?_append_left (by simpa using hi),List.getElem?_map] at e2;cases q:own[i]? with
      | none=>rw[q] at e2;cases e2
      | some y=>rw[q] at e2;cases e2
    · rw[List.getElem?_append_right (by omega),List.getElem?_map] at e1';rw[List.getElem?_append_right (by simp;omega),List.getElem?_map] at e2;simp only[List.length_map] at e2;cases q:caps[i - own.length]? with
      | none=>rw[q] at e2;cases e2
      | some j=>
        rw[q] at e1' e2;have qga:pN.getD j "" = x:=Option.some.inj e1';have e2':(σ[j]?).getD none=some v:=Option.some.inj e2;have hj:σ[j]? = some (some v):=by
          cases z:σ[j]? with
          | none=>rw[z] at e2';cases e2'
          | some o=>rw[z] at e2';exact congrArg some e2'
        obtain⟨hlt,hfree⟩:=S.qi7 j (List.mem_of_getElem? q);rw[qga] at hfree;have hNj:X.N[j]? = some x:=by
          rw[hpN,← qga];simp[List.getD,List.getElem?_eq_getElem hlt]
        have qgb:=S.free (x,.free) (PySem.mem_of_lookup hfree) rfl;have vis:Vis X.env.scope x:=by rw[hps];exact .inr qgb
        obtain⟨m,hn,hl⟩:=I.loc;obtain⟨u,r,l⟩:=hl j x v hNj hj vis;refine⟨u,r,.inr ?_⟩;have hkind:(relabel sc X.env).names.lookup x=some .cell∨(relabel sc X.env).names.lookup x=some .free:=by
          rw[sE,hfree];show some (if _ then _ else _)=_∨some (if _ then _ else _)=_
          split
          ·exact .inl rfl
          ·exact .inr rfl
        refine⟨hkind,?_⟩;have hcell:X.env.kindOf x=some .cell∨X.env.kindOf x=some .free:=by
          show X.env.scope.names.lookup x=_∨X.env.scope.names.lookup x=_;rw[hps];exact qgb
        rcases l with⟨hloc,_⟩ | ⟨_,c,hc,hcv⟩
        ·rcases hcell with z | z <;> (rw[hloc] at z;cases z)
        · have q2:((FT X.env sc s.heap.objs.size).lookup x).isSome=true:=iH sc.names _ _ (.inr (Aj sc.names [] (.inl (PySem.mem_of_lookup hfree))));obtain⟨d,hd⟩:=Option.isSome_iff_exists.mp q2;refine⟨d,hd,?_⟩
          rcases hcl x d hd with z | ⟨z,_⟩
          ·rw[hc] at z;cases z;exact hcv.keeps hk
          ·
            exfalso;have hnc:(x,NameKind.cell)∉sc.names:=fun hm=>by
              have:=S.uniq _ hm;rw[hfree] at this;cases this
            have hmem:=PySem.mem_of_lookup hd;have qi8:∀(names:List (Str×NameKind)) (n:Nat) (acc:List (Str×Addr)),(x,NameKind.cell)∉names→(cellsFrom n names acc).lookup x=acc.lookup x:=by
              intro names
              induction names with
              | nil=>intro _ _ _;rfl
              | cons p r ih=>
                intro n acc hm;obtain⟨y,k⟩:=p;unfold cellsFrom;split
                · rename_i hkk;have hkk':k = .cell:=by simpa using hkk
                  subst hkk';rw[ih _ _ fun z=>hm (List.mem_cons_of_mem _ z)];have hxy:(x == y)=false:=by
                    cases hb:x == y with
                    | false=>rfl
                    | true=>exact absurd (by rw[beq_iff_eq.mp hb];exact List.mem_cons_self) hm
                  simp only[List.lookup_cons,hxy]
                ·exact ih _ _ fun z=>hm (List.mem_cons_of_mem _ z)
            have e5:(Pq X.env sc.names).lookup x=some d:=(qi8 sc.names _ _ hnc).symm.trans hd;have e6:=yC sc.names [] x d (S.cells hps I.ok) (fun _ _ z=>nomatch z) (PySem.mem_of_lookup e5);rw[hc] at e6;cases e6;exact absurd (Nat.lt_of_lt_of_le (Nat.lt_of_lt_of_le hcv.lt (Nat.le_succ _)) z) (Nat.lt_irrefl _)
  · rcases hcl x c e with z | ⟨_,z⟩
    ·obtain⟨v,q⟩:=I.cell x c z;exact⟨v,q.keeps hk⟩
    ·exact⟨_,z⟩
  · rcases hcl x c e with z | ⟨z,_⟩
    ·exact I.iw x c z
    ·exact I.hok.fresh (by omega)
  · rw[List.append_nil] at hp;obtain⟨e,n,ne,nf,d⟩:=I.pin p hp;refine⟨hk _ _ e,n,Nat.ne_of_lt (Heap.lt_size e),fun z=>?_,d⟩
    rcases List.mem_cons.mp (I.vP p.1 z) with q | q
    ·exact ne q
    ·exact nf q
  ·show(stC own caps σ).length=N.length;rw[S.names];simp[stC]
theorem Wm (I:Inv X p_ σ H s) (hf:∀b∈fp,vg X p_ H b) {C:Addr} {pn:List (Addr×Obj)} {CW:List (Addr×Obj)} {σ':St} {H':Hp} {s':Shared} (I':Inv (fJ X sc N C s H fp pn) CW σ' H' s'):Inv X p_ σ H' s':=
  I.call' (ch:=fp) I'.os I'.base I'.hok I'.bare fun b hb=>⟨(hf b hb).2.2.2.1,(hf b hb).2.1,(hf b hb).2.2.2.2.1,(hf b hb).2.2.2.2.2⟩
end
def PTs (X:Cx) (ifs:List Expr) (t:TT):Prop:=
  ∀(p_:List (Addr×Obj)) (s:Shared) (σ:St) (H:Hp) (Q:Bool→Hp→Prop),Inv X p_ σ H s→t σ H Q→
    wpAny (model X.prog X.w) X.A (forIn ifs true fun c r=>if r=true then do let ok ← isTrue c X.env (eval c X.env);pure (ForInStep.yield ok) else pure (ForInStep.yield r)) (TP X p_ σ Q) X.xe s
def qgc:TT:=fun _ H Q=>Q true H
theorem jP {X:Cx}:PTs X [] qgc:=fun _ _ _ H _ I h=>wpAny_tests_nil ⟨H,I,h⟩
theorem yD {X:Cx} {c:Expr} {t:TT} (h:PT X c t):PTs X [c] t:=fun p_ s σ H Q I hw=>wpAny_tests_one (h p_ s σ H Q I hw)
def lW (own:List Str) (caps:List Nat) (J:It) (g:TG) (tt:TT) (te:TE) (D:Addr) (σ:St) (H:Hp) (Q:Hp→Prop):Prop:=
  ∃o_:Nat→Nat→St→Hp→Prop,(∃m,o_ 0 m (stC own caps σ) H)∧∀i m σ' H',o_ i m σ' H'→
    (J.stop i H'∧Q H')∨(J.go i H'∧∃N:St→Hp→Prop,(∀σ2 H2,N σ2 H2→∃m',m'<m∧o_ (i+1) m' σ2 H2)∧∀x H2,J.yld i H' x H2→g x σ' H2 fun σ2 H3=>tt σ2 H3 fun b H4=>
      if b=true then te σ2 H4 fun y H5=>∃ys,H5 D=some (.lst ys)∧ys.length<sizeLine∧N σ2 (upd H5 D (.lst (ys++[y]))) else N σ2 H4)
def Zb (own:List Str) (caps:List Nat) (wi:TI) (g:TG) (tt:TT) (te:TE):TE:=fun σ H Q=>wi σ H fun J H1=>∀D,H1 D=none→lW own caps J g tt te D σ (upd H1 D (.lst [])) (Q (.ref D))
theorem Ma {M:Model} {A:Around} {E:Value→Shared→Prop} {s:Shared} {sc:Scope} {g:Addr} {cl:List (Str×Addr)} {qual:Str} {env:Env} {Q:Env→Shared→Prop}
    (h:Q (newEnv sc s.heap.objs.size g (cellsFrom (s.heap.objs.size+1) sc.names cl) qual none .none (some env) builtinsNs) (blockAt sc s)):wpAny M A (newFunctionEnv sc g cl [] qual none .none (some env)) Q E s:=by
  simp only[newFunctionEnv,Option.isSome_some,if_true];refine wpAny_bind (wpAny_alloc ?_);refine wpAny_bind (wpAny_layCells _ (fun name kind cells=>by cases hkc:kind == NameKind.cell <;> simp[hkc]) _ _ _ _ ?_);rw[show({s with heap:=s.heap.push {cls:=.type "dict",data:=.dict #[]}}:Shared).heap.objs.size=s.heap.objs.size+1 from Heap.size_push ..];rw[List.forIn_nil];exact wpAny_bind (wpAny_pure (wpAny_pure h))
def Pu (X:Cx) (p_:List (Addr×Obj)) (σ:St) (Q:Hp→Prop) (C:Addr) (r:Result) (s':Shared):Prop:=
  ∃H',r = .ok .next∧Inv X p_ σ H' s'∧(∃m,s'.heap.Ns C m)∧vg X p_ H' C∧Q H'
section
variable {X:Cx} {ps sc:Scope} {own pN:List Str} {caps:List Nat} {N:List Str}
theorem FZ {p_:List (Addr×Obj)} {σ:St} {H:Hp} {s:Shared} {E:Value→Shared→Prop} {elt tg iter:Expr} {ifs:List Expr} {pos:Pos} {J:It} {fp:List Addr} {it D:Addr} {tn:Nat→Heap→Prop} {g:TG} {tt:TT} {te:TE} {Q:Hp→Prop}
    (I:Inv X p_ σ H s) (hps:X.env.scope=ps) (hpN:X.N=pN) (S:bK ps sc pN own caps N) (T:Turn X.prog X.w X.K tg J fp it tn) (st:tn 0 s.heap) (hf:∀b∈fp,vg X p_ H b) (hc:X.calm=true)
    (hg:∀C s H fp pn,PG (fJ X sc N C s H fp pn) tg g) (ht:∀C s H fp pn,PTs (fJ X sc N C s H fp pn) ifs tt) (he:∀C s H fp pn,PE (fJ X sc N C s H fp pn) elt te)
    (h:lW own caps J g tt te D σ H Q) :
    wpAny (model X.prog X.w) X.A (newFunctionEnv sc X.env.globals (Pq X.env sc.names) [] X.env.qual none .none (some X.env)) (fun cenv s4=>
      codeAny (model X.prog X.w) X.A (.compStart (.ListComp elt [⟨tg,iter,ifs,0⟩] sc pos) 0 (.ref it) (.ref D) {cenv with scope:=relabel sc X.env}) (Pu X p_ σ Q cenv.locals) s4) E s:=by
  obtain⟨o_,⟨m0,w0⟩,turn⟩:=h;refine Ma ?_;have ho:=T.obj 0 _ st;have I0:=Za I hps hpN S hf ho;have ok':=U0 I hps S hf ho;have hk:∀b o,s.heap.get? b=some o→(blockAt sc s).heap.get? b=some o:=fun b o e=>pushCells_keeps _ _ b o (Heap.get?_push_of_some _ e);have st0:tn 0 (blockAt sc s).heap:=T.keep 0 _ _ st fun b _ o e=>hk b o e;have stat:∀{H':Hp},(∀b∈fp,H' b=none)→∀b∈fp,vg (fJ X sc N s.heap.objs.size s H fp (X.pn++p_)) [] H' b:=fun hn b hb=>
    ⟨hn b hb,(ok'.exf b hb).1,ok'.O9 b hb,.inl hb,(ok'.exf b hb).2,fun p hp=>(hf b hb).2.2.2.2.2 p (by rw[List.append_nil] at hp;exact hp)⟩
  have loop:codeAny (model X.prog X.w) X.A (.compLoop (.ListComp elt [⟨tg,iter,ifs,0⟩] sc pos) 0 (.ref it) (.ref D) (fJ X sc N s.heap.objs.size s H fp (X.pn++p_)).env) (Pu X p_ σ Q s.heap.objs.size) (blockAt sc s):=by
    refine Pr (fun n s'=>∃i σ' H',Inv (fJ X sc N s.heap.objs.size s H fp (X.pn++p_)) [] σ' H' s'∧tn i s'.heap∧(∀b∈fp,H' b=none)∧o_ i n σ' H') ?_ m0 ⟨0,_,H,I0,st0,fun b hb=>(hf b hb).1,w0⟩;rintro n s3 ⟨i,σ3,H3,I3,st3,fr3,w3⟩
    rcases turn i n σ3 H3 w3 with⟨stop,qn⟩ | ⟨go,N',hN,step⟩
    ·refine cR (T.done (fJ X sc N s.heap.objs.size s H fp (X.pn++p_)) rfl rfl rfl hc i [] s3 σ3 H3 NoE I3 (stat fr3) st3 stop) fun r s4 zz=>?_;obtain⟨hr,I4⟩:=zz;subst hr;obtain⟨m,hn,_⟩:=I4.loc;exact⟨H3,rfl,Wm I hf I4,⟨m,hn⟩,I.FN (Nat.le_refl _) I4.free,qn⟩
    · refine cR (T.item (fJ X sc N s.heap.objs.size s H fp (X.pn++p_)) rfl rfl rfl hc i [] s3 σ3 H3 NoE I3 (stat fr3) st3 go) fun r s4 zz=>?_;obtain⟨u,hr,h4⟩:=zz;subst hr;refine cR h4 fun _ s5 zz=>?_;obtain⟨x,H5,I5,r5,y5,st5,fr5⟩:=zz;have I5':=I5.pinned (stat fr5) (T.obj _ _ st5);refine cR (hg _ _ _ _ _ _ s5 σ3 H5 x u _ I5' r5 (step x H5 y5)) fun _ s6 zz=>?_;obtain⟨σ6,H6,I6,q6⟩:=zz;refine cR (ht _ _ _ _ _ _ s6 σ6 H6 _ I6 q6) fun b s7 zz=>?_;obtain⟨H7,I7,q7⟩:=zz;have again:∀{σ8:St} {H8:Hp} {s8:Shared},Inv (fJ X sc N s.heap.objs.size s H fp (X.pn++p_)) ([]++FQ fp s5.heap) σ8 H8 s8→N' σ8 H8→
          ∃m,m<n∧∃i σ' H',Inv (fJ X sc N s.heap.objs.size s H fp (X.pn++p_)) [] σ' H' s8∧tn i s8.heap∧(∀b∈fp,H' b=none)∧o_ i m σ' H':=fun {σ8 H8 s8} I8 n8=>by
        obtain⟨m',hm,w8⟩:=hN σ8 H8 n8;refine⟨m',hm,i+1,σ8,H8,I8.yr,T.keep _ _ _ st5 fun b hb o e=>(I8.pin (b,o) (List.mem_append_right _ (List.mem_append_right _ (ql hb e)))).1,fun b hb=>?_,w8⟩;obtain⟨o,e,d⟩:=T.obj _ _ st5 b hb;exact(I8.pin (b,o) (List.mem_append_right _ (List.mem_append_right _ (ql hb e)))).2.1
      cases b with
      | false=>
        rw[if_neg Bool.false_ne_true] at q7 ⊢;exact again I7 q7
      | true=>
        rw[if_pos rfl] at q7 ⊢;refine cR (he _ _ _ _ _ _ s7 σ6 H7 _ I7 q7) fun v s8 zz=>?_;obtain⟨y,H8,I8,r8,ys,hD,hz,n8⟩:=zz;refine cR (Kc (X:=fJ X sc N s.heap.objs.size s H fp (X.pn++p_)) _ s8 σ6 H8 (.ref D) [y] (.ref D) [v] (fun _ H9=>N' σ6 H9) I8 rfl (.cons r8 .nil) ⟨D,ys,y,rfl,rfl,hD,hz,n8⟩) fun _ s9 zz=>?_;obtain⟨_,H9,I9,_,n9⟩:=zz;exact again I9 n9
  exact codeAny_compStart_list loop (T.self X.A 0 _ _ _ st0 loop)
variable {elt tg iter:Expr} {ifs:List Expr} {pos:Pos} {wi:TI} {g:TG} {tt:TT} {te:TE}
theorem bK.locs (S:bK ps sc pN own caps N):∀x∈sc.names,x.2 = .local→sc.names.lookup x.1=some .local:=fun x hx e=>by rw[← e];exact S.uniq x hx
theorem jm (hps:X.env.scope=ps) (hpN:X.N=pN) (S:bK ps sc pN own caps N) (hc:X.calm=true) (hi:PI X tg iter wi)
    (hg:∀C s H fp pn,PG (fJ X sc N C s H fp pn) tg g) (ht:∀C s H fp pn,PTs (fJ X sc N C s H fp pn) ifs tt) (he:∀C s H fp pn,PE (fJ X sc N C s H fp pn) elt te)
    (hs:∀x,foldedSetIterable iter X.env x=pure x:=by intro _;rfl):PE X (.ListComp elt [⟨tg,iter,ifs,0⟩] sc pos) (Zb own caps wi g tt te):=by
  intro p_ s σ H Q I h;rw[eval_ListComp];refine wpAny_comprehension_free (use:=none) rfl hs (rG (S.cells hps I.ok)) S.kind S.locs (cR (hi p_ s σ H _ I h) fun v s1 h1=>cR h1 fun itv s2 h2=>?_);obtain⟨it,fp,tn,J,H2,e,I2,T,st2,f2,q⟩:=h2;subst e;have fr:H2 s2.heap.objs.size=none:=I2.fresh;refine wpAny_newObj_type ?_;have I3:Inv X p_ σ (upd H2 s2.heap.objs.size (.lst [])) {s2 with heap:=s2.heap.push {cls:=.type "list",data:=.seq ([]:List Value).toArray},toks:=s2.toks}:=I2.qet (its:=[]) (ys:=[]) .nil (Nat.zero_le _);have f3:∀b∈fp,vg X p_ (upd H2 s2.heap.objs.size (.lst [])) b:=fun b hb=>by
    obtain⟨o,e,_⟩:=T.obj 0 _ st2 b hb;exact⟨by rw[aB (Nat.ne_of_lt (Heap.lt_size e))];exact(f2 b hb).1,(f2 b hb).2⟩
  refine cR (FZ (iter:=iter) (pos:=pos) I3 hps hpN S T (T.keep 0 _ _ st2 fun b _ o e=>Heap.get?_push_of_some _ e) f3 hc hg ht he (q _ fr)) fun cenv s4 h4=>?_;refine codeAny_mono h4 fun r s5 ⟨H5,hr,I5,⟨m,hn⟩,f5,q5⟩=>?_;subst hr;refine⟨m,hn,fun h' hs'=>?_⟩;have I6:Inv X p_ σ H5 {s5 with heap:=h',toks:=s5.toks}:=I5.turned (it:=cenv.locals) (fun b o hb e=>(hs'.2 b hb).trans e) f5.1 f5.2.1 f5.2.2.2.1 f5.2.2.2.2.1 f5.2.2.2.2.2;exact⟨.ref s2.heap.objs.size,H5,I6,rfl,q5⟩
theorem qm {i:Nat} {y:Str} {py spos:Pos} (hN:X.N.Nodup) (hy:X.N[i]? = some y) (hl:X.env.scope.names.lookup y=some .local) (hps:X.env.scope=ps) (hpN:X.N=pN) (S:bK ps sc pN own caps N) (hc:X.calm=true) (hi:PI X tg iter wi)
    (hg:∀C s H fp pn,PG (fJ X sc N C s H fp pn) tg g) (ht:∀C s H fp pn,PTs (fJ X sc N C s H fp pn) ifs tt) (he:∀C s H fp pn,PE (fJ X sc N C s H fp pn) elt te)
    (hsw:swapsWith (.ListComp elt [⟨tg,iter,ifs,0⟩] sc pos) (some (.Name y py)) spos.line X.env=pure true:=by rfl)
    (hs:∀x,foldedSetIterable iter X.env x=pure x:=by intro _;rfl):PS X (.Assign [.Name y py] (.ListComp elt [⟨tg,iter,ifs,0⟩] sc pos) spos) (V3 (Zb own caps wi g tt te) (JZ i)):=by
  intro p_ s σ H D0 I h;rw[exec_Assign_Name_used _ _ _ _ hsw];refine wpAny_bind (wpAny_standAt (wpAny_bind ?_));show wpAny _ X.A (do let _ ← comprehension (.ListComp elt [⟨tg,iter,ifs,0⟩] sc pos) sc X.env _ (newList []) false (eval iter X.env) (some (assign (.Name y py) X.env))) _ _ s
  refine wpAny_bind (wpAny_mono (wpAny_comprehension_free (use:=some (assign (.Name y py) X.env)) (Q:=fun _ s'=>SP X p_ D0 .next s') rfl hs (rG (S.cells hps I.ok)) S.kind S.locs
    (cR (hi p_ s σ H _ I h) fun v s1 h1=>cR h1 fun itv s2 h2=>?_)) (fun _ s' hq=>wpAny_pure (wpAny_pure hq)) fun _ _ e=>e)
  obtain⟨it,fp,tn,J,H2,e,I2,T,st2,f2,q⟩:=h2;subst e;have fr:H2 s2.heap.objs.size=none:=I2.fresh;refine wpAny_newObj_type ?_;have I3:Inv X p_ σ (upd H2 s2.heap.objs.size (.lst [])) {s2 with heap:=s2.heap.push {cls:=.type "list",data:=.seq ([]:List Value).toArray},toks:=s2.toks}:=I2.qet (its:=[]) (ys:=[]) .nil (Nat.zero_le _);have f3:∀b∈fp,vg X p_ (upd H2 s2.heap.objs.size (.lst [])) b:=fun b hb=>by
    obtain⟨o,e,_⟩:=T.obj 0 _ st2 b hb;exact⟨by rw[aB (Nat.ne_of_lt (Heap.lt_size e))];exact(f2 b hb).1,(f2 b hb).2⟩
  refine cR (FZ (iter:=iter) (pos:=pos) I3 hps hpN S T (T.keep 0 _ _ st2 fun b _ o e=>Heap.get?_push_of_some _ e) f3 hc hg ht he (q _ fr)) fun cenv s4 h4=>?_;refine codeAny_mono h4 fun r s5 ⟨H5,hr,I5,⟨m,hn⟩,f5,q5⟩=>?_;subst hr;show wpAny _ X.A (assign (.Name y py) X.env (.ref s2.heap.objs.size)) _ _ _;refine wpAny_assign_Name (uy I5 hN hy (.inl hl) (v:=.ref s2.heap.objs.size) rfl (fun s6 I6 hsb=>?_) (.inr hl));obtain⟨a,sb,ha⟩:=hsb;have hne:cenv.locals≠a:=by
    rcases ha with z | z
    ·rw[z];exact f5.2.1
    ·exact fun e=>f5.2.2.2.2.1 y a z e.symm
  refine⟨m,hn.sameBut sb hne,fun h' hs'=>?_⟩;have I7:Inv X p_ (σ.set i (some (.ref s2.heap.objs.size))) H5 {s6 with heap:=h',toks:=s6.toks}:=I6.turned (it:=cenv.locals) (fun b o hb e=>(hs'.2 b hb).trans e) f5.1 f5.2.1 f5.2.2.2.1 f5.2.2.2.2.1 f5.2.2.2.2.2;exact⟨_,H5,I7,q5⟩
end
section
variable {X:Cx} {p_:List (Addr×Obj)} {σ:St} {H:Hp} {s:Shared} {h':Heap}
theorem Inv.qp {t':Nat} {ch:List Addr} (I:Inv X p_ σ H s) (k:∀b o,b∉ch→s.heap.get? b=some o→h'.get? b=some o) (hf:∀b∈ch,vg X p_ H b):Inv X p_ σ H {s with heap:=h',toks:=t'}:=by
  refine I.step (g':=s.gens) (d':=s.drawn) (ch:=ch) (fun b hb=>⟨(hf b hb).2.2.2.1,(hf b hb).2.1,(hf b hb).2.2.2.2.1,(hf b hb).2.2.2.2.2⟩) (fun b o _ _ hc e _=>k b o hc e) (fun b o _ _ hc e _=>⟨o.slots,k b o hc e⟩) (fun _ _ _ _ n=>n)
    (fun b o hc e=>⟨o,k b o hc e⟩) (fun _ _ e=>e) (fun _ _ _ e=>e) (fun b ps e=>⟨#[],by rw[e];simp⟩) (fun m hm=>?_) (fun b u e=>?_) I.bare
  ·obtain⟨o,es,ep,ho,r⟩:=hm;exact⟨o,es,ep,k _ o (fun z=>(hf _ z).2.1 rfl) ho,r⟩
  · refine(I.hok b u e).stay (fun c v hc q=>k c v (fun z=>?_) q) (fun _ q=>q) fun _ _ q=>q;have hn:=(hf c z).1
    rcases hc with y | y
    ·rw[y,e] at hn;cases hn
    ·rw[y] at hn;cases hn
end
def Its (x:Str):It:=⟨fun i _=>i<x.cps.size,fun i H v H'=>H'=H∧∃c,x.cps[i]? = some c∧v = .str ⟨#[c]⟩,fun i _=>x.cps.size≤i⟩
theorem Zc {P:Program} {w:World} {K:W.Frag} {tg:Expr} (x:Str) (t:Tok) (it:Addr):Turn P w K tg (Its x) [it] it (fun i h=>h.IsStrIter it (strIterType x) x t i) where
  mem:=by simp
  obj:=fun i h st b hb=>by
    have e:b=it:=by simpa using hb
    subst e;obtain⟨o,e,c,d⟩:=st;exact⟨o,e,fun v z=>by rw[d] at z;cases z⟩
  keep:=fun i h h' st k=>by
    obtain⟨o,e,c,d⟩:=st;exact⟨o,k it (by simp) o e,c,d⟩
  item:=by
    intro X hP hw hK hc i p_ s σ H E I hf st hg;subst hP hw hK;obtain⟨f0,f1,f2,f3,f4,f5⟩:=hf it (by simp);have hx:x.cps[i]? = some (x.cps[i]'hg):=Array.getElem?_eq_getElem hg;have fin:∀h',h'.IsStrIter it (strIterType x) x t (i+1)→Heap.SameBut it s.heap h'→∃u,(some (Value.str ⟨#[x.cps[i]'hg]⟩ s.toks))=some u∧
        wpAny (model X.prog X.w) X.A (letOwnedTupleGo tg (.ref it) u) (fun _ s2=>∃y H',Inv X p_ σ H' s2∧RelV y u∧(Its x).yld i H y H'∧s2.heap.IsStrIter it (strIterType x) x t (i+1)∧∀b∈[it],H' b=none) E {s with heap:=h',toks:=s.toks+1}:=fun h' st' sb=>by
      have I1:Inv X p_ σ H {s with heap:=h',toks:=s.toks+1}:=I.turned (fun b o hb e=>(sb.2 b hb).trans e) f0 f1 f3 f4 f5;refine⟨_,rfl,?_⟩;have res:∃y H',Inv X p_ σ H' {s with heap:=h',toks:=s.toks+1}∧RelV y (Value.str ⟨#[x.cps[i]'hg]⟩ s.toks)∧(Its x).yld i H y H'∧h'.IsStrIter it (strIterType x) x t (i+1)∧∀b∈[it],H' b=none:=
        ⟨.str ⟨#[x.cps[i]'hg]⟩,H,I1,⟨_,rfl⟩,⟨rfl,_,hx,rfl⟩,st',fun b hb=>(hf b hb).1⟩
      unfold letOwnedTupleGo;cases tg <;> exact wpAny_pure res
    by_cases ha:x.cps.all (· < 128)=true
    · have ey:strIterType x = "str_ascii_iterator" :=by unfold strIterType;rw[if_pos ha]
      rw[ey] at st;exact wpAny_pyNext_ascii_item st hx fun h' st' sb=>fin h' (by rw[ey];exact st') sb
    · have ey:strIterType x = "str_iterator" :=by unfold strIterType;rw[if_neg ha]
      rw[ey] at st;exact wpAny_pyNext_wide_item st hx fun h' st' sb=>fin h' (by rw[ey];exact st') sb
  done:=by
    intro X hP hw hK hc i p_ s σ H E I hf st hg;subst hP hw hK;obtain⟨f0,f1,f2,f3,f4,f5⟩:=hf it (by simp);have hx:x.cps[i]? = none:=Array.getElem?_eq_none hg
    by_cases ha:x.cps.all (· < 128)=true
    · have ey:strIterType x = "str_ascii_iterator" :=by unfold strIterType;rw[if_pos ha]
      rw[ey] at st;exact wpAny_pyNext_ascii_end (I.ok.hd hc) st hx fun h' eb=>⟨rfl,I.turned (t':=s.toks) (fun b o hb e=>eb b o hb e) f0 f1 f3 f4 f5⟩
    · have ey:strIterType x = "str_iterator" :=by unfold strIterType;rw[if_neg ha]
      rw[ey] at st;exact wpAny_pyNext_wide_end (I.ok.hd hc) st hx fun h' eb=>⟨rfl,I.turned (t':=s.toks) (fun b o hb e=>eb b o hb e) f0 f1 f3 f4 f5⟩
  self:=fun A i s Q E st h=>by
    by_cases ha:x.cps.all (· < 128)=true
    · have ey:strIterType x = "str_ascii_iterator" :=by unfold strIterType;rw[if_pos ha]
      rw[ey] at st;exact wpAny_pyIter_striter_ascii st h
    · have ey:strIterType x = "str_iterator" :=by unfold strIterType;rw[if_neg ha]
      rw[ey] at st;exact wpAny_pyIter_striter_wide st h
section
variable {X:Cx} {tg:Expr}
def qev (tl:TE):TI:=fun σ H R=>tl σ H fun x H1=>∃z,x = .str z∧R (Its z) H1
theorem qew {l:Expr} {tl:TE} (hl:PE X l tl):PI X tg l (qev tl):=by
  intro p_ s σ H R I h;refine cR (hl p_ s σ H _ I h) fun v s1 zz=>?_;obtain⟨x,H1,I1,r1,q1⟩:=zz;obtain⟨z,e,q⟩:=q1;subst e;obtain⟨t,rfl⟩:=r1;refine wpAny_pyIter_strU ?_;refine⟨s1.heap.objs.size,[s1.heap.objs.size],_,_,H1,rfl,I1.kept (t':=s1.toks) fun b o e=>Heap.get?_push_of_some _ e,Zc z t _,⟨_,Heap.get?_push_size _ rfl,rfl,rfl⟩,fun b hb=>?_,q⟩;have e:b=s1.heap.objs.size:=by simpa using hb
  subst e;exact I1.FN (Nat.le_refl _) (I1.hok.fresh (Nat.le_refl _))
end
def Itz (K:W.Frag) (a b:Addr):It:=
  ⟨fun i H=>∃xs ys x y,bU K H a xs∧bU K H b ys∧xs[i]? = some x∧ys[i]? = some y,
   fun i H v H'=>∃t x y,v = .ref t∧H t=none∧H'=upd H t (.tup [x,y])∧(∀xs,bU K H a xs→xs[i]? = some x)∧∀ys,bU K H b ys→ys[i]? = some y,
   fun i H=>∃xs ys,bU K H a xs∧bU K H b ys∧(xs.length≤i∨ys.length≤i)⟩
structure qgd (z TI TO i1 i2 a b:Addr) (i:Nat) (h:Heap):Prop where
  hz:IsZip h z TI TO .none
  hI:IsPair h TI (.ref i1) (.ref i2)
  hO:∃p q,IsPair h TO p q
  h1:h.IsListIter i1 a i
  h2:h.IsListIter i2 b i
theorem dB {h:Heap} {a b:Addr} {o u:Obj} {T U:String} (ha:h.get? a=some o) (hb:h.get? b=some u) (ca:o.cls = .type T) (cb:u.cls = .type U) (hne:T≠U):a≠b:=fun e=>by
  subst e;rw[ha] at hb;cases hb;rw[ca] at cb;injection cb with e2;exact hne e2
theorem Zd {P:Program} {w:World} {K:W.Frag} {es:List Expr} {k:Nat} {pos:Pos} {z TI TO i1 i2 a b:Addr} (n12:i1≠i2) (nT:TI≠TO) :
    Turn P w K (.Tuple es k pos) (Itz K a b) [z,TI,TO,i1,i2] z (qgd z TI TO i1 i2 a b) where
  mem:=by simp
  obj:=fun i h st c hc=>by
    simp only[List.mem_cons,List.not_mem_nil,or_false] at hc
    rcases hc with rfl | rfl | rfl | rfl | rfl
    ·exact⟨_,st.hz,fun v e=>nomatch e⟩
    ·exact⟨_,st.hI,fun v e=>nomatch e⟩
    ·obtain⟨p,q,e⟩:=st.hO;exact⟨_,e,fun v e=>nomatch e⟩
    ·obtain⟨o,e,_,d⟩:=st.h1;exact⟨o,e,fun v y=>by rw[d] at y;cases y⟩
    ·obtain⟨o,e,_,d⟩:=st.h2;exact⟨o,e,fun v y=>by rw[d] at y;cases y⟩
  keep:=fun i h h' st kk=>by
    obtain⟨p,q,e⟩:=st.hO;exact⟨kk z (by simp) _ st.hz,kk TI (by simp) _ st.hI,⟨p,q,kk TO (by simp) _ e⟩,st.h1.at fun o e=>kk i1 (by simp) o e,st.h2.at fun o e=>kk i2 (by simp) o e⟩
  item:=by
    intro X hP hw hK hc i p_ s σ H E I hf st hg;subst hP hw hK;obtain⟨xs,ys,x,y,qa,qb,hx,hy⟩:=hg;obtain⟨its,rv,pl,hz1⟩:=I.list qa;obtain⟨its',rv',pl',hz2⟩:=I.list qb;obtain⟨u,hu,ru⟩:=rv.get hx;obtain⟨u',hu',ru'⟩:=rv'.get hy;obtain⟨p,q,hTO⟩:=st.hO;obtain⟨oa,ea,ca,_⟩:=id pl.isList;obtain⟨ob,eb,cb,_⟩:=id pl'.isList;obtain⟨o1,e1,c1,_⟩:=id st.h1;obtain⟨o2,e2,c2,_⟩:=id st.h2;have D:ZipApart z TI TO i1 i2 a b:=
      ⟨dB st.hI st.hz rfl rfl (by decide),dB hTO st.hz rfl rfl (by decide),dB e1 st.hz c1 rfl (by decide),dB e2 st.hz c2 rfl (by decide),nT,dB st.hI e1 rfl c1 (by decide),dB st.hI e2 rfl c2 (by decide),
        dB hTO e1 rfl c1 (by decide),dB hTO e2 rfl c2 (by decide),n12,dB ea st.hz ca rfl (by decide),dB ea hTO ca rfl (by decide),dB ea e1 ca c1 (by decide),dB ea e2 ca c2 (by decide),
        dB eb st.hz cb rfl (by decide),dB eb hTO cb rfl (by decide),dB eb e1 cb c1 (by decide),dB eb e2 cb c2 (by decide)⟩
    refine wpAny_pyNext_zip_item D st.hz st.hI hTO st.h1 st.h2 pl.isList pl'.isList (x:=u) (y:=u') (by simpa using hu) (by simpa using hu') fun h' a1 a2 a3 a4 a5 a6 kk=>?_;refine⟨_,rfl,wpAny_letOwnedTupleGo_zip a1 fun h2 b1 sb=>?_⟩;have lt:∀{c o},s.heap.get? c=some o→s.heap.objs.size≠c:=fun e=>Nat.ne_of_gt (Heap.lt_size e);have hn:H s.heap.objs.size=none:=I.hok.fresh (Nat.le_refl _);have kk2:∀c o,c∉[z,TI,TO,i1,i2]→s.heap.get? c=some o→h2.get? c=some o:=fun c o hc e=>by
      simp only[List.mem_cons,List.not_mem_nil,or_false,not_or] at hc;exact(sb.2 c hc.1).trans (kk c o hc.1 hc.2.2.1 hc.2.2.2.1 hc.2.2.2.2 e)
    have I1:Inv X p_ σ H {s with heap:=h2,toks:=s.toks}:=I.qp kk2 hf;have yE:IsPair h2 s.heap.objs.size u u':=sb.extBut _ _ (lt st.hz) a5;have I2:Inv X p_ σ (upd H s.heap.objs.size (.tup [x,y])) {s with heap:=h2,toks:=s.toks}:=by
      have hfr:H s.heap.objs.size=none:=hn;refine⟨I1.ok,I1.os,I1.bare,⟨I1.base.keep,I1.base.slot,fun c o e n hx=>?_,I1.base.there,fun c zs e=>?_,fun c o v e=>?_,fun c qs e=>?_⟩,I1.loc,I1.cell,?_,fun v c e=>?_,fun v hv=>?_,?_,I1.len⟩
      · rw[aB (fun e'=>?_)]
        ·exact I1.base.free c o e n hx
        ·exact absurd (Nat.lt_of_lt_of_le (Heap.lt_size e) I.sz) (by rw[e'];exact Nat.lt_irrefl _)
      ·have e':=I1.base.tups c zs e;rw[aB (aK e' hfr)];exact e'
      ·have e':=I1.base.qg c o v e;rw[aB (aK e' hfr)];exact e'
      ·obtain⟨m,e'⟩:=I1.base.rM c qs e;exact⟨m,by rw[aB (aK e' hfr)];exact e'⟩
      ·rw[aB (Nat.ne_of_lt I.lt)];exact I1.free
      ·obtain⟨w',qc⟩:=I.cell v c e;rw[aB (Nat.ne_of_lt qc.lt)];exact I1.iw v c e
      ·obtain⟨f1,f2,f3⟩:=I1.pin v hv;refine⟨f1,?_,f3⟩;rw[aB (Nat.ne_of_lt (Heap.lt_size (I.pin v hv).1))];exact f2
      · intro c v e
        by_cases hcs:c=s.heap.objs.size
        ·subst hcs;rw[ao] at e;cases e;exact⟨by show 2≤sizeLine;rw[sizeLine_eq];decide,[u,u'],.cons ru (.cons ru' .nil),⟨_,yE,rfl,0,rfl⟩⟩
        · rw[aB hcs] at e;refine(I1.hok c v e).stay (fun _ _ _ qq=>qq) (fun d qd=>?_) fun d zs qd=>?_
          ·rw[aB (aK qd hfr)];exact qd
          ·rw[aB (aK qd hfr)];exact qd
    refine⟨.ref s.heap.objs.size,_,I2,rfl,⟨s.heap.objs.size,x,y,rfl,hn,rfl,fun xs' q'=>by rw[I.yp q' qa];exact hx,fun ys' q'=>by rw[I.yp q' qb];exact hy⟩,?_,fun c hcm=>?_⟩
    ·exact⟨b1,sb.extBut _ _ D.TIz (kk _ _ D.TIz D.TITO D.TIi1 D.TIi2 st.hI),⟨_,_,sb.extBut _ _ D.TOz a2⟩,a3.extBut sb.extBut D.i1z,a4.extBut sb.extBut D.i2z⟩
    · have hne:c≠s.heap.objs.size:=by
        simp only[List.mem_cons,List.not_mem_nil,or_false] at hcm
        rcases hcm with rfl | rfl | rfl | rfl | rfl
        ·exact(lt st.hz).symm
        ·exact(lt st.hI).symm
        ·exact(lt hTO).symm
        ·exact(lt e1).symm
        ·exact(lt e2).symm
      rw[aB hne];exact(hf c hcm).1
  done:=by
    intro X hP hw hK hc i p_ s σ H E I hf st hg;subst hP hw hK;obtain⟨xs,ys,qa,qb,hl⟩:=hg;obtain⟨its,rv,pl,hz1⟩:=I.list qa;obtain⟨its',rv',pl',hz2⟩:=I.list qb;obtain⟨p,q,hTO⟩:=st.hO;obtain⟨oa,ea,ca,_⟩:=id pl.isList;obtain⟨ob,eb,cb,_⟩:=id pl'.isList;obtain⟨o1,e1,c1,_⟩:=id st.h1;obtain⟨o2,e2,c2,_⟩:=id st.h2;have D:ZipApart z TI TO i1 i2 a b:=
      ⟨dB st.hI st.hz rfl rfl (by decide),dB hTO st.hz rfl rfl (by decide),dB e1 st.hz c1 rfl (by decide),dB e2 st.hz c2 rfl (by decide),nT,dB st.hI e1 rfl c1 (by decide),dB st.hI e2 rfl c2 (by decide),
        dB hTO e1 rfl c1 (by decide),dB hTO e2 rfl c2 (by decide),n12,dB ea st.hz ca rfl (by decide),dB ea hTO ca rfl (by decide),dB ea e1 ca c1 (by decide),dB ea e2 ca c2 (by decide),
        dB eb st.hz cb rfl (by decide),dB eb hTO cb rfl (by decide),dB eb e1 cb c1 (by decide),dB eb e2 cb c2 (by decide)⟩
    have l1:=rv.length;have l2:=rv'.length;refine wpAny_pyNext_zip_end (I.ok.hd hc) D st.hz st.hI hTO st.h1 st.h2 pl.isList pl'.isList ?_ fun h' kk=>⟨rfl,I.qp (t':=s.toks) (fun c o hcm e=>?_) hf⟩
    · rcases hl with hl | hl
      ·exact .inl (by simp;omega)
      ·exact .inr (by simp;omega)
    ·simp only[List.mem_cons,List.not_mem_nil,or_false,not_or] at hcm;exact kk c o hcm.1 hcm.2.2.1 hcm.2.2.2.1 hcm.2.2.2.2 e
  self:=fun _ _ _ _ _ st h=>wpAny_pyIter_zip st.hz h
section
variable {X:Cx}
def qbJ (K:W.Frag) (t:TA):TI:=fun σ H R=>t σ H fun vs H1=>∃a b xs ys,vs=[.ref a,.ref b]∧bU K H1 a xs∧bU K H1 b ys∧R (Itz K a b) H1
theorem boot_zip:bootBuiltins "zip" = some (.type "zip"):=by decide+kernel
theorem qex {es:List Expr} {k:Nat} {pos':Pos} {a b:Expr} {ta:TA} {p pos:Pos} (hg:Gl X "zip") (hm:X.mg "zip" = none) (ha:PA X [a,b] ta)
    (hs:starEach [a,b] X.env=[(false,eval a X.env),(false,eval b X.env)]:=by rfl) (hs2:starEach [b] X.env=[(false,eval b X.env)]:=by rfl) :
    PI X (.Tuple es k pos') (.Call (.Name "zip" p) [a,b] [] pos) (qbJ X.K ta):=by
  intro p_ s σ H R I h;refine Call_ (qj I hg hm boot_zip (PyProof.Rows.callWith_type1 (cR (ha pos p_ s σ H _ I h) fun us s1 zz=>?_) (by rw[hs,hs2]) (by rw[hs2];rfl)));obtain⟨vs,H1,I1,r1,q1⟩:=zz;obtain⟨l1,l2,xs,ys,e,qa,qb,q⟩:=q1;subst e;obtain⟨u,v,rfl,r,r'⟩:=r1.two;obtain rfl:u=Value.ref l1:=r;obtain rfl:v=Value.ref l2:=r';obtain⟨its,rv,pl,hz1⟩:=I1.list qa;obtain⟨its',rv',pl',hz2⟩:=I1.list qb;refine call_zip_2 pl.isList pl'.isList fun h' b1 b2 b3 b4 b5 b6 kk=>?_;refine wpAny_pyIter_zip (s:={s1 with heap:=h'}) b1 ?_;have I2:Inv X p_ σ H1 {s1 with heap:=h'}:=I1.kept (t':=s1.toks) kk;refine⟨s1.heap.objs.size+4,[s1.heap.objs.size+4,s1.heap.objs.size+2,s1.heap.objs.size+3,s1.heap.objs.size,s1.heap.objs.size+1],_,_,H1,rfl,I2,Zd (Nat.ne_of_lt (Nat.lt_succ_self _)) (Nat.ne_of_lt (Nat.lt_succ_self (s1.heap.objs.size+2))),⟨b1,b2,⟨_,_,b3⟩,b4,b5⟩,fun c hc=>?_,q⟩;have hle:s1.heap.objs.size≤c:=by
    simp only[List.mem_cons,List.not_mem_nil,or_false] at hc
    rcases hc with rfl | rfl | rfl | rfl | rfl <;> first | exact Nat.le_add_right _ _ | exact Nat.le_refl _
  exact I1.FN hle (I1.hok.fresh hle)
end
section
variable {X:Cx} {p_:List (Addr×Obj)} {σ:St} {H:Hp} {s:Shared}
theorem lG.kit {x:V} {u t:Value} (I:Inv X p_ σ H s) (rx:RelV x u) (ty:lG X.K H x t):∃Φ,W.KitX X.K u t Φ∧Φ s.heap∧u≠.builtin "__main__.__loader__#opaque" :=by
  cases ty with
  | non=>cases (show u=Value.none from rx);exact⟨_,W.kitx_none,True.intro,fun z=>nomatch z⟩
  | bl y=>cases (show u=Value.bool y from rx);exact⟨_,W.kitx_bool,True.intro,fun z=>nomatch z⟩
  | int i=>obtain⟨t,q⟩:=(show ∃t,u=Value.int i t from rx);cases q;exact⟨_,W.kitx_int,True.intro,fun z=>nomatch z⟩
  | str y=>obtain⟨t,q⟩:=(show ∃t,u=Value.str y t from rx);cases q;exact⟨_,W.kitx_str,True.intro,fun z=>nomatch z⟩
  | flt y=>obtain⟨t,q⟩:=(show ∃t,u=Value.float y t from rx);cases q;exact⟨_,W.kitx_float,True.intro,fun z=>nomatch z⟩
  | @lst a xs ea=>
    cases (show u=Value.ref a from rx);obtain⟨_,_,n,_,h1⟩:=(show cj X.prog X.w H s.heap a (.lst xs) from I.hok a _ ea);exact⟨_,W.kitx_list,⟨_,h1,rfl⟩,fun z=>nomatch z⟩
  | @iG a ob xs ea=>
    cases (show u=Value.ref a from rx);obtain⟨_,_,_,n,_,h1⟩:=(show cj X.prog X.w H s.heap a (.iG ob (.lst xs)) from I.hok a _ ea);exact⟨_,W.kitx_list,⟨_,h1,rfl⟩,fun z=>nomatch z⟩
  | @tup a xs ea=>
    cases (show u=Value.ref a from rx);obtain⟨_,_,_,p⟩:=(show cj X.prog X.w H s.heap a (.tup xs) from I.hok a _ ea);obtain⟨o,h1,h2,_⟩:=p;exact⟨_,W.kitx_tuple,⟨o,h1,h2⟩,fun z=>nomatch z⟩
  | @dK a kvs ea=>
    cases (show u=Value.ref a from rx);obtain⟨_,_,vs,_,p⟩:=(show cj X.prog X.w H s.heap a (.dK kvs) from I.hok a _ ea);obtain⟨o,es,ep,h1,h2,_⟩:=p;exact⟨_,W.kitx_dict,⟨o,h1,h2.1⟩,fun z=>nomatch z⟩
  | @dT a kvs ea=>
    cases (show u=Value.ref a from rx);obtain⟨_,_,xs,_,o,es,ep,h1,h2,_⟩:=(show cj X.prog X.w H s.heap a (.dT kvs) from I.hok a _ ea);exact⟨_,W.kitx_dict,⟨o,h1,h2.1⟩,fun z=>nomatch z⟩
  | @ins a C dx fs ea cl ha hn htk hm=>
    cases (show u=Value.ref a from rx);obtain⟨mA,O,_⟩:=yu I.hok ea;obtain⟨od,J,_⟩:=O.look;exact⟨_,W.kitx_own (cl.get _) cl.hd ha hn htk hm,J,fun z=>nomatch z⟩
theorem Wn:cu X (.builtin "isinstance") (fun xs H Q=>∃x n t b,xs=[x,.ty n]∧lG X.K H x t∧W.kitOne X.K t (.type n)=some b∧Q (.bl b) H):=by
  intro p_ s σ H xs us Q I r h;obtain⟨x,n,t,b,rfl,ty,e,q⟩:=h;obtain⟨u,v,rfl,rx,rc⟩:=r.two;obtain rfl:v=Value.type n:=rc;exact Wd I rx ty e fun tk=>⟨.bl b,H,I.tok tk,rfl,q⟩
theorem Wo:cu X (.builtin "isinstance") (fun xs H Q=>∃x p m n t b,xs=[x,.ref p]∧H p=some (.tup [.ty m,.ty n])∧lG X.K H x t∧W.kitAny X.K t [.type m,.type n]=some b∧Q (.bl b) H):=by
  intro p_ s σ H xs us Q I r h;obtain⟨x,p,m,n,t,b,rfl,hp,ty,e,q⟩:=h;obtain⟨u,v,rfl,rx,rc⟩:=r.two;obtain rfl:v=Value.ref p:=rc;obtain⟨Φ,Z,hΦ,hne⟩:=ty.kit I rx;obtain⟨_,its,rv,o,e1,e2,k,e3⟩:=(show cj X.prog X.w H s.heap p (.tup [.ty m,.ty n]) from I.hok p _ hp);obtain⟨u1,u2,rfl,r1,r2⟩:=rv.two;obtain rfl:u1=Value.type m:=r1;obtain rfl:u2=Value.type n:=r2;obtain⟨c,dd,dt,sl⟩:=o;replace e2:c = .type "tuple" :=e2;replace e3:dt = .seq [Value.type m,Value.type n].toArray k:=e3;subst e2 e3;exact W.kia_tup Z I.mZ hΦ e1 e hne fun tk=>⟨.bl b,H,I.tok tk,rfl,q⟩
theorem boot_isinstance:bootBuiltins "isinstance" = some (.builtin "isinstance"):=by decide+kernel
theorem boot_str:bootBuiltins "str" = some (.type "str"):=by decide+kernel
theorem boot_list:bootBuiltins "list" = some (.type "list"):=by decide+kernel
theorem boot_tuple:bootBuiltins "tuple" = some (.type "tuple"):=by decide+kernel
theorem Ak:bootBuiltins "int" = some (.type "int"):=by decide+kernel
theorem Ga:bootBuiltins "bool" = some (.type "bool"):=by decide+kernel
theorem gH:bootBuiltins "dict" = some (.type "dict"):=by decide+kernel
theorem Wq:bootBuiltins "set" = some (.type "set"):=by decide+kernel
end
section
variable {X:Cx} {p_:List (Addr×Obj)} {σ:St} {H:Hp} {s:Shared}
end
section
variable {X:Cx}
def Mf:V→List V→Hp→VK→Prop:=fun x vs H Q=>∃l xs i y,x = .ref l∧vs=[.int i,y]∧H l=some (.lst xs)∧0≤i∧i≤xs.length∧xs.length<sizeLine∧Q .non (upd H l (.lst (xs.take i.toNat++y::xs.drop i.toNat)))
theorem Vals.ins {y:V} {u:Value} (ru:RelV y u):∀{xs:List V} {us:List Value} (i:Nat),Vals xs us→Vals (xs.take i++y::xs.drop i) (us.take i++u::us.drop i):=fun i r=>(r.take i).append (.cons ru (r.drop i))
theorem Wr:MtM X "list.insert" Mf:=by
  intro p_ s σ H x vs v us Q I rx rv h;obtain⟨l,xs,i,y,rfl,rfl,hH,h0,hi,hz,q⟩:=h;cases rx;obtain⟨u1,u,rfl,⟨t,rfl⟩,ru⟩:=rv.two;obtain⟨z,its,n,r,hl,e⟩:=I.Y8 hH;have hn:=vR;have hfit:¬(!Builtin.List.listFitsIndex i)=true:=by
    unfold Builtin.List.listFitsIndex;simp;omega
  refine call_meets F.slot_list_insert ⟨_,e,rfl⟩ F.entry_list_insert (F.args_list_insert_3 _ _ _) (PySem.AutoListH.list_insert_list_int_val_1 l its.toArray n i t u hfit (by rw[List.size_toArray];omega)) ⟨e,?_⟩;refine⟨.non,_,I.qf9 (its':=its.take i.toNat++u::its.drop i.toNat) hH e ?_ (r.ins ru i.toNat) ?_,rfl,q⟩
  · have hm:min i.toNat its.length=i.toNat:=by omega
    simp only[List.size_toArray];rw[if_neg (by omega),hm];apply Array.toList_inj.mp;simp;exact List.take_of_length_le (by simp)
  ·simp;omega
end
section
variable {X:Cx}
def vo:List V→List Bool→Prop
  | [],bs=>bs=[]
  | x::xs,bs=>∃b r,bs=b::r∧x = .bl b∧vo xs r
theorem vo.get:∀{xs:List V} {bs:List Bool} {its:List Value},vo xs bs→Vals xs its→xs.length=bs.length∧∀(i:Nat) (v:Value),its[i]? = some v→v = .bool (bs.getD i false)
  | [],bs,its,h,r=>by
    cases h;cases r;exact⟨rfl,fun i v e=>by simp at e⟩
  | x::xs,bs,its,h,r=>by
    obtain⟨b,br,rfl,rfl,h⟩:=h;cases r with
    | cons r1 r2=>
      obtain⟨h1,h2⟩:=vo.get h r2;refine⟨by simp[h1],fun i v e=>?_⟩;cases i with
      | zero=>
        simp at e;subst e;exact r1
      | succ i=>
        simp at e;simpa using h2 i v e
theorem range_all (bs:List Bool):(List.range bs.length).all (fun i=>bs.getD i false)=bs.all id:=by
  rw[Bool.eq_iff_iff,List.all_eq_true,List.all_eq_true];constructor
  ·intro h b hb;obtain⟨i,hi,rfl⟩:=List.mem_iff_getElem.mp hb;have:=h i (List.mem_range.mpr hi);simpa [List.getD,hi] using this
  ·intro h i hi;have hi':=List.mem_range.mp hi;have:=h bs[i] (List.getElem_mem hi');simpa [List.getD,hi'] using this
theorem Ws (hc:X.calm=true):cu X (.builtin "all") (fun xs H Q=>∃a ys bs,xs=[.ref a]∧H a=some (.lst ys)∧vo ys bs∧Q (.bl (bs.all id)) H):=by
  intro p_ s σ H xs us Q I r h;obtain⟨a,ys,bs,rfl,ha,hb,q⟩:=h;obtain⟨u,rfl,ru⟩:=r.one;obtain rfl:u=Value.ref a:=ru;obtain⟨z,its,n,rv,hl,e⟩:=I.Y8 ha;obtain⟨h1,h2⟩:=hb.get rv;have hL:s.heap.IsList a its.toArray:=⟨_,e,rfl,n,rfl⟩;refine call_all_walk ?_;refine wpAny_pyIter_list hL ?_;have hne:a≠s.heap.objs.size:=Nat.ne_of_lt (Heap.lt_size e);have hL2:(s.heap.push {cls:=.type "list_iterator",data:=.fields #[.ref a,.int 0 0]}).IsList a its.toArray:=⟨_,Heap.get?_push_of_some _ e,rfl,n,rfl⟩;refine⟨s.heap.objs.size,_,_,_,_,_,fun i=>bs.getD i false,rfl,Walks.list (by exact I.ok.hd hc) s.heap.objs.size a hne its.toArray,⟨⟨_,Heap.get?_push_size _ rfl,rfl,rfl⟩,hL2⟩,fun i v s' Q' E' hP hQ=>?_,fun h' tk kk=>?_⟩
  ·obtain rfl:=h2 i v (by simpa using hP);exact wpAny_truthy_bool hQ
  · have e2:(List.range its.toArray.size).all (fun i=>bs.getD i false)=bs.all id:=by
      rw[List.size_toArray,← hl,h1];exact range_all bs
    rw[e2];refine⟨.bl _,H,?_,rfl,q⟩;exact I.kept (h':=h') (t':=tk) fun b o eb=>kk b o (by simp;exact Nat.ne_of_lt (Heap.lt_size eb)) (Heap.get?_push_of_some _ eb)
end
def Mg (l:List Key) (k:Key):Bool:=l.any fun x=>decide (x=k)
theorem Ze {l:List Key} {k:Key}:Mg l k=true↔k∈l:=by
  unfold Mg;rw[List.any_eq_true];constructor
  ·rintro⟨x,hx,e⟩;have e':=of_decide_eq_true e;subst e';exact hx
  ·intro h;exact⟨k,h,decide_eq_true rfl⟩
theorem Zf (l:List Key) (x k:Key):Mg (l++[x]) k=(Mg l k || decide (k=x)):=by
  unfold Mg;rw[List.any_append];simp only[List.any_cons,List.any_nil,Bool.or_false];congr 1;exact decide_eq_decide.mpr ⟨fun e=>e.symm,fun e=>e.symm⟩
def Al (acc:List Key) (k:Key):List Key:=if Mg acc k=true then acc else acc++[k]
def Js (val:Nat→Key) (i:Nat):List Key:=((List.range i).map val).foldl Al []
theorem yF (val:Nat→Key) (i:Nat):Js val (i+1)=Al (Js val i) (val i):=by
  unfold Js;rw[List.range_succ,List.map_append,List.foldl_append];rfl
theorem Zg (val:Nat→Key):∀i,(Js val i).length≤i
  | 0=>Nat.le_refl _
  | i+1=>by
    rw[yF];have ih:=Zg val i;unfold Al;split
    ·omega
    ·rw[List.length_append,List.length_singleton];omega
theorem Zh (val:Nat→Key):∀n,(∀i j,i<n→j<n→val i=val j→i=j)→(Js val n).length=n∧∀k,k∈Js val n→∃i,i<n∧val i=k
  | 0,_=>⟨rfl,fun k h=>by simp[Js] at h⟩
  | n+1,h=>by
    obtain⟨h1,h2⟩:=Zh val n fun i j hi hj=>h i j (by omega) (by omega);have hnot:¬Mg (Js val n) (val n)=true:=fun hm=>by
      obtain⟨i,hi,e⟩:=h2 _ (Ze.mp hm);have:=h i n (by omega) (by omega) e;omega
    rw[yF];unfold Al;rw[if_neg hnot];refine⟨by simp[h1],fun k hk=>?_⟩
    rcases List.mem_append.mp hk with z | z
    ·obtain⟨i,hi,e⟩:=h2 k z;exact⟨i,by omega,e⟩
    ·exact⟨n,by omega,(List.mem_singleton.mp z).symm⟩
theorem qbK {k:Key} {v:Value} (h:rF k v=true):v.scannable=true:=by
  rcases cN h with⟨i,t,rfl,rfl⟩ | ⟨x,t,rfl,rfl⟩ <;> rfl
theorem Px {P:Program} {w:World} {h:Heap} {a:Addr} {S S':Key→Bool} {n n':Nat} (x:h.SetOf (aV P w) a S n) (e:∀k,S k=S' k) (en:n=n'):h.SetOf (aV P w) a S' n':=by
  have:S=S':=funext e;subst this;subst en;exact x
abbrev m6 (P:Program) (w:World) (h:Heap) (a:Addr) (l:List Key):Prop:=h.SetOf (aV P w) a (Mg l) l.length
theorem m6.at {P:Program} {w:World} {h h':Heap} {a:Addr} {l:List Key} (x:m6 P w h a l) (k:∀o,h.get? a=some o→h'.get? a=some o):m6 P w h' a l:=by
  obtain⟨o,es,ep,t,e,r⟩:=x;exact⟨o,es,ep,t,k o e,r⟩
theorem Ke {P:Program} {w:World} {h:Heap} {a:Addr} {led:Bool} (e:h.get? a=some {cls:=.type "set",dict:=none,data:=.set #[] 0 (.fresh 0 0 led)}):m6 P w h a []:=
  ⟨_,#[],0,.fresh 0 0 led,e,⟨rfl,rfl,rfl⟩,rfl,(fun x hx=>by simp at hx),(fun k=>by simp[Mg]),(by unfold scanBound;decide),(by cases led <;> rfl),rfl⟩
section
variable {P:Program} {w:World} {A:Around} {R:Result→Shared→Prop} {I:Addr} {fp wr:List Addr} {n:Nat} {PP:Nat→Value→Prop} {St:Nat→Heap→Prop}
theorem Py (o_:Walks P w A.in1 I fp wr n PP St) (S:Addr) (hSf:S∉fp) (val:Nat→Key) (hval:∀i v,PP i v→rF (val i) v=true) (hb:n+1<scanBound) :
    ∀(k i:Nat) (s:Shared),n - i=k→i≤n→St i s.heap→m6 P w s.heap S (Js val i)→
      (∀h' tk,(∀b o,b≠S→b∉wr→s.heap.get? b=some o→h'.get? b=some o)→m6 P w h' S (Js val n)→R (.ok (.ret .none)) {s with heap:=h',toks:=tk})→
      codeAny (model P w) A (.builtin "set.update.loop" ⟨[.ref S,.ref I],[]⟩) R s:=by
  have hSw:S∉wr:=fun h=>hSf (o_.sub _ h);intro k
  induction k with
  | zero=>
    intro i s hk hi hst hS hR;obtain rfl:i=n:=by omega
    refine codeAny_builtin PyProof.Rows.F.entry_set_update_loop ?_;rw[Around.under_plainId PyProof.Rows.F.plain_set_update_loop _];show wpAny _ A.in1 (pyNext (.ref I) >>= _) _ _ s;refine wpAny_bind (o_.done s _ _ hst fun h' tk hm=>?_);exact wpAny_pure (hR h' tk (fun b o _ hb e=>hm b o hb e) (hS.at fun o e=>hm S o hSw e))
  | succ k ih=>
    intro i s hk hi hst hS hR;have hlt:i<n:=by omega
    refine codeAny_builtin PyProof.Rows.F.entry_set_update_loop ?_;rw[Around.under_plainId PyProof.Rows.F.plain_set_update_loop _];show wpAny _ A.in1 (pyNext (.ref I) >>= _) _ _ s;refine wpAny_bind (o_.item i s _ _ hlt hst fun v h' tk hP hst' hm=>?_);have hkey:(aV P w).is (val i) v=true:=hval i v hP;have hS':m6 P w h' S (Js val i):=hS.at fun o e=>hm S o hSw e;show wpAny _ A.in1 (holding [v] (setAdd S v) >>= _) _ _ _;refine wpAny_bind (wpAny_holding ?_);unfold setAdd;refine wpAny_holding (wpAny_bind ((aV P w).pyHash (k:=val i) hkey ?_));have hroom:(Js val i).length+1<scanBound:=by have:=Zg val i;omega
    refine wpAny_setAddHashed_of (knd:=aV P w) (s:={s with heap:=h',toks:=tk+1}) hkey (qbK (hval i v hP)) hS' hroom fun h2 hsb hS2=>?_;have hSi:m6 P w h2 S (Js val (i+1)):=by
      refine Px hS2 (fun k'=>?_) ?_
      · rw[yF];unfold Al;split
        · rename_i hm1
          by_cases e:k'=val i
          ·rw[e,hm1];rfl
          ·rw[decide_eq_false e,Bool.or_false]
        ·exact(Zf _ _ _).symm
      · rw[yF];unfold Al;split
        ·rfl
        ·rw[List.length_append,List.length_singleton]
    refine wpAny_pure ⟨plainId_quiet PyProof.Rows.F.plain_set_update_loop _,ih (i+1) _ (by omega) hlt (o_.frame _ h' _ hst' fun b hb o e=>?_) hSi fun h3 tk3 hm3 hS3=>?_⟩
    ·exact(hsb.2 b (fun z:b=S=>hSf (by rw[← z];exact hb))).trans e
    ·refine hR h3 tk3 (fun b o hbS hbw e=>hm3 b o hbS hbw ?_) hS3;exact(hsb.2 b hbS).trans (hm b o hbw e)
end
theorem Jt:isSubtype (.type "list") (.type "set")=pure false:=by rw[isSubtype_type];kernel_rfl
theorem Am:isSubtype (.type "list") (.type "frozenset")=pure false:=by rw[isSubtype_type];kernel_rfl
set_option maxHeartbeats 4000000 in
theorem Pz {P:Program} {w:World} {A:Around} {E:Value→Shared→Prop} {s:Shared} {l:Addr} {its:Array Value} {val:Nat→Key} {Q:Value→Shared→Prop}
    (hh:A.handled=none) (hl:s.heap.IsList l its) (hval:∀i v,its[i]? = some v→rF (val i) v=true) (hb:its.size+1<scanBound)
    (h:∀(g:Heap) (tk:Nat),m6 P w g s.heap.objs.size (Js val its.size)→(∀b o,s.heap.get? b=some o→g.get? b=some o)→Q (.ref s.heap.objs.size) {s with heap:=g,toks:=tk}) :
    wpAny (model P w) A (call (.type "set") [.ref l]) Q E s:=by
  obtain⟨c,tl,hmro⟩:=PySem.F.called_set.mro;have q1:=PySem.F.called_set.made;have q2:=PySem.F.called_set.sub;refine wpAny_call (codeAny_of_tree ?_);show wpAny _ _ (callAny (.type "set") _) _ _ s;refine wpAny_pure ⟨Code.quiet_builtin _ (by decide+kernel),codeAny_builtin PySem.F.entry_type_call ?_⟩;rw[Around.under_plain (weight_type_call_type "set" [.ref l] []) rfl];have q3:=PySem.F.called_set.notType;have q4:=PySem.F.called_set.canCreate;have q5:=PySem.F.typeCall_set_1 (.ref l)
  repeat (any_goals (first | assumption | wp_step))
  refine codeAny_mono (code_set_new_1 (.ref l) (E:=E) (Q₁:=fun ob s1=>∃led:Bool,ob = .ref s.heap.objs.size∧s1={s with heap:=s.heap.push {cls:=.type "set",dict:=none,data:=.set #[] 0 (.fresh 0 0 led)}}) fun led=>⟨led,rfl,rfl⟩) fun r s1 hr=>?_;cases r with
  | error e=>exact hr
  | ok fl=>
    cases fl with
    | ret ob=>
      obtain⟨led,rfl,rfl⟩:=hr;have new:(s.heap.push {cls:=.type "set",dict:=none,data:=.set #[] 0 (.fresh 0 0 led)}).get? s.heap.objs.size=some {cls:=.type "set",dict:=none,data:=.set #[] 0 (.fresh 0 0 led)}:=Heap.get?_push_size _ rfl;have ty:Shared.TypeIs {s with heap:=s.heap.push {cls:=.type "set",dict:=none,data:=.set #[] 0 (.fresh 0 0 led)}} (.ref s.heap.objs.size) "set" :=⟨_,new,rfl⟩;have q6:=PySem.F.called_set.init.lookup;have q7:=PySem.F.called_set.init.bind (.ref s.heap.objs.size)
      repeat (any_goals (first | assumption | wp_step))
      refine codeAny_mono (codeAny_call_builtin (R:=wants (fun r s2=>r = .none∧∃g tk,s2={s with heap:=g,toks:=tk}∧m6 P w g s.heap.objs.size (Js val its.size)∧(∀b o,s.heap.get? b=some o→g.get? b=some o)) E)
        PySem.F.called_set.init.plain PySem.F.entry_set_init (check_set_init_1 ty ?_)) fun r2 s2 hr2=>?_
      · obtain⟨ol,ho,hcl,nl,hdl⟩:=hl;obtain⟨oc,od,odt,osl⟩:=ol;simp only at hcl hdl;subst hcl;subst hdl;have ho2:(s.heap.push {cls:=.type "set",dict:=none,data:=.set #[] 0 (.fresh 0 0 led)}).get? l=some {cls:=.type "list",dict:=od,data:=.seq its nl,slots:=osl}:=Heap.get?_push_of_some _ ho;have q8:=Jt;have q9:=Am;have q10:(Value.type "list" == Value.type "dict")=false:=by decide
        have hl1:(s.heap.push {cls:=.type "set",dict:=none,data:=.set #[] 0 (.fresh 0 0 led)}).IsList l its:=⟨_,ho2,rfl,nl,rfl⟩;unfold Builtin.«set.__init__» noKeywords Builtin.Frozenset.updateFrom;generalize hPI:pyIter=PI
        wp_walk
        subst hPI;refine wpAny_pyIter_list hl1 ?_;refine wpAny_bind (wpAny_runValue ?_);have lt1:l<s.heap.objs.size:=Heap.lt_size ho;have hh3:A.in1.in1.in1.handled=none:=by simp[hh]
        have ne1:l≠(s.heap.push {cls:=.type "set",dict:=none,data:=.set #[] 0 (.fresh 0 0 led)}).objs.size:=by
          rw[Heap.size_push];exact Nat.ne_of_lt (Nat.lt_succ_of_lt lt1)
        have nf:s.heap.objs.size∉[(s.heap.push {cls:=.type "set",dict:=none,data:=.set #[] 0 (.fresh 0 0 led)}).objs.size,l]:=by
          rw[Heap.size_push];simp only[List.mem_cons,List.mem_singleton,List.not_mem_nil,or_false,not_or];exact⟨Nat.ne_of_lt (Nat.lt_succ_self _),Nat.ne_of_gt lt1⟩
        refine Py (Walks.list hh3 _ l ne1 its) s.heap.objs.size nf val hval hb (its.size - 0) 0 _ (by omega) (Nat.zero_le _) ⟨⟨_,Heap.get?_push_size _ rfl,rfl,rfl⟩,hl1.push _⟩ ?hS0 ?hR
        case hS0=>
          have hget:((s.heap.push {cls:=.type "set",dict:=none,data:=.set #[] 0 (.fresh 0 0 led)}).push {cls:=.type "list_iterator",data:=.fields #[.ref l,.int 0 0]}).get? s.heap.objs.size
              = some {cls:=.type "set",dict:=none,data:=.set #[] 0 (.fresh 0 0 led)}:=Heap.get?_push_of_some _ new
          exact Ke hget
        case hR=>
          intro g tk hm hS;show wpAny _ _ _ _ _ _;refine wpAny_pure ?_;show wpAny _ _ (ret Value.none) _ _ _;refine wpAny_pure ⟨rfl,g,tk,rfl,hS,fun b o e=>?_⟩;have lb:b<s.heap.objs.size:=Heap.lt_size e;refine hm b o (Nat.ne_of_lt lb) ?_ (Heap.get?_push_of_some _ (Heap.get?_push_of_some _ e));simp only[List.mem_cons,List.not_mem_nil,or_false];rw[Heap.size_push];exact Nat.ne_of_lt (Nat.lt_succ_of_lt lb)
      · cases r2 with
        | error e=>exact hr2
        | ok fl2=>
          cases fl2 with
          | ret r=>
            obtain⟨rfl,g,tk,rfl,hS,hk⟩:=hr2
            repeat (any_goals (first | assumption | wp_step))
            exact h _ _ hS hk
          | _=>exact hr2.elim
    | _=>exact hr.elim
theorem Gb:isSubtype (.type "tuple") (.type "set")=pure false:=by rw[isSubtype_type];kernel_rfl
theorem yG:isSubtype (.type "tuple") (.type "frozenset")=pure false:=by rw[isSubtype_type];kernel_rfl
set_option maxHeartbeats 4000000 in
theorem Mh {P:Program} {w:World} {A:Around} {E:Value→Shared→Prop} {s:Shared} {l:Addr} {its:Array Value} {val:Nat→Key} {Q:Value→Shared→Prop}
    (hh:A.handled=none) (hl:s.heap.IsTuple l its) (hval:∀i v,its[i]? = some v→rF (val i) v=true) (hb:its.size+1<scanBound)
    (h:∀(g:Heap) (tk:Nat),m6 P w g s.heap.objs.size (Js val its.size)→(∀b o,s.heap.get? b=some o→g.get? b=some o)→Q (.ref s.heap.objs.size) {s with heap:=g,toks:=tk}) :
    wpAny (model P w) A (call (.type "set") [.ref l]) Q E s:=by
  obtain⟨c,tl,hmro⟩:=PySem.F.called_set.mro;have q1:=PySem.F.called_set.made;have q2:=PySem.F.called_set.sub;refine wpAny_call (codeAny_of_tree ?_);show wpAny _ _ (callAny (.type "set") _) _ _ s;refine wpAny_pure ⟨Code.quiet_builtin _ (by decide+kernel),codeAny_builtin PySem.F.entry_type_call ?_⟩;rw[Around.under_plain (weight_type_call_type "set" [.ref l] []) rfl];have q3:=PySem.F.called_set.notType;have q4:=PySem.F.called_set.canCreate;have q5:=PySem.F.typeCall_set_1 (.ref l)
  repeat (any_goals (first | assumption | wp_step))
  refine codeAny_mono (code_set_new_1 (.ref l) (E:=E) (Q₁:=fun ob s1=>∃led:Bool,ob = .ref s.heap.objs.size∧s1={s with heap:=s.heap.push {cls:=.type "set",dict:=none,data:=.set #[] 0 (.fresh 0 0 led)}}) fun led=>⟨led,rfl,rfl⟩) fun r s1 hr=>?_;cases r with
  | error e=>exact hr
  | ok fl=>
    cases fl with
    | ret ob=>
      obtain⟨led,rfl,rfl⟩:=hr;have new:(s.heap.push {cls:=.type "set",dict:=none,data:=.set #[] 0 (.fresh 0 0 led)}).get? s.heap.objs.size=some {cls:=.type "set",dict:=none,data:=.set #[] 0 (.fresh 0 0 led)}:=Heap.get?_push_size _ rfl;have ty:Shared.TypeIs {s with heap:=s.heap.push {cls:=.type "set",dict:=none,data:=.set #[] 0 (.fresh 0 0 led)}} (.ref s.heap.objs.size) "set" :=⟨_,new,rfl⟩;have q6:=PySem.F.called_set.init.lookup;have q7:=PySem.F.called_set.init.bind (.ref s.heap.objs.size)
      repeat (any_goals (first | assumption | wp_step))
      refine codeAny_mono (codeAny_call_builtin (R:=wants (fun r s2=>r = .none∧∃g tk,s2={s with heap:=g,toks:=tk}∧m6 P w g s.heap.objs.size (Js val its.size)∧(∀b o,s.heap.get? b=some o→g.get? b=some o)) E)
        PySem.F.called_set.init.plain PySem.F.entry_set_init (check_set_init_1 ty ?_)) fun r2 s2 hr2=>?_
      · obtain⟨ol,ho,hcl,nl,hdl⟩:=hl;obtain⟨oc,od,odt,osl⟩:=ol;simp only at hcl hdl;subst hcl;subst hdl;have ho2:(s.heap.push {cls:=.type "set",dict:=none,data:=.set #[] 0 (.fresh 0 0 led)}).get? l=some {cls:=.type "tuple",dict:=od,data:=.seq its nl,slots:=osl}:=Heap.get?_push_of_some _ ho;have q8:=Gb;have q9:=yG;have q10:(Value.type "tuple" == Value.type "dict")=false:=by decide
        have hl1:(s.heap.push {cls:=.type "set",dict:=none,data:=.set #[] 0 (.fresh 0 0 led)}).IsTuple l its:=⟨_,ho2,rfl,nl,rfl⟩;unfold Builtin.«set.__init__» noKeywords Builtin.Frozenset.updateFrom;generalize hPI:pyIter=PI
        wp_walk
        subst hPI;refine wpAny_pyIter_tuple hl1 ?_;refine wpAny_bind (wpAny_runValue ?_);have lt1:l<s.heap.objs.size:=Heap.lt_size ho;have hh3:A.in1.in1.in1.handled=none:=by simp[hh]
        have ne1:l≠(s.heap.push {cls:=.type "set",dict:=none,data:=.set #[] 0 (.fresh 0 0 led)}).objs.size:=by
          rw[Heap.size_push];exact Nat.ne_of_lt (Nat.lt_succ_of_lt lt1)
        have nf:s.heap.objs.size∉[(s.heap.push {cls:=.type "set",dict:=none,data:=.set #[] 0 (.fresh 0 0 led)}).objs.size,l]:=by
          rw[Heap.size_push];simp only[List.mem_cons,List.mem_singleton,List.not_mem_nil,or_false,not_or];exact⟨Nat.ne_of_lt (Nat.lt_succ_self _),Nat.ne_of_gt lt1⟩
        refine Py (Walks.tuple hh3 _ l ne1 its) s.heap.objs.size nf val hval hb (its.size - 0) 0 _ (by omega) (Nat.zero_le _) ⟨⟨_,Heap.get?_push_size _ rfl,rfl,rfl⟩,⟨_,Heap.get?_push_of_some _ ho2,rfl,nl,rfl⟩⟩ ?hS0 ?hR
        case hS0=>
          have hget:((s.heap.push {cls:=.type "set",dict:=none,data:=.set #[] 0 (.fresh 0 0 led)}).push {cls:=.type "tuple_iterator",data:=.fields #[.ref l,.int 0 0]}).get? s.heap.objs.size
              = some {cls:=.type "set",dict:=none,data:=.set #[] 0 (.fresh 0 0 led)}:=Heap.get?_push_of_some _ new
          exact Ke hget
        case hR=>
          intro g tk hm hS;show wpAny _ _ _ _ _ _;refine wpAny_pure ?_;show wpAny _ _ (ret Value.none) _ _ _;refine wpAny_pure ⟨rfl,g,tk,rfl,hS,fun b o e=>?_⟩;have lb:b<s.heap.objs.size:=Heap.lt_size e;refine hm b o (Nat.ne_of_lt lb) ?_ (Heap.get?_push_of_some _ (Heap.get?_push_of_some _ e));simp only[List.mem_cons,List.not_mem_nil,or_false];rw[Heap.size_push];exact Nat.ne_of_lt (Nat.lt_succ_of_lt lb)
      · cases r2 with
        | error e=>exact hr2
        | ok fl2=>
          cases fl2 with
          | ret r=>
            obtain⟨rfl,g,tk,rfl,hS,hk⟩:=hr2
            repeat (any_goals (first | assumption | wp_step))
            exact h _ _ hS hk
          | _=>exact hr2.elim
    | _=>exact hr.elim
def qbL (P:Program) (w:World) (a:Addr) (l:List Key):HO:=.ext fun h=>m6 P w h a l
section
variable {X:Cx}
def keysOf:List V→List Key
  | []=>[]
  | .int i::r=>.inl i::keysOf r
  | .str x::r=>.inr x::keysOf r
  | _::r=>keysOf r
def isKey:V→Bool
  | .int _=>true
  | .str _=>true
  | _=>false
theorem Mi:∀{xs:List V} {its:List Value},xs.all isKey=true→Vals xs its→(keysOf xs).length=its.length∧∀(i:Nat) (v:Value),its[i]? = some v→rF ((keysOf xs).getD i (.inl 0)) v=true
  | [],_,_,.nil=>⟨rfl,fun i v e=>by simp at e⟩
  | x::xs,u::us,h,.cons r1 r2=>by
    rw[List.all_cons,Bool.and_eq_true] at h;obtain⟨h1,h2⟩:=Mi h.2 r2;cases x with
    | int i=>
      obtain⟨t,rfl⟩:=r1;refine⟨by simp[keysOf,h1],fun j v e=>?_⟩;cases j with
      | zero=>simp at e;subst e;exact JV i t
      | succ j=>simp at e;simpa [keysOf] using h2 j v e
    | str z=>
      obtain⟨t,rfl⟩:=r1;refine⟨by simp[keysOf,h1],fun j v e=>?_⟩;cases j with
      | zero=>simp at e;subst e;exact JW z t
      | succ j=>simp at e;simpa [keysOf] using h2 j v e
    | _=>exact absurd (show false=true from h.1) Bool.false_ne_true
theorem Wt (hc:X.calm=true):cu X (.type "set") (fun xs H Q=>∃a ys,xs=[.ref a]∧(bU X.K H a ys∨gY X.K H a ys)∧ys.all isKey=true∧ys.length+1<scanBound∧
    ∀p,H p=none→Q (.ref p) (upd H p (qbL X.prog X.w p (Js (fun i=>(keysOf ys).getD i (.inl 0)) ys.length)))):=by
  intro p_ s σ H xs us Q I r h;obtain⟨a,ys,rfl,hq,hk,hb,q⟩:=h;obtain⟨u,rfl,ru⟩:=r.one;obtain rfl:u=Value.ref a:=ru;have fin:∀(g:Heap) (tk:Nat),m6 X.prog X.w g s.heap.objs.size (Js (fun i=>(keysOf ys).getD i (.inl 0)) ys.length)→(∀b o,s.heap.get? b=some o→g.get? b=some o)→EP X p_ σ Q (.ref s.heap.objs.size) {s with heap:=g,toks:=tk}:=fun g tk hS kk=>by
    have hn:H s.heap.objs.size=none:=I.hok.fresh (Nat.le_refl _);refine⟨.ref s.heap.objs.size,_,I.laid (o:=qbL X.prog X.w s.heap.objs.size (Js (fun i=>(keysOf ys).getD i (.inl 0)) ys.length)) (fun b o e=>kk b o e) (Nat.le_refl _) ⟨hS,?_,fun h1 h2 p k=>p.at k⟩,rfl,q _ hn⟩;obtain⟨o,_,_,_,e,_⟩:=hS;exact⟨o,e⟩
  rcases hq with hq | hq
  · obtain⟨its,rv,pl,hz⟩:=I.list hq;obtain⟨h1,h2⟩:=Mi hk rv;have hl:=rv.length;refine Pz (val:=fun i=>(keysOf ys).getD i (.inl 0)) (I.ok.hd hc) pl.isList (fun i v e=>h2 i v (by simpa using e)) (by rw[List.size_toArray];omega) fun g tk hS kk=>fin g tk ?_ kk;have ez:its.toArray.size=ys.length:=by rw[List.size_toArray,hl]
    rw[ez] at hS;exact hS
  · obtain⟨its,rv,pl,hz⟩:=I.tuple hq;obtain⟨h1,h2⟩:=Mi hk rv;have hl:=rv.length;refine Mh (val:=fun i=>(keysOf ys).getD i (.inl 0)) (I.ok.hd hc) (show s.heap.IsTuple a its.toArray from pl) (fun i v e=>h2 i v (by simpa using e)) (by rw[List.size_toArray];omega) fun g tk hS kk=>fin g tk ?_ kk;have ez:its.toArray.size=ys.length:=by rw[List.size_toArray,hl]
    rw[ez] at hS;exact hS
theorem Wu:cu X (.builtin "len") (fun xs H Q=>∃a l,xs=[.ref a]∧H a=some (qbL X.prog X.w a l)∧Q (.int l.length) H):=by
  intro p_ s σ H xs us Q I r h;obtain⟨a,l,rfl,ha,q⟩:=h;obtain⟨u,rfl,ru⟩:=r.one;obtain rfl:u=Value.ref a:=ru;obtain⟨⟨o,es,ep,t,e,ex,hd,_,_,hsz,hf,hn⟩,_⟩:=(show cj X.prog X.w H s.heap a (qbL X.prog X.w a l) from I.hok a _ ha);refine call_len_set e ex hd hf (by unfold scanBound at hsz;omega) ⟨.int l.length,H,I.tok _,⟨_,by rw[hn]⟩,q⟩
end
section
variable {X:Cx}
def qge:R2:=fun x y H Q=>∃i j,x = .str i∧y = .str j∧i.length+j.length≤sizeLine∧Q (.str (i++j)) H
def qi9:R2:=fun x y H Q=>∃i j,x = .str i∧y = .str j∧Q (.bl (!(Builtin.Str.occurrences j i 0 j.length 1).isEmpty)) H
def qbM:R2:=fun x y H Q=>∃i j,x = .str i∧y = .str j∧Q (.bl (!(!(Builtin.Str.occurrences j i 0 j.length 1).isEmpty))) H
def qbN (K:W.Frag):R2:=fun x y H Q=>rIn K false x y H Q∨qi9 x y H Q
def Mj (K:W.Frag):R2:=fun x y H Q=>rIn K true x y H Q∨qbM x y H Q
theorem qey:jk X (compareOp .In) (qbN X.K):=Wi.or V8
theorem Wv:jk X (compareOp .NotIn) (Mj X.K):=Lz.or LC
def qez (K:W.Frag):R2:=fun x y H Q=>∃p xs i v,x = .ref p∧y = .int i∧(bU K H p xs∨gY K H p xs)∧Ka xs i=some v∧Q v H
theorem ixQ:Yo X (qez X.K):=by
  intro value slice p_ s σ H x y v u Q I rx ry h hs;obtain⟨p,xs,i,z,e1,e2,hq | hq,e3,q⟩:=h
  ·exact qbH value slice p_ s σ H x y v u Q I rx ry ⟨p,xs,i,z,e1,e2,hq,e3,q⟩ hs
  ·exact qeo value slice p_ s σ H x y v u Q I rx ry ⟨p,xs,i,z,e1,e2,hq,e3,q⟩ hs
def qde (K:W.Frag):List V→Hp→VK→Prop:=fun xs H Q=>∃p ys,xs=[.ref p]∧(bU K H p ys∨gY K H p ys)∧Q (.int ys.length) H
def qdf:List V→Hp→VK→Prop:=fun xs H Q=>∃z,xs=[.str z]∧z.length≤sizeLine∧Q (.int z.length) H
variable {K:W.Frag}
theorem qi_ (hK:X.K=K):Yo X (qez K):=by subst hK;exact ixQ
theorem inK (hK:X.K=K):jk X (compareOp .In) (qbN K):=by subst hK;exact qey
theorem qeA (hK:X.K=K):jk X (compareOp .NotIn) (Mj K):=by subst hK;exact Wv
theorem qgf (hK:X.K=K):cu X (.builtin "len") (qde K):=by subst hK;exact LK
theorem qgg:cu X (.builtin "len") qdf:=LQ
def U3 (K:W.Frag):List V→Hp→VK→Prop:=fun xs H Q=>∃p ys,xs=[.ref p]∧(bU K H p ys∨gY K H p ys)∧∀l,H l=none→Q (.ref l) (upd H l (.lst ys))
theorem qbO (hK:X.K=K):cu X (.type "list") (U3 K):=by subst hK;exact LR
def qdg (K:W.Frag):List V→Hp→VK→Prop:=fun xs H Q=>∃x n t b,xs=[x,.ty n]∧lG K H x t∧W.kitOne K t (.type n)=some b∧Q (.bl b) H
theorem qgh (hK:X.K=K):cu X (.builtin "isinstance") (qdg K):=by subst hK;exact Wn
def qdh (K:W.Frag):List V→Hp→VK→Prop:=fun xs H Q=>∃x p m n t b,xs=[x,.ref p]∧H p=some (.tup [.ty m,.ty n])∧lG K H x t∧W.kitAny K t [.type m,.type n]=some b∧Q (.bl b) H
theorem qgi (hK:X.K=K):cu X (.builtin "isinstance") (qdh K):=by subst hK;exact Wo
theorem g8 (hK:X.K=K) {es:List Expr} {k:Nat} {pos:Pos} {t:O5} {n:Nat} (hc:X.calm=true) (h:lE X es t)
    (hn:(assignEach es X.env).length=n:=by rfl) (hst:(assignEach es X.env).findIdx? (·.1)=none:=by rfl):PG X (.Tuple es k pos) (qbx K n t):=by subst hK;exact qd4 hc h hn hst
theorem iI (hK:X.K=K) {tg l:Expr} {tl:TE} (hl:PE X l tl):PI X tg l (Uu K tl):=by subst hK;exact qby hl
theorem qbP (hK:X.K=K) {tg l:Expr} {tl:TE} (hl:PE X l tl):PI X tg l (qd8 K tl):=by subst hK;exact qd9 hl
theorem Ml (hK:X.K=K) {e:Expr} {ta:TE} {f:Str} {pos:Pos} (he:PE X e ta) (hb:attributeBase e f X.env (eval e X.env)=eval e X.env):PE X (.Attribute e f pos) (qbF K ta f):=by subst hK;exact qek he hb
theorem nQ (hK:X.K=K) {o e:Expr} {es:List Expr} {to:TE} {t:TA} {name:Str} {apos cpos:Pos} {T id:String} {r:V→List V→Hp→VK→Prop} (pa:PlainAttrs T) (slot:Slot T name id) (hty:typeOf (.builtin id)=pure (.type "method_descriptor")) (hm:Wg X id r) (ho:PE X o to) (ha:PA X (e::es) t)
    (hbase:attributeBase o name X.env (eval o X.env)=eval o X.env:=by rfl)
    (hfew:((backTo cpos (starEach (e::es) X.env)).all (fun x=>!x.1) && (backToKw cpos (keywordEach [] X.env)).all (fun x=>x.1.isSome)
      && decide ((e::es).length+([]:List Keyword).length+(if ([]:List Keyword).isEmpty then 0 else 1)<30))=true:=by rfl)
    (hline:(apos.endLine == cpos.line)=true:=by rfl) (hs:starEach (e::es) X.env=(false,eval e X.env)::starEach es X.env:=by rfl) (hplain:(backTo cpos (starEach es X.env)).any (·.1)=false:=by rfl) :
    PE X (.Call (.Attribute o name apos) (e::es) [] cpos) (tBM K T r to t):=by subst hK;exact qf8 pa slot hty hm ho ha hbase hfew hline hs hplain
theorem uD:bootBuiltins "all" = some (.builtin "all"):=by decide+kernel
theorem boot_max:bootBuiltins "max" = some (.builtin "max"):=by decide+kernel
theorem boot_min:bootBuiltins "min" = some (.builtin "min"):=by decide+kernel
theorem boot_abs:bootBuiltins "abs" = some (.builtin "abs"):=by decide+kernel
theorem boot_divmod:bootBuiltins "divmod" = some (.builtin "divmod"):=by decide+kernel
end
structure Nm (mg:Str→Option Value):Prop where
  len:mg "len" = none
  max:mg "max" = none
  min:mg "min" = none
  abs:mg "abs" = none
  divmod:mg "divmod" = none
  range:mg "range" = none
  zip:mg "zip" = none
  list:mg "list" = none
  tuple:mg "tuple" = none
  int:mg "int" = none
  str:mg "str" = none
  set:mg "set" = none
  all:mg "all" = none
  isinstance:mg "isinstance" = none
section
variable {K:W.Frag} {own:List Str} {caps:List Nat} {g:TG} {tt:TT} {te:TE} {D:Addr} {σ:St} {H:Hp} {Q:Hp→Prop}
abbrev Kf (g:TG) (tt:TT) (te:TE) (D:Addr) (N:St→Hp→Prop) (x:V) (σ:St) (H:Hp):Prop:=
  g x σ H fun σ2 H3=>tt σ2 H3 fun b H4=>if b=true then te σ2 H4 fun y H5=>∃ys,H5 D=some (.lst ys)∧ys.length<sizeLine∧N σ2 (upd H5 D (.lst (ys++[y]))) else N σ2 H4
theorem Kg {l:Addr} {xs:List V} (Pv:Nat→St→Hp→Prop) (h0:Pv 0 (stC own caps σ) H) (hl:∀i σ H,i≤xs.length→Pv i σ H→bU K H l xs)
    (hs:∀i x σ H,xs[i]? = some x→Pv i σ H→Kf g tt te D (Pv (i+1)) x σ H) (hd:∀σ H,Pv xs.length σ H→Q H):lW own caps (Yn K l) g tt te D σ H Q:=by
  refine⟨fun i m σ H=>m=xs.length - i∧i≤xs.length∧Pv i σ H,⟨xs.length,by simp,Nat.zero_le _,h0⟩,?_⟩;rintro i m σ H ⟨rfl,hi,p⟩;have q:=hl i σ H hi p
  by_cases hlt:i<xs.length
  ·refine .inr ⟨⟨xs,xs[i],q,by simp[hlt]⟩,Pv (i+1),fun σ' H' p'=>⟨xs.length - (i+1),by omega,rfl,hlt,p'⟩,fun x H' y=>?_⟩;obtain⟨e,y⟩:=y;subst e;exact hs i x σ _ (y xs q) p
  · have e:i=xs.length:=by omega
    subst e;exact .inl ⟨⟨xs,q,Nat.le_refl _⟩,hd σ H p⟩
theorem Zi {l:Addr} {xs:List V} (Pv:Nat→St→Hp→Prop) (h0:Pv 0 (stC own caps σ) H) (hl:∀i σ H,i≤xs.length→Pv i σ H→gY K H l xs)
    (hs:∀i x σ H,xs[i]? = some x→Pv i σ H→Kf g tt te D (Pv (i+1)) x σ H) (hd:∀σ H,Pv xs.length σ H→Q H):lW own caps (Itt K l) g tt te D σ H Q:=by
  refine⟨fun i m σ H=>m=xs.length - i∧i≤xs.length∧Pv i σ H,⟨xs.length,by simp,Nat.zero_le _,h0⟩,?_⟩;rintro i m σ H ⟨rfl,hi,p⟩;have q:=hl i σ H hi p
  by_cases hlt:i<xs.length
  ·refine .inr ⟨⟨xs,xs[i],q,by simp[hlt]⟩,Pv (i+1),fun σ' H' p'=>⟨xs.length - (i+1),by omega,rfl,hlt,p'⟩,fun x H' y=>?_⟩;obtain⟨e,y⟩:=y;subst e;exact hs i x σ _ (y xs q) p
  · have e:i=xs.length:=by omega
    subst e;exact .inl ⟨⟨xs,q,Nat.le_refl _⟩,hd σ H p⟩
theorem RX {lo:Int} {n:Nat} (Pv:Nat→St→Hp→Prop) (h0:Pv 0 (stC own caps σ) H)
    (hs:∀i σ H,i<n→Pv i σ H→Kf g tt te D (Pv (i+1)) (.int (lo+i)) σ H) (hd:∀σ H,Pv n σ H→Q H):lW own caps (Ru lo n) g tt te D σ H Q:=by
  refine⟨fun i m σ H=>m=n - i∧i≤n∧Pv i σ H,⟨n,by simp,Nat.zero_le _,h0⟩,?_⟩;rintro i m σ H ⟨rfl,hi,p⟩
  by_cases hlt:i<n
  ·refine .inr ⟨hlt,Pv (i+1),fun σ' H' p'=>⟨n - (i+1),by omega,rfl,hlt,p'⟩,fun x H' y=>?_⟩;obtain⟨e,y⟩:=y;subst e y;exact hs i σ _ hlt p
  · have e:i=n:=by omega
    subst e;exact .inl ⟨Nat.le_refl _,hd σ H p⟩
theorem Zj {z:Str} (Pv:Nat→St→Hp→Prop) (h0:Pv 0 (stC own caps σ) H)
    (hs:∀i c σ H,z.cps[i]? = some c→Pv i σ H→Kf g tt te D (Pv (i+1)) (.str ⟨#[c]⟩) σ H) (hd:∀σ H,Pv z.cps.size σ H→Q H):lW own caps (Its z) g tt te D σ H Q:=by
  refine⟨fun i m σ H=>m=z.cps.size - i∧i≤z.cps.size∧Pv i σ H,⟨z.cps.size,by simp,Nat.zero_le _,h0⟩,?_⟩;rintro i m σ H ⟨rfl,hi,p⟩
  by_cases hlt:i<z.cps.size
  ·refine .inr ⟨hlt,Pv (i+1),fun σ' H' p'=>⟨z.cps.size - (i+1),by omega,rfl,hlt,p'⟩,fun x H' y=>?_⟩;obtain⟨e,c,hc,rfl⟩:=y;subst e;exact hs i c σ _ hc p
  · have e:i=z.cps.size:=by omega
    subst e;exact .inl ⟨Nat.le_refl _,hd σ H p⟩
theorem Zk {l1 l2:Addr} {xs ys:List V} (Pv:Nat→St→Hp→Prop) (h0:Pv 0 (stC own caps σ) H) (he:xs.length=ys.length) (hl:∀i σ H,i≤xs.length→Pv i σ H→bU K H l1 xs∧bU K H l2 ys)
    (hs:∀i x y t σ H,xs[i]? = some x→ys[i]? = some y→H t=none→Pv i σ H→Kf g tt te D (Pv (i+1)) (.ref t) σ (upd H t (.tup [x,y]))) (hd:∀σ H,Pv xs.length σ H→Q H):lW own caps (Itz K l1 l2) g tt te D σ H Q:=by
  refine⟨fun i m σ H=>m=xs.length - i∧i≤xs.length∧Pv i σ H,⟨xs.length,by simp,Nat.zero_le _,h0⟩,?_⟩;rintro i m σ H ⟨rfl,hi,p⟩;obtain⟨q1,q2⟩:=hl i σ H hi p
  by_cases hlt:i<xs.length
  · have hlt2:i<ys.length:=by omega
    refine .inr ⟨⟨xs,ys,xs[i],ys[i],q1,q2,by simp[hlt],by simp[hlt2]⟩,Pv (i+1),fun σ' H' p'=>⟨xs.length - (i+1),by omega,rfl,hlt,p'⟩,fun x H' y=>?_⟩;obtain⟨t,u,v,rfl,ht,rfl,e1,e2⟩:=y;exact hs i u v t σ H (e1 xs q1) (e2 ys q2) ht p
  · have e:i=xs.length:=by omega
    subst e;exact .inl ⟨⟨xs,ys,q1,q2,.inl (Nat.le_refl _)⟩,hd σ H p⟩
end
def SqB (b:Bool) (K:W.Frag) (H:Hp) (p:Addr) (xs:List V):Prop:=match b with | true=>bU K H p xs | false=>gY K H p xs
def Itq (b:Bool) (K:W.Frag) (p:Addr):It:=match b with | true=>Yn K p | false=>Itt K p
def qeB (K:W.Frag) (tl:TE):TI:=fun σ H R=>tl σ H fun x H1=>∃b p,x = .ref p∧(∃xs,SqB b K H1 p xs)∧R (Itq b K p) H1
theorem Ed {X:Cx} {K:W.Frag} (hK:X.K=K) {tg l:Expr} {tl:TE} (hl:PE X l tl):PI X tg l (qeB K tl):=by
  intro p_ s σ H R I h;refine cR (hl p_ s σ H _ I h) fun v s1 zz=>?_;obtain⟨x,H1,I1,r1,q1⟩:=zz;obtain⟨b,p,e,hq,q⟩:=q1;subst e;subst hK;cases b with
  | true=>
    cases r1;obtain⟨xs,hq⟩:=hq;obtain⟨its,rv,pl,hz⟩:=I1.list hq;refine wpAny_pyIter_list pl.isList ?_;refine⟨s1.heap.objs.size,[s1.heap.objs.size],_,_,H1,rfl,I1.kept (t':=s1.toks) fun b o e=>Heap.get?_push_of_some _ e,J0 p _,⟨_,Heap.get?_push_size _ rfl,rfl,rfl⟩,fun b hb=>?_,q⟩;have e:b=s1.heap.objs.size:=by simpa using hb
    subst e;exact I1.FN (Nat.le_refl _) (I1.hok.fresh (Nat.le_refl _))
  | false=>
    cases r1;obtain⟨xs,hq⟩:=hq;obtain⟨its,rv,pl,hz⟩:=I1.tuple hq;refine wpAny_pyIter_tuple (show s1.heap.IsTuple p its.toArray from pl) ?_;refine⟨s1.heap.objs.size,[s1.heap.objs.size],_,_,H1,rfl,I1.kept (t':=s1.toks) fun b o e=>Heap.get?_push_of_some _ e,FP p _,⟨_,Heap.get?_push_size _ rfl,rfl,rfl⟩,fun b hb=>?_,q⟩;have e:b=s1.heap.objs.size:=by simpa using hb
    subst e;exact I1.FN (Nat.le_refl _) (I1.hok.fresh (Nat.le_refl _))
section
variable {K:W.Frag} {own:List Str} {caps:List Nat} {g:TG} {tt:TT} {te:TE} {D:Addr} {σ:St} {H:Hp} {Q:Hp→Prop}
theorem Zm {b:Bool} {l:Addr} {xs:List V} (Pv:Nat→St→Hp→Prop) (h0:Pv 0 (stC own caps σ) H) (hl:∀i σ H,i≤xs.length→Pv i σ H→SqB b K H l xs)
    (hs:∀i x σ H,xs[i]? = some x→Pv i σ H→Kf g tt te D (Pv (i+1)) x σ H) (hd:∀σ H,Pv xs.length σ H→Q H):lW own caps (Itq b K l) g tt te D σ H Q:=by
  cases b with
  | true=>exact Kg Pv h0 hl hs hd
  | false=>exact Zi Pv h0 hl hs hd
end
theorem aA {H:Hp} {p:Addr} {o:HO} (h:H p=none):Same H (upd H p o):=fun b u e=>by rw[aB (aK e h)];exact e
theorem cA {H H':Hp} {p:Addr} {o:HO} (s:Same H H') (h:H p=none):Same H (upd H' p o):=fun b u e=>by rw[aB (aK e h)];exact s b u e
def Sq (H:Hp) (p:Addr) (xs:List V):Prop:=H p=some (.lst xs)∨H p=some (.tup xs)
theorem Sq.q {K:W.Frag} {H:Hp} {p:Addr} {xs:List V} (h:Sq H p xs):bU K H p xs∨gY K H p xs:=h.elim (fun e=>.inl (bU.of e)) fun e=>.inr (gY.of e)
theorem Sq.b {H:Hp} {p:Addr} {xs:List V} (h:Sq H p xs):∃b,∀K H',Same H H'→SqB b K H' p xs:=h.elim (fun e=>⟨true,fun _ _ s=>bU.of (s _ _ e)⟩) fun e=>⟨false,fun _ _ s=>gY.of (s _ _ e)⟩
theorem Sq.same {H H':Hp} {p:Addr} {xs:List V} (h:Sq H p xs) (s:Same H H'):Sq H' p xs:=h.elim (fun e=>.inl (s _ _ e)) fun e=>.inr (s _ _ e)
theorem Sq.ty {K:W.Frag} {H:Hp} {p:Addr} {xs:List V} (h:Sq H p xs):lG K H (.ref p) (.type "list")∨lG K H (.ref p) (.type "tuple"):=h.elim (fun e=>.inl (.lst e)) fun e=>.inr (.tup e)
theorem Kh {α:Type} (f:α→Bool):∀l:List α,vo (l.map fun c=>.bl (f c)) (l.map f)
  | []=>rfl
  | c::l=>⟨f c,l.map f,rfl,rfl,Kh f l⟩
theorem RZ {α:Type} (f:α→Bool) (l:List α):(l.map f).all id=l.all f:=by
  rw[List.all_map];rfl
theorem take_one {α:Type} {l:List α} {i:Nat} {x:α} (h:l[i]? = some x):l.take (i+1)=l.take i++[x]:=by
  rw[List.take_succ,h];rfl
def U4:List V→Hp→VK→Prop:=fun xs H Q=>∃p ys,xs=[.ref p]∧Sq H p ys∧∀l H',H' l=some (.tup ys)→Same H H'→Q (.ref l) H'
theorem Zn {X:Cx}:cu X (.type "tuple") U4:=by
  intro p_ s σ H xs us Q I r h;obtain⟨p,ys,rfl,hq,q⟩:=h;refine Jr p_ s σ H _ us Q I r ⟨p,ys,rfl,?_⟩
  rcases hq with e | e
  ·exact .inl ⟨bU.of e,fun l hl=>q l _ ao (aA hl)⟩
  ·exact .inr ⟨gY.of e,q p H e (Same.refl H)⟩
def qeC (J:It) (g:TG) (tb:TS):TS:=fun D σ H=>∃o_:Nat→Nat→St→Hp→Prop,(∃m,o_ 0 m σ H)∧∀i m σ H,o_ i m σ H→
      (J.stop i H∧D.nx σ H)∨(J.go i H∧∃N:St→Hp→Prop,(∀σ' H',N σ' H'→∃m',m'<m∧o_ (i+1) m' σ' H')∧∀x H',J.yld i H x H'→g x σ H' fun σ2 H2=>tb {D with nx:=N,ct:=N,bk:=D.nx} σ2 H2)
theorem cg {H:Hp} {b p:Addr} {o u:HO} (h:H b=some o) (n:H p=none):upd H p u b=some o:=by rw[aB (aK h n)];exact h
theorem yH {H:Hp} {b p:Addr} {o o' u:HO} (h:H b=some o) (n:H p=some o') (d:o≠o'):upd H p u b=some o:=by
  rw[aB (fun e=>d (by subst e;rw[h] at n;exact Option.some.inj n))];exact h
theorem cF {H H':Hp} {b:Addr} (s:Same H H') (h:H' b=none):H b=none:=by
  cases e:H b with
  | none=>rfl
  | some o=>rw[s b o e] at h;cases h
def But (p:Addr) (H H':Hp):Prop:=∀b o,b≠p→H b=some o→H' b=some o
theorem But.refl (p:Addr) (H:Hp):But p H H:=fun _ _ _ e=>e
theorem But.trans {p:Addr} {H H1 H2:Hp} (x:But p H H1) (y:But p H1 H2):But p H H2:=fun b o hb e=>y b o hb (x b o hb e)
theorem But.new {p q:Addr} {H H':Hp} {u:HO} (x:But p H H') (h:H q=none):But p H (upd H' q u):=fun b o hb e=>by
  rw[aB (aK e h)];exact x b o hb e
theorem But.of {p:Addr} {H H':Hp} (x:Same H H'):But p H H':=fun b o _ e=>x b o e
theorem But.same {p:Addr} {H H1 H2:Hp} (x:But p H H1) (y:Same H1 H2):But p H H2:=fun b o hb e=>y b o (x b o hb e)
theorem But.none {p b:Addr} {H H':Hp} {u:HO} (x:But p H H') (hp:H' p=some u) (h:H' b = .none):H b = .none:=by
  cases e:H b with
  | none=>rfl
  | some o=>
    have hb:b≠p:=fun z=>by subst z;rw[hp] at h;cases h
    rw[x b o hb e] at h;cases h
theorem U5 {α:Type} {xs:List α} {i:Int} (h0:0≤i) (h1:i<xs.length):∃v,xs[i.toNat]? = some v∧Ka xs i=some v:=by
  obtain⟨j,rfl⟩:∃j:Nat,i=j:=⟨i.toNat,by omega⟩;have hj:j<xs.length:=by omega
  exact⟨xs[j],by simp[hj],dh (by simp[hj])⟩
theorem qeD {d e n:Int} (h0:0≤d) (h1:d<n) (h2:0≤e) (h3:e<n - 1):0≤(d+1+e) % n∧(d+1+e) % n<n∧(d+1+e) % n≠d:=by
  refine⟨Int.emod_nonneg _ (by omega),Int.emod_lt_of_pos _ (by omega),?_⟩
  by_cases h:d+1+e<n
  ·rw[Int.emod_eq_of_lt (by omega) h];omega
  · have z:d+1+e=(d+1+e - n)+n * 1:=by omega
    rw[z,Int.add_mul_emod_self_left,Int.emod_eq_of_lt (by omega) (by omega)];omega
theorem Ao {xs:List Str} {i:Nat} {x:V} (h:(xs.map V.str)[i]? = some x):∃z,xs[i]? = some z∧x = .str z:=by
  rw[List.getElem?_map] at h;cases e:xs[i]? with
  | none=>rw[e] at h;cases h
  | some z=>rw[e] at h;exact⟨z,rfl,(Option.some.inj h).symm⟩
theorem Gd {α:Type} {xs:List α} (h:xs.Nodup) {i j:Nat} {x:α} (hi:xs[i]? = some x) (hj:xs[j]? = some x):i=j:=by
  obtain⟨h1,e1⟩:=List.getElem?_eq_some_iff.mp hi;obtain⟨h2,e2⟩:=List.getElem?_eq_some_iff.mp hj;exact(List.getElem_inj h).mp (e1.trans e2.symm)
def isL (c:Nat):Bool:=!(Builtin.Str.occurrences ("abcdefghijklmnopqrstuvwxyz" : Str) ⟨#[c]⟩ 0 ("abcdefghijklmnopqrstuvwxyz" : Str).length 1).isEmpty
def nameB (x:Str):Bool:=decide (1≤x.length) && decide (x.length≤4) && x.cps.toList.all isL
theorem Zo:∀n<26,isL (97+n)=true:=by decide+kernel
theorem R0:∀n:Nat,n<26→Ka (Str.ofString "abcdefghijklmnopqrstuvwxyz").cps.toList (n:Int)=some (97+n):=by decide+kernel
theorem C_:(Str.ofString "abcdefghijklmnopqrstuvwxyz").length≤sizeLine:=by decide+kernel
theorem sG {i:Int} (h0:0≤i) (h1:i<26):∃n:Nat,i=n∧n<26∧Ka (Str.ofString "abcdefghijklmnopqrstuvwxyz").cps.toList i=some (97+n):=
  ⟨i.toNat,by omega,by omega,by
    obtain⟨n,rfl⟩:∃n:Nat,i=n:=⟨i.toNat,by omega⟩;exact R0 n (by omega)⟩
structure qt (c:Nat) (k:Nat) (x:Str):Prop where
  len:x.length=k
  fst:x.cps[0]? = some c
  all:x.cps.toList.all isL=true
theorem qt.one {n:Nat} (h:n<26):qt (97+n) 1 ⟨#[97+n]⟩:=⟨rfl,rfl,by simp[Zo n h]⟩
theorem qt.name {c k:Nat} {x:Str} (h:qt c k x) (h1:1≤k) (h4:k≤4):nameB x=true:=by
  unfold nameB;rw[h.len,h.all];simp;omega
section
variable {κ:Type} [DecidableEq κ]
def jE (kvs:List (κ×V)) (k:κ):Option V:=(kvs.find? fun kv=>decide (kv.1=k)).map (·.2)
def putK (kvs:List (κ×V)) (k:κ) (v:V):List (κ×V):=
  if (kvs.any fun kv=>decide (kv.1=k))=true then kvs.map (fun kv=>if kv.1=k then (kv.1,v) else kv) else kvs++[(k,v)]
theorem Ge {p:κ×V} {r:List (κ×V)} {k:κ} (e:p.1=k):jE (p::r) k=some p.2:=by simp[jE,List.find?_cons,e]
theorem Gf {p:κ×V} {r:List (κ×V)} {k:κ} (e:¬p.1=k):jE (p::r) k=jE r k:=by simp[jE,List.find?_cons,e]
theorem Gg (k:κ):∀kvs:List (κ×V),(kvs.any fun kv=>decide (kv.1=k))=(jE kvs k).isSome
  | []=>rfl
  | p::r=>by
    rw[List.any_cons]
    by_cases e:p.1=k
    ·simp only[Ge e,decide_eq_true e,Bool.true_or,Option.isSome_some]
    ·rw[Gf e,decide_eq_false e,Bool.false_or];exact Gg k r
theorem sH (kvs:List (κ×V)) (k:κ) (v:V):(putK kvs k v).length≤kvs.length+1:=by
  unfold putK;split
  ·rw[List.length_map];omega
  ·rw[List.length_append,List.length_cons,List.length_nil];omega
theorem sI {kvs:List (κ×V)} {k:κ} (v:V) (h:jE kvs k=none):putK kvs k v=kvs++[(k,v)]:=by
  unfold putK;rw[Gg,h];exact if_neg (by decide)
theorem mF.pD {o:Option V} {u:Option Value} (r:mF o u):o.isSome=u.isSome:=by
  cases o with
  | none=>cases u with
    | none=>rfl
    | some _=>exact(show False from r).elim
  | some _=>cases u with
    | none=>exact(show False from r).elim
    | some _=>rfl
theorem mF.getD {o:Option V} {u:Option Value} {d:V} {d':Value} (r:mF o u) (rd:RelV d d'):RelV (o.getD d) (u.getD d'):=by
  cases o with
  | none=>cases u with
    | none=>exact rd
    | some _=>exact(show False from r).elim
  | some _=>cases u with
    | none=>exact(show False from r).elim
    | some _=>exact r
theorem KV.val {kvs:List (κ×V)} {vs:List (κ×Value)} (r:KV kvs vs) (k:κ):mF (jE kvs k) (valueAt vs k):=by
  unfold KV at r
  induction r with
  | nil=>exact True.intro
  | @cons p q ps qs h t ih=>
    obtain⟨h1,h2⟩:=h
    by_cases e:p.1=k
    · have e':q.1=k:=h1.symm.trans e;have b:valueAt (q::qs) k=some q.2:=by simp[valueAt,List.find?_cons,e']
      rw[Ge e,b];exact h2
    · have e':¬q.1=k:=fun z=>e (h1.trans z);have b:valueAt (q::qs) k=valueAt qs k:=by simp[valueAt,List.find?_cons,e']
      rw[Gf e,b];exact ih
theorem KV.any {kvs:List (κ×V)} {vs:List (κ×Value)} (r:KV kvs vs) (k:κ):(kvs.any fun kv=>decide (kv.1=k))=vs.any fun kv=>decide (kv.1=k):=by
  unfold KV at r
  induction r with
  | nil=>rfl
  | cons h t ih=>rw[List.any_cons,List.any_cons,ih,h.1]
theorem KV.repl {kvs:List (κ×V)} {vs:List (κ×Value)} (r:KV kvs vs) (k:κ) {y:V} {u:Value} (ry:RelV y u) :
    KV (kvs.map fun kv=>if kv.1=k then (kv.1,y) else kv) (vs.map fun kv=>if kv.1=k then (kv.1,u) else kv):=by
  unfold KV at r ⊢
  induction r with
  | nil=>exact .nil
  | @cons p q ps qs h t ih=>
    rw[List.map_cons,List.map_cons];refine .cons ?_ ih;obtain⟨h1,h2⟩:=h
    by_cases e:p.1=k
    ·rw[if_pos e,if_pos (h1.symm.trans e)];exact⟨h1,ry⟩
    ·rw[if_neg e,if_neg (fun z=>e (h1.trans z))];exact⟨h1,h2⟩
theorem KV.put {kvs:List (κ×V)} {vs:List (κ×Value)} (r:KV kvs vs) (k:κ) {y:V} {u:Value} (ry:RelV y u):KV (putK kvs k y) (stored vs k u):=by
  unfold putK stored;rw[r.any k]
  by_cases e:(vs.any fun kv=>decide (kv.1=k))=true
  ·rw[if_pos e,if_pos e];exact r.repl k ry
  ·rw[if_neg e,if_neg e];exact Paired.snoc r ⟨rfl,ry⟩
theorem KV.length {kvs:List (κ×V)} {vs:List (κ×Value)} (r:KV kvs vs):kvs.length=vs.length:=Paired.length r
end
theorem Gh {P:Program} {w:World} {k:Key} {u:Value} (r:RelV (kV k) u):(aV P w).is k u=true:=by
  cases k with
  | inl i=>obtain⟨t,e⟩:=(show ∃t,u=Value.int i t from r);subst e;exact CV P w i t
  | inr x=>obtain⟨t,e⟩:=(show ∃t,u=Value.str x t from r);subst e;exact O6 P w x t
theorem Kl {P:Program} {w:World}:∀{ks:List Key} {us:List Value},Vals (ks.map kV) us→ItemsAre (aV P w) ks us
  | [],_,r=>by rw[List.map_nil] at r;cases r;exact .nil
  | k::ks,_,r=>by
    rw[List.map_cons] at r;cases r with
    | cons h t=>exact .cons (Gh h) (Kl t)
abbrev KT (H:Hp):List (List Key×V)→List (List Key×Addr×Value)→Prop:=Paired fun p q=>p.1=q.1∧H q.2.1=some (.tup (p.1.map kV))∧RelV p.2 q.2.2
theorem KT.val {H:Hp} {kvs:List (List Key×V)} {xs:List (List Key×Addr×Value)} (r:KT H kvs xs) (k:List Key):mF (jE kvs k) ((atKey xs k).map (·.2)):=by
  induction r with
  | nil=>exact True.intro
  | @cons p q ps qs h t ih=>
    obtain⟨h1,_,h2⟩:=h
    by_cases e:p.1=k
    · have e':q.1=k:=h1.symm.trans e;have b:atKey (q::qs) k=some q.2:=by simp[atKey,List.find?_cons,e']
      rw[Ge e,b];exact h2
    · have e':¬q.1=k:=fun z=>e (h1.trans z);have b:atKey (q::qs) k=atKey qs k:=by simp[atKey,List.find?_cons,e']
      rw[Gf e,b];exact ih
theorem KT.repl {H:Hp} {kvs:List (List Key×V)} {xs:List (List Key×Addr×Value)} (r:KT H kvs xs) (k:List Key) {y:V} {u:Value} (ry:RelV y u) :
    KT H (kvs.map fun kv=>if kv.1=k then (kv.1,y) else kv) (xs.map (putAt k u)):=by
  induction r with
  | nil=>exact .nil
  | @cons p q ps qs h t ih=>
    rw[List.map_cons,List.map_cons];refine .cons ?_ ih;obtain⟨h1,h2,h3⟩:=h;unfold putAt
    by_cases e:p.1=k
    ·rw[if_pos e,if_pos (h1.symm.trans e)];exact⟨h1,h2,ry⟩
    ·rw[if_neg e,if_neg (fun z=>e (h1.trans z))];exact⟨h1,h2,h3⟩
theorem KT.put {H:Hp} {kvs:List (List Key×V)} {xs:List (List Key×Addr×Value)} (r:KT H kvs xs) (k:List Key) {b:Addr} {y:V} {u:Value} (hb:H b=some (.tup (k.map kV))) (ry:RelV y u) :
    KT H (putK kvs k y) (storedH xs k b u):=by
  have e:(kvs.any fun kv=>decide (kv.1=k))=(atKey xs k).isSome:=by
    rw[Gg,(r.val k).pD,Option.isSome_map]
  unfold putK storedH;rw[e]
  by_cases q:(atKey xs k).isSome=true
  ·rw[if_pos q,if_pos q];exact r.repl k ry
  ·rw[if_neg q,if_neg q];exact Paired.snoc r ⟨rfl,hb,ry⟩
theorem KT.keeps {H H':Hp} {kvs:List (List Key×V)} {xs:List (List Key×Addr×Value)} (r:KT H kvs xs) (ht:∀b ys,H b=some (.tup ys)→H' b=some (.tup ys)):KT H' kvs xs:=
  Paired.qdT r fun _ _ z=>⟨z.1,ht _ _ z.2.1,z.2.2⟩
section
variable {P:Program} {w:World} {H:Hp} {h:Heap} {a:Addr}
theorem qdi {u:HO} (ok:pq P w H h) (e:Rd H a u):cj P w H h a u:=e.ok ok
theorem yI {kvs:List (Key×V)} (ok:pq P w H h) (e:Rd H a (.dK kvs)):kvs.length≤sizeLine∧(a == sysModules)=false∧∃vs,KV kvs vs∧h.DictOf (aV P w) a vs:=
  show cj P w H h a (.dK kvs) from qdi ok e
theorem Gi {kvs:List (Key×V)} (ok:pq P w H h) (e:H a=some (.dK kvs)):kvs.length≤sizeLine∧(a == sysModules)=false∧∃vs,KV kvs vs∧h.DictOf (aV P w) a vs:=yI ok (.inl e)
theorem vU {ks:List Key} (ok:pq P w H h) (e:H a=some (.tup (ks.map kV))):(tupleKind (aV P w)).is h ks a:=by
  obtain⟨_,its,r,o,h1,h2,n,h3⟩:=(show cj P w H h a (.tup (ks.map kV)) from ok a _ e);exact⟨o,its.toArray,n,h1,h2,h3,by simpa using Kl r⟩
theorem Gj {kvs:List (List Key×V)} (ok:pq P w H h) (e:Rd H a (.dT kvs)):kvs.length≤sizeLine∧(a == sysModules)=false∧
    ∃xs,KT H kvs xs∧h.DictOfH (tupleKind (aV P w)) a xs:=by
  obtain⟨z,y,xs,r,o,es,ep,h1,h2,h3,h4,h5⟩:=(show cj P w H h a (.dT kvs) from qdi ok e);refine⟨z,y,xs,r,o,es,ep,h1,h2,h3,h4,fun x hx=>?_,h5⟩;have all:∀{l:List (List Key×V)} {m:List (List Key×Addr×Value)},KT H l m→∀x∈m,(tupleKind (aV P w)).is h x.1 x.2.1:=by
    intro l m q
    induction q with
    | nil=>intro x hx;exact nomatch hx
    | @cons p q ps qs hq t ih=>
      intro x hx
      rcases List.mem_cons.mp hx with e | hx
      ·subst e;exact vU ok (by rw[← hq.1];exact hq.2.1)
      ·exact ih x hx
  exact all r x hx
theorem qdj {kvs:List (List Key×V)} (ok:pq P w H h) (e:H a=some (.dT kvs)):kvs.length≤sizeLine∧(a == sysModules)=false∧
    ∃xs,KT H kvs xs∧h.DictOfH (tupleKind (aV P w)) a xs:=Gj ok (.inl e)
end
def iJ (H:Hp) (a:Addr) (y:V) (r:Option V):Prop:=
  (∃kvs k,Rd H a (.dK kvs)∧y=kV k∧r=jE kvs k)∨∃kvs k b,Rd H a (.dT kvs)∧y = .ref b∧H b=some (.tup (k.map kV))∧r=jE kvs k
def vV (H:Hp) (a:Addr) (y v:V) (H':Hp):Prop:=
  (∃kvs k,H a=some (.dK kvs)∧y=kV k∧kvs.length<sizeLine∧H'=upd H a (.dK (putK kvs k v)))∨
  ∃kvs k b,H a=some (.dT kvs)∧y = .ref b∧H b=some (.tup (k.map kV))∧kvs.length<sizeLine∧H'=upd H a (.dT (putK kvs k v))
theorem iJ.k {H:Hp} {a:Addr} {kvs:List (Key×V)} {k:Key} (e:H a=some (.dK kvs)):iJ H a (kV k) (jE kvs k):=.inl ⟨kvs,k,.inl e,rfl,rfl⟩
theorem vV.k {H:Hp} {a:Addr} {kvs:List (Key×V)} {k:Key} {v:V} (e:H a=some (.dK kvs)) (hl:kvs.length<sizeLine):vV H a (kV k) v (upd H a (.dK (putK kvs k v))):=.inl ⟨kvs,k,e,rfl,hl,rfl⟩
section
variable {X:Cx} {p_:List (Addr×Obj)} {σ:St} {H:Hp} {s:Shared} {a:Addr} {y v:V} {u r:Value} {o:Option V} {A:Around} {E:Value→Shared→Prop}
theorem Inv.big (I:Inv X p_ σ H s):sysModules<s.heap.objs.size:=by
  have h:mainGlobals<s.heap.objs.size:=(I.mod.glob.keeps I.bk).lt;exact Nat.lt_trans (by decide) h
theorem Ww {Q:Value→Shared→Prop} (hu:A.units+1<cLine) (I:Inv X p_ σ H s) (g:iJ H a y (some v)) (ry:RelV y u) (h:∀w' s',Inv X p_ σ H s'→RelV v w'→Q w' s') :
    wpAny (model X.prog X.w) A (getItem (.ref a) u) Q E s:=by
  rcases g with⟨kvs,k,e,ey,l⟩ | ⟨kvs,k,b,e,ey,eb,l⟩
  ·subst ey;obtain⟨z,hd,vs,rel,dd⟩:=yI I.hok e;obtain⟨w',hw,Wh⟩:=mF.some_of (v:=v) (o:=valueAt vs k) (by rw[l];exact rel.val k);exact wpAny_getItem_of (Gh ry) dd.mapOf hw (h w' _ (I.tok _) Wh)
  · subst ey;cases (show u=Value.ref b from ry);obtain⟨z,hd,xs,rel,dd⟩:=Gj I.hok e;obtain⟨w',hw,Wh⟩:=mF.some_of (v:=v) (o:=(atKey xs k).map (·.2)) (by rw[l];exact rel.val k);obtain⟨p,hp,hp2⟩:=Option.map_eq_some_iff.mp hw;refine wpAny_getItem_heap (tupleKind_room_in1 hu) (vU I.hok eb) dd hp ?_;rw[hp2];exact h w' _ (I.tok _) Wh
theorem qja {Q:Value→Shared→Prop} (hu:A.units+1<cLine) (I:Inv X p_ σ H s) (g:iJ H a y o) (ry:RelV y u) (h:∀s',Inv X p_ σ H s'→Q (.bool o.isSome) s') :
    wpAny (model X.prog X.w) A (compareOp .In u (.ref a)) Q E s:=by
  rcases g with⟨kvs,k,e,ey,l⟩ | ⟨kvs,k,b,e,ey,eb,l⟩
  ·subst ey;obtain⟨z,hd,vs,rel,dd⟩:=yI I.hok e;refine wpAny_in_of (Gh ry) hd dd.mapOf ?_;rw[← (rel.val k).pD,← l];exact h _ (I.tok _)
  ·subst ey;cases (show u=Value.ref b from ry);obtain⟨z,hd,xs,rel,dd⟩:=Gj I.hok e;refine wpAny_in_heap (tupleKind_room_in1 hu) (vU I.hok eb) hd dd ?_;have q:=(rel.val k).pD;rw[Option.isSome_map] at q;rw[← q,← l];exact h _ (I.tok _)
theorem qbQ {Q:Value→Shared→Prop} (hu:A.units+1<cLine) (I:Inv X p_ σ H s) (g:iJ H a y o) (ry:RelV y u) (h:∀s',Inv X p_ σ H s'→Q (.bool (!o.isSome)) s') :
    wpAny (model X.prog X.w) A (compareOp .NotIn u (.ref a)) Q E s:=by
  rcases g with⟨kvs,k,e,ey,l⟩ | ⟨kvs,k,b,e,ey,eb,l⟩
  ·subst ey;obtain⟨z,hd,vs,rel,dd⟩:=yI I.hok e;refine wpAny_notIn_of (Gh ry) hd dd.mapOf ?_;rw[← (rel.val k).pD,← l];exact h _ (I.tok _)
  ·subst ey;cases (show u=Value.ref b from ry);obtain⟨z,hd,xs,rel,dd⟩:=Gj I.hok e;refine wpAny_notIn_heap (tupleKind_room_in1 hu) (vU I.hok eb) hd dd ?_;have q:=(rel.val k).pD;rw[Option.isSome_map] at q;rw[← q,← l];exact h _ (I.tok _)
theorem Ef {h':Heap} {t':Nat} {ob:HO} (I:Inv X p_ σ H s) (mu:Mut (H a)) (hs:Heap.SameBut a s.heap h') (he:∃q,h'.get? a=some q) (new:cj X.prog X.w (upd H a ob) h' a ob) :
    Inv X p_ σ (upd H a ob) {s with heap:=h',toks:=t'}:=
  I.write (x:=a) (e:=a) mu (.inl rfl) (fun b q hb z=>(hs.2 b hb).trans z) he new
theorem R3 {P:Program} {w:World} {H':Hp} {h':Heap} {kvs:List (Key×V)} {vs:List (Key×Value)} (z:kvs.length≤sizeLine) (hd:(a == sysModules)=false) (rel:KV kvs vs) (dd:h'.DictOf (aV P w) a vs) :
    cj P w H' h' a (.dK kvs):=⟨z,hd,vs,rel,dd⟩
theorem Km {H':Hp} {Q:Unit→Shared→Prop} (hu:A.units+1<cLine) (I:Inv X p_ σ H s) (g:vV H a y v H') (ry:RelV y u) (rv:RelV v r) (h:∀s',Inv X p_ σ H' s'→Q () s') :
    wpAny (model X.prog X.w) A (setItem (.ref a) u r) Q E s:=by
  rcases g with⟨kvs,k,e,ey,l,eH⟩ | ⟨kvs,k,b,e,ey,eb,l,eH⟩
  · subst ey eH;obtain⟨z,hd,vs,rel,dd⟩:=Gi I.hok e;have hz:vs.length≤sizeLine:=by rw[← rel.length];exact z
    have hl:(putK kvs k v).length≤sizeLine:=by have:=sH kvs k v;omega
    refine wpAny_setItem_pairs (hsz:=hz) (Gh ry) dd fun h' Yp hs=>h _ ?_;have he:∃q,h'.get? a=some q:=let ⟨q,_,_,hq,_⟩:=Yp;⟨q,hq⟩;exact Ef I (by rw[e];exact True.intro) hs he (R3 hl hd (rel.put k rv) Yp)
  · subst ey eH;cases (show u=Value.ref b from ry);obtain⟨z,hd,xs,rel,dd⟩:=qdj I.hok e;have hz:xs.length≤sizeLine:=by rw[← Paired.length rel];exact z
    have hl:(putK kvs k v).length≤sizeLine:=by have:=sH kvs k v;omega
    refine wpAny_setItem_heap (hsz:=hz) (tupleKind_room_in1 hu) (vU I.hok eb) dd fun h' Yp hs=>h _ ?_;obtain⟨q,es,ep,hq,h2,h3,h4,_,h5⟩:=Yp;refine Ef I (by rw[e];exact True.intro) hs ⟨q,hq⟩ ⟨hl,hd,_,(rel.put k eb rv).keeps fun c ys ec=>?_,q,es,ep,hq,h2,h3,h4,h5⟩;rw[aB (Fy ec e (fun z=>nomatch z))];exact ec
end
def qgj (i:Expr):Prop:=∀ov iv,subscripted i false ov iv=operate [ov,iv] (getItem ov iv)
theorem qbR {prog:Program} {w:World} {A:Around} {E:Value→Shared→Prop} {s:Shared} {env:Env} {value slice:Expr} {pos:Pos} {T id:String} {Q:Value→Shared→Prop}
    (hl:typeLookup (.type T) "__getitem__" = pure (some (.builtin id))) (hs:qgj slice)
    (h:wpAny (model prog w) A (eval value env) (fun o s₁=>wpAny (model prog w) A (eval slice env) (fun i s₂=>s₂.TypeIs o T∧wpAny (model prog w) A (getItem o i) Q E s₂) E s₁) E s) :
    wpAny (model prog w) A (eval (.Subscript value slice pos) env) Q E s:=by
  refine Subscript_ (wpAny_mono h (fun o s₁ h₁=>wpAny_mono h₁ (fun i s₂ h₂=>?_) fun _ _ x=>x) fun _ _ x=>x);obtain⟨hT,h₂⟩:=h₂;unfold subscriptTail;refine wpAny_bind ?_;rw[getitemInPython_of_ne hT.not_modules];refine wpAny_bind (wpAny_specialOf hT hl ?_);have fin:wpAny (model prog w) A (subscripted slice false o i) (fun r s₃=>wpAny (model prog w) A (letTemporaryGo value o r >>= fun _=>pure r) Q E s₃) E s₂:=by
    rw[hs o i];exact wpAny_operating (wpAny_mono h₂ (fun r s₃ h₃=>wpAny_bind (wpAny_letTemporaryGo (wpAny_pure h₃))) fun _ _ x=>x)
  first
    | exact wpAny_pure (wpAny_bind fin)
    | exact wpAny_bind (wpAny_pure (wpAny_bind fin))
    | exact wpAny_bind fin
theorem PB {X:Cx} {p_:List (Addr×Obj)} {σ:St} {H:Hp} {s:Shared} {a:Addr} {y:V} {o:Option V} (I:Inv X p_ σ H s) (g:iJ H a y o):s.TypeIs (.ref a) "dict" :=by
  rcases g with⟨kvs,k,e,_,_⟩ | ⟨kvs,k,b,e,_,_,_⟩
  ·obtain⟨_,_,vs,_,dd⟩:=yI I.hok e;exact dd.typeIs
  ·obtain⟨_,_,xs,_,dd⟩:=Gj I.hok e;exact dd.typeIs
def Zq (td ty:TE):TE:=fun σ H Q=>td σ H fun x H1=>ty σ H1 fun y H2=>∃a v,x = .ref a∧iJ H2 a y (some v)∧Q v H2
def qeE (ty td:TE):TE:=fun σ H Q=>ty σ H fun y H1=>td σ H1 fun x H2=>∃a o,x = .ref a∧iJ H2 a y o∧Q (.bl o.isSome) H2
def Mp (ty td:TE):TE:=fun σ H Q=>ty σ H fun y H1=>td σ H1 fun x H2=>∃a o,x = .ref a∧iJ H2 a y o∧Q (.bl (!o.isSome)) H2
def Zr (td ty tv:TE):TS:=fun D σ H=>tv σ H fun v H1=>td σ H1 fun x H2=>ty σ H2 fun y H3=>∃a H4,x = .ref a∧vV H3 a y v H4∧D.nx σ H4
section
variable {X:Cx} {o i e value:Expr} {pos pos' tpos:Pos} {td ty tv:TE}
theorem U6 (hu:X.A.units+1<cLine) (ho:PE X o td) (hi:PE X i ty) (hs:qgj i):PE X (.Subscript o i pos) (Zq td ty):=by
  intro p_ s σ H Q I h;refine qbR PySem.F.slot_dict_getitem.lookup hs (cR (ho p_ s σ H _ I h) fun u s1 ⟨x,H1,I1,rx,q1⟩=>cR (hi p_ s1 σ H1 _ I1 q1) fun iv s2 ⟨y,H2,I2,ry,a,v,ex,g,q2⟩=>?_);subst ex;obtain rfl:u=Value.ref a:=rx;exact⟨PB I2 g,Ww hu I2 g ry fun w' s3 I3 Wh=>⟨v,H2,I3,Wh,q2⟩⟩
theorem qeF (hu:X.A.units+1<cLine) (hi:PE X i ty) (ho:PE X o td):PC X .In i o (qeE ty td):=by
  intro p_ s σ H Q I h;refine cR (hi p_ s σ H _ I h) fun iv s1 ⟨y,H1,I1,ry,q1⟩=>cR (ho p_ s1 σ H1 _ I1 q1) fun u s2 ⟨x,H2,I2,rx,a,ov,ex,g,q2⟩=>?_;subst ex;obtain rfl:u=Value.ref a:=rx;exact qja hu I2 g ry fun s3 I3=>⟨.bl ov.isSome,H2,I3,rfl,q2⟩
theorem Ko (hu:X.A.units+1<cLine) (hi:PE X i ty) (ho:PE X o td):PC X .NotIn i o (Mp ty td):=by
  intro p_ s σ H Q I h;refine cR (hi p_ s σ H _ I h) fun iv s1 ⟨y,H1,I1,ry,q1⟩=>cR (ho p_ s1 σ H1 _ I1 q1) fun u s2 ⟨x,H2,I2,rx,a,ov,ex,g,q2⟩=>?_;subst ex;obtain rfl:u=Value.ref a:=rx;exact qbQ hu I2 g ry fun s3 I3=>⟨.bl (!ov.isSome),H2,I3,rfl,q2⟩
theorem Eh (hu:X.A.units+1<cLine) (ho:PE X o td) (hi:PE X i ty) (hv:PE X value tv) (hs:swapsWith value (some (.Subscript o i pos')) pos.line X.env=pure false) :
    PS X (.Assign [.Subscript o i pos'] value pos) (Zr td ty tv):=by
  intro p_ s σ H D I h;refine wpAny_Assign_Subscript (cR (hv p_ s σ H _ I h) fun r s1 ⟨v,H1,I1,rv,q1⟩=>cR (ho p_ s1 σ H1 _ I1 q1) fun u s2 ⟨x,H2,I2,rx,q2⟩=>cR (hi p_ s2 σ H2 _ I2 q2) fun iv s3 ⟨y,H3,I3,ry,a,H4,ex,g,q3⟩=>?_) hs;subst ex;obtain rfl:u=Value.ref a:=rx;exact Km hu I3 g ry rv fun s4 I4=>⟨σ,H4,I4,q3⟩
end
theorem PJ {P:Program} {w:World} {H:Hp} (h:Heap) (hb:sysModules<h.objs.size):cj P w H (h.push {cls:=.type "dict",data:=.dict #[]}) h.objs.size (.dK []):=
  ⟨Nat.zero_le _,beq_eq_false_iff_ne.mpr (Ne.symm (Nat.ne_of_lt hb)),[],.nil,Heap.DictOf.new h⟩
def R4:TE:=fun _ H Q=>∀p,H p=none→Q (.ref p) (upd H p (.dK []))
section
variable {X:Cx} {pos:Pos}
theorem Gk:PE X (.Dict [] [] pos) R4:=fun p_ s σ H Q I h=>
  wpAny_Dict_empty ⟨.ref s.heap.objs.size,_,I.laid (a:=s.heap.objs.size) (o:=.dK []) (t':=s.toks) (fun _ _ q=>Heap.get?_push_of_some _ q) (Nat.le_refl _) (PJ s.heap I.big),rfl,h _ (I.hok.fresh (Nat.le_refl _))⟩
end
def vW:List (TE×TE)→St→Hp→(List (V×V)→Hp→Prop)→Prop
  | [],_,H,Q=>Q [] H
  | (tk,tv)::r,σ,H,Q=>tk σ H fun x H1=>tv σ H1 fun y H2=>vW r σ H2 fun ps H3=>Q ((x,y)::ps) H3
abbrev VV:List (V×V)→List (Value×Value)→Prop:=Paired fun p q=>RelV p.1 q.1∧RelV p.2 q.2
def PPs (X:Cx) (pos:Pos) (keys:List (Option Expr)) (values:List Expr) (Yq:List (TE×TE)):Prop:=
  ∀(p_:List (Addr×Obj)) (s:Shared) (σ:St) (H:Hp) (Q:List (V×V)→Hp→Prop),Inv X p_ σ H s→vW Yq σ H Q→
    wpAny (model X.prog X.w) X.A (evalPairs (pairTrees keys values X.env pos)) (fun vs s'=>∃ps H',Inv X p_ σ H' s'∧VV ps vs∧Q ps H') X.xe s
theorem qbS {X:Cx} {pos:Pos}:PPs X pos [] [] []:=fun p_ s σ H Q I h=>pairTrees_nil_walk ⟨[],H,I,.nil,h⟩
theorem Zt {X:Cx} {pos:Pos} {k v:Expr} {ks:List (Option Expr)} {vs:List Expr} {tk tv:TE} {Yq:List (TE×TE)} (hk:PE X k tk) (hv:PE X v tv) (hr:PPs X pos ks vs Yq) :
    PPs X pos (some k::ks) (v::vs) ((tk,tv)::Yq):=fun p_ s σ H Q I h=>
  pairTrees_cons_walk (cR (hk p_ s σ H _ I h) fun u s1 ⟨x,H1,I1,rx,q1⟩=>cR (hv p_ s1 σ H1 _ I1 q1) fun w2 s2 ⟨y,H2,I2,ry,q2⟩=>
    cR (hr p_ s2 σ H2 _ I2 q2) fun ws s3 ⟨ps,H3,I3,rel,q3⟩=>⟨(x,y)::ps,H3,I3,.cons ⟨rx,ry⟩ rel,q3⟩)
def vX (kvs more:List (Key×V)):List (Key×V):=more.foldl (fun acc kv=>putK acc kv.1 kv.2) kvs
theorem KV.merge:∀{more:List (Key×V)} {rs:List (Key×Value)} {kvs:List (Key×V)} {vs:List (Key×Value)},KV more rs→KV kvs vs→KV (vX kvs more) (merged vs rs):=by
  intro more rs kvs vs r;unfold KV at r
  induction r generalizing kvs vs with
  | nil=>intro q;exact q
  | @cons p q ps qs h t ih=>
    intro r0;have e:KV (putK kvs p.1 p.2) (stored vs q.1 q.2):=by
      have:=r0.put p.1 h.2;rw[← h.1];exact this
    exact ih e
theorem vp:∀(more kvs:List (Key×V)),(vX kvs more).length≤kvs.length+more.length
  | [],kvs=>by show kvs.length≤kvs.length+0;omega
  | p::r,kvs=>by
    have h1:=vp r (putK kvs p.1 p.2);have h2:=sH kvs p.1 p.2;show(vX (putK kvs p.1 p.2) r).length≤_;rw[List.length_cons];omega
theorem Gm {P:Program} {w:World}:∀{kvs:List (Key×V)} {ws:List (Value×Value)},VV (kvs.map fun kv=>(kV kv.1,kv.2)) ws→∃rs,Carries (aV P w) ws rs∧KV kvs rs
  | [],_,r=>by rw[List.map_nil] at r;cases r;exact⟨[],True.intro,.nil⟩
  | p::kvs,_,r=>by
    rw[List.map_cons] at r;cases r with
    | @cons a b as bs h t=>
      obtain⟨rs,c,q⟩:=Gm (P:=P) (w:=w) t;obtain⟨b1,b2⟩:=b;exact⟨(p.1,b2)::rs,⟨Gh h.1,rfl,c⟩,.cons ⟨rfl,h.2⟩ q⟩
def qdk (Yq:List (TE×TE)):TE:=fun σ H Q=>∀p,H p=none→vW Yq σ (upd H p (.dK [])) fun ps H2=>H2 p=some (.dK [])∧∃kvs:List (Key×V),ps=kvs.map (fun kv=>(kV kv.1,kv.2))∧kvs.length≤15∧Q (.ref p) (upd H2 p (.dK (vX [] kvs)))
theorem qbT {X:Cx} {pos:Pos} {keys:List (Option Expr)} {values:List Expr} {Yq:List (TE×TE)} (h:PPs X pos keys values Yq) (hall:keys.all (·.isSome)=true) (hl:keys.length=values.length) (h0:keys≠[])
    (h15:keys.length≤15):PE X (.Dict keys values pos) (qdk Yq):=by
  intro p_ s σ H Q I q;have hn:=I.hok.fresh (Nat.le_refl s.heap.objs.size);have I1:=I.laid (a:=s.heap.objs.size) (o:=.dK []) (h':=s.heap.push {cls:=.type "dict",data:=.dict #[]}) (t':=s.toks) (fun _ _ q=>Heap.get?_push_of_some _ q) (Nat.le_refl _) (PJ s.heap I.big);refine wpAny_Dict_walk (knd:=aV X.prog X.w) hall hl h0 h15 (cR (h p_ _ σ _ _ I1 (q _ hn)) fun ws s2 zz=>?_);obtain⟨ps,H2,I2,rel,e,kvs,ep,lk,q2⟩:=zz;subst ep;obtain⟨rs,c,rk⟩:=Gm (P:=X.prog) (w:=X.w) rel;obtain⟨z,hd,vs0,r0,dd⟩:=Gi I2.hok e;cases r0;refine⟨rs,c,dd,fun h' Yp hs=>⟨.ref s.heap.objs.size,_,?_,rfl,q2⟩⟩;have hz:(vX [] kvs).length≤sizeLine:=by
    have h1:=vp kvs [];rw[List.length_nil] at h1;rw[sizeLine_eq];omega
  have he:∃q,h'.get? s.heap.objs.size=some q:=let ⟨q,_,_,hq,_⟩:=Yp;⟨q,hq⟩;exact Ef I2 (by rw[e];exact True.intro) hs he (R3 hz hd (rk.merge .nil) Yp)
structure M2 (X:Cx) (o:Expr) (m:Str) (apos:Pos) (e f:Expr) (cpos:Pos):Prop where
  base:attributeBase o m X.env (eval o X.env)=eval o X.env
  few:((backTo cpos (starEach [e,f] X.env)).all (fun x=>!x.1) && (backToKw cpos (keywordEach [] X.env)).all (fun x=>x.1.isSome)
    && decide (([e,f]:List Expr).length+([]:List Keyword).length+(if ([]:List Keyword).isEmpty then 0 else 1)<30))=true
  line:(apos.endLine == cpos.line)=true
  trees:backTo cpos (starEach [e,f] X.env)=[(false,eval e X.env),(false,eval f X.env)]
def IsD (H:Hp) (a:Addr):Prop:=(∃kvs,Rd H a (.dK kvs))∨∃kvs,Rd H a (.dT kvs)
theorem Zu {X:Cx} {p_:List (Addr×Obj)} {σ:St} {H:Hp} {s:Shared} {a:Addr} (I:Inv X p_ σ H s) (d:IsD H a) :
    s.TypeIs (.ref a) "dict" ∧(∀b,Value.ref a = .ref b→∃ob,s.heap.get? b=some ob∧ob.dict=none)∧(a == sysModules)=false:=by
  rcases d with⟨kvs,e⟩ | ⟨kvs,e⟩
  ·obtain⟨_,hd,vs,_,dd⟩:=yI I.hok e;refine⟨dd.typeIs,fun b q=>?_,hd⟩;cases q;obtain⟨ob,_,_,h1,h2,_⟩:=dd;exact⟨ob,h1,h2.2.1⟩
  ·obtain⟨_,hd,xs,_,dd⟩:=Gj I.hok e;refine⟨dd.typeIs,fun b q=>?_,hd⟩;cases q;obtain⟨ob,_,_,h1,h2,_⟩:=dd;exact⟨ob,h1,h2.2.1⟩
section
variable {X:Cx} {p_:List (Addr×Obj)} {σ:St} {H:Hp} {s:Shared} {a:Addr} {y d:V} {u r:Value} {o:Option V} {A:Around} {E:Value→Shared→Prop}
theorem qeG {Q:Value→Shared→Prop} (hu:A.units+1<cLine) (I:Inv X p_ σ H s) (g:iJ H a y o) (ry:RelV y u) (rd:RelV d r) (h:∀w' s',Inv X p_ σ H s'→RelV (o.getD d) w'→Q w' s') :
    wpAny (model X.prog X.w) A (call (.builtin "dict.get") [.ref a,u,r]) Q E s:=by
  rcases g with⟨kvs,k,e,ey,l⟩ | ⟨kvs,k,b,e,ey,eb,l⟩
  ·subst ey;obtain⟨z,hd,vs,rel,dd⟩:=yI I.hok e;refine call_meetsIn PySem.F.slot_dict_get dd.typeIs PySem.F.entry_dict_get (PySem.F.args_dict_get_3 _ _ _) (meets_dict_get_default (aV X.prog X.w) a (Gh ry) hd r) ⟨_,dd.mapOf,h _ _ (I.tok _) ?_⟩;rw[l];exact(rel.val k).getD rd
  ·subst ey;cases (show u=Value.ref b from ry);obtain⟨z,hd,xs,rel,dd⟩:=Gj I.hok e;refine call_meetsIn PySem.F.slot_dict_get dd.typeIs PySem.F.entry_dict_get (PySem.F.args_dict_get_3 _ _ _) (meetsH_dict_get_default (tupleKind (aV X.prog X.w)) a b hd r) ⟨tupleKind_room_in1 hu,k,xs,vU I.hok eb,dd,h _ _ (I.tok _) ?_⟩;rw[l];exact(rel.val k).getD rd
end
def R5 (td ty tx:TE):TE:=fun σ H Q=>td σ H fun x H1=>∃a,x = .ref a∧IsD H1 a∧ty σ H1 fun y H2=>tx σ H2 fun z H3=>∃o,iJ H3 a y o∧Q (o.getD z) H3
section
variable {X:Cx} {o e f:Expr} {apos cpos:Pos} {td ty tx:TE}
theorem PK (hu:X.A.units+1<cLine) (ho:PE X o td) (he:PE X e ty) (hf:PE X f tx) (m:M2 X o "get" apos e f cpos):PE X (.Call (.Attribute o "get" apos) [e,f] [] cpos) (R5 td ty tx):=by
  intro p_ s σ H Q I h;refine wpAny_Call_method m.base m.few m.line PySem.F.plainAttrs_dict PySem.F.slot_dict_get PySem.F.type_dict_get (cR (ho p_ s σ H _ I h) fun u s1 zz=>?_);obtain⟨x,H1,I1,rx,a,ex,d,q1⟩:=zz;subst ex;obtain rfl:u=Value.ref a:=rx;obtain⟨t1,t2,_⟩:=Zu I1 d;refine⟨t1,t2,?_⟩;rw[m.trees];refine Calls.callWith_builtin rfl (Calls.evalArgs_plain (Calls.spliced_cons (cR (he p_ s1 σ H1 _ I1 q1) fun iv s2 ⟨y,H2,I2,ry,q2⟩=>
    Calls.spliced_cons (cR (hf p_ s2 σ H2 _ I2 q2) fun fv s3 ⟨z,H3,I3,rz,ov,g,q3⟩=>Calls.spliced_nil ?_))))
  exact qeG hu I3 g ry rz fun w' s4 I4 Wh=>⟨_,H3,I4,Wh,q3⟩
end
section
variable {X:Cx} {p_:List (Addr×Obj)} {σ:St} {H:Hp} {s:Shared} {a:Addr} {kvs:List (Key×V)} {A:Around} {E:Value→Shared→Prop}
theorem Zv {Q:Value→Shared→Prop} (I:Inv X p_ σ H s) (e:Rd H a (.dK kvs)) (h:∀p s',H p=none→Inv X p_ σ (upd H p (.dK kvs)) s'→Q (.ref p) s'):wpAny (model X.prog X.w) A (call (.type "dict") [.ref a]) Q E s:=by
  obtain⟨z,hd,vs,rel,dd⟩:=yI I.hok e;refine kt_call_dict hd dd (by rw[← rel.length];exact z) fun h' Yp hs=>?_;refine h _ _ (I.hok.fresh (Nat.le_refl _)) (I.laid (a:=s.heap.objs.size) (o:=.dK kvs) (t':=s.toks) (fun b q hq=>?_) (Nat.le_refl _) (R3 z (beq_eq_false_iff_ne.mpr (Ne.symm (Nat.ne_of_lt I.big))) rel Yp));exact(hs.2 b (Nat.ne_of_lt (Heap.lt_size hq))).trans (Heap.get?_push_of_some _ hq)
end
structure Nm2 (mg:Str→Option Value):Prop where
  enumerate:mg "enumerate" = none
  any:mg "any" = none
  dict:mg "dict" = none
  sorted:mg "sorted" = none
  repr:mg "repr" = none
  bool:mg "bool" = none
theorem Inv.Mq {X:Cx} {p_:List (Addr×Obj)} {σ:St} {H:Hp} {s:Shared} {h2:Heap} {t':Nat} {x y:V} {u u':Value} (I:Inv X p_ σ H s) (I1:Inv X p_ σ H {s with heap:=h2,toks:=t'}) (ru:RelV x u) (ru':RelV y u')
    (yE:h2.get? s.heap.objs.size=some {cls:=.type "tuple",data:=.seq #[u,u']}):Inv X p_ σ (upd H s.heap.objs.size (.tup [x,y])) {s with heap:=h2,toks:=t'}:=by
  have hfr:H s.heap.objs.size=none:=I.hok.fresh (Nat.le_refl _);refine⟨I1.ok,I1.os,I1.bare,⟨I1.base.keep,I1.base.slot,fun c o e n hx=>?_,I1.base.there,fun c zs e=>?_,fun c o v e=>?_,fun c qs e=>?_⟩,I1.loc,I1.cell,?_,fun v c e=>?_,fun v hv=>?_,?_,I1.len⟩
  · rw[aB (fun e'=>?_)]
    ·exact I1.base.free c o e n hx
    ·exact absurd (Nat.lt_of_lt_of_le (Heap.lt_size e) I.sz) (by rw[e'];exact Nat.lt_irrefl _)
  ·have e':=I1.base.tups c zs e;rw[aB (aK e' hfr)];exact e'
  ·have e':=I1.base.qg c o v e;rw[aB (aK e' hfr)];exact e'
  ·obtain⟨m,e'⟩:=I1.base.rM c qs e;exact⟨m,by rw[aB (aK e' hfr)];exact e'⟩
  ·rw[aB (Nat.ne_of_lt I.lt)];exact I1.free
  ·obtain⟨w',qc⟩:=I.cell v c e;rw[aB (Nat.ne_of_lt qc.lt)];exact I1.iw v c e
  ·obtain⟨f1,f2,f3⟩:=I1.pin v hv;refine⟨f1,?_,f3⟩;rw[aB (Nat.ne_of_lt (Heap.lt_size (I.pin v hv).1))];exact f2
  · intro c v e
    by_cases hcs:c=s.heap.objs.size
    ·subst hcs;rw[ao] at e;cases e;exact⟨by show 2≤sizeLine;rw[sizeLine_eq];decide,[u,u'],.cons ru (.cons ru' .nil),⟨_,yE,rfl,0,rfl⟩⟩
    · rw[aB hcs] at e;refine(I1.hok c v e).stay (fun _ _ _ qq=>qq) (fun d qd=>?_) fun d zs qd=>?_
      ·rw[aB (aK qd hfr)];exact qd
      ·rw[aB (aK qd hfr)];exact qd
def Ite (K:W.Frag) (a:Addr):It:=
  ⟨fun i H=>∃xs x,bU K H a xs∧xs[i]? = some x,
   fun i H v H'=>∃t x,v = .ref t∧H t=none∧H'=upd H t (.tup [.int i,x])∧∀xs,bU K H a xs→xs[i]? = some x,
   fun i H=>∃xs,bU K H a xs∧xs.length≤i⟩
structure qeH (e it a:Addr) (i:Nat) (h:Heap):Prop where
  he:∃old,IsEnum h e it i old
  hi:h.IsListIter it a i
theorem Wx {P:Program} {w:World} {K:W.Frag} {es:List Expr} {k:Nat} {pos:Pos} {e it a:Addr} (nei:e≠it) :
    Turn P w K (.Tuple es k pos) (Ite K a) [e,it] e (qeH e it a) where
  mem:=by simp
  obj:=fun i h st c hc=>by
    simp only[List.mem_cons,List.not_mem_nil,or_false] at hc
    rcases hc with rfl | rfl
    ·obtain⟨old,q⟩:=st.he;exact⟨_,q,fun v e=>nomatch e⟩
    ·obtain⟨o,e,_,d⟩:=st.hi;exact⟨o,e,fun v y=>by rw[d] at y;cases y⟩
  keep:=fun i h h' st kk=>by
    obtain⟨old,q⟩:=st.he;exact⟨⟨old,kk e (by simp) _ q⟩,st.hi.at fun o z=>kk it (by simp) o z⟩
  item:=by
    intro X hP hw hK hc i p_ s σ H E I hf st hg;subst hP hw hK;obtain⟨xs,x,qa,hx⟩:=hg;obtain⟨its,rv,pl,hz1⟩:=I.list qa;obtain⟨u,hu,ru⟩:=rv.get hx;obtain⟨old,hE⟩:=st.he;obtain⟨o1,e1,c1,_⟩:=id st.hi;refine wpAny_pyNext_enum_item hE st.hi pl.isList (x:=u) (by simpa using hu) nei fun h' a1 a2 a3 a4 kk=>?_;refine⟨_,rfl,wpAny_letOwnedTupleGo_enum a1 fun h2 b1 sb=>?_⟩;have lt:∀{c o},s.heap.get? c=some o→s.heap.objs.size≠c:=fun e=>Nat.ne_of_gt (Heap.lt_size e);have hn:H s.heap.objs.size=none:=I.hok.fresh (Nat.le_refl _);have kk2:∀c o,c∉[e,it]→s.heap.get? c=some o→h2.get? c=some o:=fun c o hc z=>by
      simp only[List.mem_cons,List.not_mem_nil,or_false,not_or] at hc;exact(sb.2 c hc.1).trans (kk c o hc.1 hc.2 z)
    have I1:Inv X p_ σ H {s with heap:=h2,toks:=s.toks+1}:=I.qp kk2 hf;have yE:=sb.extBut _ _ (lt hE) a3;have I2:Inv X p_ σ (upd H s.heap.objs.size (.tup [.int i,x])) {s with heap:=h2,toks:=s.toks+1}:=I.Mq I1 ⟨_,rfl⟩ ru yE;refine⟨.ref s.heap.objs.size,_,I2,rfl,⟨s.heap.objs.size,x,rfl,hn,rfl,fun xs' q'=>by rw[I.yp q' qa];exact hx⟩,?_,fun c hcm=>?_⟩
    ·exact⟨⟨_,b1⟩,a2.extBut sb.extBut nei.symm⟩
    · have hne:c≠s.heap.objs.size:=by
        simp only[List.mem_cons,List.not_mem_nil,or_false] at hcm
        rcases hcm with rfl | rfl
        ·exact(lt hE).symm
        ·exact(lt e1).symm
      rw[aB hne];exact(hf c hcm).1
  done:=by
    intro X hP hw hK hc i p_ s σ H E I hf st hg;subst hP hw hK;obtain⟨xs,qa,hl⟩:=hg;obtain⟨its,rv,pl,hz1⟩:=I.list qa;obtain⟨old,hE⟩:=st.he;have l1:=rv.length;refine wpAny_pyNext_enum_end (I.ok.hd hc) hE st.hi pl.isList (by simp;omega) fun h' kk=>⟨rfl,I.qp (t':=s.toks) (fun c o hcm z=>?_) hf⟩;simp only[List.mem_cons,List.not_mem_nil,or_false,not_or] at hcm;exact kk c o hcm.2 z
  self:=fun _ _ _ _ _ st h=>by
    obtain⟨old,q⟩:=st.he;exact wpAny_pyIter_enum q h
section
variable {X:Cx} {K:W.Frag}
def Zw (K:W.Frag) (t:TA):TI:=fun σ H R=>t σ H fun vs H1=>∃a xs,vs=[.ref a]∧bU K H1 a xs∧R (Ite K a) H1
theorem Wy:bootBuiltins "enumerate" = some (.type "enumerate"):=by decide+kernel
theorem U7 (hK:X.K=K) {es:List Expr} {k:Nat} {pos':Pos} {a:Expr} {ta:TA} {p pos:Pos} (hg:Gl X "enumerate") (hm:X.mg "enumerate" = none) (ha:PA X [a] ta)
    (hs:starEach [a] X.env=[(false,eval a X.env)]:=by rfl) :
    PI X (.Tuple es k pos') (.Call (.Name "enumerate" p) [a] [] pos) (Zw K ta):=by
  subst hK;intro p_ s σ H R I h;refine Call_ (qj I hg hm Wy (PyProof.Rows.callWith_type1 (cR (ha pos p_ s σ H _ I h) fun us s1 zz=>?_) (by rw[hs];rfl) (by rfl)));obtain⟨vs,H1,I1,r1,q1⟩:=zz;obtain⟨l1,xs,e,qa,q⟩:=q1;subst e;obtain⟨u,rfl,r⟩:=vals1 r1;obtain rfl:u=Value.ref l1:=r;obtain⟨its,rv,pl,hz1⟩:=I1.list qa;refine call_enumerate_list pl.isList fun h' b1 b2 b3 kk=>?_;refine wpAny_pyIter_enum (s:={s1 with heap:=h'}) b1 ?_;have I2:Inv X p_ σ H1 {s1 with heap:=h'}:=I1.kept (t':=s1.toks) kk;refine⟨s1.heap.objs.size+1,[s1.heap.objs.size+1,s1.heap.objs.size],_,_,H1,rfl,I2,Wx (Nat.succ_ne_self _),⟨⟨_,b1⟩,b2⟩,fun c hc=>?_,q⟩;have hle:s1.heap.objs.size≤c:=by
    simp only[List.mem_cons,List.not_mem_nil,or_false] at hc
    rcases hc with rfl | rfl <;> first | exact Nat.le_add_right _ _ | exact Nat.le_refl _
  exact I1.FN hle (I1.hok.fresh hle)
end
section
variable {X:Cx} {K:W.Frag} {tg:Expr}
theorem qbU (hK:X.K=K) {es:List Expr} {k:Nat} {pos':Pos} {a b:Expr} {ta:TA} {p pos:Pos} (hg:Gl X "zip") (hm:X.mg "zip" = none) (ha:PA X [a,b] ta)
    (hs:starEach [a,b] X.env=[(false,eval a X.env),(false,eval b X.env)]:=by rfl) (hs2:starEach [b] X.env=[(false,eval b X.env)]:=by rfl) :
    PI X (.Tuple es k pos') (.Call (.Name "zip" p) [a,b] [] pos) (qbJ K ta):=by subst hK;exact qex hg hm ha hs hs2
theorem U8 (hK:X.K=K) {o value:Expr} {ta tv:TE} {f:Str} {pos pos':Pos} (ha:PE X o ta) (hv:PE X value tv) (hs:swapsWith value (some (.Attribute o f pos')) pos.line X.env=pure false):PS X (.Assign [.Attribute o f pos'] value pos) (qej K ta tv f):=by subst hK;exact qel ha hv hs
end
@[simp ↓] theorem qjb (i:Nat) σ H Q:qdU i σ H Q=(∃v,σ[i]? = some (some v)∧Q v H):=rfl
@[simp ↓] theorem qkV (v:V) z0 H Q:tC v z0 H Q=(Q v H):=rfl
@[simp ↓] theorem qkW (t:TE) σ H Q:tB t σ H Q=(t σ H fun x H1=>∃c,x = .bl c∧Q c H1):=rfl
@[simp ↓] theorem qjc (t:TT) σ H Q:qfX t σ H Q=(t σ H fun c H1=>Q (!c) H1):=rfl
@[simp ↓] theorem qhY (ta:TE) σ H Q:Yy ta σ H Q=(ta σ H fun x H1=>∃c,x = .bl c∧Q (.bl (!c)) H1):=rfl
@[simp ↓] theorem qhZ D σ H:qda  D σ H=(D.nx σ H):=rfl
@[simp ↓] theorem qjd (t u:TS) D σ H:qbw t u D σ H=(t {D with nx:=u D} σ H):=rfl
@[simp ↓] theorem qh0 (te:TE) D σ H:qdb te D σ H=(te σ H fun _ H1=>D.nx σ H1):=rfl
@[simp ↓] theorem qje (te:TE) D σ H:qd1 te D σ H=(te σ H D.rt):=rfl
@[simp ↓] theorem qgk z0 z1 z2:Rx  z0 z1 z2=(False):=rfl
@[simp ↓] theorem qh1 (i:Nat) v σ H Q:JZ i v σ H Q=(Q (σ.set i (some v)) H):=rfl
@[simp ↓] theorem qjf vs σ H Q:qd3  vs σ H Q=(vs=[]∧Q σ H):=rfl
@[simp ↓] theorem qh2 (t:TG) (u:O5) vs σ H Q:Yz t u vs σ H Q=(∃v r,vs=v::r∧t v σ H fun σ' H'=>u r σ' H' Q):=rfl
@[simp ↓] theorem qjg (K:W.Frag) (n:Nat) (t:O5) v σ H Q:qbx K n t v σ H Q=(∃a xs,v = .ref a∧gY K H a xs∧xs.length=n∧t xs σ H Q):=rfl
@[simp ↓] theorem qjh (to ti:TE) (t:V1) v σ H Q:qfY to ti t v σ H Q=(to σ H fun o H1=>ti σ H1 fun i H2=>t o i v H2 fun H3=>Q σ H3):=rfl
@[simp ↓] theorem qji (te:TE) (g:TG) D σ H:V3 te g D σ H=(te σ H fun x H1=>g x σ H1 D.nx):=rfl
@[simp ↓] theorem qjj (i:Nat) (te:TE) (ti:TIp) D σ H:qd5 i te ti D σ H=(∃x,σ[i]? = some (some x)∧te σ H fun y H1=>ti x y H1 fun z H2=>D.nx (σ.set i (some z)) H2):=rfl
@[simp ↓] theorem qkr (f:Int→Int→Int) x y H Q:ipI f x y H Q=(∃i j,x = .int i∧y = .int j∧Q (.int (f i j)) H):=rfl
@[simp ↓] theorem qh3 (K:W.Frag) (tl:TE) σ H R:Uu K tl σ H R=(tl σ H fun x H1=>∃a,x = .ref a∧(∃xs,bU K H1 a xs)∧R (Yn K a) H1):=rfl
@[simp ↓] theorem qjk (K:W.Frag) (tl:TE) σ H R:qd8 K tl σ H R=(tl σ H fun x H1=>∃a,x = .ref a∧(∃xs,gY K H1 a xs)∧R (Itt K a) H1):=rfl
@[simp ↓] theorem qh4 (ta:TA) σ H R:YF ta σ H R=(ta σ H fun vs H1=>∃j:Int,vs=[.int j]∧-(2 ^ 62)≤j∧j<2 ^ 62∧R (Ru 0 j.toNat) H1):=rfl
@[simp ↓] theorem qh5 (ta:TA) σ H R:YG ta σ H R=(ta σ H fun vs H1=>∃i j:Int,vs=[.int i,.int j]∧(-(2 ^ 62)≤i∧i<2 ^ 62∧-(2 ^ 62)≤j∧j<2 ^ 62)∧R (Ru i (j - i).toNat) H1):=rfl
@[simp ↓] theorem qks (r:R2) (ta tb:TE) σ H Q:tOp r ta tb σ H Q=(ta σ H fun x H1=>tb σ H1 fun y H2=>r x y H2 Q):=rfl
@[simp ↓] theorem qkt (r:V→Hp→VK→Prop) (ta:TE) σ H Q:tUn r ta σ H Q=(ta σ H fun x H1=>r x H1 Q):=rfl
@[simp ↓] theorem qh6 (t:TE) σ H Q:UG t σ H Q=(t σ H fun x H'=>∃k,x = .bl k∧Q k H'):=rfl
@[simp ↓] theorem qjl (K:W.Frag) (ta:TE) (f:Str) σ H Q:qbF K ta f σ H Q=(ta σ H fun x H1=>∃a C dx fs v,x = .ref a∧H1 a=some (.ins C dx fs)∧Cls K C∧lF K C f∧fs.lookup f=some v∧Q v H1):=rfl
@[simp ↓] theorem qjm (K:W.Frag) (ta tv:TE) (f:Str) D σ H:qej K ta tv f D σ H=(tv σ H fun y H1=>ta σ H1 fun x H2=>∃a C dx fs,x = .ref a∧H2 a=some (.ins C dx fs)∧Cls K C∧lF K C f∧fs.length<1000∧D.nx σ (upd H2 a (.ins C dx (jD f y fs)))):=rfl
@[simp ↓] theorem qjn z0 H Q:Jq  z0 H Q=(Q [] H):=rfl
@[simp ↓] theorem qh7 (ta:TE) (tr:TA) σ H Q:vm ta tr σ H Q=(ta σ H fun x H1=>tr σ H1 fun xs H2=>Q (x::xs) H2):=rfl
@[simp ↓] theorem qjo (t:TA) σ H Q:qem t σ H Q=(t σ H fun xs H1=>xs.length≤sizeLine∧∀p,H1 p=none→Q (.ref p) (upd H1 p (.tup xs))):=rfl
@[simp ↓] theorem qjp (t:TA) σ H Q:YW t σ H Q=(t σ H fun xs H1=>xs.length≤sizeLine∧∀p,H1 p=none→Q (.ref p) (upd H1 p (.lst xs))):=rfl
@[simp ↓] theorem qku (r:List V→Hp→VK→Prop) (t:TA) σ H Q:tCB r t σ H Q=(t σ H fun vs H1=>r vs H1 Q):=rfl
@[simp ↓] theorem qkv (K:W.Frag) (T:String) (r:V→List V→Hp→VK→Prop) (to:TE) (t:TA) σ H Q:tBM K T r to t σ H Q=(to σ H fun x H1=>tyV K T x H1∧t σ H1 fun xs H2=>r x xs H2 Q):=rfl
@[simp ↓] theorem qjq z0 H Q:qgc  z0 H Q=(Q true H):=rfl
@[simp ↓] theorem qjr (tl:TE) σ H R:qev tl σ H R=(tl σ H fun x H1=>∃z,x = .str z∧R (Its z) H1):=rfl
@[simp ↓] theorem qjs (K:W.Frag) (t:TA) σ H R:qbJ K t σ H R=(t σ H fun vs H1=>∃a b xs ys,vs=[.ref a,.ref b]∧bU K H1 a xs∧bU K H1 b ys∧R (Itz K a b) H1):=rfl
@[simp ↓] theorem qjt (K:W.Frag) (tl:TE) σ H R:qeB K tl σ H R=(tl σ H fun x H1=>∃b p,x = .ref p∧(∃xs,SqB b K H1 p xs)∧R (Itq b K p) H1):=rfl
structure qju (Q:VK) where
  n:Nat
structure Zx (g:TG) (tb:TS) (D:Ends) where
  n:Nat
structure qgl (c:TT) (tb:TS) (D:Ends) where
  n:Nat
structure qgm (g:TG) (tt:TT) (te:TE) (Q:Hp→Prop) where
  n:Nat
structure R6 (A B:Prop) where
  n:Nat
def R7 (sp:Sp) (vs:List V) (H:Hp) (Q:VK) (d:qju Q) (E:XK):Prop:=sp vs H Q E
def tFr (J:It) (g:TG) (tb:TS) (D:Ends) (d:Zx g tb D) (σ:St) (H:Hp):Prop:=qeC J g tb D σ H
def tWh (c:TT) (tb:TS) (D:Ends) (d:qgl c tb D) (σ:St) (H:Hp):Prop:=Lw c tb D σ H
def tCm (own:List Str) (caps:List Nat) (J:It) (g:TG) (tt:TT) (te:TE) (Q:Hp→Prop) (d:qgm g tt te Q) (D:Addr) (σ:St) (H:Hp):Prop:=lW own caps J g tt te D σ H Q
def iB (b:Bool) (A B:Prop) (d:R6 A B):Prop:=if b=true then A else B
@[simp] theorem qkw (A B:Prop) (d:R6 A B):iB true A B d=A:=rfl
@[simp] theorem qkx (A B:Prop) (d:R6 A B):iB false A B d=B:=rfl
theorem iB.of {b:Bool} {A B:Prop} {d:R6 A B} (h1:b=true→A) (h2:b=false→B):iB b A B d:=by
  cases b with
  | true=>exact h1 rfl
  | false=>exact h2 rfl
theorem iB.pos {b:Bool} {A B:Prop} {d:R6 A B} (h:b=true) (h1:A):iB b A B d:=by subst h;exact h1
theorem iB.neg {b:Bool} {A B:Prop} {d:R6 A B} (h:b=false) (h1:B):iB b A B d:=by subst h;exact h1
@[simp ↓] theorem qh8 (sp:Sp) (Ai:List V) (E:XK) (t:TA) (σ:St) (H:Hp) (Q:VK):YX sp Ai E t σ H Q=t σ H fun vs H1=>R7 sp (vs++Ai) H1 Q ⟨0⟩ E:=rfl
@[simp ↓] theorem qh9 (C:Addr) (m:Str) (sp:Sp) (Ai:List V) (E:XK) (ta:TE) (t:TA) (σ:St) (H:Hp) (Q:VK):YZ C m sp Ai E ta t σ H Q=ta σ H fun x H1=>∃a dx fs,x = .ref a∧H1 a=some (.ins C dx fs)∧fs.lookup m=none∧t σ H1 fun vs H2=>R7 sp (x::(vs++Ai)) H2 Q ⟨0⟩ E:=rfl
@[simp ↓] theorem qh_ (C:Addr) (sp:Sp) (Ai:List V) (E:XK) (t:TA) (σ:St) (H:Hp) (Q:VK):Y0 C sp Ai E t σ H Q=t σ H fun vs H1=>∀x dx,H1 x=none→H1 dx=none→dx≠x→
  R7 sp (.ref x::(vs++Ai)) (upd (upd H1 dx (.own x)) x (.ins C dx [])) (fun v H2=>v = .non∧Q (.ref x) H2) ⟨0⟩ E:=rfl
@[simp ↓] theorem qjv (wi:TI) (g:TG) (tb:TS) (D:Ends) (σ:St) (H:Hp):qfZ wi g tb D σ H=wi σ H fun J H1=>tFr J g tb D ⟨0⟩ σ H1:=rfl
@[simp ↓] theorem qgn (c:TT) (tb:TS) (D:Ends) (σ:St) (H:Hp):Lw c tb D σ H=tWh c tb D ⟨0⟩ σ H:=rfl
@[simp ↓] theorem qia (own:List Str) (caps:List Nat) (wi:TI) (g:TG) (tt:TT) (te:TE) (σ:St) (H:Hp) (Q:VK):Zb own caps wi g tt te σ H Q=wi σ H fun J H1=>∀D,H1 D=none→tCm own caps J g tt te (Q (.ref D)) ⟨0⟩ D σ (upd H1 D (.lst [])):=rfl
@[simp ↓] theorem qjw (c:TT) (t u:TS) (D:Ends) (σ:St) (H:Hp):qd2 c t u D σ H=c σ H fun b H1=>iB b (t D σ H1) (u D σ H1) ⟨0⟩:=rfl
@[simp ↓] theorem qky (c:TT) (t u:TE) (σ:St) (H:Hp) (Q:VK):tIf c t u σ H Q=c σ H fun b H1=>iB b (t σ H1 Q) (u σ H1 Q) ⟨0⟩:=rfl
@[simp ↓] theorem qjx (t u:TT) (σ:St) (H:Hp) (Q:Bool→Hp→Prop):qfW t u σ H Q=t σ H fun c H1=>iB c (u σ H1 Q) (Q false H1) ⟨0⟩:=rfl
@[simp ↓] theorem qkz (t u:TT) (σ:St) (H:Hp) (Q:Bool→Hp→Prop):tOr t u σ H Q=t σ H fun c H1=>iB c (Q true H1) (u σ H1 Q) ⟨0⟩:=rfl
@[simp ↓] theorem qib (ta tb:TE) (σ:St) (H:Hp) (Q:VK):Yx ta tb σ H Q=ta σ H fun x H1=>∃c,x = .bl c∧iB c (tb σ H1 Q) (Q (.bl false) H1) ⟨0⟩:=rfl
@[simp ↓] theorem qgo (r r':R2) (ta tb tc:TE) (σ:St) (H:Hp) (Q:VK):Lx r r' ta tb tc σ H Q=ta σ H fun x H1=>tb σ H1 fun y H2=>r x y H2 fun z H3=>∃k,z = .bl k∧iB k (tc σ H3 fun z H4=>r' y z H4 Q) (Q (.bl false) H3) ⟨0⟩:=rfl
def Kp (g:TG) (tt:TT) (te:TE) (D:Addr) (N:St→Hp→Prop) (x:V) (σ:St) (H:Hp):Prop:=
  g x σ H fun σ2 H3=>tt σ2 H3 fun b H4=>iB b (te σ2 H4 fun y H5=>∃ys,H5 D=some (.lst ys)∧ys.length<sizeLine∧N σ2 (upd H5 D (.lst (ys++[y])))) (N σ2 H4) ⟨0⟩
@[simp ↓] theorem qic (g:TG) (tt:TT) (te:TE) (D:Addr) (N:St→Hp→Prop) (x:V) (σ:St) (H:Hp):Kp g tt te D N x σ H =
  (g x σ H fun σ2 H3=>tt σ2 H3 fun b H4=>iB b (te σ2 H4 fun y H5=>∃ys,H5 D=some (.lst ys)∧ys.length<sizeLine∧N σ2 (upd H5 D (.lst (ys++[y])))) (N σ2 H4) ⟨0⟩):=rfl
@[simp ↓] theorem qjy {α:Type} (a b:α) (R:α→α→Prop):(∃v w,[a,b]=[v,w]∧R v w)=R a b:=by
  refine propext ⟨?_,fun h=>⟨a,b,rfl,h⟩⟩;rintro⟨_,_,e,h⟩;cases e;exact h
@[simp] theorem qid {α β:Type} (a:α) (b:β) (R:α→β→Prop):(∃v w,(a=v∧b=w)∧R v w)=R a b:=by
  refine propext ⟨?_,fun h=>⟨a,b,⟨rfl,rfl⟩,h⟩⟩;rintro⟨_,_,⟨rfl,rfl⟩,h⟩;exact h
@[simp] theorem sz0:(0≤sizeLine)=True:=eq_true (by decide)
@[simp] theorem sz1:(1≤sizeLine)=True:=eq_true (by decide)
@[simp] theorem sz2:(2≤sizeLine)=True:=eq_true (by decide)
@[simp] theorem sz3:(3≤sizeLine)=True:=eq_true (by decide)
@[simp] theorem sz4:(4≤sizeLine)=True:=eq_true (by decide)
@[simp] theorem sz5:(5≤sizeLine)=True:=eq_true (by decide)
@[simp] theorem sz6:(6≤sizeLine)=True:=eq_true (by decide)
@[simp] theorem sz7:(7≤sizeLine)=True:=eq_true (by decide)
@[simp] theorem sz8:(8≤sizeLine)=True:=eq_true (by decide)
@[simp] theorem sz9:(9≤sizeLine)=True:=eq_true (by decide)
@[simp] theorem qkX:(10≤sizeLine)=True:=eq_true (by decide)
@[simp] theorem qkY:(11≤sizeLine)=True:=eq_true (by decide)
@[simp] theorem qkZ:(12≤sizeLine)=True:=eq_true (by decide)
@[simp] theorem qk0:(13≤sizeLine)=True:=eq_true (by decide)
@[simp] theorem qk1:(14≤sizeLine)=True:=eq_true (by decide)
@[simp] theorem qk2:(15≤sizeLine)=True:=eq_true (by decide)
@[simp] theorem qk3:(16≤sizeLine)=True:=eq_true (by decide)
@[simp] theorem qk4:(17≤sizeLine)=True:=eq_true (by decide)
@[simp] theorem qk5:(18≤sizeLine)=True:=eq_true (by decide)
@[simp] theorem qk6:(19≤sizeLine)=True:=eq_true (by decide)
@[simp] theorem Mr:(20≤sizeLine)=True:=eq_true (by decide)
@[simp] theorem qie (i j:Int):DY (.int i) (.int j)=true:=rfl
@[simp] theorem qif (i j:Str):DY (.str i) (.str j)=true:=rfl
@[simp] theorem qig (i j:Bool):DY (.bl i) (.bl j)=true:=rfl
@[simp] theorem qih (i:Int) (j:Str):DY (.int i) (.str j)=true:=rfl
@[simp] theorem qii (i:Int) (j:Str):DY (.str j) (.int i)=true:=rfl
@[simp] theorem qgp (K:W.Frag) (p:Addr) (H:Hp):tyV K "list" (.ref p) H=(∃xs,bU K H p xs):=by simp[tyV]
@[simp] theorem qij (K:W.Frag) (p:Str) (H:Hp):tyV K "str" (.str p) H=True:=by simp[tyV]
section
variable {K:W.Frag} {l:Addr} {xs:List V} {g:TG} {tb:TS} {D:Ends} {d:Zx g tb D} {σ:St} {H:Hp}
theorem frL (xs:List V) (Pv:Nat→St→Hp→Prop) (h0:Pv 0 σ H) (hl:∀i σ H,i≤xs.length→Pv i σ H→bU K H l xs)
    (hs:∀i x σ H,xs[i]? = some x→Pv i σ H→g x σ H fun σ2 H2=>tb {D with nx:=Pv (i+1),ct:=Pv (i+1),bk:=D.nx} σ2 H2) (hd:∀σ H,Pv xs.length σ H→D.nx σ H):tFr (Yn K l) g tb D d σ H:=YH Pv h0 hl hs hd
theorem frT (xs:List V) (Pv:Nat→St→Hp→Prop) (h0:Pv 0 σ H) (hl:∀i σ H,i≤xs.length→Pv i σ H→gY K H l xs)
    (hs:∀i x σ H,xs[i]? = some x→Pv i σ H→g x σ H fun σ2 H2=>tb {D with nx:=Pv (i+1),ct:=Pv (i+1),bk:=D.nx} σ2 H2) (hd:∀σ H,Pv xs.length σ H→D.nx σ H):tFr (Itt K l) g tb D d σ H:=qbz Pv h0 hl hs hd
theorem frR {lo:Int} {n:Nat} (Pv:Nat→St→Hp→Prop) (h0:Pv 0 σ H)
    (hs:∀i σ H,i<n→Pv i σ H→g (.int (lo+i)) σ H fun σ2 H2=>tb {D with nx:=Pv (i+1),ct:=Pv (i+1),bk:=D.nx} σ2 H2) (hd:∀σ H,Pv n σ H→D.nx σ H):tFr (Ru lo n) g tb D d σ H:=V6 Pv h0 hs hd
end
section
variable {K:W.Frag} {own:List Str} {caps:List Nat} {g:TG} {tt:TT} {te:TE} {D l l1 l2:Addr} {σ:St} {H:Hp} {Q:Hp→Prop} {d:qgm g tt te Q}
theorem cmL (xs:List V) (Pv:Nat→St→Hp→Prop) (h0:Pv 0 (stC own caps σ) H) (hl:∀i σ H,i≤xs.length→Pv i σ H→bU K H l xs)
    (hs:∀i x σ H,xs[i]? = some x→Pv i σ H→Kp g tt te D (Pv (i+1)) x σ H) (hd:∀σ H,Pv xs.length σ H→Q H):tCm own caps (Yn K l) g tt te Q d D σ H:=Kg Pv h0 hl hs hd
theorem cmQ {b:Bool} (xs:List V) (Pv:Nat→St→Hp→Prop) (h0:Pv 0 (stC own caps σ) H) (hl:∀i σ H,i≤xs.length→Pv i σ H→SqB b K H l xs)
    (hs:∀i x σ H,xs[i]? = some x→Pv i σ H→Kp g tt te D (Pv (i+1)) x σ H) (hd:∀σ H,Pv xs.length σ H→Q H):tCm own caps (Itq b K l) g tt te Q d D σ H:=Zm Pv h0 hl hs hd
theorem cmR {lo:Int} {n:Nat} (Pv:Nat→St→Hp→Prop) (h0:Pv 0 (stC own caps σ) H)
    (hs:∀i σ H,i<n→Pv i σ H→Kp g tt te D (Pv (i+1)) (.int (lo+i)) σ H) (hd:∀σ H,Pv n σ H→Q H):tCm own caps (Ru lo n) g tt te Q d D σ H:=RX Pv h0 hs hd
theorem cmS {z:Str} (Pv:Nat→St→Hp→Prop) (h0:Pv 0 (stC own caps σ) H)
    (hs:∀i c σ H,z.cps[i]? = some c→Pv i σ H→Kp g tt te D (Pv (i+1)) (.str ⟨#[c]⟩) σ H) (hd:∀σ H,Pv z.cps.size σ H→Q H):tCm own caps (Its z) g tt te Q d D σ H:=Zj Pv h0 hs hd
theorem cmZ (xs ys:List V) (Pv:Nat→St→Hp→Prop) (h0:Pv 0 (stC own caps σ) H) (he:xs.length=ys.length) (hl:∀i σ H,i≤xs.length→Pv i σ H→bU K H l1 xs∧bU K H l2 ys)
    (hs:∀i x y t σ H,xs[i]? = some x→ys[i]? = some y→H t=none→Pv i σ H→Kp g tt te D (Pv (i+1)) (.ref t) σ (upd H t (.tup [x,y]))) (hd:∀σ H,Pv xs.length σ H→Q H):tCm own caps (Itz K l1 l2) g tt te Q d D σ H:=Zk Pv h0 he hl hs hd
end
theorem Gn {c:Bool} {t u:TS} {D:Ends} {σ:St} {H:Hp} {d:R6 (t D σ H) (u D σ H)} (R:St→Hp→Prop) (hc:∀σ H,R σ H→D.nx σ H)
    (h:∀N:St→Hp→Prop,(∀σ H,R σ H→N σ H)→iB c (t {D with nx:=N} σ H) (u {D with nx:=N} σ H) ⟨0⟩):iB c (t D σ H) (u D σ H) d:=h D.nx hc
theorem yJ {α β:Type} {f:α→β} {ys zs:List β} (h:ys.Perm zs):∀l:List α,zs=l.map f→∃l':List α,l'.Perm l∧ys=l'.map f:=by
  induction h with
  | nil=>
    intro l e;cases l with
    | nil=>exact⟨[],.nil,rfl⟩
    | cons a l=>cases e
  | cons x _ ih=>
    intro l e;cases l with
    | nil=>cases e
    | cons a l=>
      simp only[List.map_cons,List.cons.injEq] at e;obtain⟨l',p,e'⟩:=ih l e.2;exact⟨a::l',p.cons a,by rw[e',e.1,List.map_cons]⟩
  | swap x y _=>
    intro l e
    match l,e with
    | a::b::l,e=>
      simp only[List.map_cons,List.cons.injEq] at e;exact⟨b::a::l,.swap ..,by rw[e.1,e.2.1,e.2.2];rfl⟩
  | trans _ _ ih1 ih2=>
    intro l e;obtain⟨l',p,e'⟩:=ih2 l e;obtain⟨l2,p2,e2⟩:=ih1 l' e';exact⟨l2,p2.trans p,e2⟩
theorem Zy {α:Type} {xs:List α} {k:Nat} (h2:2≤xs.length) (hk:k<xs.length):∃j x,j≠k∧xs[j]? = some x∧Ka xs ((k:Int) - 1)=some x:=by
  cases k with
  | zero=>
    have hj:xs.length - 1<xs.length:=by omega
    refine⟨xs.length - 1,xs[xs.length - 1],by omega,by simp[hj],?_⟩;unfold Ka ixN;rw[if_neg (by omega),if_pos (by omega)];have e:(((0:Nat):Int) - 1+xs.length).toNat=xs.length - 1:=by omega
    show xs[(((0:Nat):Int) - 1+xs.length).toNat]? = _;rw[e];simp[hj]
  | succ k=>
    have hj:k<xs.length:=by omega
    have e:((k+1:Nat):Int) - 1=(k:Int):=by omega
    rw[e];exact⟨k,xs[k],by omega,by simp[hj],dh (by simp[hj])⟩
end L2
namespace L2
open PySem
theorem Ms (K:W.Frag):W.kitOne K (.type "list") (.type "int")=some false:=by simp[W.kitOne];rfl
theorem Ju (K:W.Frag):W.kitOne K (.type "list") (.type "bool")=some false:=by simp[W.kitOne];rfl
theorem Jv (K:W.Frag):W.kitOne K (.type "list") (.type "dict")=some false:=by simp[W.kitOne];rfl
theorem Jw (K:W.Frag):W.kitOne K (.type "tuple") (.type "int")=some false:=by simp[W.kitOne];rfl
theorem Gp (K:W.Frag):W.kitOne K (.type "tuple") (.type "bool")=some false:=by simp[W.kitOne];rfl
theorem Gq (K:W.Frag):W.kitOne K (.type "tuple") (.type "dict")=some false:=by simp[W.kitOne];rfl
theorem PL (K:W.Frag):W.kitOne K (.type "str") (.type "str")=some true:=by simp[W.kitOne]
theorem PN (K:W.Frag):W.kitOne K (.type "str") (.type "int")=some false:=by simp[W.kitOne];rfl
theorem Mt (K:W.Frag):W.kitOne K (.type "str") (.type "bool")=some false:=by simp[W.kitOne];rfl
theorem Mu (K:W.Frag):W.kitOne K (.type "str") (.type "dict")=some false:=by simp[W.kitOne];rfl
theorem Dc (K:W.Frag):W.kitOne K (.type "int") (.type "int")=some true:=by simp[W.kitOne]
theorem yK (K:W.Frag):W.kitOne K (.type "int") (.type "bool")=some false:=by simp[W.kitOne];rfl
theorem Mv (K:W.Frag):W.kitOne K (.type "int") (.type "dict")=some false:=by simp[W.kitOne];rfl
theorem Mw (K:W.Frag):W.kitOne K (.type "bool") (.type "int")=some true:=by simp[W.kitOne];rfl
theorem Jx (K:W.Frag):W.kitOne K (.type "bool") (.type "bool")=some true:=by simp[W.kitOne]
theorem Jy (K:W.Frag):W.kitOne K (.type "bool") (.type "dict")=some false:=by simp[W.kitOne];rfl
theorem Mx (K:W.Frag):W.kitOne K (.type "dict") (.type "int")=some false:=by simp[W.kitOne];rfl
theorem Jz (K:W.Frag):W.kitOne K (.type "dict") (.type "bool")=some false:=by simp[W.kitOne];rfl
theorem nR (K:W.Frag):W.kitOne K (.type "dict") (.type "dict")=some true:=by simp[W.kitOne]
theorem Aq (K:W.Frag):W.kitOne K (.type "NoneType") (.type "int")=some false:=by simp[W.kitOne];rfl
theorem yL (K:W.Frag):W.kitOne K (.type "NoneType") (.type "bool")=some false:=by simp[W.kitOne];rfl
theorem yM (K:W.Frag):W.kitOne K (.type "NoneType") (.type "dict")=some false:=by simp[W.kitOne];rfl
end L2
namespace L2
open PySem PySem.Spec PyProof.Rows
@[simp ↓] theorem qik (td ty:TE) (σ:St) (H:Hp) (Q:VK):Zq td ty σ H Q=(td σ H fun x H1=>ty σ H1 fun y H2=>∃a v,x = .ref a∧iJ H2 a y (some v)∧Q v H2):=rfl
@[simp ↓] theorem qjz (ty td:TE) (σ:St) (H:Hp) (Q:VK):qeE ty td σ H Q=(ty σ H fun y H1=>td σ H1 fun x H2=>∃a o,x = .ref a∧iJ H2 a y o∧Q (.bl o.isSome) H2):=rfl
@[simp ↓] theorem qfJ (ty td:TE) (σ:St) (H:Hp) (Q:VK):Mp ty td σ H Q=(ty σ H fun y H1=>td σ H1 fun x H2=>∃a o,x = .ref a∧iJ H2 a y o∧Q (.bl (!o.isSome)) H2):=rfl
@[simp ↓] theorem qil (td ty tv:TE) (D:Ends) (σ:St) (H:Hp):Zr td ty tv D σ H=(tv σ H fun v H1=>td σ H1 fun x H2=>ty σ H2 fun y H3=>∃a H4,x = .ref a∧vV H3 a y v H4∧D.nx σ H4):=rfl
@[simp ↓] theorem qgq (σ:St) (H:Hp) (Q:VK):R4 σ H Q=(∀p,H p=none→Q (.ref p) (upd H p (.dK []))):=rfl
@[simp ↓] theorem qim (Yq:List (TE×TE)) (σ:St) (H:Hp) (Q:VK):qdk Yq σ H Q=(∀p,H p=none→vW Yq σ (upd H p (.dK [])) fun ps H2=>H2 p=some (.dK [])∧∃kvs:List (Key×V),ps=kvs.map (fun kv=>(kV kv.1,kv.2))∧kvs.length≤15∧Q (.ref p) (upd H2 p (.dK (vX [] kvs)))):=rfl
@[simp ↓] theorem qgr (σ:St) (H:Hp) (Q:List (V×V)→Hp→Prop):vW [] σ H Q=Q [] H:=rfl
@[simp ↓] theorem qgs (tk tv:TE) (r:List (TE×TE)) (σ:St) (H:Hp) (Q:List (V×V)→Hp→Prop):vW ((tk,tv)::r) σ H Q=(tk σ H fun x H1=>tv σ H1 fun y H2=>vW r σ H2 fun ps H3=>Q ((x,y)::ps) H3):=rfl
@[simp ↓] theorem qgt (td ty tx:TE) (σ:St) (H:Hp) (Q:VK):R5 td ty tx σ H Q=(td σ H fun x H1=>∃a,x = .ref a∧IsD H1 a∧ty σ H1 fun y H2=>tx σ H2 fun z H3=>∃o,iJ H3 a y o∧Q (o.getD z) H3):=rfl
@[simp ↓] theorem qin (K:W.Frag) (t:TA) (σ:St) (H:Hp) (R:It→Hp→Prop):Zw K t σ H R=(t σ H fun vs H1=>∃a xs,vs=[.ref a]∧bU K H1 a xs∧R (Ite K a) H1):=rfl
theorem qgu {H:Hp} {a:Addr} {kvs:List (Key×V)} (i:Int) (e:H a=some (.dK kvs)):iJ H a (.int i) (jE kvs (Sum.inl i)):=iJ.k (k:=Sum.inl i) e
theorem qeI {H:Hp} {a:Addr} {kvs:List (Key×V)} (x:Str) (e:H a=some (.dK kvs)):iJ H a (.str x) (jE kvs (Sum.inr x)):=iJ.k (k:=Sum.inr x) e
theorem qjA {H:Hp} {a:Addr} {kvs:List (Key×V)} {v:V} (x:Str) (e:H a=some (.dK kvs)) (hl:kvs.length<sizeLine):vV H a (.str x) v (upd H a (.dK (putK kvs (Sum.inr x) v))):=vV.k (k:=Sum.inr x) e hl
theorem isD {H:Hp} {a:Addr} {kvs:List (Key×V)} (e:H a=some (.dK kvs)):IsD H a:=.inl ⟨kvs,.inl e⟩
section
variable {K:W.Frag} {l:Addr} {g:TG} {tb:TS} {D:Ends} {d:Zx g tb D} {σ:St} {H:Hp}
theorem frE (xs:List V) (Pv:Nat→St→Hp→Prop) (h0:Pv 0 σ H) (hl:∀i σ H,i≤xs.length→Pv i σ H→bU K H l xs)
    (hs:∀i x t σ H,xs[i]? = some x→H t=none→Pv i σ H→g (.ref t) σ (upd H t (.tup [.int i,x])) fun σ2 H2=>tb {D with nx:=Pv (i+1),ct:=Pv (i+1),bk:=D.nx} σ2 H2) (hd:∀σ H,Pv xs.length σ H→D.nx σ H):tFr (Ite K l) g tb D d σ H:=by
  refine⟨fun i m σ H=>m=xs.length - i∧i≤xs.length∧Pv i σ H,⟨xs.length,by simp,Nat.zero_le _,h0⟩,?_⟩;rintro i m σ H ⟨rfl,hi,p⟩;have q:=hl i σ H hi p
  by_cases hlt:i<xs.length
  ·refine .inr ⟨⟨xs,xs[i],q,by simp[hlt]⟩,Pv (i+1),fun σ' H' p'=>⟨xs.length - (i+1),by omega,rfl,hlt,p'⟩,fun x H' y=>?_⟩;obtain⟨t,u,rfl,ht,rfl,e⟩:=y;exact hs i u t σ H (e xs q) ht p
  · have e:i=xs.length:=by omega
    subst e;exact .inl ⟨⟨xs,q,Nat.le_refl _⟩,hd σ H p⟩
end
section
variable {c:TT} {tb:TS} {D:Ends} {d:qgl c tb D} {σ:St} {H:Hp}
theorem whB (Pv:St→Hp→Prop) (μ:St→Hp→Nat) (h0:Pv σ H)
    (hs:∀σ H,Pv σ H→c σ H fun b H1=>iB b (tb {D with nx:=fun σ' H'=>Pv σ' H'∧μ σ' H'<μ σ H,ct:=fun σ' H'=>Pv σ' H'∧μ σ' H'<μ σ H,bk:=D.nx} σ H1) (D.nx σ H1) ⟨0⟩)
    (mono:∀σ H Q Q',(∀b H1,Q b H1→Q' b H1)→c σ H Q→c σ H Q'):tWh c tb D d σ H:=YJ Pv μ h0 hs mono
end
end L2
namespace L2
open PySem
inductive RT {α:Type} (R:α→α→Prop):α→α→Prop where
  | refl (a:α):RT R a a
  | tail {a b c:α}:RT R a b→R b c→RT R a c
theorem RT.one {α:Type} {R:α→α→Prop} {a b:α} (h:R a b):RT R a b:=.tail (.refl a) h
theorem RT.trans {α:Type} {R:α→α→Prop} {a b c:α} (h:RT R a b) (h2:RT R b c):RT R a c:=by
  induction h2 with
  | refl=>exact h
  | tail _ r ih=>exact .tail ih r
theorem RT.mono {α:Type} {R S:α→α→Prop} (h:∀a b,R a b→S a b) {a b:α} (r:RT R a b):RT S a b:=by
  induction r with
  | refl=>exact .refl _
  | tail _ q ih=>exact .tail ih (h _ _ q)
theorem RT.symm {α:Type} {R:α→α→Prop} (h:∀a b,R a b→R b a) {a b:α} (r:RT R a b):RT R b a:=by
  induction r with
  | refl=>exact .refl _
  | tail _ q ih=>exact(RT.one (h _ _ q)).trans ih
abbrev lC:=Nat×Str×Str
def jf (S:List lC) (a b:Str):Prop:=∃n,(n,a,b)∈S
def Ar (fx:Nat→Option Int) (e:Str×Str) (k:Nat):List lC:=
  (if (fx k).getD 0=0 then [(k,e.1,e.2)] else [])++(if (fx k).getD 1=1 then [(k,e.2,e.1)] else [])
def aN (fx:Nat→Option Int):List (Str×Str)→Nat→List lC
  | [],_=>[]
  | e::r,k=>Ar fx e k++aN fx r (k+1)
theorem sJ (fx:Nat→Option Int):∀(l m:List (Str×Str)) (k:Nat),aN fx (l++m) k=aN fx l k++aN fx m (k+l.length)
  | [],m,k=>by simp[aN]
  | e::l,m,k=>by
    simp only[List.cons_append,aN,sJ fx l m (k+1),List.append_assoc,List.length_cons];rw[show k+1+l.length=k+(l.length+1) by omega]
theorem Mz (fx:Nat→Option Int) {ps:List (Str×Str)} {i:Nat} {e:Str×Str} (h:ps[i]? = some e):aN fx (ps.take (i+1)) 0=aN fx (ps.take i) 0++Ar fx e i:=by
  have hi:i<ps.length:=(List.getElem?_eq_some_iff.mp h).1;rw[take_one h,sJ,List.length_take,Nat.min_eq_left (Nat.le_of_lt hi),Nat.zero_add];simp[aN]
theorem jF {fx:Nat→Option Int} {e:Str×Str} {k:Nat} {s:lC}:s∈Ar fx e k↔s.1=k∧(((fx k).getD 0=0∧s.2.1=e.1∧s.2.2=e.2)∨((fx k).getD 1=1∧s.2.1=e.2∧s.2.2=e.1)):=by
  obtain⟨n,a,b⟩:=s;unfold Ar;rw[List.mem_append];constructor
  · rintro(h | h)
    · split at h
      ·rename_i h0;simp at h;exact⟨h.1,.inl ⟨h0,h.2.1,h.2.2⟩⟩
      ·simp at h
    · split at h
      ·rename_i h0;simp at h;exact⟨h.1,.inr ⟨h0,h.2.1,h.2.2⟩⟩
      ·simp at h
  · rintro⟨rfl,⟨h0,rfl,rfl⟩ | ⟨h0,rfl,rfl⟩⟩
    ·exact .inl (by rw[if_pos h0];simp)
    ·exact .inr (by rw[if_pos h0];simp)
theorem j_ {fx:Nat→Option Int}:∀{ps:List (Str×Str)} {k:Nat} {s:lC},s∈aN fx ps k↔∃j e,ps[j]? = some e∧s∈Ar fx e (k+j)
  | [],k,s=>by simp[aN]
  | e::r,k,s=>by
    simp only[aN,List.mem_append,j_ (ps:=r)];constructor
    · rintro(h | ⟨j,e',h1,h2⟩)
      ·exact⟨0,e,rfl,h⟩
      ·exact⟨j+1,e',by simpa using h1,by rw[show k+(j+1)=k+1+j by omega];exact h2⟩
    · rintro⟨j,e',h1,h2⟩;cases j with
      | zero=>simp at h1;subst h1;exact .inl h2
      | succ j=>exact .inr ⟨j,e',by simpa using h1,by rw[show k+1+j=k+(j+1) by omega];exact h2⟩
def jG (P:Nat→Prop) (ps:List (Str×Str)) (a b:Str):Prop:=∃k,P k∧(ps[k]? = some (a,b)∨ps[k]? = some (b,a))
theorem jG.symm {P:Nat→Prop} {ps:List (Str×Str)} {a b:Str} (h:jG P ps a b):jG P ps b a:=by
  obtain⟨k,hk,h⟩:=h;exact⟨k,hk,h.symm⟩
theorem Gs {P:Nat→Prop} [DecidablePred P] {ps:List (Str×Str)} {a b:Str}:jf ((aN (fun _=>none) ps 0).filter fun s=>decide (P s.1)) a b↔jG P ps a b:=by
  unfold jf jG;constructor
  · rintro⟨n,h⟩;obtain⟨h,hP⟩:=List.mem_filter.mp h;obtain⟨j,e,h1,h2⟩:=j_.mp h;rw[Nat.zero_add] at h2;obtain⟨rfl,h3⟩:=jF.mp h2;refine⟨_,of_decide_eq_true hP,?_⟩
    rcases h3 with⟨_,h3,h4⟩ | ⟨_,h3,h4⟩
    ·simp only at h3 h4;subst h3 h4;exact .inl h1
    ·simp only at h3 h4;subst h3 h4;exact .inr h1
  · rintro⟨k,hP,h⟩;refine⟨k,List.mem_filter.mpr ⟨j_.mpr ?_,decide_eq_true hP⟩⟩
    rcases h with h | h
    ·exact⟨k,_,h,by rw[Nat.zero_add];exact jF.mpr ⟨rfl,.inl ⟨rfl,rfl,rfl⟩⟩⟩
    ·exact⟨k,_,h,by rw[Nat.zero_add];exact jF.mpr ⟨rfl,.inr ⟨rfl,rfl,rfl⟩⟩⟩
end L2
namespace L2
open PySem PySem.Spec PyProof.Rows
def gG {β:Type} (R:Hp→V→β→Prop) (H:Hp) (vs:List V) (bs:List β):Prop:=vs.length=bs.length∧∀(i:Nat) v b,vs[i]? = some v→bs[i]? = some b→R H v b
section
variable {β:Type} {R:Hp→V→β→Prop} {H H':Hp} {vs:List V} {bs:List β}
theorem gG.nil:gG R H [] []:=⟨rfl,fun i v b h=>by simp at h⟩
theorem gG.keep (h:gG R H vs bs) (k:∀v b,R H v b→R H' v b):gG R H' vs bs:=⟨h.1,fun i v b h1 h2=>k v b (h.2 i v b h1 h2)⟩
theorem gG.at (h:gG R H vs bs) {i:Nat} {v:V} (hv:vs[i]? = some v):∃b,bs[i]? = some b∧R H v b:=by
  have hi:i<bs.length:=by rw[← h.1];exact(List.getElem?_eq_some_iff.mp hv).1
  exact⟨bs[i],by simp[hi],h.2 i v _ hv (by simp[hi])⟩
theorem gG.snoc {v:V} {b:β} (h:gG R H vs bs) (hv:R H v b):gG R H (vs++[v]) (bs++[b]):=by
  refine⟨by simp[h.1],fun i u d h1 h2=>?_⟩
  by_cases hi:i<vs.length
  ·rw[List.getElem?_append_left hi] at h1;rw[List.getElem?_append_left (by rw[← h.1];exact hi)] at h2;exact h.2 i u d h1 h2
  · rw[List.getElem?_append_right (by omega)] at h1;rw[List.getElem?_append_right (by rw[← h.1];omega),← h.1] at h2;cases hk:i - vs.length with
    | zero=>
      rw[hk] at h1 h2;cases h1;cases h2;exact hv
    | succ j=>
      rw[hk] at h1;simp at h1
end
def PX (H:Hp) (v:V) (s:lC):Prop:=∃t,v = .ref t∧H t=some (.tup [.int s.1,.str s.2.1,.str s.2.2])
abbrev dO:=gG PX
def cJ (H H':Hp):Prop:=∀b xs,H b=some (.tup xs)→H' b=some (.tup xs)
theorem cJ.of {H H':Hp} (s:Same H H'):cJ H H':=fun b xs e=>s b _ e
theorem cJ.set {H:Hp} {p:Addr} {o u:HO} (h:H p=some o) (hn:∀xs,o≠.tup xs):cJ H (upd H p u):=fun b xs e=>by
  rw[aB (fun z=>by subst z;rw[h] at e;exact hn xs (Option.some.inj e))];exact e
theorem PX.keep {H H':Hp} (k:cJ H H'):∀v s,PX H v s→PX H' v s:=fun v s ⟨t,e,h⟩=>⟨t,e,k _ _ h⟩
theorem dO.keep {H H':Hp} {vs:List V} {S:List lC} (h:dO H vs S) (k:cJ H H'):dO H' vs S:=gG.keep h (PX.keep k)
def P0 (H:Hp) (d:Addr) (fx:Nat→Option Int):Prop:=∃kvs,H d=some (.dK kvs)∧∀k:Nat,jE kvs (Sum.inl (k:Int))=(fx k).map V.int
theorem Zz {H:Hp} {d:Addr} (h:H d=some (.dK [])):P0 H d (fun _=>none):=⟨[],h,fun _=>rfl⟩
theorem P_ (o:Option Int) (x:Int):(o.map V.int).getD (.int x) = .int (o.getD x):=by cases o <;> rfl
end L2
namespace L2
open PySem
inductive Dd (S:List lC) (a:Str):List Nat→List Str→Str→Prop where
  | nil:Dd S a [] [a] a
  | snoc {w:List Nat} {vs:List Str} {b c:Str} {n:Nat}:Dd S a w vs b→(n,b,c)∈S→Dd S a (w++[n]) (vs++[c]) c
theorem Dd.reach {S:List lC} {a:Str} {w:List Nat} {vs:List Str} {b:Str} (h:Dd S a w vs b):RT (jf S) a b:=by
  induction h with
  | nil=>exact .refl _
  | snoc _ q ih=>exact .tail ih ⟨_,q⟩
inductive Walk (S:List lC) (a:Str):Nat→Str→Prop where
  | nil:Walk S a 0 a
  | snoc {k:Nat} {b c:Str} {n:Nat}:Walk S a k b→(n,b,c)∈S→Walk S a (k+1) c
theorem Walk.of {S:List lC} {a b:Str} (h:RT (jf S) a b):∃k,Walk S a k b:=by
  induction h with
  | refl=>exact⟨0,.nil⟩
  | tail _ q ih=>
    obtain⟨k,hk⟩:=ih;obtain⟨n,hn⟩:=q;exact⟨k+1,.snoc hk hn⟩
abbrev BR:=List (Str×List Nat)
structure Rv (S:List lC) (a:Str) (at_:Nat) (R:BR):Prop where
  st:R[0]? = some (a,[])
  nd:(R.map (·.1)).Nodup
  pth:∀y w,(y,w)∈R→∃vs,Dd S a w vs y∧vs.Nodup∧∀v∈vs,v∈R.map (·.1)
  cl:∀(i:Nat) y w,i<at_→R[i]? = some (y,w)→∀n c,(n,y,c)∈S→∃w',(c,w')∈R∧w'.length≤w.length+1
  mono:∀(i j:Nat) y w z u,i≤j→R[i]? = some (y,w)→R[j]? = some (z,u)→w.length≤u.length
  bd:∀(y:Str) (w:List Nat) z u,R[at_]? = some (y,w)→(z,u)∈R→u.length≤w.length+1
structure lH (S T:List lC) (a:Str) (at_:Nat) (h:Str) (wh:List Nat) (R:BR):Prop where
  bf:Rv S a at_ R
  hr:R[at_]? = some (h,wh)
  md:∀n c,(n,h,c)∈T→∃w',(c,w')∈R∧w'.length≤wh.length+1
theorem Rv.begin (S:List lC) (a:Str):Rv S a 0 [(a,[])]:=by
  refine⟨rfl,by simp,?_,by intro i y w h;omega,?_,?_⟩
  ·intro y w h;simp at h;obtain⟨rfl,rfl⟩:=h;exact⟨[y],.nil,by simp,by simp⟩
  · intro i j y w z u hij h1 h2;have hi:i=0:=by have:=(List.getElem?_eq_some_iff.mp h1).1;simp at this;omega
    have hj:j=0:=by have:=(List.getElem?_eq_some_iff.mp h2).1;simp at this;omega
    subst hi hj;rw[h1] at h2;cases h2;exact Nat.le_refl _
  ·intro y w z u h1 h2;simp at h1 h2;rw[h2.2,← h1.2];simp
theorem lH.enter {S:List lC} {a:Str} {at_:Nat} {h:Str} {wh:List Nat} {R:BR} (b:Rv S a at_ R) (hr:R[at_]? = some (h,wh)):lH S [] a at_ h wh R:=⟨b,hr,by simp⟩
theorem lH.skip {S T:List lC} {a:Str} {at_:Nat} {h:Str} {wh:List Nat} {R:BR} (b:lH S T a at_ h wh R) {s:lC} (hs:s.2.1=h→s.2.2∈R.map (·.1)):lH S (T++[s]) a at_ h wh R:=by
  refine⟨b.bf,b.hr,fun n c hm=>?_⟩
  rcases List.mem_append.mp hm with q | q
  ·exact b.md n c q
  ·simp at q;subst q;obtain⟨⟨c',w'⟩,hw,e⟩:=List.mem_map.mp (hs rfl);simp only at e;subst e;exact⟨w',hw,b.bf.bd _ _ _ _ b.hr hw⟩
theorem lH.add {S T:List lC} {a:Str} {at_:Nat} {h:Str} {wh:List Nat} {R:BR} (b:lH S T a at_ h wh R) {n:Nat} {c:Str} (hS:(n,h,c)∈S) (hc:¬c∈R.map (·.1)):lH S (T++[(n,h,c)]) a at_ h wh (R++[(c,wh++[n])]):=by
  obtain⟨⟨st,nd,pth,cl,mono,bd⟩,hr,md⟩:=b;have hat:at_<R.length:=(List.getElem?_eq_some_iff.mp hr).1;have ml:∀{i:Nat} {x},i<R.length→(R++[(c,wh++[n])])[i]? = some x→R[i]? = some x:=fun hi e=>by rwa [List.getElem?_append_left hi] at e
  have last:∀{i:Nat} {x},¬i<R.length→(R++[(c,wh++[n])])[i]? = some x→x=(c,wh++[n]):=fun hi e=>by
    rw[List.getElem?_append_right (by omega)] at e;cases hk:_ - R.length with
    | zero=>rw[hk] at e;simp at e;exact e.symm
    | succ k=>rw[hk] at e;simp at e
  refine⟨⟨?_,?_,?_,?_,?_,?_⟩,?_,?_⟩
  ·rw[List.getElem?_append_left (by omega)];exact st
  ·rw[List.map_append,List.nodup_append];refine⟨nd,by simp,?_⟩;intro x hx y hy e;simp at hy;subst hy;exact hc (e▸hx)
  · intro y w hy
    rcases List.mem_append.mp hy with q | q
    ·obtain⟨vs,h1,h2,h3⟩:=pth y w q;exact⟨vs,h1,h2,fun v hv=>by rw[List.map_append];exact List.mem_append_left _ (h3 v hv)⟩
    · simp at q;obtain⟨rfl,rfl⟩:=q;obtain⟨vs,h1,h2,h3⟩:=pth h wh (List.mem_of_getElem? hr);refine⟨vs++[y],.snoc h1 hS,?_,?_⟩
      ·rw[List.nodup_append];refine⟨h2,by simp,?_⟩;intro x hx z hz e;simp at hz;subst hz;exact hc (e▸h3 x hx)
      · intro v hv;rw[List.map_append]
        rcases List.mem_append.mp hv with q | q
        ·exact List.mem_append_left _ (h3 v q)
        ·simp at q;subst q;simp
  ·intro i y w hi e m c' hm;obtain⟨w',q1,q2⟩:=cl i y w hi (ml (by omega) e) m c' hm;exact⟨w',List.mem_append_left _ q1,q2⟩
  · intro i j y w z u hij h1 h2
    by_cases hj:j<R.length
    ·exact mono i j y w z u hij (ml (by omega) h1) (ml hj h2)
    · have e2:=last hj h2;cases e2
      by_cases hi:i<R.length
      ·have:=bd h wh y w hr (List.mem_of_getElem? (ml hi h1));simp;exact this
      ·have e1:=last hi h1;cases e1;exact Nat.le_refl _
  · intro y w z u h1 h2;have h1':=ml hat h1;rw[hr] at h1';cases h1'
    rcases List.mem_append.mp h2 with q | q
    ·exact bd _ _ z u hr q
    ·simp at q;rw[q.2];simp
  ·rw[List.getElem?_append_left hat];exact hr
  · intro m c' hm
    rcases List.mem_append.mp hm with q | q
    ·obtain⟨w',q1,q2⟩:=md m c' q;exact⟨w',List.mem_append_left _ q1,q2⟩
    ·simp at q;obtain⟨rfl,rfl⟩:=q;exact⟨wh++[m],by simp,by simp⟩
theorem lH.leave {S:List lC} {a:Str} {at_:Nat} {h:Str} {wh:List Nat} {R:BR} (b:lH S S a at_ h wh R):Rv S a (at_+1) R:=by
  obtain⟨⟨st,nd,pth,cl,mono,bd⟩,hr,md⟩:=b;refine⟨st,nd,pth,?_,mono,?_⟩
  · intro i y w hi e n c hm
    by_cases hia:i=at_
    ·subst hia;rw[hr] at e;cases e;exact md n c hm
    ·exact cl i y w (by omega) e n c hm
  ·intro y w z u h1 h2;have q1:=bd h wh z u hr h2;have q2:=mono at_ (at_+1) h wh y w (by omega) hr h1;omega
theorem Rv.all {S:List lC} {a:Str} {R:BR} (b:Rv S a R.length R) {k:Nat} {y:Str} (h:Walk S a k y):∃w,(y,w)∈R∧w.length≤k:=by
  induction h with
  | nil=>exact⟨[],List.mem_of_getElem? b.st,Nat.le_refl _⟩
  | @snoc k b' c n _ q ih=>
    obtain⟨w,h1,h2⟩:=ih;obtain⟨i,hi⟩:=List.mem_iff_getElem?.mp h1;obtain⟨w',h3,h4⟩:=b.cl i b' w (List.getElem?_eq_some_iff.mp hi).1 hi n c q;exact⟨w',h3,by omega⟩
theorem Rv.iff {S:List lC} {a:Str} {R:BR} (b:Rv S a R.length R) (y:Str):y∈R.map (·.1)↔RT (jf S) a y:=by
  constructor
  ·intro h;obtain⟨⟨z,w⟩,h1,e⟩:=List.mem_map.mp h;simp only at e;subst e;obtain⟨vs,p,_⟩:=b.pth z w h1;exact p.reach
  ·intro h;obtain⟨k,hk⟩:=Walk.of h;obtain⟨w,h1,_⟩:=b.all hk;exact List.mem_map.mpr ⟨(y,w),h1,rfl⟩
theorem Rv.sub {S:List lC} {a:Str} {i:Nat} {R:BR} (b:Rv S a i R) {xs:List Str} (ha:a∈xs) (hS:∀s∈S,s.2.2∈xs):∀y∈R.map (·.1),y∈xs:=by
  intro y h;obtain⟨⟨z,w⟩,h1,e⟩:=List.mem_map.mp h;simp only at e;subst e;obtain⟨vs,p,_⟩:=b.pth z w h1;cases p with
  | nil=>exact ha
  | snoc _ q=>exact hS _ q
theorem pF {α:Type} [DecidableEq α]:∀{l xs:List α},l.Nodup→(∀y∈l,y∈xs)→l.length≤xs.length
  | [],_,_,_=>Nat.zero_le _
  | y::l,xs,hn,hs=>by
    obtain⟨h1,h2⟩:=List.nodup_cons.mp hn;have hy:y∈xs:=hs y List.mem_cons_self;have:=pF (l:=l) (xs:=xs.erase y) h2 fun z hz=>(List.mem_erase_of_ne (fun(e:z=y)=>h1 (e▸hz))).mpr (hs z (List.mem_cons_of_mem _ hz));rw[List.length_erase_of_mem hy] at this;have h0:0<xs.length:=List.length_pos_of_mem hy;simp only[List.length_cons];omega
theorem Dd.len {S:List lC} {a:Str} {w:List Nat} {vs:List Str} {b:Str} (h:Dd S a w vs b):vs.length=w.length+1:=by
  induction h with
  | nil=>rfl
  | snoc _ _ ih=>simp[ih]
theorem Rv.qjB {S:List lC} {a:Str} {i:Nat} {R:BR} (b:Rv S a i R) {y:Str} {w:List Nat} (h:(y,w)∈R):w.length<R.length:=by
  obtain⟨vs,p,nd,sub⟩:=b.pth y w h;have h1:=pF nd sub;have h2:=p.len;simp at h1;omega
def qjC (H:Hp) (kv:Key×V) (yw:Str×List Nat):Prop:=kv.1=Sum.inr yw.1∧∃p,kv.2 = .ref p∧H p=some (.lst (yw.2.map fun n:Nat=>V.int n))
structure fK (H:Hp) (kvs:List (Key×V)) (R:BR):Prop where
  len:kvs.length=R.length
  ok:∀(i:Nat) kv yw,kvs[i]? = some kv→R[i]? = some yw→qjC H kv yw
theorem fK.keep {H H':Hp} {kvs:List (Key×V)} {R:BR} (h:fK H kvs R) (k:∀(p:Addr) (w:List Nat),H p=some (.lst (w.map fun n:Nat=>V.int n))→H' p=some (.lst (w.map fun n:Nat=>V.int n))):fK H' kvs R:=
  ⟨h.len,fun i kv yw h1 h2=>by
    obtain⟨e,p,e2,q⟩:=h.ok i kv yw h1 h2;exact⟨e,p,e2,k _ _ q⟩⟩
theorem fK.none {H:Hp} {kvs:List (Key×V)} {R:BR} (h:fK H kvs R) {y:Str} (hy:¬y∈R.map (·.1)):jE kvs (Sum.inr y)=Option.none:=by
  unfold jE;rw[List.find?_eq_none.mpr]
  ·rfl
  · intro kv hk;obtain⟨i,hi⟩:=List.mem_iff_getElem?.mp hk;have hl:i<R.length:=by rw[← h.len];exact(List.getElem?_eq_some_iff.mp hi).1
    obtain⟨e,_⟩:=h.ok i kv R[i] hi (by simp[hl]);simp only[decide_eq_true_eq];intro z;rw[e] at z;cases z;exact hy (List.mem_map.mpr ⟨R[i],List.getElem_mem hl,rfl⟩)
theorem fK.some {H:Hp} {kvs:List (Key×V)} {R:BR} (h:fK H kvs R) (nd:(R.map (·.1)).Nodup) {y:Str} {w:List Nat} (hy:(y,w)∈R):∃p,jE kvs (Sum.inr y)=Option.some (.ref p)∧H p=Option.some (.lst (w.map fun n:Nat=>V.int n)):=by
  obtain⟨i,hi⟩:=List.mem_iff_getElem?.mp hy;have hl:i<kvs.length:=by rw[h.len];exact(List.getElem?_eq_some_iff.mp hi).1
  have hk:kvs[i]? = Option.some kvs[i]:=by simp[hl]
  unfold jE;have hf:∃kv,kvs.find? (fun kv=>decide (kv.1=Sum.inr y))=Option.some kv:=by
    cases e:kvs.find? (fun kv=>decide (kv.1=Sum.inr y)) with
    | some kv=>exact⟨kv,rfl⟩
    | none=>
      have:=List.find?_eq_none.mp e kvs[i] (List.getElem_mem hl);obtain⟨e1,_⟩:=h.ok i _ _ hk hi;simp[e1] at this
  obtain⟨kv,hkv⟩:=hf;rw[hkv];have hm:=List.mem_of_find?_eq_some hkv;have hp:=List.find?_some hkv;simp only[decide_eq_true_eq] at hp;obtain⟨j,hj⟩:=List.mem_iff_getElem?.mp hm;have hlj:j<R.length:=by rw[← h.len];exact(List.getElem?_eq_some_iff.mp hj).1
  obtain⟨e1,p,e2,e3⟩:=h.ok j kv R[j] hj (by simp[hlj]);rw[hp] at e1;have ey:R[j].1=y:=(Sum.inr.inj e1).symm;have ej:j=i:=Gd nd (x:=y) (by rw[List.getElem?_map,show R[j]? = Option.some R[j] by simp[hlj]];simp[ey]) (by rw[List.getElem?_map,hi];rfl);subst ej;have:R[j]=(y,w):=by
    have:=hi;simp[hlj] at this;exact this
  rw[this] at e3;exact⟨p,by simp[e2],e3⟩
theorem fK.has {H:Hp} {kvs:List (Key×V)} {R:BR} (h:fK H kvs R) (nd:(R.map (·.1)).Nodup) (y:Str):(jE kvs (Sum.inr y)).isSome=decide (y∈R.map (·.1)):=by
  by_cases hy:y∈R.map (·.1)
  ·obtain⟨⟨z,w⟩,h1,e⟩:=List.mem_map.mp hy;simp only at e;subst e;obtain⟨p,e,_⟩:=h.some nd h1;rw[e,decide_eq_true hy];rfl
  ·rw[h.none hy,decide_eq_false hy];rfl
theorem fK.qjD {H:Hp} {kvs:List (Key×V)} {R:BR} (h:fK H kvs R) (nd:(R.map (·.1)).Nodup) (y:Str):(jE kvs (Sum.inr y)).isNone = !decide (y∈R.map (·.1)):=by
  rw[← h.has nd y];cases jE kvs (Sum.inr y) <;> rfl
theorem fK.snoc {H:Hp} {kvs:List (Key×V)} {R:BR} {y:Str} {w:List Nat} {p:Addr} (h:fK H kvs R) (hp:H p=Option.some (.lst (w.map fun n:Nat=>V.int n))):fK H (kvs++[(Sum.inr y,.ref p)]) (R++[(y,w)]):=by
  refine⟨by simp[h.len],fun i kv yw h1 h2=>?_⟩
  by_cases hi:i<kvs.length
  ·rw[List.getElem?_append_left hi] at h1;rw[List.getElem?_append_left (by rw[← h.len];exact hi)] at h2;exact h.ok i kv yw h1 h2
  · rw[List.getElem?_append_right (by omega)] at h1;rw[List.getElem?_append_right (by rw[← h.len];omega),← h.len] at h2;cases hk:i - kvs.length with
    | zero=>
      rw[hk] at h1 h2;cases h1;cases h2;exact⟨rfl,p,rfl,hp⟩
    | succ j=>
      rw[hk] at h1;simp at h1
def qgv (i:Nat) (σ:St):Nat:=match σ[i]? with | some (some (V.int n))=>(10 - n).toNat | _=>0
theorem Df (x:Str) (xs:List Str):inV (.str x) (xs.map V.str)=decide (x∈xs):=by
  unfold inV;rw[List.any_map,Bool.eq_iff_iff,List.any_eq_true,decide_eq_true_eq];constructor
  ·rintro⟨y,hy,e⟩;simp[Y6] at e;exact e▸hy
  ·intro h;exact⟨x,h,by simp[Y6]⟩
theorem Kq (xs:List Str):(xs.map V.str).all jz=true:=by
  rw[List.all_map,List.all_eq_true];intro x _;rfl
open Classical in
def Av (S:List lC) (xs:List Str) (x:Str):List Str:=xs.filter fun y=>decide (RT (jf S) x y)
theorem U9 {S:List lC} {xs:List Str} {x y:Str}:y∈Av S xs x↔y∈xs∧RT (jf S) x y:=by
  unfold Av;simp
theorem U_ {S:List lC} {xs:List Str} {x:Str}:(Av S xs x).length≤xs.length:=List.length_filter_le _ _
theorem ZC {S:List lC} {xs:List Str} {x y:Str} {i:Nat} (h:xs[i]? = some y) (b:Bool) (hb:b=true↔RT (jf S) x y):Av S (xs.take (i+1)) x=Av S (xs.take i) x++if b=true then [y] else []:=by
  unfold Av;rw[take_one h,List.filter_append];congr 1
  by_cases hr:RT (jf S) x y
  ·rw[if_pos (hb.mpr hr)];simp[hr]
  ·rw[if_neg fun z=>hr (hb.mp z)];simp[hr]
end L2
namespace L2
open PySem PySem.Spec PyProof.Rows
@[simp] theorem qio (i:Int):DY (.int i) .non=true:=rfl
@[simp] theorem qip (i:Int):DY .non (.int i)=true:=rfl
@[simp] theorem qiq (i:Str):DY (.str i) .non=true:=rfl
end L2
namespace L2
open PySem
def qu {α β:Type} (f:α→Nat→List β):List α→Nat→List β
  | [],_=>[]
  | e::r,k=>f e k++qu f r (k+1)
theorem Dg {α β:Type} (f:α→Nat→List β):∀(l m:List α) (k:Nat),qu f (l++m) k=qu f l k++qu f m (k+l.length)
  | [],m,k=>by simp[qu]
  | e::l,m,k=>by
    simp only[List.cons_append,qu,Dg f l m (k+1),List.append_assoc,List.length_cons];rw[show k+1+l.length=k+(l.length+1) by omega]
theorem Wz {α β:Type} (f:α→Nat→List β) {ps:List α} {i:Nat} {e:α} (h:ps[i]? = some e):qu f (ps.take (i+1)) 0=qu f (ps.take i) 0++f e i:=by
  have hi:i<ps.length:=(List.getElem?_eq_some_iff.mp h).1;rw[take_one h,Dg,List.length_take,Nat.min_eq_left (Nat.le_of_lt hi),Nat.zero_add];simp[qu]
theorem Qa {α β:Type} {f:α→Nat→List β} (hf:∀e k,(f e k).length≤1):∀(ps:List α) (k:Nat),(qu f ps k).length≤ps.length
  | [],_=>by simp[qu]
  | e::r,k=>by
    have h1:=Qa hf r (k+1);have h2:=hf e k;simp only[qu,List.length_append,List.length_cons];omega
def R8 (k:Nat) (s:lC):Bool:=decide (s.1≠k)
def vq (ps:List (Str×Str)) (xs:List Str) (k:Nat) (b:Str):List Str:=Av ((aN (fun _=>none) ps 0).filter (R8 k)) xs b
def rJ (ps:List (Str×Str)) (xs:List Str) (e:Str×Str) (k:Nat):List (Nat×List Str):=if e.1∈vq ps xs k e.2 then [] else [(k,vq ps xs k e.2)]
def lJ (ps:List (Str×Str)) (xs:List Str):List (Nat×List Str):=qu (rJ ps xs) ps 0
theorem WD (ps:List (Str×Str)) (xs:List Str) (e:Str×Str) (k:Nat):(rJ ps xs e k).length≤1:=by
  unfold rJ;split <;> simp
theorem WK {ps:List (Str×Str)} {xs:List Str} {b y:Str} {k:Nat}:y∈vq ps xs k b↔y∈xs∧RT (jG (fun j=>j≠k) ps) b y:=by
  unfold vq;rw[U9];have:RT (jf ((aN (fun _=>none) ps 0).filter (R8 k))) b y↔RT (jG (fun j=>j≠k) ps) b y:=⟨RT.mono (S:=jG (fun j=>j≠k) ps) fun a b h=>Gs.mp h,RT.mono (R:=jG (fun j=>j≠k) ps) fun a b h=>Gs.mpr h⟩;rw[this]
def Aw (H:Hp) (v:V) (z:Addr×Nat×List Str):Prop:=∃t,v = .ref t∧H t=some (.tup [.int z.2.1,.ref z.1])∧H z.1=some (.lst (z.2.2.map V.str))
theorem Aw.same {H H':Hp} {vs:List V} {zs:List (Addr×Nat×List Str)} (h:gG Aw H vs zs) (k:Same H H'):gG Aw H' vs zs:=gG.keep h fun v s ⟨t,e,q,r⟩=>⟨t,e,k _ _ q,k _ _ r⟩
theorem Aw.there {H:Hp} {vs:List V} {zs:List (Addr×Nat×List Str)} (h:gG Aw H vs zs):∀z∈zs,H z.1=some (.lst (z.2.2.map V.str)):=fun z hz=>by
  obtain⟨i,hi⟩:=List.mem_iff_getElem?.mp hz;have hl:i<vs.length:=by rw[h.1];exact(List.getElem?_eq_some_iff.mp hi).1
  obtain⟨t,_,_,r⟩:=h.2 i vs[i] z (by simp[hl]) hi;exact r
end L2
set_option maxHeartbeats 4000000
namespace L2
open PySem PySem.Spec PyProof.Rows
section
variable {prog:Program} {w:World} {A:Around} {E:Value→Shared→Prop} {s:Shared}
end
theorem yN:entryFor table "dict.update.loop" = some Builtin.«dict.update.loop»:=entryFor_of_fast (by kernel_rfl)
theorem lX:plainId "dict.update.loop" = true:=by decide+kernel
structure Nm3 (mg:Str→Option Value):Prop where
  sum:mg "sum" = none
theorem Qc:∀{ys:List Str} {us:List Value},Vals (ys.map V.str) us→StrsAre us ys
  | [],_,r=>by rw[List.map_nil] at r;cases r;exact .nil
  | y::ys,_,r=>by
    rw[List.map_cons] at r;cases r with
    | cons h t=>
      obtain⟨k,rfl⟩:=h;exact .cons y k (Qc t)
section
variable {X:Cx} {K:W.Frag}
def rJoin:V→List V→Hp→VK→Prop:=fun x xs H Q=>∃(sep:Str) (l:Addr) (ys:List Str),x = .str sep∧xs=[.ref l]∧H l=some (.lst (ys.map V.str))∧(ys.map (·.length)).sum+ys.length * sep.length≤16777216∧Q (.str (Txt.join sep ys)) H
theorem qbV:Wg X "str.join" rJoin:=by
  intro p_ s σ H x xs v us Q I rx rs q;obtain⟨sep,l,ys,rfl,rfl,hl,hz,q⟩:=q;obtain⟨u,rfl,ru⟩:=rs.one;obtain rfl:u=Value.ref l:=ru;obtain⟨t,rfl⟩:=rx;obtain⟨its,rv,pl,hz1⟩:=I.list (bU.of hl);exact join_list pl.isList (by simpa using Qc rv) hz fun t' k=>⟨.str _,H,I.tok _,⟨t',rfl⟩,q⟩
theorem Kr:∀(xs:List Str) (a:Array Nat),(xs.foldl (fun acc p=>acc++(Str.ofString "").cps++p.cps) a).toList=a.toList++xs.flatMap (·.cps.toList)
  | [],a=>by simp
  | x::xs,a=>by
    rw[List.foldl_cons,Kr xs];rw[show(Str.ofString "").cps = #[] from rfl,Array.append_empty];simp
theorem WL (ys:List Str):(Txt.join (Str.ofString "") ys).cps.toList=ys.flatMap (·.cps.toList):=by
  cases ys with
  | nil=>rfl
  | cons x xs=>
    show(List.foldl _ x.cps xs).toList=_;exact(Kr xs x.cps).trans (by simp)
theorem sO:∀(ys:List Str),(∀y∈ys,∃n,n<26∧y=⟨#[97+n]⟩)→(ys.flatMap (·.cps.toList)).length=ys.length∧(ys.flatMap (·.cps.toList)).all isL=true∧(ys.map (·.length)).sum=ys.length
  | [],_=>by simp
  | y::ys,h=>by
    obtain⟨n,hn,rfl⟩:=h y (List.mem_cons_self ..);obtain⟨h1,h2,h3⟩:=sO ys fun z hz=>h z (List.mem_cons_of_mem _ hz);refine⟨by simp only[List.flatMap_cons,List.length_append,List.length_cons,h1];simp;omega,by rw[List.flatMap_cons,List.all_append,h2];simp[Zo n hn],?_⟩;rw[List.map_cons,List.sum_cons,h3,List.length_cons];show 1+_=_;omega
theorem qt.glue {c k:Nat} {x:Str} (h:qt c k x) (hk:0<k) {ys:List Str} (hy:∀y∈ys,∃n,n<26∧y=⟨#[97+n]⟩):qt c (k+ys.length) (x++Txt.join (Str.ofString "") ys):=by
  obtain⟨h1,h2,h3⟩:=h;obtain⟨y1,y2,_⟩:=sO ys hy;have e:=WL ys;have hs:x.cps.size=k:=h1;refine⟨?_,?_,?_⟩
  ·show(x.cps++(Txt.join (Str.ofString "") ys).cps).size=_;rw[Array.size_append,hs,← Array.length_toList,e,y1]
  ·show(x.cps++(Txt.join (Str.ofString "") ys).cps)[0]? = _;rw[Array.getElem?_append_left (by omega)];exact h2
  ·show(x.cps++(Txt.join (Str.ofString "") ys).cps).toList.all isL=true;rw[Array.toList_append,List.all_append,h3,e,y2];rfl
end
section
variable {X:Cx} {K:W.Frag}
theorem boot_repr:bootBuiltins "repr" = some (.builtin "repr"):=by decide+kernel
end
def isInt (x:V) (R:Int→Prop):Prop:=match x with | .int i=>R i | _=>False
def isStr (x:V) (R:Str→Prop):Prop:=match x with | .str i=>R i | _=>False
def mG (x:V) (R:Bool→Prop):Prop:=match x with | .bl i=>R i | _=>False
def isRef (x:V) (R:Addr→Prop):Prop:=match x with | .ref i=>R i | _=>False
def MF (x:V) (R:String→Prop):Prop:=match x with | .ty n=>R n | _=>False
def ar0 (xs:List V) (R:Prop):Prop:=match xs with | []=>R | _=>False
def ar1 (xs:List V) (R:V→Prop):Prop:=match xs with | [x]=>R x | _=>False
def ar2 (xs:List V) (R:V→V→Prop):Prop:=match xs with | [x,y]=>R x y | _=>False
def arH (xs:List V) (R:V→List V→Prop):Prop:=match xs with | x::r=>R x r | []=>False
def getSt:St→Nat→(V→Prop)→Prop
  | [],_,_=>False
  | o::_,0,R=>match o with | some v=>R v | none=>False
  | _::σ,n+1,R=>getSt σ n R
@[simp ↓] theorem qir (i:Int) R:isInt (.int i) R=R i:=rfl
@[simp ↓] theorem qis (i:Str) R:isStr (.str i) R=R i:=rfl
@[simp ↓] theorem qjE (i:Bool) R:mG (.bl i) R=R i:=rfl
@[simp ↓] theorem qit (i:Addr) R:isRef (.ref i) R=R i:=rfl
@[simp ↓] theorem qjF (i:String) R:MF (.ty i) R=R i:=rfl
@[simp ↓] theorem qkA R:ar0 [] R=R:=rfl
@[simp ↓] theorem qkB x R:ar1 [x] R=R x:=rfl
@[simp ↓] theorem qkC x y R:ar2 [x,y] R=R x y:=rfl
@[simp ↓] theorem qkD x r R:arH (x::r) R=R x r:=rfl
@[simp ↓] theorem qiu v σ R:getSt (some v::σ) 0 R=R v:=rfl
@[simp ↓] theorem qiv o σ n R:getSt (o::σ) (n+1) R=getSt σ n R:=rfl
theorem isInt.out {x:V} {R} (h:isInt x R):∃i,x = .int i∧R i:=by cases x <;> first | exact⟨_,rfl,h⟩ | exact h.elim
theorem isStr.out {x:V} {R} (h:isStr x R):∃i,x = .str i∧R i:=by cases x <;> first | exact⟨_,rfl,h⟩ | exact h.elim
theorem mG.out {x:V} {R} (h:mG x R):∃i,x = .bl i∧R i:=by cases x <;> first | exact⟨_,rfl,h⟩ | exact h.elim
theorem isRef.out {x:V} {R} (h:isRef x R):∃i,x = .ref i∧R i:=by cases x <;> first | exact⟨_,rfl,h⟩ | exact h.elim
theorem MF.out {x:V} {R} (h:MF x R):∃i,x = .ty i∧R i:=by cases x <;> first | exact⟨_,rfl,h⟩ | exact h.elim
theorem ar0.out {xs:List V} {R} (h:ar0 xs R):xs=[]∧R:=by cases xs <;> first | exact⟨rfl,h⟩ | exact h.elim
theorem ar1.out {xs:List V} {R} (h:ar1 xs R):∃x,xs=[x]∧R x:=by
  match xs,h with
  | [x],h=>exact⟨x,rfl,h⟩
theorem ar2.out {xs:List V} {R} (h:ar2 xs R):∃x y,xs=[x,y]∧R x y:=by
  match xs,h with
  | [x,y],h=>exact⟨x,y,rfl,h⟩
theorem arH.out {xs:List V} {R} (h:arH xs R):∃x r,xs=x::r∧R x r:=by cases xs <;> first | exact⟨_,_,rfl,h⟩ | exact h.elim
theorem getSt.out:∀{σ:St} {i:Nat} {R},getSt σ i R→∃v,σ[i]? = some (some v)∧R v
  | [],_,_,h=>h.elim
  | some v::_,0,_,h=>⟨v,rfl,h⟩
  | none::_,0,_,h=>h.elim
  | _::σ,n+1,R,h=>by
    obtain⟨v,e,q⟩:=getSt.out (σ:=σ) (i:=n) h;exact⟨v,by simpa using e,q⟩
section
variable {X:Cx}
theorem PE.mono {e:Expr} {t t':TE} (o:PE X e t) (h:∀{σ H Q},t' σ H Q→t σ H Q):PE X e t':=fun p_ s σ H Q I q=>o p_ s σ H Q I (h q)
theorem PS.mono {e:Stmt} {t t':TS} (o:PS X e t) (h:∀{D σ H},t' D σ H→t D σ H):PS X e t':=fun p_ s σ H D I q=>o p_ s σ H D I (h q)
theorem lE.mono {e:List Expr} {t t':O5} (o:lE X e t) (h:∀{v σ H Q},t' v σ H Q→t v σ H Q):lE X e t':=fun p_ s σ H v u Q I r q=>o p_ s σ H v u Q I r (h q)
theorem jk.mono {f:Value→Value→Sem Value} {r r':R2} (o:jk X f r) (h:∀{x y H Q},r' x y H Q→r x y H Q):jk X f r':=fun p_ s σ H x y v u Q I rx ry q=>o p_ s σ H x y v u Q I rx ry (h q)
theorem UnR.mono {f:Value→Sem Value} {r r':V→Hp→VK→Prop} (o:UnR X f r) (h:∀{x H Q},r' x H Q→r x H Q):UnR X f r':=fun p_ s σ H x v Q I rx q=>o p_ s σ H x v Q I rx (h q)
theorem cu.mono {f:Value} {r r':List V→Hp→VK→Prop} (o:cu X f r) (h:∀{x H Q},r' x H Q→r x H Q):cu X f r':=fun p_ s σ H x v Q I rx q=>o p_ s σ H x v Q I rx (h q)
theorem Wg.mono {f:String} {r r':V→List V→Hp→VK→Prop} (o:Wg X f r) (h:∀{x y H Q},r' x y H Q→r x y H Q):Wg X f r':=fun p_ s σ H x y v u Q I rx ry q=>o p_ s σ H x y v u Q I rx ry (h q)
theorem Yo.mono {r r':R2} (o:Yo X r) (h:∀{x y H Q},r' x y H Q→r x y H Q):Yo X r':=fun a b p_ s σ H x y v u Q I rx ry q z=>o a b p_ s σ H x y v u Q I rx ry (h q) z
theorem PIp.mono {op:Operator} {r r':TIp} (o:PIp X op r) (h:∀{x y H Q},r' x y H Q→r x y H Q):PIp X op r':=fun p_ s σ H x y v u Q I rx ry q=>o p_ s σ H x y v u Q I rx ry (h q)
theorem V2.mono {r r':V1} (o:V2 X r) (h:∀{x y z H Q},r' x y z H Q→r x y z H Q):V2 X r':=fun p_ s σ H o' i v ov iv u Q I a b c q=>o p_ s σ H o' i v ov iv u Q I a b c (h q)
end
def fVar (i:Nat):TE:=fun σ H Q=>getSt σ i fun v=>Q v H
@[simp ↓] theorem qjG (i:Nat) σ H Q:fVar i σ H Q=getSt σ i (fun v=>Q v H):=rfl
theorem qeJ {i:Nat} {σ H Q} (h:fVar i σ H Q):qdU i σ H Q:=getSt.out h
def jH:List Str→List V→St
  | _::N,v::vs=>some v::jH N vs
  | _::N,[]=>none::jH N []
  | [],_=>[]
@[simp ↓] theorem qfK n N v vs:jH (n::N) (v::vs)=some v::jH N vs:=rfl
@[simp ↓] theorem qfL n N:jH (n::N) []=none::jH N []:=rfl
@[simp ↓] theorem qgw vs:jH [] vs=[]:=by cases vs <;> rfl
theorem pG:∀(N:List Str) (vs:List V),vs.length≤N.length→jH N vs=start N vs
  | [],[],_=>rfl
  | [],_::_,h=>by simp at h
  | n::N,[],_=>by
    rw[jH,pG N [] (by simp)];simp[start,List.replicate_succ]
  | n::N,v::vs,h=>by
    rw[jH,pG N vs (by simpa using h)];simp[start]
def fI0 (g:Int→Int→V):R2:=fun x y H Q=>isInt x fun i=>isInt y fun j=>Q (g i j) H
def fI (C:Int→Int→Prop) (g:Int→Int→V):R2:=fun x y H Q=>isInt x fun i=>isInt y fun j=>C i j∧Q (g i j) H
def fU (g:Int→V):V→Hp→VK→Prop:=fun x H Q=>isInt x fun i=>Q (g i) H
@[simp ↓] theorem qkE g x y H Q:fI0 g x y H Q=(isInt x fun i=>isInt y fun j=>Q (g i j) H):=rfl
@[simp ↓] theorem qk7 C g x y H Q:fI C g x y H Q=(isInt x fun i=>isInt y fun j=>C i j∧Q (g i j) H):=rfl
@[simp ↓] theorem qk8 g x H Q:fU g x H Q=(isInt x fun i=>Q (g i) H):=rfl
theorem Qd {g:Int→Int→V} {x y H Q} (h:fI0 g x y H Q):rI0 g x y H Q:=by
  obtain⟨i,rfl,h1⟩:=isInt.out h;obtain⟨j,rfl,h2⟩:=isInt.out h1;exact⟨i,j,rfl,rfl,h2⟩
theorem qbW {C} {g:Int→Int→V} {x y H Q} (h:fI C g x y H Q):rI C g x y H Q:=by
  obtain⟨i,rfl,h1⟩:=isInt.out h;obtain⟨j,rfl,h2⟩:=isInt.out h1;exact⟨i,j,rfl,rfl,h2⟩
theorem qjH {g:Int→V} {x H Q} (h:fU g x H Q):rU g x H Q:=by
  obtain⟨i,rfl,h⟩:=isInt.out h;exact⟨i,rfl,h⟩
def fEq:R2:=fun x y H Q=>match x,y with
  | .int i,.int j=>Q (.bl (decide (i=j))) H
  | .str i,.str j=>Q (.bl (decide (i=j))) H
  | .bl i,.bl j=>Q (.bl (decide (i=j))) H
  | x,y=>DY x y=true∧Q (.bl (decide (x=y))) H
def fNe:R2:=fun x y H Q=>match x,y with
  | .int i,.int j=>∃k,decide (i=j) = !k∧Q (.bl k) H
  | .str i,.str j=>∃k,decide (i=j) = !k∧Q (.bl k) H
  | .bl i,.bl j=>∃k,decide (i=j) = !k∧Q (.bl k) H
  | x,y=>DY x y=true∧∃k,decide (x=y) = !k∧Q (.bl k) H
@[simp ↓] theorem qkF i j H Q:fEq (.int i) (.int j) H Q=Q (.bl (decide (i=j))) H:=rfl
@[simp ↓] theorem qkG i j H Q:fEq (.str i) (.str j) H Q=Q (.bl (decide (i=j))) H:=rfl
@[simp ↓] theorem qkH i j H Q:fEq (.bl i) (.bl j) H Q=Q (.bl (decide (i=j))) H:=rfl
@[simp ↓] theorem qkI i j H Q:fNe (.int i) (.int j) H Q=∃k,decide (i=j) = !k∧Q (.bl k) H:=rfl
@[simp ↓] theorem qkJ i j H Q:fNe (.str i) (.str j) H Q=∃k,decide (i=j) = !k∧Q (.bl k) H:=rfl
@[simp ↓] theorem qkK i j H Q:fNe (.bl i) (.bl j) H Q=∃k,decide (i=j) = !k∧Q (.bl k) H:=rfl
theorem Gu {b:Bool} {R:Bool→Prop} (h:∃k,b = !k∧R k):R (!b):=by
  obtain⟨k,e,q⟩:=h;rw[e,Bool.not_not];exact q
theorem qgx {x y H Q} (h:fEq x y H Q):rEq x y H Q:=by
  unfold fEq at h;split at h
  ·exact⟨rfl,by simpa using h⟩
  ·exact⟨rfl,by simpa using h⟩
  ·exact⟨rfl,by simpa using h⟩
  ·exact h
theorem qgy {x y H Q} (h:fNe x y H Q):rNe x y H Q:=by
  unfold fNe at h;split at h
  ·exact⟨rfl,by simpa using Gu (R:=fun k=>Q (.bl k) H) h⟩
  ·exact⟨rfl,by simpa using Gu (R:=fun k=>Q (.bl k) H) h⟩
  ·exact⟨rfl,by simpa using Gu (R:=fun k=>Q (.bl k) H) h⟩
  ·exact⟨h.1,Gu (R:=fun k=>Q (.bl k) H) h.2⟩
def ZD:R2:=fun x y H Q=>isStr x fun i=>isStr y fun j=>i.length+j.length≤sizeLine∧Q (.str (i++j)) H
@[simp ↓] theorem qiw x y H Q:ZD x y H Q=(isStr x fun i=>isStr y fun j=>i.length+j.length≤sizeLine∧Q (.str (i++j)) H):=rfl
theorem qbX {x y H Q} (h:ZD x y H Q):qge x y H Q:=by
  obtain⟨i,rfl,h1⟩:=isStr.out h;obtain⟨j,rfl,h2⟩:=isStr.out h1;exact⟨i,j,rfl,rfl,h2⟩
def qeK:R2:=fun x y H Q=>isRef x fun l=>isRef y fun b=>∃xs,H l=some (.lst xs)∧∃zs,H b=some (.lst zs)∧xs.length+zs.length≤sizeLine∧∀p,H p=none→Q (.ref p) (upd H p (.lst (xs++zs)))
@[simp ↓] theorem qjI x y H Q:qeK x y H Q=(isRef x fun l=>isRef y fun b=>∃xs,H l=some (.lst xs)∧∃zs,H b=some (.lst zs)∧xs.length+zs.length≤sizeLine∧∀p,H p=none→Q (.ref p) (upd H p (.lst (xs++zs)))):=rfl
theorem qeL {x y H Q} (h:qeK x y H Q):qf_ x y H Q:=by
  obtain⟨i,rfl,h0⟩:=isRef.out h;obtain⟨j,rfl,xs,h1,zs,h2,h3⟩:=isRef.out h0;exact⟨i,j,xs,zs,rfl,rfl,h1,h2,h3⟩
def vA (t:TE):TT:=fun σ H Q=>t σ H fun x H'=>mG x fun k=>Q k H'
@[simp ↓] theorem qix (t:TE) σ H Q:vA t σ H Q=(t σ H fun x H'=>mG x fun k=>Q k H'):=rfl
def ZF (ta:TE):TE:=fun σ H Q=>ta σ H fun x H1=>mG x fun c=>Q (.bl (!c)) H1
@[simp ↓] theorem qiy (ta:TE) σ H Q:ZF ta σ H Q=(ta σ H fun x H1=>mG x fun c=>Q (.bl (!c)) H1):=rfl
def ZG (ta tb:TE):TE:=fun σ H Q=>ta σ H fun x H1=>mG x fun c=>iB c (tb σ H1 Q) (Q (.bl false) H1) ⟨0⟩
@[simp ↓] theorem qiz (ta tb:TE) σ H Q:ZG ta tb σ H Q=(ta σ H fun x H1=>mG x fun c=>iB c (tb σ H1 Q) (Q (.bl false) H1) ⟨0⟩):=rfl
def MJ (r r':R2) (ta tb tc:TE):TE:=fun σ H Q=>ta σ H fun x H1=>tb σ H1 fun y H2=>r x y H2 fun z H3=>mG z fun k=>iB k (tc σ H3 fun w' H4=>r' y w' H4 Q) (Q (.bl false) H3) ⟨0⟩
@[simp ↓] theorem qgz (r r':R2) (ta tb tc:TE) σ H Q:MJ r r' ta tb tc σ H Q=(ta σ H fun x H1=>tb σ H1 fun y H2=>r x y H2 fun z H3=>mG z fun k=>iB k (tc σ H3 fun w' H4=>r' y w' H4 Q) (Q (.bl false) H3) ⟨0⟩):=rfl
section
variable {X:Cx} {K:W.Frag} {a b c:Expr} {ta tb tc:TE} {tA:TT} {pos:Pos}
theorem aL (i:Nat) {x:Str} {pos:Pos} (hN:X.N[i]? = some x:=by rfl) (hv:Vis X.env.scope x:=by first | exact Or.inl rfl | exact Or.inr (Or.inl rfl) | exact Or.inr (Or.inr rfl)) (hd:(x == ("__debug__" : Str))=false:=by decide)
    (hcd:(x == ("__classdict__" : Str))=false:=by decide):PE X (.Name x pos) (fVar i):=(qdV hN hv hd hcd).mono qeJ
theorem jQ:jk X (binaryOp .Add) (fI0 fun i j=>.int (i+j)):=qeb.mono Qd
theorem uE:jk X (binaryOp .Sub) (fI0 fun i j=>.int (i - j)):=qec.mono Qd
theorem Gv:jk X (compareOp .Lt) (fI0 fun i j=>.bl (decide (i<j))):=qf4.mono Qd
theorem nU:jk X (compareOp .LtE) (fI0 fun i j=>.bl (decide (i≤j))):=qf5.mono Qd
theorem Gw:jk X (compareOp .Gt) (fI0 fun i j=>.bl (decide (j<i))):=qf6.mono Qd
theorem nW:jk X (compareOp .Eq) fEq:=qf2.mono qgx
theorem sS:jk X (compareOp .NotEq) fNe:=qf3.mono qgy
theorem Qe:jk X (binaryOp .Add) ZD:=RB.mono qbX
theorem qbY:jk X (binaryOp .Add) qeK:=qeu.mono qeL
theorem Ei:UnR X (unaryOp .USub) (fU fun i=>.int (-i)):=qeh.mono qjH
theorem yO (x:V) (R:Bool→Prop):mG x R=(∃k,x = .bl k∧R k):=propext ⟨mG.out,fun⟨k,e,q⟩=>by subst e;exact q⟩
theorem Qf (x:V) (R:Addr→Prop):isRef x R=(∃k,x = .ref k∧R k):=propext ⟨isRef.out,fun⟨k,e,q⟩=>by subst e;exact q⟩
theorem ZJ (x:V) (R:Str→Prop):isStr x R=(∃k,x = .str k∧R k):=propext ⟨isStr.out,fun⟨k,e,q⟩=>by subst e;exact q⟩
theorem qeM (x:List V) (R:V→List V→Prop):arH x R=(∃k j,x=k::j∧R k j):=propext ⟨arH.out,fun⟨k,j,e,q⟩=>by subst e;exact q⟩
theorem Qg (t:TE):vA t=UG t:=by
  funext σ H Q
  exact congrArg (t σ H) (funext fun x=>funext fun H'=>yO _ _)
theorem qdl (t:TE):vA t=tB t:=by
  funext σ H Q
  exact congrArg (t σ H) (funext fun x=>funext fun H'=>yO _ _)
theorem ZK (t:TE):ZF t=Yy t:=by
  funext σ H Q
  exact congrArg (t σ H) (funext fun x=>funext fun H'=>yO _ _)
theorem ZL (t u:TE):ZG t u=Yx t u:=by
  funext σ H Q
  exact congrArg (t σ H) (funext fun x=>funext fun H'=>yO _ _)
theorem Ks (r r':R2) (ta tb tc:TE):MJ r r' ta tb tc=Lx r r' ta tb tc:=by
  funext σ H Q
  exact congrArg (ta σ H) (funext fun x=>funext fun H1=>congrArg (tb σ H1) (funext fun y=>funext fun H2=>congrArg (r x y H2) (funext fun z=>funext fun H3=>yO _ _)))
theorem bD {op:CmpOp} {r:R2} (ho:jk X (compareOp op) r) (ha:PE X a ta) (hb:PE X b tb) (hm:behindInMarks op b=false):PT X (.Compare a [op] [b] pos) (vA (tOp r ta tb)):=Qg _▸qbC ho ha hb hm
theorem MK {op:CmpOp} {t:TE} (h:PC X op a b t) (h1:behindInMarks op b=false:=by first | exact O_ _ (by decide) (by decide) | rfl):PT X (.Compare a [op] [b] pos) (vA t):=qdl _▸qdW h h1
theorem cU {e:Expr} {t:TE} (h:PE X e t) (he:∀whole,isTrue e X.env whole=(do let v ← whole;standAt e.pos;holding [v] (truthy v)):=by intro _;rfl):PT X e (vA t):=qdl _▸qdX h he
theorem uF {op op':CmpOp} {r r':R2} (ho:jk X (compareOp op) r) (ho':jk X (compareOp op') r') (ha:PE X a ta) (hb:PE X b tb) (hc:PE X c tc)
    (hm:lastMarks [op,op'] [b,c]=false:=by with_unfolding_all rfl):PE X (.Compare a [op,op'] [b,c] pos) (MJ r r' ta tb tc):=Ks _ _ _ _ _▸YL ho ho' ha hb hc hm
theorem Ku {op op':CmpOp} {r r':R2} (ho:jk X (compareOp op) r) (ho':jk X (compareOp op') r') (ha:PE X a ta) (hb:PE X b tb) (hc:PE X c tc)
    (hm:lastMarks [op,op'] [b,c]=false:=by with_unfolding_all rfl):PT X (.Compare a [op,op'] [b,c] pos) (vA (MJ r r' ta tb tc)):=by
  rw[Qg,Ks];exact YM ho ho' ha hb hc hm
theorem Va (ha:PE X a ta):PE X (.UnaryOp .Not a pos) (ZF ta):=ZK _▸qd0 ha
theorem m7 {rest:List Expr} (ha:PE X a ta) (hb:PE X (.BoolOp .And (b::rest) pos) tb):PE X (.BoolOp .And (a::b::rest) pos) (ZG ta tb):=ZL _ _▸qdZ ha hb
end
def qeN (K:W.Frag):R2:=fun x y H Q=>isRef x fun p=>isInt y fun i=>∃xs,(bU K H p xs∨gY K H p xs)∧∃v,Ka xs i=some v∧Q v H
@[simp ↓] theorem qjJ (K:W.Frag) x y H Q:qeN K x y H Q=(isRef x fun p=>isInt y fun i=>∃xs,(bU K H p xs∨gY K H p xs)∧∃v,Ka xs i=some v∧Q v H):=rfl
theorem qeO {K:W.Frag} {x y H Q} (h:qeN K x y H Q):qez K x y H Q:=by
  obtain⟨p,rfl,h1⟩:=isRef.out h;obtain⟨i,rfl,xs,h2,v,h3,h4⟩:=isInt.out h1;exact⟨p,xs,i,v,rfl,rfl,h2,h3,h4⟩
def qeP  : R2:=fun x y H Q=>isStr x fun z=>isInt y fun i=>z.length≤sizeLine∧∃c,Ka z.cps.toList i=some c∧Q (.str ⟨#[c]⟩) H
@[simp ↓] theorem qjK  x y H Q:qeP x y H Q=(isStr x fun z=>isInt y fun i=>z.length≤sizeLine∧∃c,Ka z.cps.toList i=some c∧Q (.str ⟨#[c]⟩) H):=rfl
theorem qeQ  {x y H Q} (h:qeP x y H Q):qf7 x y H Q:=by
  obtain⟨z,rfl,h1⟩:=isStr.out h;obtain⟨i,rfl,h2,c,h3,h4⟩:=isInt.out h1;exact⟨z,i,c,rfl,rfl,h2,h3,h4⟩
def Qh (K:W.Frag):List V→Hp→VK→Prop:=fun xs H Q=>ar1 xs fun x=>isRef x fun p=>∃ys,(bU K H p ys∨gY K H p ys)∧Q (.int ys.length) H
@[simp ↓] theorem qiA (K:W.Frag) xs H Q:Qh K xs H Q=(ar1 xs fun x=>isRef x fun p=>∃ys,(bU K H p ys∨gY K H p ys)∧Q (.int ys.length) H):=rfl
theorem qbZ {K:W.Frag} {xs H Q} (h:Qh K xs H Q):qde K xs H Q:=by
  obtain⟨x,rfl,h1⟩:=ar1.out h;obtain⟨p,rfl,ys,h2,h3⟩:=isRef.out h1;exact⟨p,ys,rfl,h2,h3⟩
def ZM  : List V→Hp→VK→Prop:=fun xs H Q=>ar1 xs fun x=>isStr x fun z=>z.length≤sizeLine∧Q (.int z.length) H
@[simp ↓] theorem qiB  xs H Q:ZM xs H Q=(ar1 xs fun x=>isStr x fun z=>z.length≤sizeLine∧Q (.int z.length) H):=rfl
theorem qb0  {xs H Q} (h:ZM xs H Q):qdf xs H Q:=by
  obtain⟨x,rfl,h1⟩:=ar1.out h;obtain⟨p,rfl,h2⟩:=isStr.out h1;exact⟨p,rfl,h2⟩
def MN (K:W.Frag):List V→Hp→VK→Prop:=fun xs H Q=>ar1 xs fun x=>isRef x fun p=>∃ys,(bU K H p ys∨gY K H p ys)∧∀l,H l=none→Q (.ref l) (upd H l (.lst ys))
@[simp ↓] theorem qfM (K:W.Frag) xs H Q:MN K xs H Q=(ar1 xs fun x=>isRef x fun p=>∃ys,(bU K H p ys∨gY K H p ys)∧∀l,H l=none→Q (.ref l) (upd H l (.lst ys))):=rfl
theorem WM {K:W.Frag} {xs H Q} (h:MN K xs H Q):U3 K xs H Q:=by
  obtain⟨x,rfl,h1⟩:=ar1.out h;obtain⟨p,rfl,ys,h2,h3⟩:=isRef.out h1;exact⟨p,ys,rfl,h2,h3⟩
def MP  : List V→Hp→VK→Prop:=fun xs H Q=>ar1 xs fun x=>isRef x fun p=>∃ys,Sq H p ys∧∀l H',H' l=some (.tup ys)→Same H H'→Q (.ref l) H'
@[simp ↓] theorem qfN  xs H Q:MP xs H Q=(ar1 xs fun x=>isRef x fun p=>∃ys,Sq H p ys∧∀l H',H' l=some (.tup ys)→Same H H'→Q (.ref l) H'):=rfl
theorem WQ  {xs H Q} (h:MP xs H Q):U4 xs H Q:=by
  obtain⟨x,rfl,h1⟩:=ar1.out h;obtain⟨p,rfl,ys,h2,h3⟩:=isRef.out h1;exact⟨p,ys,rfl,h2,h3⟩
def ZP (K:W.Frag):List V→Hp→VK→Prop:=fun xs H Q=>ar2 xs fun x y=>MF y fun n=>∃t,lG K H x t∧∃b,W.kitOne K t (.type n)=some b∧Q (.bl b) H
@[simp ↓] theorem qiC (K:W.Frag) xs H Q:ZP K xs H Q=(ar2 xs fun x y=>MF y fun n=>∃t,lG K H x t∧∃b,W.kitOne K t (.type n)=some b∧Q (.bl b) H):=rfl
theorem qb1 {K:W.Frag} {xs H Q} (h:ZP K xs H Q):qdg K xs H Q:=by
  obtain⟨x,y,rfl,h1⟩:=ar2.out h;obtain⟨n,rfl,t,h2,b,h3,h4⟩:=MF.out h1;exact⟨x,n,t,b,rfl,h2,h3,h4⟩
def ZQ (K:W.Frag):List V→Hp→VK→Prop:=fun xs H Q=>ar2 xs fun x y=>isRef y fun p=>∃m n,H p=some (.tup [.ty m,.ty n])∧∃t,lG K H x t∧∃b,W.kitAny K t [.type m,.type n]=some b∧Q (.bl b) H
@[simp ↓] theorem qiD (K:W.Frag) xs H Q:ZQ K xs H Q=(ar2 xs fun x y=>isRef y fun p=>∃m n,H p=some (.tup [.ty m,.ty n])∧∃t,lG K H x t∧∃b,W.kitAny K t [.type m,.type n]=some b∧Q (.bl b) H):=rfl
theorem qb2 {K:W.Frag} {xs H Q} (h:ZQ K xs H Q):qdh K xs H Q:=by
  obtain⟨x,y,rfl,h1⟩:=ar2.out h;obtain⟨p,rfl,m,n,h0,t,h2,b,h3,h4⟩:=isRef.out h1;exact⟨x,p,m,n,t,b,rfl,h0,h2,h3,h4⟩
def fIn (K:W.Frag):R2:=fun x y H Q=>isRef y fun p=>∃xs,(bU K H p xs∨gY K H p xs)∧jz x=true∧(∀z∈xs,jz z=true)∧Q (.bl (inV x xs)) H
@[simp ↓] theorem qkL (K:W.Frag) x y H Q:fIn K x y H Q=(isRef y fun p=>∃xs,(bU K H p xs∨gY K H p xs)∧jz x=true∧(∀z∈xs,jz z=true)∧Q (.bl (inV x xs)) H):=rfl
theorem qgA {K:W.Frag} {x y H Q} (h:fIn K x y H Q):qbN K x y H Q:=by
  obtain⟨p,rfl,xs,h1,h2,h3,h4⟩:=isRef.out h;exact .inl ⟨p,xs,rfl,h1,h2,List.all_eq_true.mpr h3,h4⟩
def R9 (K:W.Frag):R2:=fun x y H Q=>isRef y fun p=>∃xs,(bU K H p xs∨gY K H p xs)∧jz x=true∧(∀z∈xs,jz z=true)∧∃k,inV x xs = !k∧Q (.bl k) H
@[simp ↓] theorem qgB (K:W.Frag) x y H Q:R9 K x y H Q=(isRef y fun p=>∃xs,(bU K H p xs∨gY K H p xs)∧jz x=true∧(∀z∈xs,jz z=true)∧∃k,inV x xs = !k∧Q (.bl k) H):=rfl
theorem ZR {K:W.Frag} {x y H Q} (h:R9 K x y H Q):Mj K x y H Q:=by
  obtain⟨p,rfl,xs,h1,h2,h3,h4⟩:=isRef.out h;exact .inl ⟨p,xs,rfl,h1,h2,List.all_eq_true.mpr h3,Gu (R:=fun k=>Q (.bl k) H) h4⟩
def qeR (K:W.Frag):R2:=fun x y H Q=>isStr x fun i=>isStr y fun j=>Q (.bl (!(Builtin.Str.occurrences j i 0 j.length 1).isEmpty)) H
@[simp ↓] theorem qjL (K:W.Frag) x y H Q:qeR K x y H Q=(isStr x fun i=>isStr y fun j=>Q (.bl (!(Builtin.Str.occurrences j i 0 j.length 1).isEmpty)) H):=rfl
theorem qeS {K:W.Frag} {x y H Q} (h:qeR K x y H Q):qbN K x y H Q:=by
  obtain⟨i,rfl,h1⟩:=isStr.out h;obtain⟨j,rfl,h2⟩:=isStr.out h1;exact .inr ⟨i,j,rfl,rfl,h2⟩
def M4  : V→List V→Hp→VK→Prop:=fun x vs H Q=>isRef x fun l=>ar1 vs fun y=>∃xs,H l=some (.lst xs)∧xs.length<sizeLine∧Q .non (upd H l (.lst (xs++[y])))
@[simp ↓] theorem qfO  x vs H Q:M4 x vs H Q=(isRef x fun l=>ar1 vs fun y=>∃xs,H l=some (.lst xs)∧xs.length<sizeLine∧Q .non (upd H l (.lst (xs++[y])))):=rfl
theorem WR  {x vs H Q} (h:M4 x vs H Q):L_ x vs H Q:=by
  obtain⟨l,rfl,h1⟩:=isRef.out h;obtain⟨y,rfl,xs,h2,h3⟩:=ar1.out h1;exact⟨l,xs,y,rfl,rfl,h2,h3⟩
def M5  : V→List V→Hp→VK→Prop:=fun x vs H Q=>isRef x fun l=>ar2 vs fun j y=>isInt j fun i=>∃xs,H l=some (.lst xs)∧0≤i∧i≤xs.length∧xs.length<sizeLine∧Q .non (upd H l (.lst (xs.take i.toNat++y::xs.drop i.toNat)))
@[simp ↓] theorem qfP  x vs H Q:M5 x vs H Q=(isRef x fun l=>ar2 vs fun j y=>isInt j fun i=>∃xs,H l=some (.lst xs)∧0≤i∧i≤xs.length∧xs.length<sizeLine∧Q .non (upd H l (.lst (xs.take i.toNat++y::xs.drop i.toNat)))):=rfl
theorem WT  {x vs H Q} (h:M5 x vs H Q):Mf x vs H Q:=by
  obtain⟨l,rfl,h1⟩:=isRef.out h;obtain⟨j,y,rfl,h2⟩:=ar2.out h1;obtain⟨i,rfl,xs,h3⟩:=isInt.out h2;exact⟨l,xs,i,y,rfl,rfl,h3⟩
def ZS  : V→List V→Hp→VK→Prop:=fun x vs H Q=>isStr x fun sep=>ar1 vs fun y=>isRef y fun l=>∃ys:List Str,H l=some (.lst (ys.map V.str))∧(ys.map (·.length)).sum+ys.length * sep.length≤16777216∧Q (.str (Txt.join sep ys)) H
@[simp ↓] theorem qiE  x vs H Q:ZS x vs H Q=(isStr x fun sep=>ar1 vs fun y=>isRef y fun l=>∃ys:List Str,H l=some (.lst (ys.map V.str))∧(ys.map (·.length)).sum+ys.length * sep.length≤16777216∧Q (.str (Txt.join sep ys)) H):=rfl
theorem qb3  {x vs H Q} (h:ZS x vs H Q):rJoin x vs H Q:=by
  obtain⟨sep,rfl,h1⟩:=isStr.out h;obtain⟨y,rfl,h2⟩:=ar1.out h1;obtain⟨l,rfl,ys,h3⟩:=isRef.out h2;exact⟨sep,l,ys,rfl,rfl,h3⟩
def qeT  : List V→Hp→VK→Prop:=fun xs H Q=>ar1 xs fun x=>isInt x fun i=>Q (.int (if i<0 then -i else i)) H
@[simp ↓] theorem qjM  xs H Q:qeT xs H Q=(ar1 xs fun x=>isInt x fun i=>Q (.int (if i<0 then -i else i)) H):=rfl
theorem qeU  {xs H Q} (h:qeT xs H Q):(fun xs H Q=>∃i,xs=[.int i]∧Q (.int (if i<0 then -i else i)) H:List V→Hp→VK→Prop) xs H Q:=by
  obtain⟨x,rfl,h1⟩:=ar1.out h;obtain⟨i,rfl,h2⟩:=isInt.out h1;exact⟨i,rfl,h2⟩
def ZV  : List V→Hp→VK→Prop:=fun xs H Q=>ar2 xs fun x y=>isInt x fun i=>isInt y fun j=>Q (.int (if j > i then j else i)) H
@[simp ↓] theorem qiF  xs H Q:ZV xs H Q=(ar2 xs fun x y=>isInt x fun i=>isInt y fun j=>Q (.int (if j > i then j else i)) H):=rfl
theorem qb4  {xs H Q} (h:ZV xs H Q):(fun xs H Q=>∃i j,xs=[.int i,.int j]∧Q (.int (if j > i then j else i)) H:List V→Hp→VK→Prop) xs H Q:=by
  obtain⟨x,y,rfl,h1⟩:=ar2.out h;obtain⟨i,rfl,h2⟩:=isInt.out h1;obtain⟨j,rfl,h3⟩:=isInt.out h2;exact⟨i,j,rfl,h3⟩
def ZW  : List V→Hp→VK→Prop:=fun xs H Q=>ar2 xs fun x y=>isInt x fun i=>isInt y fun j=>Q (.int (if j<i then j else i)) H
@[simp ↓] theorem qiG  xs H Q:ZW xs H Q=(ar2 xs fun x y=>isInt x fun i=>isInt y fun j=>Q (.int (if j<i then j else i)) H):=rfl
theorem qb5  {xs H Q} (h:ZW xs H Q):(fun xs H Q=>∃i j,xs=[.int i,.int j]∧Q (.int (if j<i then j else i)) H:List V→Hp→VK→Prop) xs H Q:=by
  obtain⟨x,y,rfl,h1⟩:=ar2.out h;obtain⟨i,rfl,h2⟩:=isInt.out h1;obtain⟨j,rfl,h3⟩:=isInt.out h2;exact⟨i,j,rfl,h3⟩
def M6  : List V→Hp→VK→Prop:=fun xs H Q=>ar2 xs fun x y=>isInt x fun i=>isInt y fun j=>V7 i j∧∀p,H p=none→Q (.ref p) (upd H p (.tup [.int (i / j),.int (i % j)]))
@[simp ↓] theorem qfQ  xs H Q:M6 xs H Q=(ar2 xs fun x y=>isInt x fun i=>isInt y fun j=>V7 i j∧∀p,H p=none→Q (.ref p) (upd H p (.tup [.int (i / j),.int (i % j)]))):=rfl
theorem WW  {xs H Q} (h:M6 xs H Q):(fun xs H Q=>∃i j,xs=[.int i,.int j]∧V7 i j∧∀p,H p=none→Q (.ref p) (upd H p (.tup [.int (i / j),.int (i % j)])):List V→Hp→VK→Prop) xs H Q:=by
  obtain⟨x,y,rfl,h1⟩:=ar2.out h;obtain⟨i,rfl,h2⟩:=isInt.out h1;obtain⟨j,rfl,h3⟩:=isInt.out h2;exact⟨i,j,rfl,h3⟩
def qeV  : List V→Hp→VK→Prop:=fun xs H Q=>ar1 xs fun x=>isRef x fun a=>∃ys,H a=some (.lst ys)∧∃bs,vo ys bs∧Q (.bl (bs.all id)) H
@[simp ↓] theorem qjN  xs H Q:qeV xs H Q=(ar1 xs fun x=>isRef x fun a=>∃ys,H a=some (.lst ys)∧∃bs,vo ys bs∧Q (.bl (bs.all id)) H):=rfl
theorem qeW  {xs H Q} (h:qeV xs H Q):(fun xs H Q=>∃a ys bs,xs=[.ref a]∧H a=some (.lst ys)∧vo ys bs∧Q (.bl (bs.all id)) H:List V→Hp→VK→Prop) xs H Q:=by
  obtain⟨x,rfl,h1⟩:=ar1.out h;obtain⟨a,rfl,ys,h2,bs,h3,h4⟩:=isRef.out h1;exact⟨a,ys,bs,rfl,h2,h3,h4⟩
def Vb:List V→Hp→VK→Prop:=fun xs H Q=>ar1 xs fun x=>match x with | .int i=>Q (.int i) H | .bl k=>Q (.int (if k=true then 1 else 0)) H | _=>False
@[simp ↓] theorem qiH i H Q:Vb [.int i] H Q=Q (.int i) H:=rfl
@[simp ↓] theorem qiI k H Q:Vb [.bl k] H Q=Q (.int (if k=true then 1 else 0)) H:=rfl
theorem qb6 {xs H Q} (h:Vb xs H Q):(fun xs H Q=>(∃i,xs=[.int i]∧Q (.int i) H)∨∃k,xs=[.bl k]∧Q (.int (if k then 1 else 0)) H:List V→Hp→VK→Prop) xs H Q:=by
  obtain⟨x,rfl,h1⟩:=ar1.out h;cases x with
  | int i=>exact .inl ⟨i,rfl,h1⟩
  | bl k=>exact .inr ⟨k,rfl,h1⟩
  | _=>exact h1.elim
def ZX:V1:=fun o i v H Q=>isRef o fun p=>isInt i fun k=>∃xs,H p=some (.lst xs)∧∃j,ixN xs.length k=some j∧Q (upd H p (.lst (xs.set j v)))
@[simp ↓] theorem qiJ o i v H Q:ZX o i v H Q=(isRef o fun p=>isInt i fun k=>∃xs,H p=some (.lst xs)∧∃j,ixN xs.length k=some j∧Q (upd H p (.lst (xs.set j v)))):=rfl
theorem qb7 {o i v H Q} (h:ZX o i v H Q):qdd o i v H Q:=by
  obtain⟨p,rfl,h1⟩:=isRef.out h;obtain⟨k,rfl,xs,h2,j,h3,h4⟩:=isInt.out h1;exact⟨p,xs,k,j,rfl,rfl,h2,h3,h4⟩
def qgC:O5:=fun vs σ H Q=>ar0 vs (Q σ H)
def qdm (t:TG) (u:O5):O5:=fun vs σ H Q=>arH vs fun v r=>t v σ H fun σ' H'=>u r σ' H' Q
def qgD (K:W.Frag) (n:Nat) (t:O5):TG:=fun v σ H Q=>isRef v fun a=>∃xs,gY K H a xs∧xs.length=n∧t xs σ H Q
@[simp ↓] theorem qjO vs σ H Q:qgC vs σ H Q=ar0 vs (Q σ H):=rfl
@[simp ↓] theorem qiK t u vs σ H Q:qdm t u vs σ H Q=(arH vs fun v r=>t v σ H fun σ' H'=>u r σ' H' Q):=rfl
@[simp ↓] theorem qjP K n t v σ H Q:qgD K n t v σ H Q=(isRef v fun a=>∃xs,gY K H a xs∧xs.length=n∧t xs σ H Q):=rfl
theorem jJ {vs σ H Q} (h:qgC vs σ H Q):qd3 vs σ H Q:=ar0.out h
theorem bO (t:TG) (u:O5):qdm t u=Yz t u:=by
  funext vs σ H Q
  exact qeM _ _
theorem g_ (K:W.Frag) (n:Nat) (t:O5):qgD K n t=qbx K n t:=by
  funext v σ H Q
  refine propext ⟨fun h=>?_,fun⟨a,xs,e,h⟩=>by subst e;exact⟨xs,h⟩⟩;obtain⟨a,rfl,xs,h1⟩:=isRef.out h;exact⟨a,xs,rfl,h1⟩
def qeX (f:Int→Int→Int):TIp:=fun x y H Q=>isInt x fun i=>isInt y fun j=>Q (.int (f i j)) H
@[simp ↓] theorem qjQ f x y H Q:qeX f x y H Q=(isInt x fun i=>isInt y fun j=>Q (.int (f i j)) H):=rfl
theorem qeY {f:Int→Int→Int} {x y H Q} (h:qeX f x y H Q):ipI f x y H Q:=by
  obtain⟨i,rfl,h1⟩:=isInt.out h;obtain⟨j,rfl,h2⟩:=isInt.out h1;exact⟨i,j,rfl,rfl,h2⟩
def qgE (i:Nat) (te:TE) (ti:TIp):TS:=fun D σ H=>getSt σ i fun x=>te σ H fun y H1=>ti x y H1 fun z H2=>D.nx (σ.set i (some z)) H2
@[simp ↓] theorem qjR i te ti D σ H:qgE i te ti D σ H=(getSt σ i fun x=>te σ H fun y H1=>ti x y H1 fun z H2=>D.nx (σ.set i (some z)) H2):=rfl
theorem qeZ {i:Nat} {te:TE} {ti:TIp} {D σ H} (h:qgE i te ti D σ H):qd5 i te ti D σ H:=getSt.out h
def Z0 (K:W.Frag) (tl:TE):TI:=fun σ H R=>tl σ H fun x H1=>isRef x fun a=>(∃xs,bU K H1 a xs)∧R (Yn K a) H1
def qdn (K:W.Frag) (tl:TE):TI:=fun σ H R=>tl σ H fun x H1=>isRef x fun p=>∃b,(∃xs,SqB b K H1 p xs)∧R (Itq b K p) H1
def qdo (tl:TE):TI:=fun σ H R=>tl σ H fun x H1=>isStr x fun z=>R (Its z) H1
def Z1 (ta:TA):TI:=fun σ H R=>ta σ H fun vs H1=>ar1 vs fun v=>isInt v fun j=>-(2 ^ 62)≤j∧j<2 ^ 62∧R (Ru 0 j.toNat) H1
def Z2 (ta:TA):TI:=fun σ H R=>ta σ H fun vs H1=>ar2 vs fun v w=>isInt v fun i=>isInt w fun j=>(-(2 ^ 62)≤i∧i<2 ^ 62∧-(2 ^ 62)≤j∧j<2 ^ 62)∧R (Ru i (j - i).toNat) H1
def qdp (K:W.Frag) (t:TA):TI:=fun σ H R=>t σ H fun vs H1=>ar2 vs fun x y=>isRef x fun a=>isRef y fun b=>(∃xs,bU K H1 a xs)∧(∃ys,bU K H1 b ys)∧R (Itz K a b) H1
def Z4 (K:W.Frag) (t:TA):TI:=fun σ H R=>t σ H fun vs H1=>ar1 vs fun x=>isRef x fun a=>(∃xs,bU K H1 a xs)∧R (Ite K a) H1
@[simp ↓] theorem qgF K tl σ H R:Z0 K tl σ H R=(tl σ H fun x H1=>isRef x fun a=>(∃xs,bU K H1 a xs)∧R (Yn K a) H1):=rfl
@[simp ↓] theorem qiL K tl σ H R:qdn K tl σ H R=(tl σ H fun x H1=>isRef x fun p=>∃b,(∃xs,SqB b K H1 p xs)∧R (Itq b K p) H1):=rfl
@[simp ↓] theorem qiM tl σ H R:qdo tl σ H R=(tl σ H fun x H1=>isStr x fun z=>R (Its z) H1):=rfl
@[simp ↓] theorem qgG ta σ H R:Z1 ta σ H R=(ta σ H fun vs H1=>ar1 vs fun v=>isInt v fun j=>-(2 ^ 62)≤j∧j<2 ^ 62∧R (Ru 0 j.toNat) H1):=rfl
@[simp ↓] theorem qgH ta σ H R:Z2 ta σ H R=(ta σ H fun vs H1=>ar2 vs fun v w=>isInt v fun i=>isInt w fun j=>(-(2 ^ 62)≤i∧i<2 ^ 62∧-(2 ^ 62)≤j∧j<2 ^ 62)∧R (Ru i (j - i).toNat) H1):=rfl
@[simp ↓] theorem qiN K t σ H R:qdp K t σ H R=(t σ H fun vs H1=>ar2 vs fun x y=>isRef x fun a=>isRef y fun b=>(∃xs,bU K H1 a xs)∧(∃ys,bU K H1 b ys)∧R (Itz K a b) H1):=rfl
@[simp ↓] theorem qgI K t σ H R:Z4 K t σ H R=(t σ H fun vs H1=>ar1 vs fun x=>isRef x fun a=>(∃xs,bU K H1 a xs)∧R (Ite K a) H1):=rfl
theorem gC (K:W.Frag) (tl:TE):Z0 K tl=Uu K tl:=by
  funext σ H R
  exact congrArg (tl σ H) (funext fun x=>funext fun H1=>Qf _ _)
theorem yP (K:W.Frag) (tl:TE):qdn K tl=qeB K tl:=by
  funext σ H R
  refine congrArg (tl σ H) (funext fun x=>funext fun H1=>propext ⟨fun h=>?_,fun⟨b,p,e,h⟩=>by subst e;exact⟨b,h⟩⟩);obtain⟨p,rfl,b,h1⟩:=isRef.out h;exact⟨b,p,rfl,h1⟩
theorem Z5 (tl:TE):qdo tl=qev tl:=by
  funext σ H R
  exact congrArg (tl σ H) (funext fun x=>funext fun H1=>ZJ _ _)
theorem jK (ta:TA):Z1 ta=YF ta:=by
  funext σ H R
  refine congrArg (ta σ H) (funext fun x=>funext fun H1=>propext ⟨fun h=>?_,fun⟨b,e,h⟩=>by subst e;exact h⟩);obtain⟨v,rfl,h1⟩:=ar1.out h;obtain⟨i,rfl,h2⟩:=isInt.out h1;exact⟨i,rfl,h2⟩
theorem WX (ta:TA):Z2 ta=YG ta:=by
  funext σ H R
  refine congrArg (ta σ H) (funext fun x=>funext fun H1=>propext ⟨fun h=>?_,fun⟨b,c,e,h⟩=>by subst e;exact h⟩);obtain⟨v,w,rfl,h1⟩:=ar2.out h;obtain⟨i,rfl,h2⟩:=isInt.out h1;obtain⟨j,rfl,h3⟩:=isInt.out h2;exact⟨i,j,rfl,h3⟩
theorem Z6 (K:W.Frag) (t:TA):qdp K t=qbJ K t:=by
  funext σ H R
  refine congrArg (t σ H) (funext fun x=>funext fun H1=>propext ⟨fun h=>?_,fun⟨a,b,xs,ys,e,h1,h2,h3⟩=>by subst e;exact⟨⟨xs,h1⟩,⟨ys,h2⟩,h3⟩⟩);obtain⟨v,w,rfl,h1⟩:=ar2.out h;obtain⟨i,rfl,h2⟩:=isRef.out h1;obtain⟨j,rfl,⟨xs,h3⟩,⟨ys,h4⟩,h5⟩:=isRef.out h2;exact⟨i,j,xs,ys,rfl,h3,h4,h5⟩
theorem Kv (K:W.Frag) (t:TA):Z4 K t=Zw K t:=by
  funext σ H R
  refine congrArg (t σ H) (funext fun x=>funext fun H1=>propext ⟨fun h=>?_,fun⟨a,xs,e,h1,h3⟩=>by subst e;exact⟨⟨xs,h1⟩,h3⟩⟩);obtain⟨v,rfl,h1⟩:=ar1.out h;obtain⟨i,rfl,⟨xs,h3⟩,h5⟩:=isRef.out h1;exact⟨i,xs,rfl,h3,h5⟩
def qdq (sp:Sp) (E:XK) (t:TA):TE:=fun σ H Q=>t σ H fun vs H1=>R7 sp vs H1 Q ⟨0⟩ E
@[simp ↓] theorem qiO sp E t σ H Q:qdq sp E t σ H Q=(t σ H fun vs H1=>R7 sp vs H1 Q ⟨0⟩ E):=rfl
theorem aH (sp:Sp) (E:XK) (t:TA):qdq sp E t=YX sp [] E t:=by
  funext σ H Q
  exact congrArg (t σ H) (funext fun vs=>funext fun H1=>by rw[List.append_nil];rfl)
def qdr (C:Addr) (m:Str) (sp:Sp) (E:XK) (ta:TE) (t:TA):TE:=fun σ H Q=>ta σ H fun x H1=>isRef x fun a=>∃dx fs,H1 a=some (.ins C dx fs)∧fs.lookup m=none∧t σ H1 fun vs H2=>R7 sp (.ref a::vs) H2 Q ⟨0⟩ E
@[simp ↓] theorem qiP C m sp E ta t σ H Q:qdr C m sp E ta t σ H Q=(ta σ H fun x H1=>isRef x fun a=>∃dx fs,H1 a=some (.ins C dx fs)∧fs.lookup m=none∧t σ H1 fun vs H2=>R7 sp (.ref a::vs) H2 Q ⟨0⟩ E):=rfl
theorem kh (C:Addr) (m:Str) (sp:Sp) (E:XK) (ta:TE) (t:TA):qdr C m sp E ta t=YZ C m sp [] E ta t:=by
  funext σ H Q
  refine congrArg (ta σ H) (funext fun x=>funext fun H1=>propext ⟨fun h=>?_,fun⟨a,dx,fs,e,h1,h2,h3⟩=>?_⟩)
  ·obtain⟨a,rfl,dx,fs,h1,h2,h3⟩:=isRef.out h;refine⟨a,dx,fs,rfl,h1,h2,?_⟩;simp only[List.append_nil];exact h3
  ·subst e;refine⟨dx,fs,h1,h2,?_⟩;simp only[List.append_nil] at h3;exact h3
def qds (C:Addr) (sp:Sp) (E:XK) (t:TA):TE:=fun σ H Q=>t σ H fun vs H1=>∀x dx,H1 x=none→H1 dx=none→dx≠x→
  R7 sp (.ref x::vs) (upd (upd H1 dx (.own x)) x (.ins C dx [])) (fun v H2=>v = .non∧Q (.ref x) H2) ⟨0⟩ E
@[simp ↓] theorem qiQ C sp E t σ H Q:qds C sp E t σ H Q=(t σ H fun vs H1=>∀x dx,H1 x=none→H1 dx=none→dx≠x→
  R7 sp (.ref x::vs) (upd (upd H1 dx (.own x)) x (.ins C dx [])) (fun v H2=>v = .non∧Q (.ref x) H2) ⟨0⟩ E):=rfl
theorem Z7 (C:Addr) (sp:Sp) (E:XK) (t:TA):qds C sp E t=Y0 C sp [] E t:=by
  funext σ H Q
  refine congrArg (t σ H) (funext fun vs=>funext fun H1=>?_);simp only[List.append_nil];rfl
def qgJ (K:W.Frag) (ta:TE) (f:Str):TE:=fun σ H Q=>ta σ H fun x H1=>isRef x fun a=>∃C dx fs,H1 a=some (.ins C dx fs)∧Cls K C∧lF K C f∧∃v,fs.lookup f=some v∧Q v H1
@[simp ↓] theorem qjS K ta f σ H Q:qgJ K ta f σ H Q=(ta σ H fun x H1=>isRef x fun a=>∃C dx fs,H1 a=some (.ins C dx fs)∧Cls K C∧lF K C f∧∃v,fs.lookup f=some v∧Q v H1):=rfl
theorem M7 (K:W.Frag) (ta:TE) (f:Str):qgJ K ta f=qbF K ta f:=by
  funext σ H Q
  refine congrArg (ta σ H) (funext fun x=>funext fun H1=>propext ⟨fun h=>?_,fun⟨a,C,dx,fs,v,e,h1,h2,h3,h4⟩=>by subst e;exact⟨C,dx,fs,h1,h2,h3,v,h4⟩⟩);obtain⟨a,rfl,C,dx,fs,h1,h2,h3,v,h4⟩:=isRef.out h;exact⟨a,C,dx,fs,v,rfl,h1,h2,h3,h4⟩
def qdt (td ty:TE):TE:=fun σ H Q=>td σ H fun x H1=>ty σ H1 fun y H2=>isRef x fun a=>∃v,iJ H2 a y (some v)∧Q v H2
def qgK (ty td:TE):TE:=fun σ H Q=>ty σ H fun y H1=>td σ H1 fun x H2=>isRef x fun a=>∃o,iJ H2 a y o∧Q (.bl o.isSome) H2
def Vc (ty td:TE):TE:=fun σ H Q=>ty σ H fun y H1=>td σ H1 fun x H2=>isRef x fun a=>∃o,iJ H2 a y o∧Q (.bl o.isNone) H2
def qdu (td ty tv:TE):TS:=fun D σ H=>tv σ H fun v H1=>td σ H1 fun x H2=>ty σ H2 fun y H3=>isRef x fun a=>∃H4,vV H3 a y v H4∧D.nx σ H4
def Z8 (td ty tx:TE):TE:=fun σ H Q=>td σ H fun x H1=>isRef x fun a=>IsD H1 a∧ty σ H1 fun y H2=>tx σ H2 fun z H3=>∃o,iJ H3 a y o∧Q (o.getD z) H3
@[simp ↓] theorem qiR td ty σ H Q:qdt td ty σ H Q=(td σ H fun x H1=>ty σ H1 fun y H2=>isRef x fun a=>∃v,iJ H2 a y (some v)∧Q v H2):=rfl
@[simp ↓] theorem qjT ty td σ H Q:qgK ty td σ H Q=(ty σ H fun y H1=>td σ H1 fun x H2=>isRef x fun a=>∃o,iJ H2 a y o∧Q (.bl o.isSome) H2):=rfl
@[simp ↓] theorem qfR ty td σ H Q:Vc ty td σ H Q=(ty σ H fun y H1=>td σ H1 fun x H2=>isRef x fun a=>∃o,iJ H2 a y o∧Q (.bl o.isNone) H2):=rfl
@[simp ↓] theorem qiS td ty tv D σ H:qdu td ty tv D σ H=(tv σ H fun v H1=>td σ H1 fun x H2=>ty σ H2 fun y H3=>isRef x fun a=>∃H4,vV H3 a y v H4∧D.nx σ H4):=rfl
@[simp ↓] theorem qgL td ty tx σ H Q:Z8 td ty tx σ H Q=(td σ H fun x H1=>isRef x fun a=>IsD H1 a∧ty σ H1 fun y H2=>tx σ H2 fun z H3=>∃o,iJ H3 a y o∧Q (o.getD z) H3):=rfl
theorem M8 {x:V} {β:Type} {R:Addr→β→Prop}:(isRef x fun a=>∃b,R a b)=(∃a b,x = .ref a∧R a b):=propext ⟨fun h=>by obtain⟨a,rfl,b,h1⟩:=isRef.out h;exact⟨a,b,rfl,h1⟩,fun⟨a,b,e,h⟩=>by subst e;exact⟨b,h⟩⟩
theorem Qi (td ty:TE):qdt td ty=Zq td ty:=by
  funext σ H Q
  exact congrArg (td σ H) (funext fun x=>funext fun H1=>congrArg (ty σ H1) (funext fun y=>funext fun H2=>M8))
theorem qb8 (ty td:TE):qgK ty td=qeE ty td:=by
  funext σ H Q
  exact congrArg (ty σ H) (funext fun x=>funext fun H1=>congrArg (td σ H1) (funext fun y=>funext fun H2=>M8))
theorem Gx (ty td:TE):Vc ty td=Mp ty td:=by
  funext σ H Q
  refine congrArg (ty σ H) (funext fun x=>funext fun H1=>congrArg (td σ H1) (funext fun y=>funext fun H2=>?_));rw[M8];simp only[Option.not_isSome]
theorem yQ (td ty tv:TE):qdu td ty tv=Zr td ty tv:=by
  funext D σ H
  exact congrArg (tv σ H) (funext fun v=>funext fun H1=>congrArg (td σ H1) (funext fun x=>funext fun H2=>congrArg (ty σ H2) (funext fun y=>funext fun H3=>M8)))
theorem Kw (td ty tx:TE):Z8 td ty tx=R5 td ty tx:=by
  funext σ H Q
  exact congrArg (td σ H) (funext fun x=>funext fun H1=>Qf _ _)
section
variable {X:Cx} {K:W.Frag}
theorem PE.eqv {e:Expr} {t t':TE} (o:PE X e t) (h:t'=t):PE X e t':=h▸o
theorem PC.eqv {op:CmpOp} {a b:Expr} {t t':TE} (o:PC X op a b t) (h:t'=t):PC X op a b t':=h▸o
theorem PS.eqv {e:Stmt} {t t':TS} (o:PS X e t) (h:t'=t):PS X e t':=h▸o
theorem PG.eqv {e:Expr} {t t':TG} (o:PG X e t) (h:t'=t):PG X e t':=h▸o
theorem lE.eqv {e:List Expr} {t t':O5} (o:lE X e t) (h:t'=t):lE X e t':=h▸o
theorem PI.eqv {tg e:Expr} {t t':TI} (o:PI X tg e t) (h:t'=t):PI X tg e t':=h▸o
theorem Ej:jk X (binaryOp .Mult) (fI qbA fun i j=>.int (i * j)):=qee.mono qbW
theorem Z9:jk X (binaryOp .FloorDiv) (fI V7 fun i j=>.int (i / j)):=qbB.mono qbW
theorem uG:jk X (binaryOp .Mod) (fI (fun _ j=>0<j) fun i j=>.int (i % j)):=qef.mono qbW
theorem Ek:jk X (binaryOp .Pow) (fI qf1 fun i j=>.int (i ^ j.toNat)):=qeg.mono qbW
theorem gq (hK:X.K=K):Yo X (qeN K):=(qi_ hK).mono qeO
theorem Vd:Yo X qeP:=qep.mono qeQ
theorem qjU (hK:X.K=K):jk X (compareOp .In) (fIn K):=(inK hK).mono qgA
theorem qjV (hK:X.K=K):jk X (compareOp .In) (qeR K):=(inK hK).mono qeS
theorem M9 (hK:X.K=K):jk X (compareOp .NotIn) (R9 K):=(qeA hK).mono ZR
theorem fV (hK:X.K=K):cu X (.builtin "len") (Qh K):=(qgf hK).mono qbZ
theorem qe0:cu X (.builtin "len") ZM:=qgg.mono qb0
theorem yR (hK:X.K=K):cu X (.type "list") (MN K):=(qbO hK).mono WM
theorem Ky:cu X (.type "tuple") MP:=Zn.mono WQ
theorem sU (hK:X.K=K):cu X (.builtin "isinstance") (ZP K):=(qgh hK).mono qb1
theorem qe1 (hK:X.K=K):cu X (.builtin "isinstance") (ZQ K):=(qgi hK).mono qb2
theorem uH (hc:X.calm=true):cu X (.builtin "all") qeV:=(Ws hc).mono qeW
theorem R_:cu X (.type "int") Vb:=Wa.mono qb6
theorem Kz:cu X (.builtin "abs") qeT:=YQ.mono qeU
theorem Gy (hc:X.calm=true):cu X (.builtin "max") ZV:=(V9 hc).mono qb4
theorem Sd (hc:X.calm=true):cu X (.builtin "min") ZW:=(V_ hc).mono qb5
theorem M_:cu X (.builtin "divmod") M6:=Pg.mono WW
theorem jL:Wg X "list.append" M4:=Wg.mono (r:=L_) Kc WR
theorem Sg:Wg X "list.insert" M5:=Wg.mono (r:=Mf) Wr WT
theorem Z_:Wg X "str.join" ZS:=qbV.mono qb3
theorem KC:V2 X ZX:=set_list.mono qb7
theorem qb9:PIp X .Add (qeX fun i j=>i+j):=qd7.mono qeY
end
theorem getSt.imp {σ:St} {i:Nat} {R R':V→Prop} (f:∀v,R v→R' v):getSt σ i R→getSt σ i R':=by
  induction σ generalizing i with
  | nil=>exact fun h=>h.elim
  | cons o σ ih=>
    cases i with
    | zero=>cases o with
      | none=>exact fun h=>h.elim
      | some v=>exact f v
    | succ n=>exact ih
theorem isInt.imp {x:V} {R R':Int→Prop} (f:∀v,R v→R' v):isInt x R→isInt x R':=by cases x <;> first | exact f _ | exact fun h=>h.elim
theorem isRef.imp {x:V} {R R':Addr→Prop} (f:∀v,R v→R' v):isRef x R→isRef x R':=by cases x <;> first | exact f _ | exact fun h=>h.elim
theorem mG.imp {x:V} {R R':Bool→Prop} (f:∀v,R v→R' v):mG x R→mG x R':=by cases x <;> first | exact f _ | exact fun h=>h.elim
theorem Qj {K:W.Frag} {g:Int→Int→V} {i j:Nat}:∀(σ:St) (H:Hp) (Q Q':Bool→Hp→Prop),(∀(b:Bool) (H1:Hp),Q b H1→Q' b H1)→vA (tOp (fI0 g) (fVar i) (tCB (Qh K) (vm (fVar j) Jq))) σ H Q→vA (tOp (fI0 g) (fVar i) (tCB (Qh K) (vm (fVar j) Jq))) σ H Q':=
  fun _ _ _ _ f h=>getSt.imp (fun _ h=>getSt.imp (fun _ h=>isRef.imp (fun _ ⟨ys,h1,h2⟩=>⟨ys,h1,isInt.imp (fun _ h=>isInt.imp (fun _ h=>mG.imp (fun _ h=>f _ _ h) h) h) h2⟩) h) h) h
theorem dZ.sV {P:Program} {w:World} {K:W.Frag} {mg:Str→Option Value} {base:Heap} {x qual:Str} {st:Stmt} {f:Addr} {fd:FuncData} {N ps:List Str} {k:Nat} {sp:Sp} (F:dZ K x qual st f fd) (S:aX N ps (aD st)) (len:∀vs H Q E,sp vs H Q E→vs.length=ps.length)
    (hbody:∀(cdv:Value) (A:Around) (outer:List Env) (s:Shared) (H:Hp) (vs:List V) (Q:VK) (E:XK),iz k (A.deeper (envOfC qual (aD st) s.heap.objs.size f cdv))→sp vs H Q E→
      ∃t,Jm (au lB P w K mg base N qual (aD st) f cdv A outer s H E).Ym (iV st) t∧t {nx:=fun _ H'=>Q .non H',rt:=Q} (jH N vs) H):bZ P w K mg base lB (k+1) f fd ps sp:=by
  refine F.ok S len fun cdv A outer s H vs Q E hr h=>?_;obtain⟨t,h1,h2⟩:=hbody cdv A outer s H vs Q E hr h;refine⟨t,h1,?_⟩;have hl:=len _ _ _ _ h;have hp:ps.length≤N.length:=by have:=congrArg List.length S.pre;rw[List.length_take] at this;omega
  rw[pG N vs (by omega)] at h2;exact h2
end L2
namespace L2
open PySem
def yS (T:List lC) (h:Str) (wh:List Nat) (R:BR):BR:=T.foldl (fun R s=>if s.2.1=h∧¬s.2.2∈R.map (·.1) then R++[(s.2.2,wh++[s.1])] else R) R
def Ax (S:List lC) (a:Str):Nat→BR
  | 0=>[(a,[])]
  | n+1=>match (Ax S a n)[n]? with
    | some x=>yS S x.1 x.2 (Ax S a n)
    | none=>Ax S a n
theorem Ss (T:List lC) (s:lC) (h:Str) (wh:List Nat) (R:BR):yS (T++[s]) h wh R=if s.2.1=h∧¬s.2.2∈(yS T h wh R).map (·.1) then yS T h wh R++[(s.2.2,wh++[s.1])] else yS T h wh R:=by
  unfold yS;rw[List.foldl_append];rfl
theorem WY {S:List lC} {a:Str} {n:Nat} {h:Str} {wh:List Nat} (e:(Ax S a n)[n]? = some (h,wh)):Ax S a (n+1)=yS S h wh (Ax S a n):=by
  show(match (Ax S a n)[n]? with | some x=>yS S x.1 x.2 (Ax S a n) | none=>Ax S a n)=_
  rw[e]
def qjW (S:List lC) (a:Str) (R:BR):Prop:=Ax S a R.length=R
def qw (H:Hp) (kvs:List (Key×V)):Prop:=∀kv∈kvs,∀p,kv.2 = .ref p→H p=none
theorem qw.snoc {H:Hp} {kvs:List (Key×V)} (h:qw H kvs) {k:Key} {p:Addr} (hp:H p=none):qw H (kvs++[(k,.ref p)]):=by
  intro kv hkv q hq
  rcases List.mem_append.mp hkv with z | z
  ·exact h kv z q hq
  ·simp at z;subst z;cases hq;exact hp
def qb_ (S:List lC) (f:List Str):Prop:=∀s∈S,s.2.1∈f→s.2.2∈f
structure Rch (S:List lC) (x:Str) (f:List Str):Prop where
  st:x∈f
  nd:f.Nodup
  rt:∀y∈f,RT (jf S) x y
structure qjX (S T:List lC) (x:Str) (f0 f:List Str):Prop where
  r0:f0.Nodup
  r:Rch S x f
  sub:∀y∈f0,y∈f
  le:f0.length≤f.length
  md:∀s∈T,s.2.1∈f0→s.2.2∈f
  cl:qb_ S f0→f=f0
def cB (S:List lC) (xs ys:List Str):Option Str:=ys.find? fun x=>decide ((L2.Av S xs x).length<xs.length)
def restOf (S:List lC) (xs:List Str) (x:Str):List Str:=xs.filter fun y=>!decide (y∈L2.Av S xs x)
theorem Qk {S:List lC} {xs:List Str} {i:Nat} {x:Str} (h0:cB S xs (xs.take i)=none) (hx:xs[i]? = some x) (h:(L2.Av S xs x).length<xs.length):cB S xs xs=some x:=by
  have e:xs=xs.take i++x::xs.drop (i+1):=by
    have hi:=(List.getElem?_eq_some_iff.mp hx);obtain⟨h1,h2⟩:=hi;rw[← h2,List.getElem_cons_drop,List.take_append_drop]
  unfold cB at h0 ⊢;generalize hp:(fun x=>decide ((L2.Av S xs x).length<xs.length))=p at h0 ⊢;have hpx:p x=true:=by rw[← hp];exact decide_eq_true h
  conv=>lhs;arg 2;rw[e]
  rw[List.find?_append,h0];simp[List.find?_cons,hpx]
theorem Ql {S:List lC} {xs:List Str} {i:Nat} {x:Str} (h0:cB S xs (xs.take i)=none) (hx:xs[i]? = some x) (h:¬(L2.Av S xs x).length<xs.length):cB S xs (xs.take (i+1))=none:=by
  unfold cB at h0 ⊢;rw[List.take_add_one,hx,List.find?_append,h0];simp[List.find?_cons,h]
theorem Qm {S:List lC} {xs:List Str} (h:cB S xs xs=none):∀x∈xs,(L2.Av S xs x).length=xs.length:=by
  intro x hx;unfold cB at h;have:=List.find?_eq_none.mp h x hx;have h2:=U_ (S:=S) (xs:=xs) (x:=x);simp at this;omega
theorem qjY {m:Nat} (h:1≤m):(0:Int)<m:=by omega
theorem zlt {m b:Nat} {c:Int} (h:m≤b) (hb:(b:Int)<c):(m:Int)<c:=by omega
theorem zlo {f:Int} (h:0≤f) : -4611686018427387904≤f:=by omega
theorem qjZ {f:Nat} : -4611686018427387904≤(f:Int):=by omega
theorem ztn {d:Int} {m b:Nat} (h0:0≤d) (h:d<m) (hb:m≤b):d.toNat+1≤b:=by omega
theorem qj0 {d:Int} (h:0≤d) (c:Int):c+d=max d 0+c:=by omega
theorem zsz {a b:Nat} (h:a<b) (hb:b≤20):a<sizeLine:=Nat.lt_of_lt_of_le h (Nat.le_trans hb (of_eq_true Mr))
theorem z01 {d:Int} (h:0≤d) (h2:d<2):d=0∨d=1:=by omega
theorem z2 {n:Nat} (h:(1:Int)<n):2≤n:=by omega
theorem zk1 {k t:Nat} (h:t≤k):(0:Int)<k - t+1:=by omega
theorem zk2 {k t:Nat} {c:Int} (h:k≤20) (hc:21<c):(k:Int) - t+1<c:=by omega
theorem zk3 {f:Int} {k t p:Nat} (h0:0≤f) (h:f<k - t+1) (e:t=p):p+f.toNat≤k+0:=by omega
theorem zk4 {t p f k i:Nat} (e:t=p) (h:p+f≤k+i) (hi:i<f) (hk:k≤20):t<sizeLine:=by
  have:=of_eq_true Mr;omega
theorem zk5 {p f k i:Nat} (h:p+f≤k+i) (hi:i<f) (hk:k≤20):p≤19:=by omega
theorem zk6 {p f k i:Nat} (h:p+f≤k+i):p+1+f≤k+(i+1):=by omega
theorem zk7 {p f k:Nat} (h:p+f≤k+f):p≤k:=Nat.le_of_add_le_add_right h
theorem qj1 {lo i n:Nat} (h:i<n - lo):lo+i<n:=by omega
theorem zpa (c:Int):0≤if 1000000000000000000<c then c - 1000000000000000000 else 0:=by split <;> omega
theorem zpb (c:Int) (k:Nat):0≤c % 2147483629+977 * (k:Int)+1:=by omega
theorem zpc (c:Int) {k:Nat} (h:k<100):c % 2147483629+977 * (k:Int)+1<4294967296:=by omega
theorem zs1 {s i t p:Nat} (h:s≤2 * i+1) (hi:i<t) (e:t=p) (hp:p≤20):s<sizeLine:=by
  have:60<sizeLine:=by decide
  omega
theorem zs2 {s i:Nat} (h:s≤2 * i+1):s+1≤2 * (i+1):=by omega
theorem zs3 {s t p:Nat} (h:s≤2 * t) (e:t=p) (hp:p≤20):s≤40:=by omega
end L2
namespace L2
open PySem PySem.Spec PyProof.Rows
mutual
def jd (H:Hp):PyData→V→Prop
  | .none,v=>v = .non
  | .bool b,v=>v = .bl b
  | .int i,v=>v = .int i
  | .str x,v=>v = .str x
  | .list ds,v=>∃a xs,v = .ref a∧H a=some (.lst xs)∧bJ H ds xs
  | .tuple ds,v=>∃a xs,v = .ref a∧H a=some (.tup xs)∧bJ H ds xs
  | .dict kvs,v=>kvs=[]∧∃a,v = .ref a∧H a=some (.dK [])
def bJ (H:Hp):List PyData→List V→Prop
  | [],vs=>vs=[]
  | d::ds,vs=>∃v r,vs=v::r∧jd H d v∧bJ H ds r
end
mutual
theorem jd.same {H H':Hp} (s:Same H H'):∀(d:PyData) (v:V),jd H d v→jd H' d v
  | .none,v,h=>by simp only[jd] at h ⊢;exact h
  | .bool b,v,h=>by simp only[jd] at h ⊢;exact h
  | .int i,v,h=>by simp only[jd] at h ⊢;exact h
  | .str x,v,h=>by simp only[jd] at h ⊢;exact h
  | .list ds,v,h=>by
    simp only[jd] at h ⊢;obtain⟨a,xs,e,h1,h2⟩:=h;exact⟨a,xs,e,s _ _ h1,bJ.same s ds xs h2⟩
  | .tuple ds,v,h=>by
    simp only[jd] at h ⊢;obtain⟨a,xs,e,h1,h2⟩:=h;exact⟨a,xs,e,s _ _ h1,bJ.same s ds xs h2⟩
  | .dict kvs,v,h=>by
    simp only[jd] at h ⊢;obtain⟨e0,a,e,h1⟩:=h;exact⟨e0,a,e,s _ _ h1⟩
theorem bJ.same {H H':Hp} (s:Same H H'):∀(ds:List PyData) (vs:List V),bJ H ds vs→bJ H' ds vs
  | [],vs,h=>by simp only[bJ] at h ⊢;exact h
  | d::ds,vs,h=>by
    simp only[bJ] at h ⊢;obtain⟨v,r,e,h1,h2⟩:=h;exact⟨v,r,e,jd.same s d v h1,bJ.same s ds r h2⟩
end
theorem bJ.length {H:Hp}:∀{ds:List PyData} {xs:List V},bJ H ds xs→ds.length=xs.length
  | [],_,h=>by simp only[bJ] at h;subst h;rfl
  | d::ds,_,h=>by
    simp only[bJ] at h;obtain⟨v,r,rfl,h1,h2⟩:=h;simp[bJ.length h2]
def hid (p:Addr) (H:Hp):Hp:=fun b=>if b=p then none else H b
theorem yU {p:Addr} {H:Hp}:Same (hid p H) H:=fun b o e=>by
  unfold hid at e;split at e
  ·cases e
  ·exact e
theorem uI {p:Addr} {H H':Hp} (s:But p H H'):Same (hid p H) (hid p H'):=fun b o e=>by
  unfold hid at e ⊢;split at e
  ·cases e
  ·rename_i h;rw[if_neg h];exact s b o h e
theorem kj {p:Addr} {H H':Hp} (s:Same H H'):Same (hid p H) (hid p H'):=uI fun b o _ e=>s b o e
theorem iC {p b:Addr} {H:Hp} {o:HO} (h:b≠p) (e:H b=some o):hid p H b=some o:=by
  unfold hid;rw[if_neg h];exact e
section
variable {X:Cx} {p_:List (Addr×Obj)} {σ:St} {H:Hp} {s:Shared} {K:W.Frag}
theorem vY {P:Program} {w:World} {h:Heap} {a:Addr} (ok:pq P w H h) (e:H a=some (.dK [])):Reads h (.ref a) (.dict []) [a]∧(a == sysModules)=false:=by
  obtain⟨_,hd,vs,kv,o,es,ep,h1,h2,h3,_,h5,_⟩:=Gi ok e;refine⟨?_,hd⟩;have ev:vs=[]:=by cases kv;rfl
  subst ev;have el:es.toList=[]:=by
    generalize es.toList=l at h5;cases h5;rfl
  have:=Reads.dict (kvs:=[]) (as:=[]) (bs:=[]) h1 h2.1 h3 (by rw[el];exact .nil) (by rw[el];exact .nil);exact this
mutual
theorem jd.reads (I:Inv X p_ σ H s):∀(d:PyData) (v:V) (u:Value),jd H d v→RelV v u→∃as,Reads s.heap u d as
  | .none,v,u,h,r=>by
    simp only[jd] at h;subst h;cases r;exact⟨_,.none⟩
  | .bool b,v,u,h,r=>by
    simp only[jd] at h;subst h;cases r;exact⟨_,.bool b⟩
  | .int i,v,u,h,r=>by
    simp only[jd] at h;subst h;obtain⟨t,rfl⟩:=r;exact⟨_,.int i t⟩
  | .str x,v,u,h,r=>by
    simp only[jd] at h;subst h;obtain⟨t,rfl⟩:=r;exact⟨_,.str x t⟩
  | .list ds,v,u,h,r=>by
    simp only[jd] at h;obtain⟨a,xs,rfl,hq,hs⟩:=h;cases r;obtain⟨its,rv,pl,hz⟩:=I.list (bU.of hq);obtain⟨o,e,c,n,dt⟩:=pl.isList;obtain⟨as,ra⟩:=bJ.reads I ds xs its hs rv;exact⟨_,.list e c dt (by simpa using ra)⟩
  | .tuple ds,v,u,h,r=>by
    simp only[jd] at h;obtain⟨a,xs,rfl,hq,hs⟩:=h;cases r;obtain⟨its,rv,pl,hz⟩:=I.tuple (gY.of hq);obtain⟨o,e,c,n,dt⟩:=pl;obtain⟨as,ra⟩:=bJ.reads I ds xs its hs rv;exact⟨_,.tuple e c dt (by simpa using ra)⟩
  | .dict kvs,v,u,h,r=>by
    simp only[jd] at h;obtain⟨rfl,a,rfl,h1⟩:=h;cases r;exact⟨_,(vY I.hok h1).1⟩
theorem bJ.reads (I:Inv X p_ σ H s):∀(ds:List PyData) (vs:List V) (us:List Value),bJ H ds vs→Vals vs us→∃as,ReadsAll s.heap us ds as
  | [],vs,us,h,r=>by
    simp only[bJ] at h;subst h;cases r;exact⟨_,.nil⟩
  | d::ds,vs,us,h,r=>by
    simp only[bJ] at h;obtain⟨v,vr,rfl,h1,h2⟩:=h;cases r with
    | cons r1 r2=>
      obtain⟨as,ra⟩:=jd.reads I d v _ h1 r1;obtain⟨bs,rb⟩:=bJ.reads I ds vr _ h2 r2;exact⟨_,.cons ra rb⟩
end
def PyData.lone (d:PyData):Prop:=d.hasDict=false∨d = .dict []
def Flat (d:PyData):Prop:=PyData.lone d∨∃ds,d = .list ds∧∀c∈ds,PyData.lone c
theorem jd.Ve (I:Inv X p_ σ H s) {d:PyData} {v:V} {u:Value} (h:jd H d v) (r:RelV v u) (hl:PyData.lone d) (hs:d.showable=true) (hz:d.shown.length≤sizeLine) :
    ∃bs,ReadAtMost s.heap d.depth bs∧ReprK X.prog X.w bs s.heap d.depth u d.shown:=by
  rcases hl with hl | rfl
  ·obtain⟨as,ra⟩:=jd.reads I d v u h r;exact ReprK.of_reads ra hs (PyData.noDict_hsm hl) hz
  ·simp only[jd] at h;obtain⟨_,a,rfl,h1⟩:=h;cases r;obtain⟨ra,hd⟩:=vY I.hok h1;refine ReprK.of_reads ra hs (fun _ hm=>?_) hz;rw[List.mem_singleton] at hm;rw[← hm] at hd;simp at hd
theorem bJ.Ve (I:Inv X p_ σ H s):∀{ds:List PyData} {vs:List V} {us:List Value},bJ H ds vs→Vals vs us→(∀c∈ds,PyData.lone c)→PyData.showableAll ds=true→(∀t∈PyData.shownAll ds,t.length≤sizeLine)→
    ∃bs,ReadAtMost s.heap (PyData.depthAll ds) bs∧ReprAllK X.prog X.w bs s.heap (PyData.depthAll ds) us (PyData.shownAll ds)
  | [],vs,us,h,r,_,_,_=>by
    simp only[bJ] at h;subst h;cases r;exact⟨[],(fun _ h=>nomatch h),.nil⟩
  | d::ds,vs,us,h,r,hl,hs,hz=>by
    simp only[bJ] at h;obtain⟨v,vr,rfl,h1,h2⟩:=h;simp only[PyData.showableAll,Bool.and_eq_true] at hs;simp only[PyData.shownAll,List.mem_cons,forall_eq_or_imp] at hz;cases r with
    | cons r1 r2=>
      obtain⟨b1,m1,k1⟩:=jd.Ve I h1 r1 (hl d List.mem_cons_self) hs.1 hz.1;obtain⟨b2,m2,k2⟩:=bJ.Ve I h2 r2 (fun c hc=>hl c (List.mem_cons_of_mem _ hc)) hs.2 hz.2;refine⟨b1++b2,(m1.mono ?_).append (m2.mono ?_),?_⟩
      ·simp only[PyData.depthAll];exact Nat.le_max_left ..
      ·simp only[PyData.depthAll];exact Nat.le_max_right ..
      · simp only[PyData.shownAll];refine .cons ((k1.more fun b hb=>List.mem_append_left _ hb).level_le ?_) (k2.more_le (fun b hb=>List.mem_append_right _ hb) ?_)
        ·simp only[PyData.depthAll];exact Nat.le_max_left ..
        ·simp only[PyData.depthAll];exact Nat.le_max_right ..
def Gz:List V→Hp→VK→Prop:=fun xs H Q=>ar1 xs fun v=>∃d:PyData,jd H d v∧Flat d∧d.showable=true∧d.depth≤32∧d.shown.length≤sizeLine∧Q (.str d.shown) H
@[simp ↓] theorem qgM xs H Q:Gz xs H Q=(ar1 xs fun v=>∃d:PyData,jd H d v∧Flat d∧d.showable=true∧d.depth≤32∧d.shown.length≤sizeLine∧Q (.str d.shown) H):=rfl
theorem qaa {xs H Q} (h:Gz xs H Q):∃(v:V) (d:PyData),xs=[v]∧jd H d v∧Flat d∧d.showable=true∧d.depth≤32∧d.shown.length≤sizeLine∧Q (.str d.shown) H:=by
  unfold Gz ar1 at h;split at h
  ·obtain⟨d,q⟩:=h;exact⟨_,d,rfl,q⟩
  ·exact h.elim
theorem Qn (hg:X.A.guards=some []) (hu:X.A.units+64<cLine):cu X (.builtin "repr") Gz:=by
  intro p_ s σ H xs us Q I r h;obtain⟨v,d,rfl,hi,hf,hs,hd,hz,q⟩:=qaa h;obtain⟨u,rfl,ru⟩:=r.one;have Sv:PyData.lone d→∀a:Addr,u = .ref a→wpAny (model X.prog X.w) X.A (call (.builtin "repr") [u]) (EP X p_ σ Q) X.xe s:=by
    rintro hl a rfl;have done:∀as,Reads s.heap (.ref a) d as→(d.hasDict=true→sysModules∉as)→wpAny (model X.prog X.w) X.A (call (.builtin "repr") [.ref a]) (EP X p_ σ Q) X.xe s:=fun as rd hm=>
      repr_of_reads' (h₀:=s.heap) rd hs hm hg (by omega) (fun _ _ e=>e) (fun h' u tk hk=>⟨.str _,H,I.kept (t':=tk) hk,⟨u,rfl⟩,q⟩) hz
    rcases hl with hl | rfl
    ·obtain⟨as,rd⟩:=jd.reads I d v (.ref a) hi ru;exact done as rd (PyData.noDict_hsm hl)
    ·simp only[jd] at hi;obtain⟨_,b,rfl,h1⟩:=hi;cases ru;obtain⟨ra,hd⟩:=vY I.hok h1;refine done _ ra fun _ hm=>?_;rw[List.mem_singleton] at hm;rw[← hm] at hd;simp at hd
  rcases hf with hl | ⟨ds,rfl,hc⟩
  · cases d with
    | none=>
      simp only[jd] at hi;subst hi;cases ru;exact PySem.P.repr_of_none ⟨.str _,H,I.tok _,⟨_,rfl⟩,by simpa only[PyData.shown] using q⟩
    | bool b=>
      simp only[jd] at hi;subst hi;cases ru;exact PySem.P.repr_of_bool ⟨.str _,H,I.tok _,⟨_,rfl⟩,by simpa only[PyData.shown] using q⟩
    | int i=>
      simp only[jd] at hi;subst hi;obtain⟨t,rfl⟩:=ru;exact PySem.P.repr_of_int (by simpa [PyData.showable] using hs) ⟨.str _,H,I.tok _,⟨_,rfl⟩,by simpa only[PyData.shown] using q⟩
    | str x=>
      simp only[jd] at hi;subst hi;obtain⟨t,rfl⟩:=ru;exact PySem.P.repr_of_str ⟨.str _,H,I.tok _,⟨_,rfl⟩,by simpa only[PyData.shown] using q⟩ (by simpa only[PyData.shown] using hz)
    | list ds=>simp only[jd] at hi;obtain⟨a,_,rfl,_⟩:=id hi;exact Sv hl a (by cases ru;rfl)
    | tuple ds=>simp only[jd] at hi;obtain⟨a,_,rfl,_⟩:=id hi;exact Sv hl a (by cases ru;rfl)
    | dict kvs=>simp only[jd] at hi;obtain⟨_,a,rfl,_⟩:=id hi;exact Sv hl a (by cases ru;rfl)
  · have hi0:=hi;simp only[jd] at hi;obtain⟨a,xs,rfl,hq,hall⟩:=hi;cases ru;obtain⟨its,rv,pl,hzz⟩:=I.list (bU.of hq);obtain⟨o,e,c,n,dt⟩:=pl.isList;have hzL:(listText (PyData.shownAll ds)).length≤sizeLine:=by simpa only[PyData.shown] using hz
    obtain⟨as,ra⟩:=jd.reads I (.list ds) (.ref a) (.ref a) hi0 rfl;obtain⟨bs,mb,kb⟩:=bJ.Ve I hall rv hc (by simpa [PyData.showable] using hs) (fun t ht=>Nat.le_trans (listText_mem_le ht) hzL);have nab:a∉bs:=not_mem_of_deeper ra (by simp only[PyData.depth];exact Nat.lt_succ_self _) mb;simp only[PyData.depth] at hd;simp only[PyData.shown] at q;refine call_repr_slot (by omega) ⟨o,e,c⟩ F.slot_list_repr.toG ?_;cases its with
    | nil=>
      cases rv;have e2:ds=[]:=by
        cases ds with
        | nil=>rfl
        | cons d ds=>simp only[bJ] at hall;obtain⟨_,_,z,_⟩:=hall;cases z
      subst e2;simp only[PyData.shownAll,listText_nil] at q;exact call_list_repr_empty ⟨o,e,c⟩ e dt ⟨_,_,rfl,.str _,H,I.tok _,⟨_,rfl⟩,q⟩
    | cons x l=>
      refine call_list_reprK e c dt nab (by simpa using kb.length_eq) (fun i y z=>kb.item i y (by simpa using z)) hg (fun b _=>Clear.nil b) ?_ (fun _ _ z=>z) (fun h' u tk hk=>⟨_,_,rfl,.str _,H,I.kept (t':=tk) hk,⟨u,rfl⟩,q⟩) hzL;show X.A.units+1+_<_;omega
def tLR (ta:TA):TE:=fun σ H Q=>ta σ H fun vs H1=>ar1 vs fun v=>isInt v fun n=>0≤n∧n≤1000∧∀p,H1 p=none→Q (.ref p) (upd H1 p (.lst ((List.range n.toNat).map fun i=>V.int (i:Nat))))
@[simp ↓] theorem qkM ta σ H Q:tLR ta σ H Q=ta σ H fun vs H1=>ar1 vs fun v=>isInt v fun n=>0≤n∧n≤1000∧∀p,H1 p=none→Q (.ref p) (upd H1 p (.lst ((List.range n.toNat).map fun i=>V.int (i:Nat)))):=rfl
theorem GC:∀(n lo:Nat) (l:List Value),l.length=n→(∀(j:Nat) v,l[j]? = some v→∃t,v = .int (((lo+j:Nat):Int)) t)→Vals ((List.range' lo n).map fun i=>V.int (i:Nat)) l
  | 0,lo,l,h,_=>by
    cases l with
    | nil=>exact .nil
    | cons _ _=>cases h
  | n+1,lo,l,h,q=>by
    cases l with
    | nil=>cases h
    | cons x r=>
      rw[List.range'_succ,List.map_cons];refine .cons ?_ (GC n (lo+1) r (by simpa using h) fun j v e=>?_)
      ·obtain⟨t,rfl⟩:=q 0 x rfl;exact⟨t,rfl⟩
      ·obtain⟨t,rfl⟩:=q (j+1) v (by simpa using e);exact⟨t,by rw[show lo+(j+1)=lo+1+j by omega]⟩
theorem Nb (hc:X.calm=true) {a:Expr} {ta:TA} {p p2 pos pos2:Pos} (hg1:Gl X "list") (hm1:X.mg "list" = none) (hg2:Gl X "range") (hm2:X.mg "range" = none) (ha:PA X [a] ta)
    (hs:starEach [a] X.env=[(false,eval a X.env)]:=by rfl)
    (hs1:starEach [.Call (.Name "range" p2) [a] [] pos2] X.env=[(false,eval (.Call (.Name "range" p2) [a] [] pos2) X.env)]:=by rfl) :
    PE X (.Call (.Name "list" p) [.Call (.Name "range" p2) [a] [] pos2] [] pos) (tLR ta):=by
  intro p_ s σ H Q I h;refine wpAny_Call_Name_kw (qj I hg1 hm1 boot_list ?_ (by decide) (by decide));refine PyProof.Rows.callWith_type1 ?_ (by rw[hs1];rfl) (by rfl);rw[hs1];show wpAny _ _ (spliced ((false,eval (.Call (.Name "range" p2) [a] [] pos2) X.env)::[])) _ _ s;refine Calls.spliced_cons ?_;refine wpAny_Call_Name_kw (qj I hg2 hm2 boot_range ?_ (by decide) (by decide));refine PyProof.Rows.callWith_type1 (cR (ha pos2 p_ s σ H _ I h) fun us s1 z=>?_) (by rw[hs];rfl) (by rfl);obtain⟨vs,H1,I1,r1,q1⟩:=z;obtain⟨v,rfl,q2⟩:=ar1.out q1;obtain⟨n,rfl,h0,h1,q⟩:=isInt.out q2;obtain⟨u,rfl,r⟩:=vals1 r1;obtain⟨t,rfl⟩:=r;refine call_range_1 (Calls.spliced_nil ?_);have hsz:(1000:Nat)≤sizeLine:=by decide
  have en:Builtin.Range.rangeSize 0 n 1=(n.toNat:Int):=by
    rw[rangeSize_one];split <;> omega
  refine call_list_range (n:=n.toNat) (I1.ok.hd hc) (IsRange.new ..) (small_one (by decide) (by decide) (by omega) (by omega)) en (by omega) fun h' tk acc' c' hk hD hit=>?_;have hle:s1.heap.objs.size≤(s1.heap.push {cls:=.type "range",data:=.fields #[.int 0 s1.toks,.int n t,.int 1 (s1.toks+1)]}).objs.size:=by rw[Heap.size_push];exact Nat.le_succ _
  have hf:=I1.hok.fresh hle;refine⟨.ref _,_,I1.laid (t':=tk) (fun b o e=>hk b o (Heap.get?_push_of_some _ e)) hle ?_,rfl,q _ hf⟩;refine(show cj _ _ _ _ _ (.lst _) from⟨by simp;omega,acc'.toList,c',?_,by simpa using hD⟩);rw[List.range_eq_range'];refine GC _ 0 _ (by simpa using hit.1) fun j v e=>?_;obtain⟨t,rfl⟩:=hit.2 j v (by simpa using e);exact⟨t,by simp⟩
end
theorem GF {f:Array Value→Array Value} {o:Obj}:(Obj.mapFields f o).dict=o.dict:=by
  obtain⟨c,d,dat,sl⟩:=o;cases dat <;> rfl
def Trc (base h:Heap) (e:Addr) (cls:Value×Option Addr) (fl:Value) (T:Addr):Prop:=
  ∃oe vs oT ts,h.get? e=some oe∧(oe.cls,oe.dict)=cls∧oe.data = .fields vs∧vs[2]? = some .none∧vs[1]? = some (.ref T)∧base.get? T=none∧T≠e∧h.get? T=some oT∧oT.data = .fields ts∧ts[3]? = some fl
structure Stn (base:Heap) (l:List Env) (e:Addr) (cls:Value×Option Addr) (fl:Value) (h h':Heap):Prop where
  stays:base.StaysIn h'
  frames:h'.FunFrames base l
  trc:∃T,Trc base h' e cls fl T
  slots:h.UpToSlots h'
section
variable {M:Model} {A:Around} {E:Value→Shared→Prop} {s:Shared} {base:Heap} {env:Env} {outer l:List Env} {L e:Addr} {Q:Unit→Shared→Prop}
theorem Vf {oe:Obj} {vs:Array Value} {head:Value} {had:Bool} (fr:A.frames=some (env::outer)) (ff:s.heap.FunFrames base (env::outer)) (lf:env.frame=some L) (ee:s.heap.get? e=some oe)
    (st:base.StaysIn s.heap) (nb:base.get? e=none) (de:oe.data = .fields vs) (v2:vs[2]? = some .none) (hq:∀h',Stn base (env::outer) e (oe.cls,oe.dict) (rawInt L) s.heap h'→Q () {s with heap:=h'}) :
    wpAny M A (do let a ← frameOf env;let pl ← entryPlaceOf L had;let b ← EntryCells.newEntry head a .none (rawInt L) .none pl;setField (.ref e) 1 b) Q E s:=by
  have sz2:2<vs.size:=(Array.getElem?_eq_some_iff.mp v2).1;have ne:e∉frs (env::outer):=fun z=>by
    obtain⟨_,o,y,d⟩:=ff.mem z;rw[ee] at y;cases y;exact d vs de
  refine wpAny_bind (wpAny_frameOf_fun fr ff lf fun g1 x1=>?_);refine wpAny_bind (wpAny_entryPlaceOf fun pl okp=>?_);unfold EntryCells.newEntry newFields;refine wpAny_bind (wpAny_newObj_type ?_ (okp.sizeOk5 _ _ _ _ _));have e1:g1.get? e=some oe:=(x1.2.1 e ne).trans ee;have st1:base.StaysIn g1:=fun b o z=>(x1.2.1 b fun y=>by rw[(ff.mem y).1] at z;cases z).trans (st b o z);generalize hR:({cls:=.type "traceback",dict:=none,data:=.fields ([head,.ref L,.none,rawInt L,.none]++(if pl.isEmpty then List.replicate 6 Value.none else pl)).toArray}:Obj)=R
  have dR:∃ts,R.data = .fields ts∧ts[3]? = some (rawInt L)∧R.isFreed=false:=by
    subst hR;exact⟨_,rfl,by simp,rfl⟩
  obtain⟨ts,dR,tR,fR⟩:=dR;have e2:=Heap.get?_push_of_some (h:=g1) R e1;refine wpAny_setField e2 de (Nat.lt_of_succ_lt sz2) (hq _ ?_);have Te:g1.objs.size≠e:=Nat.ne_of_gt (Heap.lt_size e1);have keep:∀{b o},b≠e→g1.get? b=some o→((g1.push R).update e (Obj.mapFields (·.setIfInBounds 1 (Value.ref g1.objs.size)))).get? b=some o:=fun {b o} nb z=>by
    rw[Heap.get?_update_other _ _ (Ne.symm nb)];exact Heap.get?_push_of_some _ z
  have nr:∀{b o},s.heap.get? b=some o→(∀us,o.data≠.fields us)→b≠e:=fun {b o} z d y=>by
    rw[y,ee] at z;cases z;exact d vs de
  have d3:=Obj.data_mapFields de (·.setIfInBounds 1 (Value.ref g1.objs.size));refine⟨fun b o z=>keep (fun y=>by rw[y,nb] at z;cases z) (st1 b o z),ff.of_keeps fun b o z d=>?_,⟨g1.objs.size,?_⟩,fun b o z d=>?_⟩
  ·obtain⟨sl,y⟩:=x1.2.2 b o z;exact⟨_,keep (nr z d) y,rfl⟩
  · refine⟨_,_,R,ts,Heap.get?_update_self _ e2 (Obj.isFreed_of_fields d3),by rw[Obj.cls_mapFields,GF],d3,?_,?_,st1.fresh,Te,?_,dR,tR⟩
    ·rw[Array.getElem?_setIfInBounds_ne (by decide)];exact v2
    ·simp[Nat.lt_of_succ_lt sz2]
    ·rw[Heap.get?_update_other _ _ (Ne.symm Te)];exact Heap.get?_push_size g1 fR
  ·obtain⟨sl,y⟩:=x1.2.2 b o z;exact⟨sl,keep (nr z d) y⟩
theorem Sw {oe:Obj} {vs:Array Value} (fr:A.frames=some (env::outer)) (ff:s.heap.FunFrames base (env::outer)) (lf:env.frame=some L) (ee:s.heap.get? e=some oe)
    (st:base.StaysIn s.heap) (nb:base.get? e=none) (de:oe.data = .fields vs) (v1:vs[1]? = some .none) (v2:vs[2]? = some .none) (hq:∀h',Stn base (env::outer) e (oe.cls,oe.dict) (rawInt L) s.heap h'→Q () {s with heap:=h'}) :
    wpAny M A (noteFrame (.ref e) env) Q E s:=by
  unfold noteFrame;simp only[lf];refine wpAny_bind (wpAny_field ee de v1 ?_);rw[if_neg (by decide)];exact Vf fr ff lf ee st nb de v2 hq
theorem KD {cls:Value×Option Addr} {T:Addr} (fr:A.frames=some (env::outer)) (ff:s.heap.FunFrames base (env::outer)) (lf:env.frame=some L) (tr:Trc base s.heap e cls .none T)
    (st:base.StaysIn s.heap) (nb:base.get? e=none) (hq:∀h',Stn base (env::outer) e cls (rawInt L) s.heap h'→Q () {s with heap:=h'}) :
    wpAny M A (noteFrame (.ref e) env) Q E s:=by
  obtain⟨oe,vs,oT,ts,ee,rfl,de,v2,v1,nT,Te,eT,dT,t3⟩:=tr;unfold noteFrame;simp only[lf];refine wpAny_bind (wpAny_field ee de v1 ?_);rw[if_pos (by simp)];refine wpAny_bind (wpAny_field eT dT t3 ?_);rw[if_neg (by simp[rawInt])];refine wpAny_bind (wpAny_setField eT dT (Array.getElem?_eq_some_iff.mp t3).1 ?_);have oth:∀{b},b≠T→(s.heap.update T (Obj.mapFields (·.setIfInBounds 3 Value.none))).get? b=s.heap.get? b:=fun n=>Heap.get?_update_other _ _ (Ne.symm n);have nr:∀{b o},s.heap.get? b=some o→(∀us,o.data≠.fields us)→b≠T:=fun {b o} z d y=>by
    rw[y,eT] at z;cases z;exact d ts dT
  refine Vf (s:={s with heap:=s.heap.update T (Obj.mapFields (·.setIfInBounds 3 Value.none))}) fr (ff.of_keeps fun b o z d=>⟨o,(oth (nr z d)).trans z,rfl⟩) lf ((oth (Ne.symm Te)).trans ee) (fun b o z=>(oth fun y=>by rw[y,nT] at z;cases z).trans (st b o z)) nb de v2 fun h' x=>hq h' ⟨x.stays,x.frames,x.trc,fun b o z d=>x.slots b o ((oth (nr z d)).trans z) d⟩
theorem GJ {cls:Value×Option Addr} {fl:Value} {T:Addr} (ff:s.heap.FunFrames base l) (tr:Trc base s.heap e cls fl T) (st:base.StaysIn s.heap) (hq:∀h',Stn base l e cls .none s.heap h'→Q () {s with heap:=h'}) :
    wpAny M A (setFlight (.ref e) none) Q E s:=by
  obtain⟨oe,vs,oT,ts,ee,rfl,de,v2,v1,nT,Te,eT,dT,t3⟩:=tr;have z3:3<ts.size:=(Array.getElem?_eq_some_iff.mp t3).1;unfold setFlight;refine wpAny_bind (wpAny_field ee de v1 ?_);rw[if_pos (by simp)];refine wpAny_setField eT dT z3 (hq _ ?_);have oth:∀{b} (f:Obj→Obj),b≠T→(s.heap.update T f).get? b=s.heap.get? b:=fun f n=>Heap.get?_update_other _ _ (Ne.symm n);have nr:∀{b o},s.heap.get? b=some o→(∀us,o.data≠.fields us)→b≠T:=fun {b o} z d y=>by
    rw[y,eT] at z;cases z;exact d ts dT
  refine⟨fun b o z=>(oth _ fun y=>by rw[y,nT] at z;cases z).trans (st b o z),ff.of_keeps fun b o z d=>⟨o,(oth _ (nr z d)).trans z,rfl⟩,⟨T,oe,vs,_,_,(oth _ (Ne.symm Te)).trans ee,rfl,de,v2,v1,nT,Te,Heap.get?_update_self _ eT (Obj.isFreed_of_fields (Obj.data_mapFields dT _)),Obj.data_mapFields dT _,?_⟩,fun b o z d=>⟨o.slots,(oth _ (nr z d)).trans z⟩⟩;simp[z3]
theorem Vg {cls:Value×Option Addr} (note:∀Q':Unit→Shared→Prop,(∀h',Stn base (env::outer) e cls (rawInt L) s.heap h'→Q' () {s with heap:=h'})→wpAny M A (noteFrame (.ref e) env) Q' E s)
    (hq:∀h',Stn base (env::outer) e cls .none s.heap h'→Q () {s with heap:=h'}):wpAny M A (leaving env (.ref e)) Q E s:=by
  unfold leaving;refine wpAny_bind (note _ fun h1 x1=>?_);obtain⟨T,tr⟩:=x1.trc;exact GJ (s:={s with heap:=h1}) x1.frames tr x1.stays fun h2 x2=>hq h2 ⟨x2.stays,x2.frames,x2.trc,x1.slots.trans x2.slots⟩
end
structure KH (h0 h:Heap) (H:Hp) (a C:Addr) (od:Option Addr):Prop where
  new:h0.get? a=none
  un:H a=none
  ob:∃oe vs,h.get? a=some oe∧(oe.cls,oe.dict)=(Value.ref C,od)∧oe.data = .fields vs∧vs[2]? = some .none∧(vs[1]? = some .none∨
    ∃T oT ts,vs[1]? = some (.ref T)∧T≠a∧h0.get? T=none∧H T=none∧h.get? T=some oT∧oT.data = .fields ts∧ts[3]? = some .none)
structure qab (h0 h:Heap) (H:Hp) (a C:Addr) (od:Option Addr) (T:Addr):Prop where
  new:h0.get? a=none
  newT:h0.get? T=none
  un:H a=none
  unT:H T=none
  ob:∃oe vs oT ts,h.get? a=some oe∧(oe.cls,oe.dict)=(Value.ref C,od)∧oe.data = .fields vs∧vs[2]? = some .none∧vs[1]? = some (.ref T)∧T≠a∧h.get? T=some oT∧oT.data = .fields ts∧ts[3]? = some .none
theorem qab.in {h0 h:Heap} {H:Hp} {a C T:Addr} {od:Option Addr} (x:qab h0 h H a C od T):KH h0 h H a C od:=by
  obtain⟨h1,h2,h3,h4,oe,vs,oT,ts,t1,t2,t3,t4,t5,t6,t7⟩:=x;exact⟨h1,h3,oe,vs,t1,t2,t3,t4,.inr ⟨T,oT,ts,t5,t6,h2,h4,t7⟩⟩
def GK (P:Program) (w:World):Wf:=fun outer H s E e s'=>∃(a C:Addr) (od:Option Addr) (H':Hp),e = .ref a∧s'.os=s.os∧AllBare s'.gens∧Un (frs outer) [] H H' s.heap s'.heap∧pq P w H' s'.heap∧(∃T,qab s.heap s'.heap H' a C od T)∧E (.ref C) od H'
theorem Sx {P:Program} {w:World} {H:Hp} {h:Heap} (x:pq P w H h) {b:Addr} (e:h.get? b=none):H b=none:=by
  cases q:H b with
  | none=>rfl
  | some u=>
    obtain⟨o,eo⟩:∃o,h.get? b=some o:=by
      have:=x b u q;cases u with
      | lst xs=>obtain⟨_,_,_,_,e⟩:=this;exact⟨_,e⟩
      | tup xs=>obtain⟨_,_,_,o,e,_⟩:=this;exact⟨_,e⟩
      | dK kvs=>obtain⟨_,_,_,_,o,_,_,e,_⟩:=this;exact⟨_,e⟩
      | dT kvs=>obtain⟨_,_,_,_,o,_,_,e,_⟩:=this;exact⟨_,e⟩
      | set S n=>obtain⟨o,_,_,_,e,_⟩:=this;exact⟨_,e⟩
      | ins C dx fs=>obtain⟨_,_,_,e,_⟩:=this;exact⟨_,e⟩
      | own y=>obtain⟨_,e⟩:=this;exact⟨_,e⟩
      | xd fs=>obtain⟨_,⟨_,_,_,e,_⟩,_⟩:=this;exact⟨_,e⟩
      | rng lo hi=>obtain⟨_,_,_,e⟩:=this;exact⟨_,e⟩
      | iG ob u=>obtain⟨e,_⟩:=this;exact⟨_,e⟩
      | tbl ps=>exact⟨_,(show h.get? b=some _ from this)⟩
      | met f y=>exact⟨_,(show h.get? b=some _ from this)⟩
      | ext φ=>obtain⟨_,⟨o,e⟩,_⟩:=this;exact⟨_,e⟩
    rw[e] at eo;cases eo
section
variable {X:Cx} {p_:List (Addr×Obj)} {σ:St} {H:Hp} {s:Shared}
theorem Inv.old (I:Inv X p_ σ H s) (hex:X.ex=[]) {b:Addr} (e:s.heap.get? b=none):X.s₀.heap.get? b=none:=by
  cases q:X.s₀.heap.get? b with
  | none=>rfl
  | some o=>
    obtain⟨o',eo⟩:=I.base.there b o q (by rw[hex];simp);rw[e] at eo;cases eo
theorem Vh (I:Inv X p_ σ H s) (hex:X.ex=[]) {a C:Addr} {od:Option Addr} {l:List Addr} (hl:∀b∈l,b∈frs X.stack∨(X.s₀.heap.get? b=none∧H b=none)) (ha:X.s₀.heap.get? a=none) (hH:H a=none) (hs:∀b∈frs X.stack,b∈l)
    {E:XK} (hE:E (.ref C) od H) {h':Heap} (x:Stn (W.hideAll s.heap l) X.stack a (.ref C,od) .none s.heap h'):GK X.prog X.w X.outer X.H₀ X.s₀ E (.ref a) {s with heap:=h'}:=by
  obtain⟨k1,k2,⟨T,oe,vs,oT,ts,t1,t2,t3,t4,tt,t5,t6,t7,t8,t9⟩,k4⟩:=x;have nl:∀{b:Addr} {o:Obj},b∉l→s.heap.get? b=some o→h'.get? b=some o:=fun hb e=>k1 _ _ (W.hideAll_get _ e hb);have qgN:∀{b:Addr} {o:Obj},X.s₀.heap.get? b=some o→b∉X.fs→b∉l:=fun {b o} e hb hm=>by
    rcases hl b hm with z | ⟨z,_⟩
    · rcases List.mem_cons.mp (I.vP b z) with z | z
      ·rw[z] at e;exact absurd (Heap.lt_size e) (Nat.not_lt.mpr I.ok.above)
      ·exact hb z
    ·rw[z] at e;cases e
  have trL:∀{b:Addr} {u:HO},H b=some u→b∉l:=fun {b u} e hm=>by
    rcases hl b hm with z | ⟨_,z⟩
    ·rw[I.Ec b z] at e;cases e
    ·rw[z] at e;cases e
  have fsl:∀{b:Addr} {o:Obj},b∈X.fs→s.heap.get? b=some o→∃sl,h'.get? b=some {o with slots:=sl}:=fun {b o} hb e=>by
    obtain⟨_,o2,e2,hd⟩:=I.rT.mem hb;rw[e] at e2;cases e2;exact k4 b o e hd
  have Ym:∀b:Addr,b∉X.ex:=fun b=>by rw[hex];simp
  refine⟨a,C,od,H,rfl,I.os,I.bare,⟨fun b o e n hb _=>?_,fun b o e n hb _=>?_,fun b o e n _=>I.base.free b o e n (Ym b),fun b o e _=>?_,I.base.tups,I.base.qg,I.base.rM⟩,fun b u e=>?_,⟨T,ha,?_,hH,?_,oe,vs,oT,ts,t1,t2,t3,t4,tt,t6,t7,t8,t9⟩,hE⟩
  ·exact nl (qgN e hb) (I.base.keep b o e n hb (Ym b))
  ·obtain⟨sl,e2⟩:=I.base.slot b o e n hb (Ym b);obtain⟨sl',e3⟩:=fsl hb e2;exact⟨sl',e3⟩
  · obtain⟨o',e2⟩:=I.base.there b o e (Ym b)
    by_cases hb:b∈X.fs
    ·obtain⟨sl,e3⟩:=fsl hb e2;exact⟨_,e3⟩
    ·exact⟨o',nl (qgN e hb) e2⟩
  · refine(I.hok b u e).stay (fun c v hc q=>?_) (fun c q=>q) fun c xs q=>q
    rcases hc with rfl | hc
    ·exact nl (trL e) q
    ·exact nl (trL hc) q
  all_goals
    have hT:T∉frs X.stack:=fun hm=>by
      obtain⟨_,o2,e2,hd⟩:=k2.mem hm;rw[t7] at e2;cases e2;exact hd _ t8
    have cs:s.heap.get? T=none∨(X.s₀.heap.get? T=none∧H T=none):=by
      cases q:s.heap.get? T with
      | none=>exact .inl rfl
      | some o=>
        by_cases hm:T∈l
        ·exact .inr ((hl T hm).resolve_left hT)
        ·rw[W.hideAll_get _ q hm] at t5;cases t5
  ·exact cs.elim (fun z=>I.old hex z) fun z=>z.1
  ·exact cs.elim (fun z=>Sx I.hok z) fun z=>z.2
theorem qac (I:Inv X p_ σ H s) (hst:X.stack=X.env::X.outer) (hfr:X.env.frame=some X.env.locals) (hex:X.ex=[]) {a C:Addr} {od:Option Addr} (x:KH X.s₀.heap s.heap H a C od) {E:XK} (hE:E (.ref C) od H) {E':Value→Shared→Prop} :
    wpAny (model X.prog X.w) X.A (leaving X.env (.ref a)) (fun _ s''=>GK X.prog X.w X.outer X.H₀ X.s₀ E (.ref a) s'') E' s:=by
  obtain⟨new,un,oe,vs,he,hc,hd,h0,hT⟩:=x;have fr:=I.ok.frames;rw[hst] at fr;have qdv:∀l:List Addr,s.heap.FunFrames (W.hideAll s.heap (frs X.stack++l)) (X.env::X.outer):=fun l=>by
    rw[← hst];exact W.funFrames_hide I.stack fun env he b hb=>List.mem_append_left _ (List.mem_filterMap.mpr ⟨env,he,hb⟩)
  rcases hT with h1 | ⟨T,oT,ts,h1,h2,h3,h4,h5,h6,h7⟩
  · refine Vg (base:=W.hideAll s.heap (frs X.stack++[a])) (fun Q' q=>Sw fr (qdv _) hfr he (fun b o e=>W.of_hideAll _ e) (W.hideAll_none _ (by simp)) hd h1 h0 q) fun h' hL=>?_;rw[hc,← hst] at hL;refine Vh I hex (fun b hb=>?_) new un (fun b hb=>List.mem_append_left _ hb) hE hL
    rcases List.mem_append.mp hb with z | z
    ·exact .inl z
    ·rw[List.mem_singleton.mp z];exact .inr ⟨new,un⟩
  · refine Vg (base:=W.hideAll s.heap (frs X.stack++[a,T])) (cls:=(.ref C,od)) (fun Q' q=>KD fr (qdv _) hfr (T:=T) ⟨oe,vs,oT,ts,he,hc,hd,h0,h1,W.hideAll_none _ (by simp),h2,h5,h6,h7⟩ (fun b o e=>W.of_hideAll _ e) (W.hideAll_none _ (by simp)) q) fun h' hL=>?_;rw[← hst] at hL;refine Vh I hex (fun b hb=>?_) new un (fun b hb=>List.mem_append_left _ hb) hE hL
    rcases List.mem_append.mp hb with z | z
    ·exact .inl z
    · simp only[List.mem_cons,List.not_mem_nil,or_false] at z
      rcases z with rfl | rfl
      ·exact .inr ⟨new,un⟩
      ·exact .inr ⟨h3,h4⟩
theorem KH.back {h0 h1 h:Heap} {H:Hp} {a C:Addr} {od:Option Addr} (x:KH h1 h H a C od) (k:∀b,h1.get? b=none→h0.get? b=none):KH h0 h H a C od:=by
  obtain⟨new,un,oe,vs,he,hc,hd,h2,hT⟩:=x;refine⟨k _ new,un,oe,vs,he,hc,hd,h2,?_⟩
  rcases hT with h1 | ⟨T,oT,ts,h1,h2,h3,h4,h5⟩
  ·exact .inl h1
  ·exact .inr ⟨T,oT,ts,h1,h2,k _ h3,h4,h5⟩
def Lets (X:Cx) (E:XK):Prop:=∀(p_:List (Addr×Obj)) (σ:St) (H:Hp) (s:Shared) (a C:Addr) (od:Option Addr),Inv X p_ σ H s→KH X.s₀.heap s.heap H a C od→E (.ref C) od H→X.xe (.ref a) s
theorem iW {P:Program} {w:World} {K:W.Frag} {mg:Str→Option Value} {base:Heap} {N:List Str} {qual:Str} {scope:Scope} {f:Addr} {cd:Value} {A:Around} {outer:List Env} {s:Shared} {H:Hp} {E:XK} :
    Lets (au (GK P w) P w K mg base N qual scope f cd A outer s H E) E:=fun p_ σ H1 s1 a C od I x hE=>qac I rfl rfl rfl x hE
theorem Lets.passes {X:Cx} {E:XK} (h:Lets X E) (hex:X.ex=[]):Passes (GK X.prog X.w) X E:=fun p_ σ H s e s' I hx=>by
  obtain⟨a,C,od,H',rfl,ho,hg,un,hok,⟨T,ex⟩,hE⟩:=hx;have I':Inv X p_ σ H' s':=I.call' (ch:=[]) ho un hok hg fun b z=>(nomatch z);exact h p_ σ H' s' a C od I' (ex.in.back fun b e=>I.old hex e) hE
theorem El {K:W.Frag} {h:Heap} {C:Addr} {bmB:List Value} {newId:String} (X:K.In h) (q:W.excIn K C bmB newId=true) :
    ∃bm N nm q bs hdct sn sub ab col dd k0 k1 k2 k3 k5 mN,h.get? C=some (excClassObj nm q C N bs bm hdct sn sub ab col dd k0 k1 k2 k3 k5 newId)∧h.Ns N mN∧mN "__init__" = none∧OwnTail h bmB bm∧∀v b,W.mroIn K C v=some b→(Value.ref C::bm).contains v=b:=by
  unfold W.excIn at q;split at q
  · rename_i dd cd sl ho;split at q
    · rename_i C' bm k0 k1 k2 k3 n k5 hm hs;simp only[Bool.and_eq_true,beq_iff_eq,Bool.not_eq_true'] at q;obtain⟨⟨⟨⟨⟨rfl,rfl⟩,hdel⟩,ht⟩,hok⟩,hni⟩:=q;obtain⟨nm,bs,mro,ns,qn,hd,sn,sub,ab,col,del⟩:=cd;dsimp only at hm hdel hok hni;subst hm hdel;obtain rfl:sl = #[k0,k1,k2,k3,some (.builtin n),k5]:=by
        obtain⟨l⟩:=sl;simp only at hs;rw[hs]
      exact⟨bm,ns,nm,qn,bs,hd,sn,sub,ab,col,dd,k0,k1,k2,k3,k5,_,X _ _ ho,.of_isNs (W.isNs_of_in X hok),W.nsMap_none_of_in X hok hni,W.tail_of_in X ht,fun v b e=>by
        unfold W.mroIn W.clsIn at e;rw[ho] at e;simpa using e⟩
    ·cases q
  ·cases q
abbrev fO:List Value:=[.type "ValueError",.type "Exception",.type "BaseException",.type "object"]
def gJ (K:W.Frag) (C:Addr):Prop:=W.excIn K C fO "ValueError.__new__" = true
def qad (C:Addr) (E:XK) (ta:TA):TS:=fun _ σ H=>ta σ H fun vs H1=>vs.length≤sizeLine∧E (.ref C) none H1
@[simp ↓] theorem qgO C E ta D σ H:qad C E ta D σ H=ta σ H fun vs H1=>vs.length≤sizeLine∧E (.ref C) none H1:=rfl
theorem pH {X:Cx} {E:XK} {C:Addr} {x:Str} {np cpos pos:Pos} {e:Expr} {es:List Expr} {ta:TA} (hL:Lets X E) (hex:X.ex=[]) (hc:X.calm=true) (cl:gJ X.K C) (hg:Gl X x) (hm:X.mg x=some (.ref C)) (ha:PA X (e::es) ta)
    (hdb:(x == ("__debug__" : Str))=false:=by decide) (hs:starEach (e::es) X.env=(false,eval e X.env)::starEach es X.env:=by rfl) (hpl:(backTo cpos (starEach (e::es) X.env)).any (·.1)=false:=by rfl) :
    PS X (.Raise (some (.Call (.Name x np) (e::es) [] cpos)) none pos) (qad C E ta):=by
  intro p_ s σ H D I h;obtain⟨bm,N,nm,q,bs,hdct,sn,sub,ab,col,dd,k0,k1,k2,k3,k5,mN,hC0,hN0,hni,T0,_⟩:=El I.ok.mod.O7 cl;refine wpAny_Raise_call_subT (bm:=bm) (N:=N) (nm:=nm) (q:=q) (bs:=bs) (hdct:=hdct) (sn:=sn) (sub:=sub) (ab:=ab) (col:=col) (dd:=dd) (k0:=k0) (k1:=k1) (k2:=k2) (k3:=k3) (k5:=k5) (mN:=mN) (C:=C) PySem.F.excBase_ValueError (T0.hasType (by decide)) (I.ok.hd hc) hpl hni ?_;refine lV I hg hm ⟨rfl,?_⟩ hdb;have hp:=fun Q q=>ha cpos p_ s σ H Q I q;rw[hs] at hp ⊢;show wpAny _ _ (evalArgs (.ref C) true ((false,eval e X.env)::backTo cpos (starEach es X.env)) []) _ _ s;refine Calls.evalArgs_plain (cR (hp _ h) fun us s1 zz=>?_);obtain⟨vs,H1,I1,r1,hz,hE⟩:=zz;refine⟨rfl,by rw[← r1.length];exact hz,I1.bk _ _ hC0,hN0.keeps I1.bk,T0.keeps I1.bk,fun h' a mk=>?_⟩;obtain⟨t,ht,htn,htt⟩:=mk.there;have I2:Inv X p_ σ H1 {s1 with heap:=h',toks:=s1.toks}:=I1.kept mk.keeps;exact hL p_ σ H1 _ a C none I2 ⟨I1.old hex mk.new,Sx I1.hok mk.new,_,_,ht,rfl,rfl,rfl,.inl rfl⟩ hE
theorem dZ.Qo {P:Program} {w:World} {K:W.Frag} {mg:Str→Option Value} {base:Heap} {x qual:Str} {st:Stmt} {f:Addr} {fd:FuncData} {N ps:List Str} {k:Nat} {sp:Sp} (F:dZ K x qual st f fd) (S:aX N ps (aD st)) (len:∀vs H Q E,sp vs H Q E→vs.length=ps.length)
    (hbody:∀(cdv:Value) (A:Around) (outer:List Env) (s:Shared) (H:Hp) (vs:List V) (Q:VK) (E:XK),iz k (A.deeper (envOfC qual (aD st) s.heap.objs.size f cdv))→sp vs H Q E→
      ∃t,Jm (au (GK P w) P w K mg base N qual (aD st) f cdv A outer s H E) (iV st) t∧t {nx:=fun _ H'=>Q .non H',rt:=Q} (start N vs) H):bZ P w K mg base (GK P w) (k+1) f fd ps sp:=by
  obtain⟨oc,od,kV,doc,pm,an,cdv,ct,osl,rfl,lk,hcd⟩:=F.ex;exact qdc lk hcd S len fun A outer s H vs Q E hr hsp=>hbody cdv A outer s H vs Q E hr hsp
theorem Inv.gone {X:Cx} {p_:List (Addr×Obj)} {σ:St} {H:Hp} {s:Shared} {h':Heap} {t':Nat} {ch:List Addr} (I:Inv X p_ σ H s) (hex:X.ex=[])
    (hch:∀b∈ch,X.s₀.heap.get? b=none∧H b=none∧(∀vs o,s.heap.get? b=some o→o.data = .fields vs→True)∧(∃o vs,s.heap.get? b=some o∧o.data = .fields vs)∧∀p∈X.pn++p_,p.1≠b)
    (k1:∀b o,b∉frs X.stack→b∉ch→s.heap.get? b=some o→h'.get? b=some o) (k2:∀b o,s.heap.get? b=some o→(∀vs,o.data≠.fields vs)→∃sl,h'.get? b=some {o with slots:=sl}) :
    Inv X p_ σ H {s with heap:=h',toks:=t'}:=by
  have nf:∀{b o},s.heap.get? b=some o→(∀vs,o.data≠.fields vs)→b∉ch:=fun {b o} e hd hb=>by
    obtain⟨_,_,_,⟨o2,vs,e2,d2⟩,_⟩:=hch b hb;rw[e] at e2;cases e2;exact hd vs d2
  have fsl:∀{b:Addr} {o:Obj},b∈frs X.stack→s.heap.get? b=some o→∃sl,h'.get? b=some {o with slots:=sl}:=fun {b o} hb e=>by
    obtain⟨_,o2,e2,hd⟩:=I.stack.mem hb;rw[e] at e2;cases e2;exact k2 b o e hd
  have ex1:∀{b:Addr} {o:Obj},b∉ch→s.heap.get? b=some o→∃o',h'.get? b=some o':=fun {b o} hb e=>by
    by_cases hf:b∈frs X.stack
    ·obtain⟨sl,z⟩:=fsl hf e;exact⟨_,z⟩
    ·exact⟨o,k1 b o hf hb e⟩
  have old:∀{b:Addr} {o:Obj},X.s₀.heap.get? b=some o→b∉ch:=fun e hb=>by
    rw[(hch _ hb).1] at e;cases e
  have qj2:∀{b:Addr} {o:Obj},X.s₀.heap.get? b=some o→b∉X.fs→b∉frs X.stack:=fun {b o} e hb hm=>by
    rcases List.mem_cons.mp (I.vP b hm) with z | z
    ·rw[z] at e;exact absurd (Heap.lt_size e) (Nat.not_lt.mpr I.ok.above)
    ·exact hb z
  have Ym:∀b:Addr,b∉X.ex:=fun b=>by rw[hex];simp
  have cells:∀{c:Addr} {v:Option Value},s.heap.IsCell c v→h'.IsCell c v:=fun {c v} ⟨o,e,d⟩=>by
    obtain⟨sl,z⟩:=k2 c o e (fun vs q=>by rw[d] at q;cases q);exact⟨_,z,d⟩
  have subs:∀{b:Addr},b∈X.fs→b∈frs X.stack:=fun {b} hb=>by
    rcases I.ok.stk with e | ⟨e,hf⟩
    ·rw[e];exact hb
    ·rw[e];show b∈List.filterMap _ (X.env::X.outer);rw[List.filterMap_cons,hf];exact List.mem_cons_of_mem _ hb
  refine⟨I.ok,I.os,I.bare,⟨fun b o e n hb hx=>?_,fun b o e n hb hx=>?_,I.base.free,fun b o e hx=>?_,I.base.tups,I.base.qg,I.base.rM⟩,?_,fun x c e=>?_,I.free,I.iw,fun p hp=>?_,fun b u e=>?_,I.len⟩
  ·exact k1 b o (qj2 e hb) (old e) (I.base.keep b o e n hb hx)
  ·obtain⟨sl,z⟩:=I.base.slot b o e n hb hx;obtain⟨sl',z'⟩:=fsl (subs hb) z;exact⟨sl',z'⟩
  ·obtain⟨o',z⟩:=I.base.there b o e hx;exact ex1 (old e) z
  · obtain⟨m,⟨o,es,ep,e,d,r⟩,q⟩:=I.loc;obtain⟨sl,z⟩:=k2 _ o e (fun vs y=>by rw[d] at y;cases y);refine⟨m,⟨_,es,ep,z,d,r⟩,fun i x v e1 e2 e3=>?_⟩;obtain⟨u,rv,l⟩:=q i x v e1 e2 e3;refine⟨u,rv,?_⟩
    rcases l with l | ⟨kd,c,ec,y⟩
    ·exact .inl l
    ·exact .inr ⟨kd,c,ec,cells y⟩
  ·obtain⟨v,z⟩:=I.cell x c e;exact⟨v,cells z⟩
  · obtain⟨e,n,ne,nfs,d⟩:=I.pin p hp;refine⟨k1 _ _ (fun hm=>?_) (fun hm=>(hch _ hm).2.2.2.2 p hp rfl) e,n,ne,nfs,d⟩
    rcases List.mem_cons.mp (I.vP _ hm) with z | z
    ·exact ne z
    ·exact nfs z
  · have no:∀{c:Addr} {u:HO},H c=some u→c∉frs X.stack∧c∉ch:=fun {c u} q=>⟨fun hm=>(by rw[I.Ec _ hm] at q;cases q),fun hm=>(by rw[(hch _ hm).2.1] at q;cases q)⟩;refine(I.hok b u e).stay (fun c v hc q=>?_) (fun c q=>q) fun c xs q=>q
    rcases hc with rfl | hc
    ·exact k1 _ _ (no e).1 (no e).2 q
    ·exact k1 _ _ (no hc).1 (no hc).2 q
end
end L2
namespace L2
open PySem PySem.Spec PySem.W PyProof.Rows
section
variable {prog:Program} {w:World} {A:Around} {E:Value→Shared→Prop} {K:W.Frag} {h:Heap} {g:Array GenState} {d:Drawn} {t:Nat} {os:OsState} {x C:Addr}
structure qx (K:W.Frag) (C:Addr):Prop where
  ga:findIn K (.ref C) "__getattribute__" = some (some (.builtin "BaseException.__getattribute__"))
  gn:findIn K (.ref C) "__getattr__" = some none
  cl:findIn K (.ref C) "__class__" = some (some (.builtin "object.__class__"))
  sp:specialIn K (.builtin "object.__class__") "__get__" = some (some (.builtin "getset_descriptor.__get__"))
  tk:takesIn K (.builtin "object.__class__")=some true
  mo:mroIn K C (.type "object")=some true
  mb:mroIn K C (.type "BaseException")=some true
def lK (x C:Addr) (h:Heap):Prop:=∃ox vs,h.get? x=some ox∧ox.cls = .ref C∧ox.data = .fields vs∧vs[2]? = some .none
theorem lK.type {M:Model} (e:lK x C h):Looks M h (typeOf (.ref x)) (.ref C):=by
  obtain⟨ox,vs,h1,h2,_⟩:=e;exact h2▸(Looks.ld h1).andThen .now
theorem qca {R:Result→Shared→Prop} {tp:Value} (X:K.In h) (I:lK x C h) (L:qx K C) (hq:R (.ok (.ret (.ref C))) ⟨h,g,d,t,os⟩) :
    codeAny (model prog w) A (.call (.builtin "getset_descriptor.__get__") ⟨[.builtin "object.__class__",.ref x,tp],[]⟩) R ⟨h,g,d,t,os⟩:=by
  have L0:=I.type (M:=model prog w);have L1:=looks_mroIn (M:=model prog w) X L.mo;have hT5:(⟨h,g,d,t,os⟩:Shared).TypeIs (.builtin "object.__class__") "getset_descriptor" :=F.typeOf_object_class;refine codeAny_call_builtin F.slot_gs_get.plain F.entry_gs_get (F.slot_gs_get.check _ _ _ _ _ _ _ _ hT5 (F.args_gs_get _ _ _) ?_)
  repeat (any_goals (first | assumption | with_reducible refine L0.at ?_ | with_reducible refine L1.at ?_ | wp_step))
  rw[show(".".intercalate ("object.__class__".cutAt '.').dropLast) = "object" by decide+kernel];refine L1.at ?_
  repeat (any_goals (first | assumption | with_reducible refine L0.at ?_ | wp_step))
  refine⟨Code.quiet_builtin _ (by decide+kernel),codeAny_builtin KF.entry_class ?_⟩;unfold Builtin.«object.__class__»
  repeat (any_goals (first | assumption | with_reducible refine L0.at ?_ | wp_step))
theorem W0 {tk:Tok} {Q:PySem.Fin→Shared→Prop} (X:K.In h) (I:lK x C h) (L:qx K C) (hq:Q (.done (.ret (.ref C))) ⟨h,g,d,t,os⟩) :
    wpAny (model prog w) A (Builtin.«object.__getattribute__» ⟨[.ref x,.str "__class__" tk],[]⟩) Q E ⟨h,g,d,t,os⟩:=by
  have L0:=I.type (M:=model prog w);have L1:=looks_findIn (M:=model prog w) X L.cl;have hT5:(⟨h,g,d,t,os⟩:Shared).TypeIs (.builtin "object.__class__") "getset_descriptor" :=F.typeOf_object_class;have f5:=F.typeOf_object_class;have f6:=F.slot_gs_get.lookup;have f7:=F.slot_gs_set.lookup
  repeat (any_goals (first | assumption | with_reducible refine L0.at ?_ | with_reducible refine L1.at ?_ | wp_step))
  refine qca X I L ?_
  repeat (any_goals (first | assumption | wp_step))
theorem W2 {M:Model} {nameV:Value} {Q:Unit→Shared→Prop} (X:K.In h) (I:lK x C h) (L:qx K C) (hq:Q () ⟨h,g,d,t,os⟩) :
    wpAny M A (checkBuiltinCall "BaseException.__getattribute__" ⟨[.ref x,nameV],[]⟩) Q E ⟨h,g,d,t,os⟩:=by
  have hk:builtinKind "BaseException.__getattribute__" = some .slot:=by decide+kernel
  have hs:splitId "BaseException.__getattribute__" = some ("BaseException", "__getattribute__"):=by decide+kernel
  have L0:=I.type (M:=M);have L1:=looks_mroIn (M:=M) X L.mb;have ha:=F.args_bexc_ga (.ref x) nameV;simp only[checkBuiltinCall,hk,hs];refine wpAny_bind ?_;unfold isInstance
  repeat (first | with_reducible refine L0.at ?_ | with_reducible refine L1.at ?_ | wp_step)
  exact hq
theorem qe2 {tk:Tok} {fill:Bool} {Q:Value→Shared→Prop} (X:K.In h) (I:lK x C h) (L:qx K C) (hq:Q (.ref C) ⟨h,g,d,t,os⟩) :
    wpAny (model prog w) A (getAttrBy (.ref x) (.str "__class__" tk) fill) Q E ⟨h,g,d,t,os⟩:=by
  have L0:=I.type (M:=model prog w);have L1:=looks_findIn (M:=model prog w) X L.ga;have L2:=looks_findIn (M:=model prog w) X L.gn;have f3:=(F.attrBase_ValueError.ga).bind (.ref x);have hx2:(Value.builtin "BaseException.__getattribute__" == Value.builtin "object.__getattribute__")=false:=by decide+kernel
  have hx1:(onTheHeap (Value.ref C) && Value.builtin "BaseException.__getattribute__" == Value.builtin "object.__getattribute__")=false:=by rw[hx2];rfl
  repeat (any_goals (first | assumption | with_reducible refine L0.at ?_ | with_reducible refine L1.at ?_ | with_reducible refine L2.at ?_ | wp_step))
  refine codeAny_call_builtin F.attrBase_ValueError.ga.plain F.entry_bexc_ga (W2 X I L (W0 X I L ?_))
  repeat (any_goals (first | assumption | wp_step))
theorem W3 {s:Shared} {Q:Option Value→Shared→Prop} (X:K.In s.heap) (I:lK x C s.heap) (L:qx K C) (hq:Q (some (.ref C)) {s with toks:=s.toks+1}) :
    wpAny (model prog w) A (getAttr? (.ref x) "__class__") Q E s:=by
  obtain⟨h,g,d,t,os⟩:=s;unfold getAttr? getAttrBy?
  repeat (any_goals (first | assumption | with_reducible apply qe2 X I L | wp_step))
end
theorem Qp {K:W.Frag} {x C:Addr} {cd:ClassData} (hcd:clsIn K C=some cd) (L:qx K C):KitX K (.ref x) (.ref C) (lK x C) where
  ty:=fun M h _ e=>e.type
  it:=fun _ _ X _=>by
    unfold clsIn at hcd;split at hcd
    ·rename_i c' d' cd' sl' ho;intro A' Q' E' s' k q;unfold isType loadHead;exact wpAny_bind (wpAny_loadPart (k _ _ (X _ _ ho)) (wpAny_pure q))
    ·cases hcd
  ne:=fun h tp dd its n sl X htp=>by
    refine Bool.eq_false_iff.mpr fun q=>?_;have e:C=tp:=Value.ref.inj (beq_iff_eq.mp q);subst e;unfold clsIn at hcd;split at hcd
    ·rename_i c' d' cd' sl' ho;have z:=(X _ _ ho).symm.trans htp;cases z
    ·cases hcd
  ca:=fun X e k=>W3 X e L k
end L2
namespace L2
open PySem PySem.Spec PyProof.Rows
def Cx.caught (X:Cx) (a:Addr):Cx:={X with A:=X.A.mark (some (.ref a)),calm:=false,xe:=fun _ _=>False}
def Cx.tried (X:Cx) (pn:List (Addr×Obj)) (xe:Value→Shared→Prop):Cx:={X with pn:=pn,xe:=xe}
section
variable {X:Cx} {p_:List (Addr×Obj)} {σ:St} {H:Hp} {s:Shared}
theorem Inv.caught (I:Inv X p_ σ H s) (a:Addr):Inv (X.caught a) p_ σ H s:=
  ⟨⟨I.ok.mod,I.ok.kind,I.ok.glob,I.ok.blt,I.ok.above,I.ok.inj,I.ok.has,I.ok.cab,fun z=>(nomatch z),I.ok.frames,I.ok.stk,I.ok.exf,I.ok.bs,I.ok.VR,I.ok.O8,I.ok.O9,I.ok.rT,I.ok.Yw⟩,I.os,I.bare,I.base,I.loc,I.cell,I.free,I.iw,I.pin,I.hok,I.len⟩
theorem Inv.uncaught {a:Addr} {s':Shared} (I:Inv X p_ σ H s) {σ':St} {H':Hp} (J:Inv (X.caught a) p_ σ' H' s'):Inv X p_ σ' H' s':=
  ⟨I.ok,J.os,J.bare,J.base,J.loc,J.cell,J.free,J.iw,J.pin,J.hok,J.len⟩
theorem Inv.tried (I:Inv X p_ σ H s) (xe:Value→Shared→Prop):Inv (X.tried (X.pn++p_) xe) [] σ H s:=
  ⟨⟨I.ok.mod,I.ok.kind,I.ok.glob,I.ok.blt,I.ok.above,I.ok.inj,I.ok.has,I.ok.cab,I.ok.hd,I.ok.frames,I.ok.stk,I.ok.exf,I.ok.bs,I.ok.VR,I.ok.O8,I.ok.O9,I.ok.rT,I.ok.Yw⟩,I.os,I.bare,I.base,I.loc,I.cell,I.free,I.iw,fun p hp=>I.pin p (by rw[List.append_nil] at hp;exact hp),I.hok,I.len⟩
theorem Inv.yV {xe:Value→Shared→Prop} {CW:List (Addr×Obj)} {s':Shared} (I:Inv X p_ σ H s) {σ':St} {H':Hp} (J:Inv (X.tried (X.pn++p_) xe) CW σ' H' s'):Inv X p_ σ' H' s':=
  ⟨I.ok,J.os,J.bare,J.base,J.loc,J.cell,J.free,J.iw,fun p hp=>J.pin p (List.mem_append_left _ hp),J.hok,J.len⟩
def Takes (X:Cx) (pn:List (Addr×Obj)) (xe:Value→Shared→Prop) (R:St→Addr→Option Addr→Hp→Prop):Prop:=
  ∀(p_:List (Addr×Obj)) (σ:St) (H:Hp) (s:Shared) (a C:Addr) (od:Option Addr) (T:Addr),Inv (X.tried pn xe) p_ σ H s→qab X.s₀.heap s.heap H a C od T→(∀p∈pn,p.1≠a∧p.1≠T)→R σ C od H→xe (.ref a) s
def qae (sp:Sp) (R:St→Addr→Option Addr→Hp→Prop) (t:TA):TE:=fun σ H Q=>t σ H fun vs H1=>R7 sp vs H1 Q ⟨0⟩ (fun v od H'=>∃C,v = .ref C∧R σ C od H')
@[simp ↓] theorem qgP sp R t σ H Q:qae sp R t σ H Q=t σ H fun vs H1=>R7 sp vs H1 Q ⟨0⟩ (fun v od H'=>∃C,v = .ref C∧R σ C od H'):=rfl
theorem Qq {k:Nat} {f:Addr} {fd:FuncData} {ps:List Str} {sp:Sp} {x:Str} {p pos:Pos} {e:Expr} {es:List Expr} {t:TA} {pn:List (Addr×Obj)} {xe:Value→Shared→Prop} {R:St→Addr→Option Addr→Hp→Prop}
    (hx:Takes X pn xe R) (hex:X.ex=[]) (F:bZ X.prog X.w X.K X.mg X.base (GK X.prog X.w) k f fd ps sp) (hr:iz k X.A) (hg:Gl X x) (hm:X.mg x=some (.ref f)) (hk:W.keepIn X.K (.ref f)=true) (hb:Binds X.K fd ps [])
    (ha:PA (X.tried pn xe) (e::es) t) (hdb:(x == ("__debug__" : Str))=false:=by decide) (he:starEach (e::es) X.env=(false,eval e X.env)::starEach es X.env:=by rfl) (hpl:(backTo pos (starEach es X.env)).any (·.1)=false:=by rfl) :
    PE (X.tried pn xe) (.Call (.Name x p) (e::es) [] pos) (qae sp R t):=by
  intro p_ s σ H Q I h;refine wpAny_Call_Name_kw (lV I hg hm ?_ hdb);refine W.callWith_K (h₀:=X.base) I.ok.mod.O7 hk (cR (ha pos p_ s σ H _ I h) fun us s1 zz=>?_) he hpl;obtain⟨vs,H1,I1,r,q⟩:=zz;refine⟨I1.mZ,?_⟩;have hl:us.length=ps.length:=by rw[← r.length];exact F.len _ _ _ _ q
  have hbd:=hb s1 us I1.mZ (by rw[List.append_nil];exact hl);rw[List.append_nil] at hbd;refine wpAny_call (codeAny_mono (F.run X.A X.stack s1 H1 ⟨us,[]⟩ us vs Q _ hr I1.env0 hbd r q) fun rr s' hq=>?_);cases rr with
  | error e=>
    obtain⟨a,C,od,H',rfl,ho,hgn,un,hok,⟨T,ex⟩,C',e2,hR⟩:=hq;cases e2;have I':Inv (X.tried pn xe) p_ σ H' s':=I1.call' (ch:=[]) ho un hok hgn fun b z=>(nomatch z);have old:∀b,s1.heap.get? b=none→X.s₀.heap.get? b=none:=fun b z=>I1.old hex z;refine hx p_ σ H' s' a C od T I' ⟨old _ ex.new,old _ ex.newT,ex.un,ex.unT,ex.ob⟩ (fun p hp=>?_) hR;have e1:=(I1.pin p (List.mem_append_left _ hp)).1;exact⟨fun z=>(by rw[z,ex.new] at e1;cases e1),fun z=>(by rw[z,ex.newT] at e1;cases e1)⟩
  | ok fl=>
    cases fl with
    | ret u=>exact I1.after hq
    | next=>exact False.elim hq
    | brk=>exact False.elim hq
    | cont=>exact False.elim hq
def Ng (x C:Addr) (od:Option Addr) (h:Heap):Prop:=∃ox vs,h.get? x=some ox∧(ox.cls,ox.dict)=(Value.ref C,od)∧ox.data = .fields vs∧vs[2]? = some .none
theorem Ng.at {x C:Addr} {od:Option Addr} {h:Heap} (e:Ng x C od h):lK x C h:=by
  obtain⟨ox,vs,h1,h2,h3,h4⟩:=e;exact⟨ox,vs,h1,congrArg Prod.fst h2,h3,h4⟩
def GP (a C:Addr) (od:Option Addr):HO:=.ext fun h=>Ng a C od h
def vB (K:W.Frag) (C:Addr):Prop:=∀h,K.In h→∃bm N nm q bs hdct sn sub ab col dd k0 k1 k2 k3 k5,h.get? C=some (excClassObj nm q C N bs bm hdct sn sub ab col dd k0 k1 k2 k3 k5 "ValueError.__new__")∧∀v b,W.mroIn K C v=some b→(Value.ref C::bm).contains v=b
theorem vB.of {K:W.Frag} {C:Addr} (c:gJ K C):vB K C:=fun h X=>by
  obtain⟨bm,N,nm,q,bs,hdct,sn,sub,ab,col,dd,k0,k1,k2,k3,k5,mN,hC,_,_,_,hmro⟩:=El X c;exact⟨bm,N,nm,q,bs,hdct,sn,sub,ab,col,dd,k0,k1,k2,k3,k5,hC,hmro⟩
theorem Inv.track {a C:Addr} {od:Option Addr} (I:Inv X p_ σ H s) (hex:X.ex=[]) (new:X.s₀.heap.get? a=none) (un:H a=none) (e:Ng a C od s.heap) (hp:∀p∈X.pn++p_,p.1≠a):Inv X p_ σ (upd H a (GP a C od)) s:=by
  have nf:∀{b o},s.heap.get? b=some o→(∀vs,o.data≠.fields vs)→b≠a:=fun {b o} eb hd z=>by
    subst z;obtain⟨ox,vs,h1,_,h3,_⟩:=e;rw[eb] at h1;cases h1;exact hd vs h3
  have Ym:∀b:Addr,b∉X.ex:=fun b=>by rw[hex];simp
  have old:∀{b o},X.s₀.heap.get? b=some o→b≠a:=fun {b o} eb z=>by
    rw[z,new] at eb;cases eb
  have ne:∀{b:Addr} {u:HO},H b=some u→b≠a:=fun {b u} q z=>by
    rw[z,un] at q;cases q
  refine⟨I.ok,I.os,I.bare,⟨fun b o eb n hb hx=>I.base.keep b o eb n hb hx,I.base.slot,fun b o eb n hx=>?_,I.base.there,fun b xs q=>?_,fun b o u q=>?_,fun b ps q=>?_⟩,I.loc,I.cell,?_,fun x c q=>?_,fun p hpp=>?_,fun b u q=>?_,I.len⟩
  ·rw[aB (old eb)];exact I.base.free b o eb n hx
  ·have z:=I.base.tups b xs q;rw[aB (ne z)];exact z
  ·have z:=I.base.qg b o u q;rw[aB (ne z)];exact z
  ·obtain⟨m,z⟩:=I.base.rM b ps q;exact⟨m,by rw[aB (ne z)];exact z⟩
  ·obtain⟨m,⟨o,es,ep,eo,d,r⟩,_⟩:=I.loc;rw[aB (nf eo fun vs y=>by rw[d] at y;cases y)];exact I.free
  ·obtain⟨v,o,eo,d⟩:=I.cell x c q;rw[aB (nf eo fun vs y=>by rw[d] at y;cases y)];exact I.iw x c q
  ·obtain⟨f1,f2,f3⟩:=I.pin p hpp;refine⟨f1,?_,f3⟩;rw[aB (hp p hpp)];exact f2
  · by_cases hb:b=a
    ·subst hb;rw[ao] at q;cases q;obtain⟨ox,vs,h1,h2,h3,_⟩:=id e;exact⟨e,⟨ox,h1⟩,fun h1 h2 ⟨ox,vs,a1,a2,a3⟩ k=>⟨ox,vs,k _ a1,a2,a3⟩⟩
    · rw[aB hb] at q;refine(I.hok b u q).stay (fun c v _ z=>z) (fun c z=>?_) fun c xs z=>?_
      ·rw[aB (ne z)];exact z
      ·rw[aB (ne z)];exact z
theorem W4 {M:Model} {A:Around} {E:Value→Shared→Prop} {i:Nat} {n:Str} {v:V} {Q:Unit→Shared→Prop} (I:Inv X p_ σ H s) (hN:X.N.Nodup) (hi:X.N[i]? = some n) (hl:X.env.scope.names.lookup n=some .local) (hv:σ[i]? = some (some v))
    (h:∀s',Inv X p_ (σ.set i none) H s'→Q () s'):wpAny M A (unbindName X.env n) Q E s:=by
  obtain⟨m,hn,q⟩:=id I.loc;obtain⟨u,rv,l⟩:=q i n v hi hv (.inl hl);have hm:m n=some u:=by
    rcases l with⟨_,l⟩ | ⟨k,c,_⟩
    ·exact l
    · rcases k with k | k
      ·have:X.env.kindOf n=some .local:=hl;rw[k] at this;cases this
      ·have:X.env.kindOf n=some .local:=hl;rw[k] at this;cases this
  have hcls:(X.env.scope.kind == .class || (X.env.scope.kind == .module && X.env.locals != X.env.globals))=false:=by rw[I.ok.kind];rfl
  have hiσ:i<σ.length:=by rw[I.len];exact(List.getElem?_eq_some_iff.mp hi).1
  refine wpAny_unbindName_local hl hn hm hcls fun h' u' hn' hs=>?_;obtain⟨oL,_,_,hoL,_⟩:=id hn;have loc:∀b o,X.s₀.heap.get? b=some o→b≠X.env.locals:=fun b o e=>Nat.ne_of_lt (Nat.lt_of_lt_of_le (Heap.lt_size e) I.ok.above);refine h _ ⟨I.ok,I.os,I.bare,⟨fun b o e n hb hx=>?_,fun b o e n hb hx=>?_,I.base.free,fun b o e hx=>?_,I.base.tups,I.base.qg,I.base.rM⟩,⟨_,hn',fun j y v' e1 e2 e3=>?_⟩,fun y c e=>?_,I.free,I.iw,fun p hp=>?_,fun b ob e=>?_,by simpa using I.len⟩
  ·exact(hs.2 b (loc b o e)).trans (I.base.keep b o e n hb hx)
  ·obtain⟨sl,z⟩:=I.base.slot b o e n hb hx;exact⟨sl,(hs.2 b (loc b o e)).trans z⟩
  ·obtain⟨o',z⟩:=I.base.there b o e hx;exact⟨o',(hs.2 b (loc b o e)).trans z⟩
  · have hj:j≠i:=fun z=>by
      subst z;rw[List.getElem?_set_self hiσ] at e2;cases e2
    rw[List.getElem?_set_ne (Ne.symm hj)] at e2;obtain⟨u2,r2,l2⟩:=q j y v' e1 e2 e3;refine⟨u2,r2,?_⟩
    rcases l2 with⟨k,e⟩ | ⟨k,c,e,z⟩
    ·have:y≠n:=fun e=>hj (Fz hN e1 (e▸hi));exact .inl ⟨k,by simp[this,e]⟩
    ·exact .inr ⟨k,c,e,z.sameBut hs (I.cne y c e)⟩
  ·obtain⟨w',z⟩:=I.cell y c e;exact⟨w',z.sameBut hs (I.cne y c e)⟩
  ·obtain⟨e,n,ne,nf,d⟩:=I.pin p hp;exact⟨(hs.2 p.1 ne).trans e,n,ne,nf,d⟩
  · have no:∀{c:Addr} {u:HO},H c=some u→c≠X.env.locals:=fun {c u} q z=>by
      rw[z,I.free] at q;cases q
    refine(I.hok b ob e).stay (fun c w' hc q=>(hs.2 c ?_).trans q) (fun _ q=>q) fun _ _ q=>q
    rcases hc with rfl | hc
    ·exact no e
    ·exact no hc
end
section
variable {M:Model} {A:Around} {E:Value→Shared→Prop} {h:Heap} {g:Array GenState} {d:Drawn} {t:Nat} {os:OsState}
variable {nm q:Str} {C N:Addr} {bs bm:List Value} {hdct:Bool} {sn:List Str} {sub:List Value} {ab:Bool} {col:Option Bool} {dd:Option Addr} {k0 k1 k2 k3 k5:Option Value} {newId:String}
variable {nm' q':Str} {D N':Addr} {bs' bm':List Value} {qdw:Bool} {sn':List Str} {sub':List Value} {ab':Bool} {col':Option Bool} {Yp:Option Addr} {j0 j1 j2 j3 j5:Option Value} {newId':String}
theorem W5 {e:Addr} {oe:Obj} {Q:Bool→Shared→Prop} (hC:h.get? C=some (excClassObj nm q C N bs bm hdct sn sub ab col dd k0 k1 k2 k3 k5 newId))
    (hD:h.get? D=some (excClassObj nm' q' D N' bs' bm' qdw sn' sub' ab' col' Yp j0 j1 j2 j3 j5 newId')) (he:h.get? e=some oe) (hcls:oe.cls = .ref C) (hbase:bm'.contains (.type "BaseException")=true) (hin:bm.contains (.ref D)=true)
    (hq:Q true ⟨h,g,d,t,os⟩):wpAny M A (excMatches (.ref e) (.ref D)) Q E ⟨h,g,d,t,os⟩:=by
  have hDB:(Value.ref D::bm').contains (.type "BaseException")=true:=by rw[List.contains_cons,hbase,Bool.or_true]
  have hCD:(Value.ref C::bm).contains (.ref D)=true:=by rw[List.contains_cons,hin,Bool.or_true]
  have f:=tc_notTuple;unfold excMatches
  repeat (first | (with_reducible refine wpAny_loadPart_at he ?_;rw[hcls]) | with_reducible refine wpAny_loadPart_at hD ?_ | (with_reducible refine wpAny_isSubtype_exc hD ?_;rw[hDB]) | (with_reducible refine wpAny_isSubtype_exc hC ?_;rw[hCD]) | wp_step)
  exact hq
end
def qaf (i:Nat) (K:W.Frag) (D:Addr) (ts:Addr→TS) (Dn:Ends):St→Addr→Option Addr→Hp→Prop:=fun σ1 C od H1=>(vB K C∧W.mroIn K C (.ref D)=some true∧C≠D)∧∀a,H1 a=none→
    ts a {nx:=fun σ2 H2=>Dn.nx (σ2.set i none) H2,rt:=Dn.rt,bk:=fun σ2 H2=>Dn.bk (σ2.set i none) H2,ct:=fun σ2 H2=>Dn.ct (σ2.set i none) H2} (σ1.set i (some (.ref a))) (upd H1 a (GP a C od))
def qgQ (i:Nat) (K:W.Frag) (D:Addr) (ts:Addr→TS) (tb:(St→Addr→Option Addr→Hp→Prop)→TS):TS:=fun Dn σ H=>tb (qaf i K D ts Dn) Dn σ H
section
variable {X:Cx} {body suite:List Stmt} {b₀:Stmt} {i:Nat} {n cls:Str} {np hpos pos:Pos} {D:Addr} {ts:Addr→TS} {tb:(St→Addr→Option Addr→Hp→Prop)→TS}
theorem qe3 (hst:X.stack=X.env::X.outer) (hfr:X.env.frame=some X.env.locals) (hex:X.ex=[]) (hN:X.N.Nodup) (hi:X.N[i]? = some n) (hl:X.env.scope.names.lookup n=some .local)
    (hb:∀R pn xe,Takes X pn xe R→Jm (X.tried pn xe) body (tb R)) (hg:Gl X cls) (hm:X.mg cls=some (.ref D)) (clD:gJ X.K D) (hsu:∀a,Jm (X.caught a) (b₀::suite) (ts a))
    (hdb:(cls == ("__debug__" : Str))=false:=by decide) :
    PS X (.Try body [.ExceptHandler (some (.Name cls np)) (some n) (b₀::suite) hpos] [] [] pos) (qgQ i X.K D ts tb):=by
  intro p_ s σ H Dn I h;have hiσ:∀{σ':St} {H':Hp} {s':Shared},Inv X p_ σ' H' s'→i<σ'.length:=fun J=>by rw[J.len];exact(List.getElem?_eq_some_iff.mp hi).1
  refine wpAny_Try_except (wpAny_mono (hb (qaf i X.K D ts Dn) (X.pn++p_) (fun e s1=>∃a C od T σ1 H1,e = .ref a∧Inv X p_ σ1 H1 s1∧qab X.s₀.heap s1.heap H1 a C od T∧(∀p∈X.pn++p_,p.1≠a∧p.1≠T)∧qaf i X.K D ts Dn σ1 C od H1) ?_ [] s σ H Dn (I.tried _) h) (fun f s1 hf=>?_) fun e s1 hx=>?_)
  ·intro CW σ1 H1 s1 a C od T J ex hp hR;exact⟨a,C,od,T,σ1,H1,rfl,I.yV J,ex,hp,hR⟩
  · cases f with
    | next=>obtain⟨σ',H',J,q⟩:=hf;exact wpAny_execs_nil ⟨σ',H',I.yV J,q⟩
    | brk=>obtain⟨σ',H',J,q⟩:=hf;exact⟨σ',H',I.yV J,q⟩
    | cont=>obtain⟨σ',H',J,q⟩:=hf;exact⟨σ',H',I.yV J,q⟩
    | ret u=>obtain⟨v,σ',H',J,r,q⟩:=hf;exact⟨v,σ',H',I.yV J,r,q⟩
  · obtain⟨a,C,od,T,σ1,H1,rfl,J,ex,hp,⟨clC,hCD,hne⟩,hR⟩:=hx;obtain⟨new,newT,un,unT,oe,vs,oT,tts,t1,t2,t3,t4,t5,t6,t7,t8,t9⟩:=ex;have fr:=J.ok.frames;rw[hst] at fr;have st0:(W.hideAll s1.heap (frs X.stack++[a,T])).StaysIn s1.heap:=fun b o e=>W.of_hideAll _ e;have na:(W.hideAll s1.heap (frs X.stack++[a,T])).get? a=none:=W.hideAll_none _ (by simp);have ff:s1.heap.FunFrames (W.hideAll s1.heap (frs X.stack++[a,T])) (X.env::X.outer):=by
      rw[← hst];exact W.funFrames_hide J.stack fun env he b hb=>List.mem_append_left _ (List.mem_filterMap.mpr ⟨env,he,hb⟩)
    have tr0:Trc (W.hideAll s1.heap (frs X.stack++[a,T])) s1.heap a (.ref C,od) .none T:=⟨oe,vs,oT,tts,t1,t2,t3,t4,t5,W.hideAll_none _ (by simp),t6,t7,t8,t9⟩;have gone:∀(h':Heap),(W.hideAll s1.heap (frs X.stack++[a,T])).StaysIn h'→s1.heap.UpToSlots h'→Inv X p_ σ1 H1 {s1 with heap:=h'}:=fun h' k1 k2=>by
      refine J.gone (t':=s1.toks) (ch:=[a,T]) hex (fun b hb=>?_) (fun b o hf hc e=>k1 b o (W.hideAll_get _ e (by rw[List.mem_append];exact fun z=>z.elim hf hc))) fun b o e hd=>k2 b o e hd;simp only[List.mem_cons,List.not_mem_nil,or_false] at hb
      rcases hb with rfl | rfl
      ·exact⟨new,un,fun _ _ _ _=>trivial,⟨oe,vs,t1,t3⟩,fun p q=>(hp p q).1⟩
      ·exact⟨newT,unT,fun _ _ _ _=>trivial,⟨oT,tts,t7,t8⟩,fun p q=>(hp p q).2⟩
    refine KD fr ff hfr tr0 st0 na fun h4 x4=>?_;obtain⟨T4,tr4⟩:=x4.trc;refine GJ (s:={s1 with heap:=h4}) x4.frames tr4 x4.stays fun h5 x5=>?_;obtain⟨T5,tr5⟩:=x5.trc;have J5:=gone h5 x5.stays (x4.slots.trans x5.slots);refine wpAny_handleBy_cons (codeAny_handlers_test (lV (J5.caught a) hg hm ?_ hdb)) (by intro q;cases q);obtain⟨oe5,vs5,oT5,ts5,u1,u2,u3,_⟩:=id tr5;obtain⟨bm,N,nm,q,bs,hdct,sn,sub,ab,col,dd,k0,k1,k2,k3,k5,hC,hmro⟩:=clC _ J5.mZ;obtain⟨bm',N',nm',q',bs',qdw,sn',sub',ab',col',Yp,j0,j1,j2,j3,j5,mN',hD,qk9,qk_,T0',_⟩:=El J5.mZ clD;have hin:bm.contains (.ref D)=true:=by
      have z:=hmro _ _ hCD;rw[List.contains_cons] at z
      rcases Bool.or_eq_true_iff.mp z with z | z
      ·exact absurd (Value.ref.inj (beq_iff_eq.mp z)).symm hne
      ·exact z
    refine W5 hC hD u1 (congrArg Prod.fst u2) (T0'.hasType (by decide)) hin ?_;refine codeAny_handlers_suite_as ?_;refine GJ (s:={s1 with heap:=h5}) x5.frames tr5 x5.stays fun h6 x6=>?_;have J6:=gone h6 x6.stays ((x4.slots.trans x5.slots).trans x6.slots);obtain⟨T6,oe6,vs6,oT6,ts6,v1,v2,v3,v4,_⟩:=x6.trc;have J7:=J6.track hex new un ⟨oe6,vs6,v1,v2,v3,v4⟩ fun p q=>(hp p q).1;refine uy J7 hN hi (.inl hl) (v:=.ref a) rfl (fun s8 J8 _=>?_) (.inr hl);refine wpAny_mono (hsu a p_ s8 _ _ _ (J8.caught a) (hR a un)) (fun f s9 hf=>?_) fun _ _ z=>False.elim z;show wpAny (model X.prog X.w) X.A (do bindName X.env n .none;unbindBehindTheSuite X.env n hpos) (fun _ s₃=>SP X p_ Dn f s₃) X.xe s9
    have go:∀{σ':St} {H':Hp} (Q':Shared→Prop),Inv X p_ σ' H' s9→(∀s',Inv X p_ (σ'.set i none) H' s'→Q' s')→wpAny (model X.prog X.w) X.A (do bindName X.env n .none;unbindBehindTheSuite X.env n hpos) (fun _ s₃=>Q' s₃) X.xe s9:=fun {σ' H'} Q' J9 hq=>by
      refine wpAny_bind ?_;unfold bindName;refine wpAny_bind (wpAny_holding (wpAny_point (wpAny_bind (uy J9 hN hi (.inl hl) (v:=.non) rfl (fun s10 J10 _=>wpAny_point ?_) (.inr hl)))));unfold unbindBehindTheSuite;refine wpAny_onRaise (W4 (v:=.non) J10 hN hi hl (List.getElem?_set_self (hiσ J9)) fun s11 J11=>?_);rw[List.set_set] at J11;exact hq s11 J11
    cases f with
    | next=>obtain⟨σ',H',J9,q⟩:=hf;exact go _ (I.uncaught J9) fun s' J'=>⟨_,H',J',q⟩
    | brk=>obtain⟨σ',H',J9,q⟩:=hf;exact go _ (I.uncaught J9) fun s' J'=>⟨_,H',J',q⟩
    | cont=>obtain⟨σ',H',J9,q⟩:=hf;exact go _ (I.uncaught J9) fun s' J'=>⟨_,H',J',q⟩
    | ret u=>obtain⟨v,σ',H',J9,r,q⟩:=hf;exact go _ (I.uncaught J9) fun s' J'=>⟨v,_,H',J',r,q⟩
end
section
variable {X:Cx} {p_:List (Addr×Obj)} {σ:St} {H:Hp} {s:Shared} {a:Addr}
end
structure Vi (P:Program) (w:World) (K:W.Frag) (mg:Str→Option Value) (base:Heap) (k:Nat) (f:Addr) (fd:FuncData) (ps:List Str) (sp:Addr→Sp):Prop where
  len:∀a vs H Q E,sp a vs H Q E→vs.length=ps.length
  run:∀(a:Addr) (A:Around) (outer:List Env) (s:Shared) (H:Hp) (args:Args) (us:List Value) (vs:List V) (Q:VK),iz k A→Pj P w K mg base A outer s H→BindsTo s fd args (ps.zip us)→Vals vs us→sp a vs H Q E0→
    codeAny (model P w) (A.mark (some (.ref a))) (.call (.ref f) args) (CR lB outer P w H s Q E0) s
theorem dZ.okH {P:Program} {w:World} {K:W.Frag} {mg:Str→Option Value} {base:Heap} {x qual:Str} {st:Stmt} {f:Addr} {fd:FuncData} {N ps:List Str} {k:Nat} {sp:Addr→Sp} (F:dZ K x qual st f fd) (S:aX N ps (aD st)) (len:∀a vs H Q E,sp a vs H Q E→vs.length=ps.length)
    (hbody:∀(a:Addr) (cdv:Value) (A:Around) (outer:List Env) (s:Shared) (H:Hp) (vs:List V) (Q:VK),iz k (A.deeper (envOfC qual (aD st) s.heap.objs.size f cdv))→sp a vs H Q E0→
      ∃t,Jm ((au lB P w K mg base N qual (aD st) f cdv A outer s H E0).caught a) (iV st) t∧t {nx:=fun _ H'=>Q .non H',rt:=Q} (start N vs) H):Vi P w K mg base (k+1) f fd ps sp:=by
  obtain⟨oc,od,kV,doc,pm,an,cdv,ct,osl,rfl,lk,hcd⟩:=F.ex;refine⟨len,fun a A outer s H args us vs Q hr e0 hb r hsp=>?_⟩;have hl:=len _ _ _ _ _ hsp;have KX:K.In s.heap:=e0.mod.O7.keeps fun b o e=>(e0.bs b o e).1;have lim:s.heap.NoLimit:=e0.mod.nolimit.keeps fun b o e=>(e0.bs b o e).1;have hkind:∀y∈ps.zip us,(aD st).names.lookup y.1=some .local∨((aD st).names.lookup y.1=some .cell∧((cellsFrom (s.heap.objs.size+1) (aD st).names []).lookup y.1).isSome=true):=fun⟨n,v⟩ hy=>by
    rcases S.par n (List.of_mem_zip hy).1 with q | q
    ·exact .inl q
    ·exact .inr ⟨q,W.cellsFrom_some _ _ _ (.inl q)⟩
  refine codeAny_call_function (A:=A.mark (some (.ref a))) hr.depth (KX _ _ lk) rfl S.co S.gen rfl (W.codeRec_of KX hcd) (hb _ _ _ _ ?_);refine wpAny_newFunctionEnv_cells S.kind hkind fun env he s1 x=>?_;subst he;refine⟨lim.keeps x.toInCall.keep,codeAny_func ?_⟩;obtain⟨t,ht,hq⟩:=hbody a cdv A outer s H vs Q (hr.deeper _) hsp;have I:Inv (au lB P w K mg base N qual (aD st) f cdv A outer s H E0) [] (start N vs) H s1:=J_ S hr.hd e0 hl r x;refine wpAny_mono (ht [] s1 (start N vs) H _ (I.caught a) hq) (fun fl s' hs=>?_) fun e s' hs=>hs.elim;have fin:∀{σ':St} {H':Hp} {v:V} {u:Value},Inv ((au lB P w K mg base N qual (aD st) f cdv A outer s H E0).caught a) [] σ' H' s'→RelV v u→Q v H'→CE outer P w H s Q u s':=
    fun {σ' H' v u} J rv q=>⟨v,H',J.os,J.bare,J.base,J.hok,rv,q⟩
  cases fl with
  | ret u=>
    obtain⟨v,σ',H',J,rv,q⟩:=hs;exact fin J rv q
  | next=>
    obtain⟨σ',H',J,q⟩:=hs;exact fin (v:=V.non) (u:=Value.none) J rfl q
  | brk=>obtain⟨σ',H',J,q⟩:=hs;exact False.elim q
  | cont=>obtain⟨σ',H',J,q⟩:=hs;exact False.elim q
section
variable {X:Cx} {a:Addr}
def Sy (sp:Sp) (t:TA):TE:=fun σ H Q=>t σ H fun vs H1=>R7 sp vs H1 Q ⟨0⟩ E0
@[simp ↓] theorem qgR sp t σ H Q:Sy sp t σ H Q=t σ H fun vs H1=>R7 sp vs H1 Q ⟨0⟩ E0:=rfl
theorem qag {k:Nat} {f:Addr} {fd:FuncData} {ps:List Str} {sp:Addr→Sp} {x:Str} {p pos:Pos} {e:Expr} {es:List Expr} {t:TA}
    (F:Vi X.prog X.w X.K X.mg X.base k f fd ps sp) (hr:iz k X.A) (hg:Gl X x) (hm:X.mg x=some (.ref f)) (hk:W.keepIn X.K (.ref f)=true) (hb:Binds X.K fd ps [])
    (ha:PA (X.caught a) (e::es) t) (hdb:(x == ("__debug__" : Str))=false:=by decide) (he:starEach (e::es) X.env=(false,eval e X.env)::starEach es X.env:=by rfl) (hpl:(backTo pos (starEach es X.env)).any (·.1)=false:=by rfl) :
    PE (X.caught a) (.Call (.Name x p) (e::es) [] pos) (Sy (sp a) t):=by
  intro p_ s σ H Q I h;refine wpAny_Call_Name_kw (lV I hg hm ?_ hdb);refine W.callWith_K (h₀:=X.base) I.ok.mod.O7 hk (cR (ha pos p_ s σ H _ I h) fun us s1 zz=>?_) he hpl;obtain⟨vs,H1,I1,r,q⟩:=zz;refine⟨I1.mZ,?_⟩;have hl:us.length=ps.length:=by rw[← r.length];exact F.len _ _ _ _ _ q
  have hbd:=hb s1 us I1.mZ (by rw[List.append_nil];exact hl);rw[List.append_nil] at hbd;have e0:=I1.env0;refine wpAny_call (codeAny_mono (F.run a X.A X.stack s1 H1 ⟨us,[]⟩ us vs Q hr ⟨e0.frames,e0.mod,e0.bs,e0.VR,e0.rT,e0.Yw,e0.hok,e0.bare⟩ hbd r q) fun rr s' hq=>?_);cases rr with
  | error e=>exact hq.elim
  | ok fl=>
    cases fl with
    | ret u=>exact I1.after hq
    | next=>exact False.elim hq
    | brk=>exact False.elim hq
    | cont=>exact False.elim hq
end
def Ay (K:W.Frag) (C:Addr):Prop:=qx K C∧∃cd,W.clsIn K C=some cd
def Qs (K:W.Frag) (C:Addr):V→Option Bool
  | .ref D=>W.kitOne K (.ref C) (.ref D)
  | .ty n=>W.kitOne K (.ref C) (.type n)
  | _=>none
theorem dZ.Qt {P:Program} {w:World} {K:W.Frag} {mg:Str→Option Value} {base:Heap} {x qual:Str} {st:Stmt} {f:Addr} {fd:FuncData} {N ps:List Str} {k:Nat} {sp:Sp} (F:dZ K x qual st f fd) (S:aX N ps (aD st)) (len:∀vs H Q E,sp vs H Q E→vs.length=ps.length)
    (hbody:∀(cdv:Value) (A:Around) (outer:List Env) (s:Shared) (H:Hp) (vs:List V) (Q:VK) (E:XK),iz k (A.deeper (envOfC qual (aD st) s.heap.objs.size f cdv))→sp vs H Q E→
      ∃t,Jm (au (GK P w) P w K mg base N qual (aD st) f cdv A outer s H E) (iV st) t∧t {nx:=fun _ H'=>Q .non H',rt:=Q} (jH N vs) H):bZ P w K mg base (GK P w) (k+1) f fd ps sp:=by
  refine F.Qo S len fun cdv A outer s H vs Q E hr h=>?_;obtain⟨t,h1,h2⟩:=hbody cdv A outer s H vs Q E hr h;refine⟨t,h1,?_⟩;have hl:=len _ _ _ _ h;have hp:ps.length≤N.length:=by have:=congrArg List.length S.pre;rw[List.length_take] at this;omega
  rw[pG N vs (by omega)] at h2;exact h2
theorem dZ.qj3 {P:Program} {w:World} {K:W.Frag} {mg:Str→Option Value} {base:Heap} {x qual:Str} {st:Stmt} {f:Addr} {fd:FuncData} {N ps:List Str} {k:Nat} {sp:Addr→Sp} (F:dZ K x qual st f fd) (S:aX N ps (aD st)) (len:∀a vs H Q E,sp a vs H Q E→vs.length=ps.length)
    (hbody:∀(a:Addr) (cdv:Value) (A:Around) (outer:List Env) (s:Shared) (H:Hp) (vs:List V) (Q:VK),iz k (A.deeper (envOfC qual (aD st) s.heap.objs.size f cdv))→sp a vs H Q E0→
      ∃t,Jm ((au lB P w K mg base N qual (aD st) f cdv A outer s H E0).caught a) (iV st) t∧t {nx:=fun _ H'=>Q .non H',rt:=Q} (jH N vs) H):Vi P w K mg base (k+1) f fd ps sp:=by
  refine F.okH S len fun a cdv A outer s H vs Q hr h=>?_;obtain⟨t,h1,h2⟩:=hbody a cdv A outer s H vs Q hr h;refine⟨t,h1,?_⟩;have hl:=len _ _ _ _ _ h;have hp:ps.length≤N.length:=by have:=congrArg List.length S.pre;rw[List.length_take] at this;omega
  rw[pG N vs (by omega)] at h2;exact h2
@[simp ↓] theorem qj4 i K D ts tb Dn σ H:qgQ i K D ts tb Dn σ H=tb (qaf i K D ts Dn) Dn σ H:=rfl
theorem qcb:bootBuiltins "ValueError" = some (.type "ValueError"):=by decide+kernel
theorem KJ:∀{Ds:List Addr} {us:List Value},Vals (Ds.map V.ref) us→us=Ds.map Value.ref
  | [],_,h=>by cases h;rfl
  | D::Ds,_,h=>by
    cases h with
    | cons a b=>
      rw[KJ b];obtain rfl:=(show _=Value.ref D from a);rfl
end L2
namespace L2
open PySem PySem.Spec PySem.W PyProof.Rows
section
variable {prog:Program} {w:World} {A:Around} {E:Value→Shared→Prop} {K:W.Frag} {h:Heap} {g:Array GenState} {d:Drawn} {t:Nat} {os:OsState}
variable {nm q:Str} {C N:Addr} {bs bm:List Value} {hdct:Bool} {sn:List Str} {sub:List Value} {ab:Bool} {col:Option Bool} {dd:Option Addr} {k0 k1 k2 k3 k5:Option Value}
theorem Nh {rest:List Value} {f:Addr} {Q:PySem.Fin→Shared→Prop} (X:K.In h) (T:OwnTail h fO bm) (hi:findIn K (.ref C) "__init__" = some (some (.ref f))) (hf:typeIn K (.ref f)=some (.type "function"))
    (hC:h.get? C=some (excClassObj nm q C N bs bm hdct sn sub ab col dd k0 k1 k2 k3 k5 "ValueError.__new__"))
    (hq:∀h' e,Heap.MadeExcOf h h' e (.ref C) rest→wpAny (model prog w) A (call (.ref f) (.ref e::rest)) (fun r s'=>r = .none∧Q (.done (.ret (.ref e))) s') E ⟨h',g,d,t,os⟩) (hz:rest.length≤sizeLine) :
    wpAny (model prog w) A (Builtin.«type.__call__» ⟨.ref C::rest,[]⟩) Q E ⟨h,g,d,t,os⟩:=by
  have F:=PySem.F.excBase_ValueError
  repeat (first | with_reducible refine wpAny_loadPart_at hC ?_ | with_reducible refine wpAny_madeBy_exc hC ?_ | wp_step)
  refine codeAny_call_builtin_code (Code.quiet_builtin _ F.quiet) (wpAny_check_new_subT F T hC (codeAny_exc_new_subT F T hC ?_ hz));show wpAny _ _ _ _ _ _;generalize hG:(h.push {cls:=.type "tuple",data:=.seq rest.toArray}).push {cls:=.ref C,data:=.fields #[.ref h.objs.size,.none,.none,.none,.bool false,.none]}=G;have kp:∀b o,h.get? b=some o→G.get? b=some o:=fun b o e=>by
    rw[← hG];exact Heap.get?_push_of_some _ (Heap.get?_push_of_some _ e)
  have hget:G.get? (h.objs.size+1)=some {cls:=.ref C,data:=.fields #[.ref h.objs.size,.none,.none,.none,.bool false,.none]}:=by
    rw[← hG]
    heap_get
  have hT:G.get? h.objs.size=some {cls:=.type "tuple",data:=.seq rest.toArray}:=by
    rw[← hG];exact Heap.get?_push_of_some _ (Heap.get?_push_at rfl rfl)
  have X1:K.In G:=fun b o e=>kp b o (X b o e);have hC1:=kp _ _ hC;have hcC:(Value.ref C::bm).contains (.ref C)=true:=by simp
  unfold isInstance
  repeat (first | with_reducible refine wpAny_loadPart_at hget ?_ | (with_reducible refine wpAny_isSubtype_exc hC1 ?_;rw[hcC]) | wp_step)
  show wpAny _ _ (typeLookup (.ref C) _) _ _ _;refine(looks_findIn (M:=model prog w) X1 hi).at ?_;refine wpAny_holding (wpAny_bind ?_);unfold bindSpecial;refine wpAny_bind ((looks_typeIn (M:=model prog w) X1 hf).at ?_);rw[if_pos (by decide)];refine wpAny_pure (wpAny_bind (wpAny_mono (hq G (h.objs.size+1) ⟨kp,Heap.get?_none_of_le (Nat.le_succ _),h.objs.size,hget,Heap.get?_none_of_le (Nat.le_refl _),hT⟩) (fun r s' hr=>?_) fun _ _ x=>x));obtain⟨rfl,hQ⟩:=hr
  wp_walk
  exact hQ
theorem qcc {rest:List Value} {f:Addr} {Q:Value→Shared→Prop} (X:K.In h) (T:OwnTail h fO bm) (hi:findIn K (.ref C) "__init__" = some (some (.ref f))) (hf:typeIn K (.ref f)=some (.type "function"))
    (hC:h.get? C=some (excClassObj nm q C N bs bm hdct sn sub ab col dd k0 k1 k2 k3 k5 "ValueError.__new__"))
    (hq:∀h' e,Heap.MadeExcOf h h' e (.ref C) rest→wpAny (model prog w) (A.under (.builtin "type.__call__" ⟨.ref C::rest,[]⟩)) (call (.ref f) (.ref e::rest)) (fun r s'=>r = .none∧Q (.ref e) s') E ⟨h',g,d,t,os⟩) (hz:rest.length≤sizeLine) :
    wpAny (model prog w) A (call (.ref C) rest) Q E ⟨h,g,d,t,os⟩:=by
  have f1:=tc_lookup;have f2:=tc_bind (.ref C);have hT:(⟨h,g,d,t,os⟩:Shared).TypeIs (.ref C) "type" :=⟨_,hC,rfl⟩;refine wpAny_call (codeAny_of_tree ?_);show wpAny _ _ (callAny (.ref C) _) _ _ _
  repeat (any_goals (first | assumption | with_reducible refine wpAny_loadPart_at hC ?_ | wp_step))
  refine⟨rfl,codeAny_call_builtin_at (Code.quiet_builtin _ (by decide+kernel)) entry_typeCall (wpAny_check_type_call_sub hC (Nh X T hi hf hC (fun h' e hm=>?_) hz))⟩;exact hq h' e hm
theorem qcd {rest:List Value} {e t0:Addr} {oe:Obj} {vs:Array Value} {Q:Value→Shared→Prop} (T:OwnTail h fO bm)
    (hC:h.get? C=some (excClassObj nm q C N bs bm hdct sn sub ab col dd k0 k1 k2 k3 k5 "ValueError.__new__")) (he:h.get? e=some oe) (hc:oe.cls = .ref C) (hd:oe.data = .fields vs) (h0:vs[0]? = some (.ref t0))
    (hq:∀h' t1,(∀b o,b≠e→h.get? b=some o→h'.get? b=some o)→h'.get? e=some {oe with data:=.fields (vs.setIfInBounds 0 (.ref t1))}→Q .none ⟨h',g,d,t,os⟩) (hz:rest.length≤sizeLine) :
    wpAny (model prog w) A (call (.builtin "ValueError.__init__") (.ref e::rest)) Q E ⟨h,g,d,t,os⟩:=by
  have F:=PySem.F.excBase_ValueError;refine wpAny_call (codeAny_call_builtin F.init.plain F.initEntry (wpAny_check_init_subT F T hC he hc ?_));have he1:(h.push {cls:=.type "tuple",data:=.seq rest.toArray}).get? e=some oe:=Heap.get?_push_of_some _ he;unfold Builtin.«BaseException.__init__» Builtin.BaseException.bexcPut
  repeat (first | with_reducible refine wpAny_field he1 hd h0 ?_ | with_reducible refine wpAny_setField he1 hd (Array.getElem?_eq_some_iff.mp h0).1 ?_ | wp_step)
  have d3:=Obj.data_mapFields hd (·.setIfInBounds 0 (Value.ref h.objs.size));refine hq _ h.objs.size (fun b o hb z=>?_) ?_
  ·rw[Heap.get?_update_other _ _ (Ne.symm hb)];exact Heap.get?_push_of_some _ z
  ·refine(Heap.get?_update_self _ he1 (Obj.isFreed_of_fields d3)).trans (congrArg some ?_);obtain⟨c,dct,dat,sl⟩:=oe;cases hd;rfl
def Ni (x C:Addr) (od:Option Addr) (h:Heap):Prop:=∃ox vs t0,h.get? x=some ox∧ox.cls = .ref C∧ox.data = .fields vs∧vs[0]? = some (.ref t0)∧vs[1]? = some .none∧vs[2]? = some .none∧ox.dict=od
theorem Ni.at {x C:Addr} {od:Option Addr} {h:Heap} (e:Ni x C od h):lK x C h:=by
  obtain⟨ox,vs,t0,h1,h2,h3,_,_,h5,_⟩:=e;exact⟨ox,vs,h1,h2,h3,h5⟩
structure qj5 (K:W.Frag) (C:Addr):Prop where
  ga:findIn K (.ref C) "__getattribute__" = some (some (.builtin "BaseException.__getattribute__"))
  gn:findIn K (.ref C) "__getattr__" = some none
  mb:mroIn K C (.type "BaseException")=some true
  hd:hasDictIn K C=true
structure nY (K:W.Frag) (C PE:Addr):Prop where
  sa:findIn K (.ref C) "__setattr__" = some (some (.builtin "object.__setattr__"))
  mo:mroIn K C (.type "object")=some true
  cl:∃cd,clsIn K C=some cd∧cd.mro = .ref C::.ref PE::fO∧cd.hasDict=true
theorem qe4 {x PE:Addr} {name:Str} {tk:Tok} {v:Value} {R:Result→Shared→Prop} (X:K.In h) (I:lK x C h) (S:nY K C PE) (ha:findIn K (.ref C) name=some none)
    (hq:wpAny (model prog w) A.in1 (Builtin.ObjectAttr.storeInOwnDict (.ref x) (.ref C) (.str name tk) name v false)
      (fun fin s'=>match fin with | .done f=>R (.ok f) s' | .again c'=>c'.quiet=true∧codeAny (model prog w) A c' R s') (fun e s'=>R (.error e) s') ⟨h,g,d,t,os⟩) :
    codeAny (model prog w) A (.call (.builtin "object.__setattr__") ⟨[.ref x,.str name tk,v],[]⟩) R ⟨h,g,d,t,os⟩:=by
  have SF:=PySem.F.store_object;obtain⟨cd,hc,hm,_⟩:=S.cl;have L0:=I.type (M:=model prog w);have sub:Looks (model prog w) h (isInstance (.ref x) (.type "object")) true:=L0.andThen (looks_mroIn X S.mo);refine codeAny_call_builtin SF.slot.plain SF.entry (@check_slot (model prog w) _ _ ⟨h,g,d,t,os⟩ "object.__setattr__" "object" "__setattr__" (.ref x) [.str name tk,v] [] _ SF.kind SF.split sub (SF.args (.ref x) (.str name tk) v) ?_);have Lm:Looks (model prog w) h (mroOf (.ref C)) cd.mro:=(looks_clsIn X hc).andThen .now;rw[osa_eq,refuse_eq];refine wpAny_bind (wpAny_bind (Looks.here (s:=⟨h,g,d,t,os⟩) L0 (wpAny_bind (Looks.here (s:=⟨h,g,d,t,os⟩) Lm ?_))));rw[hm,refuseLoop_ref,refuseLoop_ref,PySem.F.store_ValueError.passes];exact wpAny_pure (wpAny_bind (Looks.here (s:=⟨h,g,d,t,os⟩) L0 (wpAny_bind (Looks.here (s:=⟨h,g,d,t,os⟩) (looks_findIn X ha) (wpAny_bind (wpAny_pure hq))))))
theorem qah {x PE:Addr} {name:Str} {v:Value} {Q:Unit→Shared→Prop} {s:Shared} (X:K.In s.heap) (I:lK x C s.heap) (S:nY K C PE) (ha:findIn K (.ref C) name=some none)
    (hq:∀A':Around,wpAny (model prog w) A' (Builtin.ObjectAttr.storeInOwnDict (.ref x) (.ref C) (.str name s.toks) name v false) (fun fin s'=>fin = .done (.ret .none)∧Q () s') (fun e s'=>False) {s with toks:=s.toks+1}) :
    wpAny (model prog w) A (setAttr (.ref x) name v) Q E s:=by
  have L0:=I.type (M:=model prog w);refine wpAny_bind (wpAny_mkText (wpAny_bind (wpAny_bind (wpAny_bind (L0 _ _ _ _ (fun _ _ e=>e) (looks_findIn X S.sa _ _ _ _ (fun _ _ e=>e) (wpAny_holding ?_)))))));rw[PySem.F.store_object.slot.bind];refine wpAny_bind (wpAny_pure (wpAny_bind (wpAny_call (codeAny_mono (qe4 (A:=A) (tk:=s.toks) (v:=v) (R:=fun r s'=>match r with | .ok (.ret _)=>Q () s' | .ok _=>False | .error e=>False) X I S ha (wpAny_mono (hq _) (fun fin s' z=>?_) fun e s' z=>z)) fun r s' z=>?_))))
  ·obtain⟨rfl,z⟩:=z;exact z
  ·rcases r with e | (v | _ | _ | _) <;> first | exact z.elim | exact wpAny_pure (wpAny_pure z)
theorem qce {x dx:Addr} {ns:List Str} {mA:Str→Option Value} {name:Str} {tk:Tok} {v:Value} {Q:PySem.Fin→Shared→Prop} {cd:ClassData} (X:K.In h) (e:Ni x C (some dx) h) (hn:h.Ns1 dx mA) (hc:clsIn K C=some cd) (hd:cd.hasDict=true)
    (hw:PySem.Within mA ns) (hsz:ns.length≤sizeLine) (hq:∀h' t',h'.Ns1 dx (fun y=>if y=name then some v else mA y)→Heap.SameBut dx h h'→Q (.done (.ret .none)) ⟨h',g,d,t',os⟩) :
    wpAny (model prog w) A (Builtin.ObjectAttr.storeInOwnDict (.ref x) (.ref C) (.str name tk) name v false) Q E ⟨h,g,d,t,os⟩:=by
  obtain⟨ox,vs,t0,h1,h2,h3,_,_,_,h6⟩:=e;obtain⟨oc,odi,oda,osl⟩:=ox;cases h2;cases h3;cases h6;refine wpAny_bind (wpAny_pure (wpAny_bind (wpAny_bind (wpAny_loadPart h1 (wpAny_bind (Looks.here (s:=⟨h,g,d,t,os⟩) (looks_clsIn X hc) ?_))))));rw[hd];refine wpAny_pure (a:=some dx) (wpAny_bind (wpAny_pure (wpAny_bind ?_)));refine wpAny_nsSet1 (s:=⟨h,g,d,t,os⟩) hn fun h' hn2 hs2=>?_;obtain⟨oD,esD,epD,hoD,hdD,hcD⟩:=hn2.count (PySem.Within.cons name v hw);refine wpAny_bind (wpAny_lookBehind hoD (by rw[hdD];exact pastItsLine_dict (Nat.le_trans hcD (by rw[List.length_cons];omega))) ?_);exact wpAny_pure (hq _ _ hn2 hs2)
theorem qcf {x:Addr} {name:Str} {tk:Tok} {v:Value} {Q:PySem.Fin→Shared→Prop} {cd:ClassData} (X:K.In h) (e:Ni x C none h) (hc:clsIn K C=some cd) (hd:cd.hasDict=true)
    (hq:∀h' t',h'.Ns1 h.objs.size (fun y=>if y=name then some v else none)→(∀b o,b≠x→h.get? b=some o→h'.get? b=some o)→Ni x C (some h.objs.size) h'→Q (.done (.ret .none)) ⟨h',g,d,t',os⟩) :
    wpAny (model prog w) A (Builtin.ObjectAttr.storeInOwnDict (.ref x) (.ref C) (.str name tk) name v false) Q E ⟨h,g,d,t,os⟩:=by
  obtain⟨ox,vs,t0,h1,h2,h3,h40,h41,h42,h6⟩:=e;obtain⟨oc,odi,oda,osl⟩:=ox;cases h2;cases h3;cases h6;refine wpAny_bind (wpAny_pure (wpAny_bind (wpAny_bind (wpAny_loadPart h1 (wpAny_bind (Looks.here (s:=⟨h,g,d,t,os⟩) (looks_clsIn X hc) ?_))))));rw[hd,if_neg (by decide)];show wpAny _ _ (if (!true || !typeHasDict (Value.ref C))=true then pure none else _) _ _ _
  rw[if_neg (by simp[typeHasDict])];have hxs:x≠h.objs.size:=Nat.ne_of_lt (Heap.lt_size h1);have h1':(h.push {cls:=.type "dict",data:=.dict #[]}).get? x=some ⟨.ref C,none,.fields vs,osl⟩:=Heap.get?_push_of_some _ h1;refine wpAny_bind (wpAny_alloc' ?_);refine wpAny_bind (wpAny_update' h1' ?_);refine wpAny_pure ?_;generalize hG:((h.push {cls:=.type "dict",data:=.dict #[]}).update x fun o=>{cls:=o.cls,dict:=some h.objs.size,data:=o.data,slots:=o.slots})=G;have g1:G.get? h.objs.size=some {cls:=.type "dict",data:=.dict #[]}:=by
    rw[← hG];exact(Heap.get?_update_ne _ _ _ _ hxs.symm).trans (Heap.get?_push_at rfl rfl)
  have g2:G.get? x=some ⟨.ref C,some h.objs.size,.fields vs,osl⟩:=by
    rw[← hG];exact Heap.get?_update_self _ h1' rfl
  have g3:∀b o,b≠x→h.get? b=some o→G.get? b=some o:=fun b o hb z=>by
    rw[← hG];exact(Heap.get?_update_ne _ _ _ _ hb).trans (Heap.get?_push_of_some _ z)
  have hnd:G.Ns h.objs.size (fun _=>none):=⟨_,#[],_,g1,rfl,fun e he=>absurd he (by simp),fun _=>rfl⟩;show wpAny _ _ (Builtin.ObjectAttr.storeInDict h.objs.size (.str name tk) name v) _ _ _;unfold Builtin.ObjectAttr.storeInDict Builtin.ObjectAttr.newKeyGuard;refine wpAny_bind (wpAny_pure (wpAny_bind (wpAny_nsSet1 (Heap.Ns1.of_empty hnd) fun h' hn' hs=>?_)));obtain⟨oD,esD,epD,hoD,hdD,hcD⟩:=hn'.count (Within.cons name v Within.nil);refine wpAny_bind (wpAny_lookBehind hoD (by rw[hdD];exact pastItsLine_dict (Nat.le_trans hcD (by rw[List.length_cons,List.length_nil,sizeLine_eq];omega))) ?_);exact wpAny_pure (hq _ _ hn' (fun b o hb z=>(hs.2 b (Nat.ne_of_lt (Heap.lt_size z))).trans (g3 b o hb z)) ⟨_,vs,t0,(hs.2 x hxs).trans g2,rfl,rfl,h40,h41,h42,rfl⟩)
end
end L2
namespace L2
open PySem PySem.Spec PyProof.Rows
def dJ (x C:Addr) (od:Option Addr):HO:=.ext fun h=>Ni x C od h
def iD (dx:Addr) (fs:List (Str×V)):HO:=.ext fun h=>fs.length≤1000∧∃mA,h.Ns1 dx mA∧(∀f,mF (fs.lookup f) (mA f))∧PySem.Within mA (fs.map (·.1))
section
variable {P:Program} {w:World} {H:Hp} {h:Heap} {x C dx:Addr} {od:Option Addr} {fs:List (Str×V)}
theorem Nj (e:Ni x C od h):cj P w H h x (dJ x C od):=by
  obtain⟨ox,vs,t0,h1,h2⟩:=id e;exact⟨e,⟨ox,h1⟩,fun g1 g2 ⟨ox,vs,t0,a1,a2⟩ k=>⟨ox,vs,t0,k _ a1,a2⟩⟩
theorem Em (ok:pq P w H h) (e:H x=some (dJ x C od)):Ni x C od h:=((show cj P w H h x (dJ x C od) from ok _ _ e)).1
theorem Vj {mA:Str→Option Value} (hl:fs.length≤1000) (hn:h.Ns1 dx mA) (hr:∀f,mF (fs.lookup f) (mA f)) (hw:PySem.Within mA (fs.map (·.1))):cj P w H h dx (iD dx fs):=by
  obtain⟨o,es,ep,h1,h2⟩:=id hn;exact⟨⟨hl,mA,hn,hr,hw⟩,⟨o,h1⟩,fun g1 g2 ⟨c,mB,⟨o,es,ep,a1,a2⟩,b⟩ k=>⟨c,mB,⟨o,es,ep,k _ a1,a2⟩,b⟩⟩
theorem qcg (ok:pq P w H h) (e:H dx=some (iD dx fs)):fs.length≤1000∧∃mA,h.Ns1 dx mA∧(∀f,mF (fs.lookup f) (mA f))∧PySem.Within mA (fs.map (·.1)):=((show cj P w H h dx (iD dx fs) from ok _ _ e)).1
theorem qe5 {o:HO} (e:H x=some o):upd H x o=H:=funext fun b=>by
  by_cases hb:b=x
  ·subst hb;rw[ao,e]
  ·rw[aB hb]
end
section
variable {X:Cx} {p_:List (Addr×Obj)} {σ:St} {H:Hp} {s:Shared}
theorem Inv.qe6 {a:Addr} {ob:HO} (I:Inv X p_ σ H s) (hex:X.ex=[]) (new:X.s₀.heap.get? a=none) (un:H a=none) (e:∃ox vs,s.heap.get? a=some ox∧ox.data = .fields vs) (ok:cj X.prog X.w (upd H a ob) s.heap a ob) (hp:∀p∈X.pn++p_,p.1≠a):Inv X p_ σ (upd H a ob) s:=by
  have nf:∀{b o},s.heap.get? b=some o→(∀vs,o.data≠.fields vs)→b≠a:=fun {b o} eb hd z=>by
    subst z;obtain⟨ox,vs,h1,h3⟩:=e;rw[eb] at h1;cases h1;exact hd vs h3
  have old:∀{b o},X.s₀.heap.get? b=some o→b≠a:=fun {b o} eb z=>by
    rw[z,new] at eb;cases eb
  have ne:∀{b:Addr} {u:HO},H b=some u→b≠a:=fun {b u} q z=>by
    rw[z,un] at q;cases q
  refine⟨I.ok,I.os,I.bare,⟨fun b o eb n hb hx=>I.base.keep b o eb n hb hx,I.base.slot,fun b o eb n hx=>?_,I.base.there,fun b xs q=>?_,fun b o u q=>?_,fun b ps q=>?_⟩,I.loc,I.cell,?_,fun x c q=>?_,fun p hpp=>?_,fun b u q=>?_,I.len⟩
  ·rw[aB (old eb)];exact I.base.free b o eb n hx
  ·have z:=I.base.tups b xs q;rw[aB (ne z)];exact z
  ·have z:=I.base.qg b o u q;rw[aB (ne z)];exact z
  ·obtain⟨m,z⟩:=I.base.rM b ps q;exact⟨m,by rw[aB (ne z)];exact z⟩
  ·obtain⟨m,⟨o,es,ep,eo,d,r⟩,_⟩:=I.loc;rw[aB (nf eo fun vs y=>by rw[d] at y;cases y)];exact I.free
  ·obtain⟨v,o,eo,d⟩:=I.cell x c q;rw[aB (nf eo fun vs y=>by rw[d] at y;cases y)];exact I.iw x c q
  ·obtain⟨f1,f2,f3⟩:=I.pin p hpp;refine⟨f1,?_,f3⟩;rw[aB (hp p hpp)];exact f2
  · by_cases hb:b=a
    ·subst hb;rw[ao] at q;cases q;exact ok
    · rw[aB hb] at q;refine(I.hok b u q).stay (fun c v _ z=>z) (fun c z=>?_) fun c xs z=>?_
      ·rw[aB (ne z)];exact z
      ·rw[aB (ne z)];exact z
theorem Inv.qgS {e C:Addr} {args:List Value} {h':Heap} (I:Inv X p_ σ H s) (hex:X.ex=[]) (mk:Heap.MadeExcOf s.heap h' e (.ref C) args):H e=none∧Inv X p_ σ (upd H e (dJ e C none)) {s with heap:=h'}:=by
  have un:=Sx I.hok mk.new;obtain⟨t0,ht,_⟩:=mk.there;have I2:Inv X p_ σ H {s with heap:=h',toks:=s.toks}:=I.kept mk.keeps;refine⟨un,I2.qe6 hex (I.old hex mk.new) un ⟨_,_,ht,rfl⟩ (Nj ⟨_,_,t0,ht,rfl,rfl,rfl,rfl,rfl,rfl⟩) fun p hp z=>?_⟩;have e1:=(I.pin p hp).1;rw[z,mk.new] at e1;cases e1
end
structure XMk (K:W.Frag) (C B f:Addr):Prop where
  ob:∃nm q N bs hdct sn sub ab col dd k0 k1 k2 k3 k5,K.lookup C=some (excClassObj nm q C N bs (.ref B::fO) hdct sn sub ab col dd k0 k1 k2 k3 k5 "ValueError.__new__")
  pe:gJ K B
  pm:∃cd,W.clsIn K B=some cd∧cd.mro = .ref B::fO
  init:W.findIn K (.ref C) "__init__" = some (some (.ref f))
  fn:W.typeIn K (.ref f)=some (.type "function")
  kp:W.keepIn K (.ref C)=true
theorem XMk.tail {K:W.Frag} {C B f:Addr} {h:Heap} (M:XMk K C B f) (X:K.In h):OwnTail h fO (.ref B::fO):=by
  obtain⟨bm,N,nm,qn,bs,hdct,sn,sub,ab,col,dd,k0,k1,k2,k3,k5,mN,hC0,hN0,hni,T0,_⟩:=El X M.pe;obtain⟨cd,h1,h2⟩:=M.pm;have e:bm=fO:=by
    unfold W.clsIn at h1;split at h1
    ·rename_i c' d' cd' sl' ho;cases h1;have z:=X _ _ ho;rw[hC0] at z;cases z;simpa using h2
    ·cases h1
  subst e;exact .own hC0 hN0 hni .base
section
variable {X:Cx} {C B f:Addr} {x:Str} {np p pos apos:Pos} {e:Expr} {es:List Expr} {t:TA}
structure qgT (K:W.Frag) (B:Addr):Prop where
  sg:W.specialIn K (.ref B) "__getattribute__" = some (some (.builtin "type.__getattribute__"))
  rd:W.readsIn K B (.type "type")=true
  fc:W.findCls K (.ref B) (.type "type") "__init__" = some (.val (.builtin "ValueError.__init__"))
def qdx (C:Addr) (t:TA):TE:=fun σ H Q=>t σ H fun vs H1=>ar2 vs fun v y=>isRef v fun a=>∃od,H1 a=some (dJ a C od)∧Q .non H1
@[simp ↓] theorem qiT C t σ H Q:qdx C t σ H Q=t σ H fun vs H1=>ar2 vs fun v y=>isRef v fun a=>∃od,H1 a=some (dJ a C od)∧Q .non H1:=rfl
theorem Vk {pl:Sem Bool} (M:XMk X.K C B f) (N:qgT X.K B) (hg:Gl X x) (hm:X.mg x=some (.ref B)) (ha:PA X (e::es) t) (hdb:(x == ("__debug__" : Str))=false:=by decide)
    (he:starEach (e::es) X.env=(false,eval e X.env)::starEach es X.env:=by rfl) (hpl:(backTo pos (starEach es X.env)).any (·.1)=false:=by rfl)
    (ht:eval (.Call (.Attribute (.Name x np) "__init__" apos) (e::es) [] pos) X.env=(do
      let ov ← eval (.Name x np) X.env
      standAt apos.atName
      let (f,first) ← holding [ov] (getMethod ov "__init__" pl)
      callWith pos f first (backTo pos (starEach (e::es) X.env)) (backToKw pos (keywordEach [] X.env))):=by rfl) :
    PE X (.Call (.Attribute (.Name x np) "__init__" apos) (e::es) [] pos) (qdx C t):=by
  intro p_ s σ H Q I h;refine W.methodCall_KW (pl:=pl) (lV I hg hm ?_ hdb) ht;refine W.method_cls I.mZ N.sg (W.cls_value I.mZ N.rd N.fc rfl ?_);have I0:Inv X p_ σ H {s with toks:=s.toks+1}:=I.tok _;refine PyProof.Rows.callWith_builtin1 (cR (ha pos p_ _ σ H _ I0 h) fun us s1 zz=>?_) he hpl;obtain⟨vs,H1,I1,r,q⟩:=zz;obtain⟨v,y,rfl,q⟩:=ar2.out q;obtain⟨a,rfl,od,ea,q⟩:=isRef.out q;obtain⟨u1,u2,rfl,r1,r2⟩:=r.two;obtain rfl:u1=Value.ref a:=r1;obtain⟨nm,qn,N,bs,hdct,sn,sub,ab,col,dd,k0,k1,k2,k3,k5,hC⟩:=M.ob;have T:=M.tail I1.mZ;have hC1:=I1.mZ _ _ hC;obtain⟨ox,vs,t0,h1,h2,h3,h4,h5,h6,h7⟩:=Em I1.hok ea;obtain⟨hh,g,d,tk,os⟩:=s1;refine qcd T hC1 h1 h2 h3 h4 (fun h' t1 keep he'=>?_) (by show 1≤sizeLine;decide);have sz:0<vs.size:=(Array.getElem?_eq_some_iff.mp h4).1;have new:Ni a C od h':=⟨_,vs.setIfInBounds 0 (.ref t1),t1,he',h2,rfl,by simp[sz],by rw[Array.getElem?_setIfInBounds_ne (by decide)];exact h5,by rw[Array.getElem?_setIfInBounds_ne (by decide)];exact h6,h7⟩;have I2:Inv X p_ σ (upd H1 a (dJ a C od)) {(⟨hh,g,d,tk,os⟩:Shared) with heap:=h',toks:=tk}:=I1.write (x:=a) (e:=a) (by rw[ea];exact True.intro) (.inl rfl) keep ⟨_,he'⟩ (Nj new);rw[qe5 ea] at I2;exact⟨.non,H1,I2,rfl,q⟩
end
section
variable {X:Cx} {C B:Addr} {o value:Expr} {f:Str} {pos pos':Pos} {ta tv:TE}
def sX0 (C:Addr) (ta tv:TE) (f:Str):TS:=fun D σ H=>tv σ H fun y H1=>ta σ H1 fun x H2=>isRef x fun a=>H2 a=some (dJ a C none)∧∀dx,H2 dx=none→D.nx σ (upd (upd H2 dx (iD dx [(f,y)])) a (dJ a C (some dx)))
@[simp ↓] theorem qkN C ta tv f D σ H:sX0 C ta tv f D σ H=tv σ H fun y H1=>ta σ H1 fun x H2=>isRef x fun a=>H2 a=some (dJ a C none)∧∀dx,H2 dx=none→D.nx σ (upd (upd H2 dx (iD dx [(f,y)])) a (dJ a C (some dx))):=rfl
theorem qdy (S:nY X.K C B) (hn:W.findIn X.K (.ref C) f=some none) (ha:PE X o ta) (hv:PE X value tv) (hs:swapsWith value (some (.Attribute o f pos')) pos.line X.env=pure false):PS X (.Assign [.Attribute o f pos'] value pos) (sX0 C ta tv f):=by
  intro p_ s σ H D I h;refine plainObj_wpAny_Assign_Attribute (cR (hv p_ s σ H _ I h) fun u s1 z1=>?_) hs;obtain⟨y,H1,I1,ry,q⟩:=z1;refine cR (ha p_ s1 σ H1 _ I1 q) fun ov s2 z2=>?_;obtain⟨x,H2,I2,rx,q2⟩:=z2;obtain⟨a,rfl,ea,q2⟩:=isRef.out q2;obtain rfl:ov=Value.ref a:=rx;have E0:=Em I2.hok ea;obtain⟨cd,hc,_,hd⟩:=S.cl;have O7:=I2.mZ;refine qah O7 E0.at S hn fun A'=>?_;obtain⟨hh,g,d,tk,os⟩:=s2;refine qcf O7 E0 hc hd fun h' t' hns keep E1=>⟨rfl,?_⟩;have hf:H2 hh.objs.size=none:=I2.hok.fresh (Nat.le_refl _);obtain⟨oD,es,ep,eD,rest⟩:=id hns;obtain⟨ox,_,_,ex1,_⟩:=id E0;have axs:a≠hh.objs.size:=Nat.ne_of_lt (Heap.lt_size ex1);have nfr:oD.isFreed=false:=(Heap.get?_some_iff.mp eD).2;have hgD:(hh.push oD).get? hh.objs.size=some oD:=Heap.get?_push_size hh nfr;have hns':(hh.push oD).Ns1 hh.objs.size (fun y'=>if y'=f then some u else none):=⟨oD,es,ep,hgD,rest⟩
  have rel:∀f',mF ([(f,y)].lookup f') (if f'=f then some u else none):=fun f'=>by
    have e:=m5 f f' y [];rw[show[(f,y)].lookup f'=(jD f y []).lookup f' from rfl,e]
    by_cases z:f'=f
    ·rw[if_pos z,if_pos z];exact ry
    ·rw[if_neg z,if_neg z];exact True.intro
  have wi:PySem.Within (fun y'=>if y'=f then some u else none) ([(f,y)].map (·.1)):=Within.cons f u Within.nil
  have I3:Inv X p_ σ (upd H2 hh.objs.size (iD hh.objs.size [(f,y)])) {(⟨hh,g,d,tk,os⟩:Shared) with heap:=hh.push oD,toks:=tk}:=I2.laid (fun b o z=>Heap.get?_push_of_some _ z) (Nat.le_refl _) (Vj (by show(1:Nat)≤1000;decide) hns' rel wi);have I4:Inv X p_ σ (upd (upd H2 hh.objs.size (iD hh.objs.size [(f,y)])) a (dJ a C (some hh.objs.size))) {(⟨hh.push oD,g,d,tk,os⟩:Shared) with heap:=h',toks:=t'}:=by
    refine I3.write (x:=a) (e:=a) (by rw[aB axs,ea];exact True.intro) (.inl rfl) (fun b o hb z=>?_) ?_ (Nj E1)
    · by_cases hbs:b=hh.objs.size
      ·subst hbs;rw[hgD] at z;cases z;exact eD
      ·rw[Heap.get?_push_ne _ _ _ hbs] at z;exact keep b o hb z
    ·obtain⟨ox',_,_,z,_⟩:=id E1;exact⟨_,z⟩
  exact⟨σ,_,I4,q2 _ hf⟩
def sX1 (C:Addr) (ta tv:TE) (f:Str):TS:=fun D σ H=>tv σ H fun y H1=>ta σ H1 fun x H2=>isRef x fun a=>∃dx fs,H2 a=some (dJ a C (some dx))∧H2 dx=some (iD dx fs)∧fs.length<1000∧D.nx σ (upd H2 dx (iD dx (jD f y fs)))
@[simp ↓] theorem qkO C ta tv f D σ H:sX1 C ta tv f D σ H=tv σ H fun y H1=>ta σ H1 fun x H2=>isRef x fun a=>∃dx fs,H2 a=some (dJ a C (some dx))∧H2 dx=some (iD dx fs)∧fs.length<1000∧D.nx σ (upd H2 dx (iD dx (jD f y fs))):=rfl
theorem qgU (S:nY X.K C B) (hn:W.findIn X.K (.ref C) f=some none) (ha:PE X o ta) (hv:PE X value tv) (hs:swapsWith value (some (.Attribute o f pos')) pos.line X.env=pure false):PS X (.Assign [.Attribute o f pos'] value pos) (sX1 C ta tv f):=by
  intro p_ s σ H D I h;refine plainObj_wpAny_Assign_Attribute (cR (hv p_ s σ H _ I h) fun u s1 z1=>?_) hs;obtain⟨y,H1,I1,ry,q⟩:=z1;refine cR (ha p_ s1 σ H1 _ I1 q) fun ov s2 z2=>?_;obtain⟨x,H2,I2,rx,q2⟩:=z2;obtain⟨a,rfl,dx,fs,ea,ed,hl,q2⟩:=isRef.out q2;obtain rfl:ov=Value.ref a:=rx;have E0:=Em I2.hok ea;obtain⟨hl0,mA,hns,hr,hw⟩:=qcg I2.hok ed;obtain⟨cd,hc,_,hd⟩:=S.cl;have O7:=I2.mZ;refine qah O7 E0.at S hn fun A'=>?_;obtain⟨hh,g,d,tk,os⟩:=s2;refine qce O7 E0 hns hc hd hw (by rw[List.length_map,sizeLine_eq];omega) fun h' t' hns' sb=>⟨rfl,?_⟩;have he:∃o,h'.get? dx=some o:=let ⟨o,_,_,e',_⟩:=hns';⟨o,e'⟩;have I4:Inv X p_ σ (upd H2 dx (iD dx (jD f y fs))) {(⟨hh,g,d,tk,os⟩:Shared) with heap:=h',toks:=t'}:=by
    refine I2.write (x:=dx) (e:=dx) (by rw[ed];exact True.intro) (.inl rfl) (fun b o hb z=>(sb.2 b hb).trans z) he (Vj ?_ hns' (fun g'=>?_) fun g' hg=>?_)
    ·have:=rZ f y fs;omega
    · show mF ((jD f y fs).lookup g') (if g'=f then some u else mA g')
      rw[m5]
      by_cases z:g'=f
      ·rw[if_pos z,if_pos z];exact ry
      ·rw[if_neg z,if_neg z];exact hr g'
    · by_cases z:g'=f
      ·rw[z];exact(pC f y fs).1
      · refine(pC f y fs).2 g' (hw g' fun y'=>hg ?_);show(if g'=f then some u else mA g')=none
        rw[if_neg z];exact y'
  exact⟨σ,_,I4,q2⟩
end
inductive Lf:V→PyData→Prop
  | non:Lf .non .none
  | bl (b):Lf (.bl b) (.bool b)
  | int (i):Lf (.int i) (.int i)
  | str (x):Lf (.str x) (.str x)
inductive GQ:List (Str×V)→List (PyData×PyData)→Prop
  | nil:GQ [] []
  | cons {x v d ks kvs}:Lf v d→GQ ks kvs→GQ ((x,v)::ks) ((.str x,d)::kvs)
section
variable {X:Cx} {p_:List (Addr×Obj)} {σ:St} {H:Hp} {s:Shared}
theorem Lf.reads {v:V} {d:PyData} {u:Value} {h:Heap} (l:Lf v d) (r:RelV v u):Reads h u d []:=by
  cases l with
  | non=>cases r;exact .none
  | bl b=>cases r;exact .bool b
  | int i=>obtain⟨t,rfl⟩:=r;exact .int i t
  | str x=>obtain⟨t,rfl⟩:=r;exact .str x t
theorem Qu {P:Program} {w:World} {h:Heap}:∀{ks:List (Str×V)} {kvs:List (PyData×PyData)} {vs:List (Key×Value)} {es:List DictEntry},GQ ks kvs→KV (ks.map fun e=>((Sum.inr e.1:Key),e.2)) vs→Pairs (aV P w) es vs→
    ReadsAll h (es.map (·.key)) (kvs.map (·.1)) []∧ReadsAll h (es.map (·.val)) (kvs.map (·.2)) []
  | _,_,_,_,.nil,kv,ps=>by
    cases kv;cases ps;exact⟨.nil,.nil⟩
  | _,_,_,_,.cons l ls,kv,ps=>by
    cases kv with
    | cons r rs=>
      cases ps with
      | cons h1 h2 h3=>
        obtain⟨i1,i2⟩:=Qu (h:=h) ls rs h3;obtain⟨r1,r2⟩:=r;simp only at r1 r2;rw[← r1] at h1;rw[Fx] at h1
        rcases cN h1 with⟨i,t,e,_⟩ | ⟨x,t,e,ek⟩
        ·cases e
        ·cases e;simp only[List.map_cons];rw[ek,h2];exact⟨.cons (.str _ t) i1,.cons (l.reads r2) i2⟩
theorem Dh {P:Program} {w:World} {h:Heap} {a:Addr} {ks:List (Str×V)} {kvs:List (PyData×PyData)} (ok:pq P w H h) (l:GQ ks kvs) (e:H a=some (.dK (ks.map fun e=>((Sum.inr e.1:Key),e.2)))):Reads h (.ref a) (.dict kvs) [a]∧(a == sysModules)=false:=by
  obtain⟨_,hd,vs,kv,o,es,ep,h1,h2,h3,_,h5,_⟩:=Gi ok e;refine⟨?_,hd⟩;obtain⟨r1,r2⟩:=Qu (h:=h) l kv h5;exact Reads.dict (as:=[]) (bs:=[]) h1 h2.1 h3 r1 r2
inductive Shw (H:Hp):PyData→V→Prop
  | thg {d v}:jd H d v→d.hasDict=false→Shw H d v
  | dic {a ks kvs}:GQ ks kvs→H a=some (.dK (ks.map fun e=>((Sum.inr e.1:Key),e.2)))→Shw H (.dict kvs) (.ref a)
theorem Shw.same {H H':Hp} {d:PyData} {v:V} (h:Shw H d v) (s:Same H H'):Shw H' d v:=by
  cases h with
  | thg h1 h2=>exact .thg (jd.same s d v h1) h2
  | dic h1 h2=>exact .dic h1 (s _ _ h2)
def SJ:List V→Hp→VK→Prop:=fun xs H Q=>ar1 xs fun v=>∃d:PyData,Shw H d v∧d.showable=true∧d.depth≤32∧d.shown.length≤sizeLine∧Q (.str d.shown) H
@[simp ↓] theorem qgV xs H Q:SJ xs H Q=(ar1 xs fun v=>∃d:PyData,Shw H d v∧d.showable=true∧d.depth≤32∧d.shown.length≤sizeLine∧Q (.str d.shown) H):=rfl
theorem Qv (hg:X.A.guards=some []) (hu:X.A.units+64<cLine):cu X (.builtin "repr") SJ:=by
  intro p_ s σ H xs us Q I r h;obtain⟨v,rfl,d,hs,h1,h2,h3,q⟩:=ar1.out h;cases hs with
  | thg ht hd=>exact Qn hg hu p_ s σ H [v] us Q I r (show Gz [v] H Q from⟨d,ht,.inl (.inl hd),h1,h2,h3,q⟩)
  | dic hl he=>
    rename_i a ks kvs;obtain⟨u,rfl,ru⟩:=r.one;cases ru;obtain⟨ra,hd⟩:=Dh I.hok hl he;refine repr_of_reads' (h₀:=s.heap) ra h1 (fun _ hm=>?_) hg (by omega) (fun _ _ e=>e) (fun h' u tk hk=>⟨.str _,H,I.kept (t':=tk) hk,⟨u,rfl⟩,q⟩) h3;rw[List.mem_singleton] at hm;rw[← hm] at hd;simp at hd
end
structure yW (k n:Nat) (d:PyData):Prop where
  sh:d.showable=true
  dp:d.depth≤k
  ln:d.shown.length≤n
theorem yW.mono {k n k' n':Nat} {d:PyData} (h:yW k n d) (hk:k≤k') (hn:n≤n'):yW k' n' d:=⟨h.sh,Nat.le_trans h.dp hk,Nat.le_trans h.ln hn⟩
theorem bZ.or {P:Program} {w:World} {K:W.Frag} {mg:Str→Option Value} {base:Heap} {CX:Wf} {k:Nat} {f:Addr} {fd:FuncData} {ps:List Str} {sp sp':Sp} (F:bZ P w K mg base CX k f fd ps sp) (F':bZ P w K mg base CX k f fd ps sp') :
    bZ P w K mg base CX k f fd ps (fun vs H Q E=>sp vs H Q E∨sp' vs H Q E):=
  ⟨fun vs H Q E h=>h.elim (F.len vs H Q E) (F'.len vs H Q E),fun A outer s H args us vs Q E hr he hb hv h=>h.elim (F.run A outer s H args us vs Q E hr he hb hv) (F'.run A outer s H args us vs Q E hr he hb hv)⟩
end L2
namespace L2
open PySem PySem.Spec
section
variable {σ:St} {H:Hp} {p:Addr}
def GD (p:Addr) (t:TE) (σ:St) (H:Hp) (d:PyData):Prop:=∀(H1:Hp) (Q:VK),(∃o,H p=some o)→Same H H1→(∀v H2,Same H1 H2→jd (hid p H2) d v→Q v H2)→t σ H1 Q
def GDs (p:Addr) (t:TA) (σ:St) (H:Hp) (ds:List PyData):Prop:=∀(H1:Hp) (Q:List V→Hp→Prop),(∃o,H p=some o)→Same H H1→(∀vs H2,Same H1 H2→bJ (hid p H2) ds vs→Q vs H2)→t σ H1 Q
theorem lM {H1:Hp} {b:Addr} (h:∃o,H p=some o) (s:Same H H1) (hb:H1 b=none):b≠p:=fun z=>by
  obtain⟨o,e⟩:=h;have:=s _ _ e;rw[← z,hb] at this;cases this
theorem qy:GDs p Jq σ H []:=fun H1 Q _ _ q=>q [] H1 (Same.refl _) (by simp[bJ])
theorem mH {ta:TE} {tr:TA} {d:PyData} {ds:List PyData} (h1:GD p ta σ H d) (h2:GDs p tr σ H ds):GDs p (vm ta tr) σ H (d::ds):=fun H1 Q hp s q=>
  h1 H1 _ hp s fun v H2 s2 hv=>h2 H2 _ hp (s.trans s2) fun vs H3 s3 hvs=>q _ H3 (s2.trans s3) (by simp only[bJ];exact⟨v,vs,rfl,jd.same (kj s3) d v hv,hvs⟩)
theorem qai {t:TA} {ds:List PyData} (h:GDs p t σ H ds) (hl:ds.length≤sizeLine):GD p (YW t) σ H (.list ds):=fun H1 Q hp s q=>
  h H1 _ hp s fun vs H2 s2 hv=>⟨by rw[← hv.length];exact hl,fun b hb=>q _ _ (s2.trans (aA hb)) (by simp only[jd];exact⟨b,vs,rfl,iC (lM hp (s.trans s2) hb) ao,bJ.same (kj (aA hb)) ds vs hv⟩)⟩
theorem Nk {t:TA} {ds:List PyData} (h:GDs p t σ H ds) (hl:ds.length≤sizeLine):GD p (qem t) σ H (.tuple ds):=fun H1 Q hp s q=>
  h H1 _ hp s fun vs H2 s2 hv=>⟨by rw[← hv.length];exact hl,fun b hb=>q _ _ (s2.trans (aA hb)) (by simp only[jd];exact⟨b,vs,rfl,iC (lM hp (s.trans s2) hb) ao,bJ.same (kj (aA hb)) ds vs hv⟩)⟩
theorem qe7:GD p (tC .non) σ H .none:=fun H1 Q _ s q=>q _ H1 (Same.refl _) (by simp[jd])
theorem Az {i:Int}:GD p (tC (.int i)) σ H (.int i):=fun H1 Q _ s q=>q _ H1 (Same.refl _) (by simp[jd])
theorem qgW {i:Bool}:GD p (tC (.bl i)) σ H (.bool i):=fun H1 Q _ s q=>q _ H1 (Same.refl _) (by simp[jd])
theorem qaj {i:Str}:GD p (tC (.str i)) σ H (.str i):=fun H1 Q _ s q=>q _ H1 (Same.refl _) (by simp[jd])
theorem getSt.of:∀{σ:St} {i:Nat} {v:V} {R:V→Prop},σ[i]? = some (some v)→R v→getSt σ i R
  | [],_,_,_,h,_=>by simp at h
  | o::_,0,v,R,h,r=>by simp at h;subst h;exact r
  | _::σ,n+1,v,R,h,r=>getSt.of (σ:=σ) (i:=n) (by simpa using h) r
variable {φ:PyData→Prop}
structure big (t:TE) (σ:St) (H:Hp) (Q:VK):Prop where
  out:t σ H Q
theorem qe8 {X:Cx} {e:Expr} {t:TE} (h:PE X e t):PE X e (big t):=PE.mono h fun h=>h.out
end
end L2
namespace L2
open PySem
theorem qak {K:W.Frag} {C:Addr}:W.kitOne K (.ref C) (.ref C)=some true:=by
  unfold W.kitOne;simp
theorem qch {K:W.Frag} {C D:Addr} {b:Bool} (ne:(C == D)=false) (i:W.isClsIn K D=true) (t:W.typeIn K (.ref D)=some (.type "type")) (s:W.subIn K (.ref C) (.ref D)=some b):W.kitOne K (.ref C) (.ref D)=some b:=by
  have i':(W.clsIn K D).isSome=true:=i;have ne':C≠D:=by simpa using ne
  unfold W.kitOne W.kitCls;rw[if_neg (by simpa using ne')];show(if _ then _ else _)=_
  rw[if_pos (by rw[i',t];rfl)];exact s
theorem qe9:W.kitMeta "ValueError" = true:=by decide+kernel
theorem qe_ {K:W.Frag} {C:Addr} {T:String} {b:Bool} (m:W.kitMeta T=true) (s:W.subIn K (.ref C) (.type T)=some b):W.kitOne K (.ref C) (.type T)=some b:=by
  unfold W.kitOne W.kitCls;rw[if_neg (by simp)];show(if _ then _ else _)=_
  rw[if_pos m];exact s
end L2
namespace L2
open PySem PySem.Spec PyProof.Rows PySem.SeqAt
section
variable {X:Cx} {K:W.Frag}
theorem vZ:∀{bs:List Bool} {its:List Value},Vals (bs.map V.bl) its→its=bs.map Value.bool
  | [],_,r=>by rw[List.map_nil] at r;cases r;rfl
  | b::bs,_,r=>by
    rw[List.map_cons] at r;cases r with
    | cons r1 r2=>
      rw[vZ r2];cases (show _=Value.bool b from r1);rfl
def Vl (K:W.Frag):V→List V→Hp→VK→Prop:=fun x vs H Q=>isRef x fun l=>ar1 vs fun y=>mG y fun k=>∃bs:List Bool,bU K H l (bs.map V.bl)∧Q (.int (bs.count k:Nat)) H
@[simp ↓] theorem qfS (K:W.Frag) x vs H Q:Vl K x vs H Q=(isRef x fun l=>ar1 vs fun y=>mG y fun k=>∃bs:List Bool,bU K H l (bs.map V.bl)∧Q (.int (bs.count k:Nat)) H):=rfl
theorem SM (hK:X.K=K):Wg X "list.count" (Vl K):=by
  subst hK;intro p_ s σ H x xs v us Q I rx rs q;obtain⟨l,rfl,q⟩:=isRef.out q;obtain⟨y,rfl,q⟩:=ar1.out q;obtain⟨k,rfl,bs,hl,q⟩:=mG.out q;obtain⟨u,rfl,ru⟩:=rs.one;cases (show u=Value.bool k from ru);obtain rfl:v=Value.ref l:=rx;obtain⟨its,rv,pl,hz1⟩:=I.list hl;have hi:=vZ rv;subst hi;obtain⟨⟨cls,dd,data,sl⟩,ho,hc,n,hd⟩:=pl.isList;simp only at hc hd;subst hc hd;refine call_meets PySem.F.slot_list_count ⟨_,ho,rfl⟩ PySem.F.entry_list_count (PySem.F.args_list_count_2 _ _) (list_countAt l _ n dd sl (.bool k) (isBoolOf k)) ⟨ho,fun y hy=>?_,?_⟩
  · simp at hy
    rcases hy with⟨_,rfl⟩ | ⟨_,rfl⟩
    ·exact EqAt.bool_bool false k
    ·exact EqAt.bool_bool true k
  · have e:((bs.map Value.bool).toArray.toList.countP (isBoolOf k):Nat)=bs.count k:=by
      show(bs.map Value.bool).countP (isBoolOf k)=_;rw[List.countP_map];rfl
    rw[e];exact⟨.int _,H,I.tok _,⟨_,rfl⟩,q⟩
theorem Di {k:Bool}:∀{bs:List Bool} {j:Nat},j<bs.idxOf k→∀hj:j<bs.length,(bs[j] == k)=false
  | [],j,h,hj=>by simp at hj
  | b::bs,0,h,hj=>by
    rw[List.idxOf_cons] at h;cases e:(b == k) with
    | true=>rw[e] at h;simp at h
    | false=>simpa using e
  | b::bs,j+1,h,hj=>by
    rw[List.idxOf_cons] at h;cases e:(b == k) with
    | true=>rw[e] at h;simp at h
    | false=>
      rw[e] at h;simp only[cond_false] at h;simpa using Di (bs:=bs) (j:=j) (by omega) (by simpa using hj)
def Vm (K:W.Frag):V→List V→Hp→VK→Prop:=fun x vs H Q=>isRef x fun l=>ar1 vs fun y=>mG y fun k=>∃bs:List Bool,bU K H l (bs.map V.bl)∧k∈bs∧Q (.int (bs.idxOf k:Nat)) H
@[simp ↓] theorem qfT (K:W.Frag) x vs H Q:Vm K x vs H Q=(isRef x fun l=>ar1 vs fun y=>mG y fun k=>∃bs:List Bool,bU K H l (bs.map V.bl)∧k∈bs∧Q (.int (bs.idxOf k:Nat)) H):=rfl
theorem SN (hK:X.K=K):Wg X "list.index" (Vm K):=by
  subst hK;intro p_ s σ H x xs v us Q I rx rs q;obtain⟨l,rfl,q⟩:=isRef.out q;obtain⟨y,rfl,q⟩:=ar1.out q;obtain⟨k,rfl,bs,hl,hk,q⟩:=mG.out q;obtain⟨u,rfl,ru⟩:=rs.one;cases (show u=Value.bool k from ru);obtain rfl:v=Value.ref l:=rx;obtain⟨its,rv,pl,hz1⟩:=I.list hl;have hi:=vZ rv;subst hi;obtain⟨⟨cls,dd,data,sl⟩,ho,hc,n,hd⟩:=pl.isList;simp only at hc hd;subst hc hd;have hj:bs.idxOf k<bs.length:=List.idxOf_lt_length_iff.mpr hk;have hz2:bs.length≤sizeLine:=by simpa using hz1
  have hs:sizeLine=2 ^ 24:=rfl;refine call_meets PySem.F.slot_list_index ⟨_,ho,rfl⟩ PySem.F.entry_list_index (PySem.F.args_list_index_2 _ _)
    (list_indexAt l _ n dd sl (.bool k) (isBoolOf k) (bs.idxOf k) (by simpa using hj) (by omega) ?_ ?_) ⟨ho,fun y hy=>?_,⟨.int _,H,I.tok _,⟨_,rfl⟩,q⟩⟩
  ·simp[isBoolOf]
  ·intro j hjs hlt;have h:=Di hlt (by simpa using hjs);simpa [isBoolOf] using h
  · simp at hy
    rcases hy with⟨_,rfl⟩ | ⟨_,rfl⟩
    ·exact EqAt.bool_bool false k
    ·exact EqAt.bool_bool true k
end
structure XC (K:W.Frag) (C B:Addr):Prop where
  cl:∃cd,W.clsIn K C=some cd∧cd.mro = .ref C::.ref B::fO∧cd.hasDict=true
  ty:W.typeIn K (.ref C)=some (.type "type")
  ga:W.findIn K (.ref C) "__getattribute__" = some (some (.builtin "BaseException.__getattribute__"))
  gn:W.findIn K (.ref C) "__getattr__" = some none
  gc:W.findIn K (.ref C) "__class__" = some (some (.builtin "object.__class__"))
  kp:W.keepIn K (.ref C)=true
section
variable {K:W.Frag} {C D B:Addr}
theorem XC.mro (c:XC K C B) (v:Value):W.mroIn K C v=some ((Value.ref C::Value.ref B::fO).contains v):=by
  obtain⟨cd,h1,h2,_⟩:=c.cl;unfold W.mroIn;rw[h1,Option.bind_some,h2];rfl
theorem XC.is (c:XC K C B):W.isClsIn K C=true:=by
  obtain⟨cd,h1,_⟩:=c.cl;unfold W.isClsIn;rw[h1];rfl
theorem XC.ask (c:XC K C B) (sp:W.specialIn K (.builtin "object.__class__") "__get__" = some (some (.builtin "getset_descriptor.__get__"))) (tk:W.takesIn K (.builtin "object.__class__")=some true):Ay K C:=by
  obtain⟨cd,h1,_⟩:=c.cl;exact⟨⟨c.ga,c.gn,c.gc,sp,tk,by rw[c.mro];simp,by rw[c.mro];simp⟩,cd,h1⟩
theorem XC.set (c:XC K C B) (sa:W.findIn K (.ref C) "__setattr__" = some (some (.builtin "object.__setattr__"))):nY K C B:=by
  obtain⟨cd,h1,h2,h3⟩:=c.cl;exact⟨sa,by rw[c.mro];simp,cd,h1,h2,h3⟩
theorem XC.kit (c:XC K C B) (d:XC K D B) (hB:D≠B):Qs K C (.ref D)=some (decide (C=D)):=by
  show W.kitOne K (.ref C) (.ref D)=_
  by_cases h:C=D
  ·subst h;rw[qak,decide_eq_true rfl]
  ·rw[decide_eq_false h];refine qch (by simpa using h) d.is d.ty ?_;show W.mroIn K C (.ref D)=_;rw[c.mro];have h':D≠C:=fun z=>h z.symm;simp[h',hB]
theorem XC.qj6 (c:XC K C B):Qs K C (.ty "ValueError")=some true:=by
  refine qe_ qe9 ?_;show W.mroIn K C (.type "ValueError")=_;rw[c.mro];simp
end
def Np:List Addr→Bool
  | []=>true
  | a::l=>!l.contains a && Np l
theorem KN:∀{l:List Addr},Np l=true→l.Nodup
  | [],_=>List.Pairwise.nil
  | a::l,h=>by
    simp only[Np,Bool.and_eq_true,Bool.not_eq_true',List.contains_eq_mem,decide_eq_false_iff_not] at h;exact List.nodup_cons.mpr ⟨h.1,KN h.2⟩
def ar3 (vs:List V) (R:V→V→V→Prop):Prop:=match vs with
  | [u,v,w]=>R u v w
  | _=>False
@[simp ↓] theorem qkP u v w R:ar3 [u,v,w] R=R u v w:=rfl
end L2
namespace L2
open PySem PySem.Spec PyProof.Rows
section
variable {M:Model} {A:Around} {E:Value→Shared→Prop} {s:Shared} {env:Env}
variable {nm q:Str} {C N:Addr} {bs bm:List Value} {hdct:Bool} {sn:List Str} {sub:List Value} {ab:Bool} {col:Option Bool} {dd:Option Addr} {k0 k1 k2 k3 k5:Option Value} {newId:String}
theorem qci {x:Sem Value} {Q:Flow→Shared→Prop} (hh:A.handled=none)
    (h:wpAny M A x (fun v s1=>∃(a C:Addr) (oe:Obj) (vs:Array Value) (nm q:Str) (N:Addr) (bs bm:List Value) (hdct:Bool) (sn:List Str) (sub:List Value) (ab:Bool) (col:Option Bool) (dd:Option Addr) (k0 k1 k2 k3 k5:Option Value) (newId:String),v = .ref a∧bm.contains (.type "BaseException")=true∧
      s1.heap.get? C=some (excClassObj nm q C N bs bm hdct sn sub ab col dd k0 k1 k2 k3 k5 newId)∧s1.heap.get? a=some oe∧oe.cls = .ref C∧oe.data = .fields vs∧vs[1]? = some .none∧E (.ref a) s1) E s) :
    wpAny M A (raiseStmt env (some x) none) Q E s:=by
  unfold raiseStmt;refine wpAny_bind (wpAny_mono h (fun v s1 z=>?_) fun _ _ x=>x);obtain⟨a,C,oe,vs,nm,q,N,bs,bm,hdct,sn,sub,ab,col,dd,k0,k1,k2,k3,k5,newId,rfl,hb,hC,he,hc,hd,h1,hE⟩:=z;have hcB:(Value.ref C::bm).contains (.type "BaseException")=true:=by rw[List.contains_cons,hb,Bool.or_true]
  obtain⟨hp,g,d,tk,os⟩:=s1;obtain⟨oc,odd,oda,osl⟩:=oe;cases hc;cases hd
  repeat (first | with_reducible refine wpAny_loadPart_at he ?_ | with_reducible refine wpAny_loadPart_at hC ?_ | (with_reducible refine wpAny_isSubtype_exc hC ?_;rw[hcB]) | wp_step)
  rw[h1];refine wpAny_pure ?_;rw[if_neg (by decide)];exact wpAny_pure (wpAny_raiseNew_none hh hE)
end
section
variable {X:Cx} {p_:List (Addr×Obj)} {σ:St} {H:Hp} {s:Shared}
theorem Inv.qj7 {a:Addr} {φ:Heap→Prop} (I:Inv X p_ σ H s) (ea:H a=some (.ext φ)):Inv X p_ σ (hid a H) s:=by
  have ne:∀{b:Addr} {u:HO},hid a H b=some u→b≠a∧H b=some u:=fun {b u} z=>by
    unfold hid at z;split at z
    ·cases z
    ·rename_i h;exact⟨h,z⟩
  have kp:∀{b:Addr} {u:HO},b≠a→H b=some u→hid a H b=some u:=fun h z=>iC h z;have nn:∀{b:Addr},H b=none→hid a H b=none:=fun {b} z=>by
    unfold hid;split
    ·rfl
    ·exact z
  refine⟨I.ok,I.os,I.bare,⟨I.base.keep,I.base.slot,fun b o eb n hx=>nn (I.base.free b o eb n hx),I.base.there,fun b xs q=>?_,fun b o u q=>?_,fun b ps q=>?_⟩,I.loc,I.cell,nn I.free,fun x c q=>nn (I.iw x c q),fun p hpp=>?_,fun b u q=>?_,I.len⟩
  ·have z:=I.base.tups b xs q;exact kp (fun y=>by rw[y,ea] at z;cases z) z
  ·have z:=I.base.qg b o u q;exact kp (fun y=>by rw[y,ea] at z;cases z) z
  ·obtain⟨m,z⟩:=I.base.rM b ps q;exact⟨m,kp (fun y=>by rw[y,ea] at z;cases z) z⟩
  ·obtain⟨f1,f2,f3⟩:=I.pin p hpp;exact⟨f1,nn f2,f3⟩
  · obtain⟨hb,q'⟩:=ne q;refine(I.hok b u q').stay (fun c v _ z=>z) (fun c z=>?_) fun c xs z=>?_
    ·exact kp (fun y=>by rw[y,ea] at z;cases z) z
    ·exact kp (fun y=>by rw[y,ea] at z;cases z) z
end
section
variable {X:Cx} {E:XK} {k:Nat} {C B f:Addr} {fd:FuncData} {ps:List Str} {sp:Sp} {x:Str} {np cpos pos:Pos} {e:Expr} {es:List Expr} {t:TA}
def Vn (C:Addr) (sp:Sp) (E:XK) (t:TA):TS:=fun _ σ H=>t σ H fun vs H1=>vs.length≤sizeLine∧∀a,H1 a=none→R7 sp (.ref a::vs) (upd H1 a (dJ a C none)) (fun v H2=>v = .non∧∃od,H2 a=some (dJ a C od)∧E (.ref C) od (hid a H2)) ⟨0⟩ E0
@[simp ↓] theorem qfU C sp E t D σ H:Vn C sp E t D σ H=t σ H fun vs H1=>vs.length≤sizeLine∧∀a,H1 a=none→R7 sp (.ref a::vs) (upd H1 a (dJ a C none)) (fun v H2=>v = .non∧∃od,H2 a=some (dJ a C od)∧E (.ref C) od (hid a H2)) ⟨0⟩ E0:=rfl
theorem KQ (hL:Lets X E) (hex:X.ex=[]) (hc:X.calm=true) (M:XMk X.K C B f) (F:bZ X.prog X.w X.K X.mg X.base lB k f fd ps sp) (hr:iz (k+1) X.A) (hg:Gl X x) (hm:X.mg x=some (.ref C)) (hb:Binds X.K fd ps [])
    (ha:PA X (e::es) t) (hdb:(x == ("__debug__" : Str))=false:=by decide) (he:starEach (e::es) X.env=(false,eval e X.env)::starEach es X.env:=by rfl) (hpl:(backTo cpos (starEach es X.env)).any (·.1)=false:=by rfl) :
    PS X (.Raise (some (.Call (.Name x np) (e::es) [] cpos)) none pos) (Vn C sp E t):=by
  intro p_ s σ H D I h;show wpAny _ _ (do standAt pos;raiseStmt X.env (some (do let v ← eval (.Call (.Name x np) (e::es) [] cpos) X.env;standAt pos;pure v)) none) _ _ s
  refine wpAny_bind (wpAny_standAt (qci (I.ok.hd hc) (wpAny_bind ?_)));refine wpAny_mono (Q:=fun v s1=>∃(a C:Addr) (oe:Obj) (vs:Array Value) (nm q:Str) (N:Addr) (bs bm:List Value) (hdct:Bool) (sn:List Str) (sub:List Value) (ab:Bool) (col:Option Bool) (dd:Option Addr) (k0 k1 k2 k3 k5:Option Value) (newId:String),v = .ref a∧bm.contains (.type "BaseException")=true∧
      s1.heap.get? C=some (excClassObj nm q C N bs bm hdct sn sub ab col dd k0 k1 k2 k3 k5 newId)∧s1.heap.get? a=some oe∧oe.cls = .ref C∧oe.data = .fields vs∧vs[1]? = some .none∧X.xe (.ref a) s1) ?_ (fun v s1 z=>wpAny_bind (wpAny_standAt (wpAny_pure z))) fun _ _ z=>z
  refine wpAny_Call_Name_kw (lV I hg hm ?_ hdb);refine W.callWith_K (h₀:=X.base) I.ok.mod.O7 M.kp (cR (ha cpos p_ s σ H _ I h) fun us s1 zz=>?_) he hpl;obtain⟨vs,H1,I1,r,hz,q⟩:=zz;refine⟨I1.mZ,?_⟩;obtain⟨nm,qn,N,bs,hdct,sn,sub,ab,col,dd,k0,k1,k2,k3,k5,hC⟩:=M.ob;have T:=M.tail I1.mZ;have hC1:=I1.mZ _ _ hC;have O7:=I1.mZ;obtain⟨hh,g,d,tk,os⟩:=s1;refine qcc O7 T M.init M.fn hC1 (fun h' a mk=>?_) (by show us.length≤_;rw[← r.length];exact hz);have new:X.s₀.heap.get? a=none:=I1.old hex mk.new;obtain⟨un,I2⟩:=I1.qgS hex mk;have hq:=q a un;have r2:Vals (V.ref a::vs) (Value.ref a::us):=.cons rfl r;have hl:(Value.ref a::us).length=ps.length:=by rw[← r2.length];exact F.len _ _ _ _ hq
  have hbd:=hb _ (Value.ref a::us) I2.mZ (by rw[List.append_nil];exact hl);rw[List.append_nil] at hbd;refine wpAny_call (codeAny_mono (F.run _ X.stack _ _ ⟨Value.ref a::us,[]⟩ (Value.ref a::us) _ _ _ (hr.make C us []) (I2.env0.make C us []) hbd r2 hq) fun rr s' hq'=>?_);cases rr with
  | error z=>exact False.elim hq'
  | ok fl=>
    cases fl with
    | ret u=>
      obtain⟨v,H',I3,rv,ev,od,ea,hE⟩:=I2.after hq';subst ev;obtain⟨ox,ws,t0,g1,g2,g3,g4,g5,g6,g7⟩:=Em I3.hok ea;refine⟨rv,a,C,ox,ws,nm,qn,N,bs,_,hdct,sn,sub,ab,col,dd,k0,k1,k2,k3,k5,_,rfl,?_,I3.mZ _ _ hC,g1,g2,g3,g5,?_⟩
      ·simp[fO]
      ·refine hL p_ σ (hid a H') s' a C od (I3.qj7 ea) ⟨new,?_,ox,ws,g1,by rw[g2,g7],g3,g6,.inl g5⟩ hE;unfold hid;rw[if_pos rfl]
    | next=>exact False.elim hq'
    | brk=>exact False.elim hq'
    | cont=>exact False.elim hq'
end
theorem vB.ofX {K:W.Frag} {C B f:Addr} (M:XMk K C B f) (c:XC K C B):vB K C:=fun h X=>by
  obtain⟨nm,qn,N,bs,hdct,sn,sub,ab,col,dd,k0,k1,k2,k3,k5,hC⟩:=M.ob;exact⟨_,N,nm,qn,bs,hdct,sn,sub,ab,col,dd,k0,k1,k2,k3,k5,X _ _ hC,fun v b e=>by rw[c.mro] at e;exact Option.some.inj e⟩
end L2
namespace L2
open PySem PySem.Spec PyProof.Rows
variable {X:Cx}
def qal:List V→Hp→VK→Prop:=fun xs H Q=>ar1 xs fun x=>isRef x fun a=>∃kvs,Rd H a (.dK kvs)∧∀p,H p=none→Q (.ref p) (upd H p (.dK kvs))
@[simp ↓] theorem qgX xs H Q:qal xs H Q=(ar1 xs fun x=>isRef x fun a=>∃kvs,Rd H a (.dK kvs)∧∀p,H p=none→Q (.ref p) (upd H p (.dK kvs))):=rfl
theorem SQ:cu X (.type "dict") qal:=by
  intro p_ s σ H xs us Q I rs q;obtain⟨v,rfl,q1⟩:=ar1.out q;obtain⟨a,rfl,kvs,hd,q2⟩:=isRef.out q1;obtain⟨u,rfl,ru⟩:=rs.one;obtain rfl:u=Value.ref a:=ru;exact Zv I hd fun p s' hp I'=>⟨.ref p,_,I',rfl,q2 p hp⟩
theorem SX {K:W.Frag} {C:Addr}:W.kitAny K (.ref C) (([]:List Addr).map Value.ref)=some false:=rfl
theorem Qw {K:W.Frag} {C D:Addr} {Ds:List Addr} (h1:Qs K C (.ref D)=some false) (h2:W.kitAny K (.ref C) (Ds.map Value.ref)=some false):W.kitAny K (.ref C) ((D::Ds).map Value.ref)=some false:=by
  have e1:W.kitOne K (.ref C) (.ref D)=some false:=h1;rw[List.map_cons];unfold W.kitAny;simp[e1,h2]
end L2
namespace L2
open PySem PySem.Spec PyProof.Rows
section
variable {X:Cx} {p_ CW:List (Addr×Obj)} {σ σ':St} {H H':Hp} {s s':Shared} {a:Addr} {kvs:List (Key×V)} {o:Obj}
theorem Inv.freeze (I:Inv X p_ σ H s) (e:H a=some (.dK kvs)) (ho:s.heap.get? a=some o):Inv X p_ σ (upd H a (.iG o (.dK kvs))) s:=by
  have nn:∀b,H b=none→upd H a (.iG o (.dK kvs)) b=none:=fun b hb=>by rw[aB (fun z=>by rw[z,e] at hb;cases hb)];exact hb
  refine⟨I.ok,I.os,I.bare,⟨I.base.keep,I.base.slot,fun c q h1 h2 h3=>nn c (I.base.free c q h1 h2 h3),I.base.there,fun c zs h=>?_,fun c q v h=>?_,fun c qs h=>?_⟩,I.loc,I.cell,nn _ I.free,fun x c h=>nn c (I.iw x c h),fun p hp=>?_,?_,I.len⟩
  ·have h':=I.base.tups c zs h;rw[aB (fun z=>by rw[z,e] at h';cases h')];exact h'
  ·have h':=I.base.qg c q v h;rw[aB (fun z=>by rw[z,e] at h';cases h')];exact h'
  ·obtain⟨m,h'⟩:=I.base.rM c qs h;exact⟨m,by rw[aB (fun z=>by rw[z,e] at h';cases h')];exact h'⟩
  ·obtain⟨f1,f2,f3⟩:=I.pin p hp;exact⟨f1,nn _ f2,f3⟩
  · have st:∀c v,cj X.prog X.w H s.heap c v→cj X.prog X.w (upd H a (.iG o (.dK kvs))) s.heap c v:=fun c v x=>
      x.stay (fun _ _ _ q=>q) (fun b q=>by rw[aB (fun z=>by rw[z,e] at q;cases q)];exact q) fun b zs q=>by rw[aB (fun z=>by rw[z,e] at q;cases q)];exact q
    intro c v h
    by_cases hc:c=a
    ·subst hc;rw[ao] at h;cases h;exact⟨ho,st _ _ (I.hok _ _ e)⟩
    ·rw[aB hc] at h;exact st _ _ (I.hok _ _ h)
def jM (H H':Hp):Hp:=fun b=>match H' b,H b with
  | some (.iG o u),some (.iG _ _)=>some (.iG o u)
  | some (.iG o u),none=>some (.iG o u)
  | some (.iG _ u),some _=>some u
  | x,_=>x
theorem uJ {b:Addr} (h:H' b=none):jM H H' b=none:=by unfold jM;rw[h]
theorem GR {b:Addr} {o o':Obj} {u u':HO} (h:H' b=some (.iG o u)) (h0:H b=some (.iG o' u')):jM H H' b=some (.iG o u):=by unfold jM;rw[h,h0]
theorem W6 {b:Addr} {o:Obj} {u:HO} (h:H' b=some (.iG o u)) (h0:H b=none):jM H H' b=some (.iG o u):=by unfold jM;rw[h,h0]
theorem Vo {b:Addr} {o:Obj} {u v:HO} (h:H' b=some (.iG o u)) (h0:H b=some v) (hv:∀o' u',v≠.iG o' u'):jM H H' b=some u:=by
  unfold jM;rw[h,h0];cases v <;> first | rfl | exact absurd rfl (hv _ _)
theorem pI {b:Addr} {v:HO} (h:H' b=some v) (hv:∀o u,v≠.iG o u):jM H H' b=some v:=by
  unfold jM;rw[h];cases v <;> first | rfl | exact absurd rfl (hv _ _)
theorem qcj {b:Addr} {v:HO} (h:jM H H' b=some v):H' b=some v∨∃o,H' b=some (.iG o v):=by
  cases q:H' b with
  | none=>rw[uJ q] at h;cases h
  | some x=>
    by_cases hx:∃o u,x = .iG o u
    · obtain⟨o,u,rfl⟩:=hx;cases q0:H b with
      | none=>rw[W6 q q0] at h;exact .inl h
      | some y=>
        by_cases hy:∃o u,y = .iG o u
        ·obtain⟨o',u',rfl⟩:=hy;rw[GR q q0] at h;exact .inl h
        ·rw[Vo q q0 fun o' u' z=>hy ⟨o',u',z⟩] at h;cases h;exact .inr ⟨o,rfl⟩
    ·rw[pI q fun o u z=>hx ⟨o,u,z⟩] at h;exact .inl h
end
def Itd (a:Addr) (o:Obj) (kvs:List (Key×V)):It:=
  ⟨fun i H=>H a=some (.iG o (.dK kvs))∧i<kvs.length,
   fun i H v H'=>∃t k x,v = .ref t∧H t=none∧H'=upd H t (.tup [kV k,x])∧kvs[i]? = some (k,x),
   fun i H=>H a=some (.iG o (.dK kvs))∧kvs.length≤i⟩
theorem KV.get {κ:Type}:∀{kvs:List (κ×V)} {vs:List (κ×Value)},KV kvs vs→∀{i:Nat} {k:κ} {x:V},kvs[i]? = some (k,x)→∃u,vs[i]? = some (k,u)∧RelV x u
  | _,_,.nil,_,_,_,h=>by simp at h
  | _,_,.cons (b:=(_,u)) ⟨e,r⟩ _,0,_,_,h=>by
    simp only[List.getElem?_cons_zero,Option.some.injEq] at h;subst h;cases e;exact⟨u,rfl,r⟩
  | _,_,.cons _ t,i+1,_,_,h=>KV.get (κ:=κ) t (i:=i) (by simpa using h)
theorem KV.len {κ:Type}:∀{kvs:List (κ×V)} {vs:List (κ×Value)},KV kvs vs→vs.length=kvs.length
  | _,_,.nil=>rfl
  | _,_,.cons _ t=>congrArg (· + 1) (KV.len t)
theorem KR {P:Program} {w:World} {k:Key} {u:Value} (h:(aV P w).is k u=true):RelV (kV k) u:=by
  rcases cN h with⟨i,t,rfl,rfl⟩ | ⟨x,t,rfl,rfl⟩
  ·exact⟨t,rfl⟩
  ·exact⟨t,rfl⟩
theorem S7 {P:Program} {w:World} {K:W.Frag} {es:List Expr} {k:Nat} {pos:Pos} {it a:Addr} {o:Obj} {kvs:List (Key×V)} {ep:Nat} {ds:Array _} (hep:o.data = .dict ds ep) :
    Turn P w K (.Tuple es k pos) (Itd a o kvs) [it] it (fun i h=>∃ok ov,IsItemIter h it a i kvs.length ep ok ov) where
  mem:=by simp
  obj:=fun i h st c hc=>by
    obtain⟨ok,ov,e⟩:=st;have e':c=it:=by simpa using hc
    subst e';exact⟨_,e,fun v z=>nomatch z⟩
  keep:=fun i h h' st kk=>by
    obtain⟨ok,ov,e⟩:=st;exact⟨ok,ov,kk it (by simp) _ e⟩
  item:=by
    intro X hP hw hK hc i p_ s σ H E I hf st hg;subst hP hw hK;obtain⟨hz,hi⟩:=hg;obtain⟨ok,ov,hit⟩:=st;obtain⟨hob,z,hd,vs,rel,o',es',ep',e',ex,dat,kk0,prs,nod⟩:=I.hok _ _ hz;rw[hob] at e';cases e';rw[hep] at dat;cases dat;have hx:kvs[i]? = some kvs[i]:=List.getElem?_eq_getElem hi;obtain⟨u,hu,ru⟩:=rel.get (k:=kvs[i].1) (x:=kvs[i].2) hx;have dd:s.heap.DictAt (aV X.prog X.w) a vs ep:=⟨_,_,hob,ex,hep,kk0,prs,nod⟩;have hl:=rel.len;rw[← hl] at hit;refine wpAny_pyNext_items_item hit dd hu fun key h' hkey out ht hsz kk=>?_;refine⟨_,rfl,wpAny_letOwnedTupleGo_items out fun h2 b1 sb=>?_⟩;have lt:s.heap.objs.size≠it:=Nat.ne_of_gt (Heap.lt_size hit);have hn:H s.heap.objs.size=none:=I.hok.fresh (Nat.le_refl _);have kk2:∀c o,c∉[it]→s.heap.get? c=some o→h2.get? c=some o:=fun c o hc z=>by
      have hc':c≠it:=by simpa using hc
      exact(sb.2 c hc').trans (kk c o hc' z)
    have I1:Inv X p_ σ H {s with heap:=h2,toks:=s.toks}:=I.qp kk2 hf;have yE:=sb.extBut _ _ lt ht;have I2:Inv X p_ σ (upd H s.heap.objs.size (.tup [kV kvs[i].1,kvs[i].2])) {s with heap:=h2,toks:=s.toks}:=I.Mq I1 (KR hkey) ru yE;refine⟨.ref s.heap.objs.size,_,I2,rfl,⟨s.heap.objs.size,_,_,rfl,hn,rfl,hx⟩,?_,fun c hcm=>?_⟩
    ·rw[hl] at b1;exact⟨_,_,b1⟩
    · have hne:c≠s.heap.objs.size:=by
        have e':c=it:=by simpa using hcm
        rw[e'];exact lt.symm
      rw[aB hne];exact(hf c hcm).1
  done:=by
    intro X hP hw hK hc i p_ s σ H E I hf st hg;subst hP hw hK;obtain⟨hz,hi⟩:=hg;obtain⟨ok,ov,hit⟩:=st;obtain⟨hob,z,hd,vs,rel,o',es',ep',e',ex,dat,kk0,prs,nod⟩:=I.hok _ _ hz;rw[hob] at e';cases e';rw[hep] at dat;cases dat;have dd:s.heap.DictAt (aV X.prog X.w) a vs ep:=⟨_,_,hob,ex,hep,kk0,prs,nod⟩;have hl:=rel.len;rw[← hl] at hit;refine wpAny_pyNext_items_end (I.ok.hd hc) hit dd (by simp;omega) fun h' kk=>⟨rfl,I.qp (t':=s.toks) (fun c o hcm z=>?_) hf⟩;exact kk c o (by simpa using hcm) z
  self:=fun A i s Q E st h=>by
    obtain⟨ok,ov,hit⟩:=st;exact W.kcp_self hit h
section
variable {X:Cx}
def qgY (td:TE):TI:=fun σ H R=>td σ H fun x H1=>∃a kvs,x = .ref a∧Rd H1 a (.dK kvs)∧∀o,(∀o' u,H1 a=some (.iG o' u)→o=o')→R (Itd a o kvs) (upd H1 a (.iG o (.dK kvs)))
theorem qck {H:Hp} {a:Addr} {o:HO} (h:H a=some o):upd H a o=H:=by
  funext b
  by_cases e:b=a
  ·subst e;rw[ao,h]
  ·rw[aB e]
theorem GX {es:List Expr} {k:Nat} {pos':Pos} {d:Expr} {td:TE} {apos cpos:Pos} (hd:PE X d td)
    (hbase:attributeBase d "items" X.env (eval d X.env)=eval d X.env:=by rfl) (hline:(apos.endLine == cpos.line)=true:=by rfl) :
    PI X (.Tuple es k pos') (.Call (.Attribute d "items" apos) [] [] cpos) (qgY td):=by
  intro p_ s σ H R I h;refine wpAny_Call_method0_late hbase hline (cR (hd p_ s σ H _ I h) fun v s1 zz=>?_);obtain⟨x,H1,I1,r1,a,kvs,ex,rd,q⟩:=zz;subst ex;obtain rfl:v=Value.ref a:=r1;obtain⟨t1,t2,t3⟩:=Zu I1 (.inl ⟨kvs,rd⟩);refine⟨"dict", "dict.items",PySem.F.plainAttrs_dict,PySem.F.slot_dict_items,PySem.F.type_dict_items,t1,t2,Calls.callWith_builtin rfl (PySem.evalArgs_none ?_)⟩;obtain⟨z,hd',vs,rel,o,ds,ep,ho,ex,dat,kk0,prs,nod⟩:=yI I1.hok rd;refine call_meetsIn PySem.F.slot_dict_items t1 PySem.F.entry_dict_items (PySem.F.args_dict_items_1 _) (meets_dict_items (aV X.prog X.w) a hd') ⟨⟨vs,o,ds,ep,ho,ex,dat,kk0,prs,nod⟩,?_⟩;have I2:Inv X p_ σ (upd H1 a (.iG o (.dK kvs))) s1:=by
    rcases rd with e | ⟨o',e⟩
    ·exact I1.freeze e ho
    ·have ho':=(I1.hok _ _ e).1;rw[ho] at ho';cases ho';rw[qck e];exact I1
  have hq:R (Itd a o kvs) (upd H1 a (.iG o (.dK kvs))):=q o fun o' u e=>by
    have ho':=(I1.hok _ _ e).1;rw[ho] at ho';cases ho';rfl
  have p1:=Heap.get?_push_of_some (h:=s1.heap) {cls:=.type "dict_items",data:=.fields #[.ref a]} ho;refine wpAny_pyIter_items (kvs:=vs) (knd:=aV X.prog X.w) (d:=a) (ep:=ep) ⟨_,Heap.get?_push_size _ rfl,rfl,rfl⟩ ⟨o,ds,p1,ex,dat,kk0,prs,nod⟩ ?_;rw[rel.len];have hz:(s1.heap.push {cls:=.type "dict_items",data:=.fields #[.ref a]}).objs.size=s1.heap.objs.size+1:=Heap.size_push ..;have I3:=I2.kept (t':=s1.toks) (h':=(s1.heap.push {cls:=.type "dict_items",data:=.fields #[.ref a]}).push {cls:=.type "dict_itemiterator",data:=.fields #[.none,.bool false,.ref a,.int 0 0,.int kvs.length 0,.int ep 0,.none,.none]})
    fun b u e=>Heap.get?_push_of_some _ (Heap.get?_push_of_some _ e)
  refine⟨(s1.heap.push {cls:=.type "dict_items",data:=.fields #[.ref a]}).objs.size,[(s1.heap.push {cls:=.type "dict_items",data:=.fields #[.ref a]}).objs.size],_,_,_,rfl,I3,S7 (ep:=ep) (ds:=ds) dat,⟨.none,.none,Heap.get?_push_size _ rfl⟩,fun c hc=>?_,hq⟩;have hle:s1.heap.objs.size≤c:=by
    have e':=List.mem_singleton.mp hc;rw[e',hz];exact Nat.le_succ _
  exact I2.FN hle (I2.hok.fresh hle)
end
def qdz (td:TE):TI:=fun σ H R=>td σ H fun x H1=>isRef x fun a=>∃kvs,Rd H1 a (.dK kvs)∧∀o,(∀o' u,H1 a=some (.iG o' u)→o=o')→R (Itd a o kvs) (upd H1 a (.iG o (.dK kvs)))
@[simp ↓] theorem qiU td σ H R:qdz td σ H R=(td σ H fun x H1=>isRef x fun a=>∃kvs,Rd H1 a (.dK kvs)∧∀o,(∀o' u,H1 a=some (.iG o' u)→o=o')→R (Itd a o kvs) (upd H1 a (.iG o (.dK kvs)))):=rfl
theorem GZ (t:TE):qdz t=qgY t:=by
  funext σ H R
  refine congrArg (t σ H) (funext fun x=>funext fun H1=>propext ⟨fun h=>?_,fun⟨a,kvs,e,h1,h2⟩=>by subst e;exact⟨kvs,h1,h2⟩⟩);obtain⟨i,rfl,kvs,h1,h2⟩:=isRef.out h;exact⟨i,kvs,rfl,h1,h2⟩
section
variable {a:Addr} {o:Obj} {kvs:List (Key×V)} {g:TG} {tb:TS} {D:Ends} {d:Zx g tb D} {σ:St} {H:Hp}
theorem frD (Pv:Nat→St→Hp→Prop) (h0:Pv 0 σ H) (hl:∀i σ H,i≤kvs.length→Pv i σ H→H a=some (.iG o (.dK kvs)))
    (hs:∀i k x t σ H,kvs[i]? = some (k,x)→H t=none→Pv i σ H→g (.ref t) σ (upd H t (.tup [kV k,x])) fun σ2 H2=>tb {D with nx:=Pv (i+1),ct:=Pv (i+1),bk:=D.nx} σ2 H2) (hd:∀σ H,Pv kvs.length σ H→D.nx σ H):tFr (Itd a o kvs) g tb D d σ H:=by
  refine⟨fun i m σ H=>m=kvs.length - i∧i≤kvs.length∧Pv i σ H,⟨kvs.length,by simp,Nat.zero_le _,h0⟩,?_⟩;rintro i m σ H ⟨rfl,hi,p⟩;have q:=hl i σ H hi p
  by_cases hlt:i<kvs.length
  ·refine .inr ⟨⟨q,hlt⟩,Pv (i+1),fun σ' H' p'=>⟨kvs.length - (i+1),by omega,rfl,hlt,p'⟩,fun x H' y=>?_⟩;obtain⟨t,k,u,rfl,ht,rfl,e⟩:=y;exact hs i k u t σ H e ht p
  · have e:i=kvs.length:=by omega
    subst e;exact .inl ⟨⟨q,Nat.le_refl _⟩,hd σ H p⟩
end
section
variable {P:Program} {w:World} {H H':Hp} {h h':Heap}
theorem pq.jM (J:pq P w H' h'):pq P w (jM H H') h':=fun c v e=>by
  have st:cj P w H' h' c v→cj P w (L2.jM H H') h' c v:=fun x=>
    x.stay (fun _ _ _ q=>q) (fun b q=>pI q (fun _ _ z=>nomatch z)) fun b zs q=>pI q (fun _ _ z=>nomatch z)
  rcases qcj e with e | ⟨o,e⟩
  ·exact st (J _ _ e)
  ·obtain⟨_,x⟩:=J _ _ e;exact st x
theorem Un.jM {fs ex:List Addr} (u:Un fs ex H H' h h'):Un fs ex H (jM H H') h h':=
  ⟨u.keep,u.slot,fun c q h1 h2 h3=>uJ (u.free c q h1 h2 h3),u.there,fun c zs e=>pI (u.tups c zs e) (fun _ _ z=>nomatch z),fun c q v e=>GR (u.qg c q v e) e,fun c qs e=>by
    obtain⟨m,e'⟩:=u.rM c qs e;exact⟨m,pI e' (fun _ _ z=>nomatch z)⟩⟩
def qam (sp:Sp):Sp:=fun vs H Q E=>sp vs H (fun v H'=>Q v (jM H H')) fun C od H'=>E C od (jM H H')
theorem bZ.jM {K:W.Frag} {mg:Str→Option Value} {base:Heap} {k:Nat} {f:Addr} {fd:FuncData} {ps:List Str} {sp:Sp} (F:bZ P w K mg base (GK P w) k f fd ps sp):bZ P w K mg base (GK P w) k f fd ps (qam sp):=
  ⟨fun vs H Q E h=>F.len vs H _ _ h,fun A outer s H args us vs Q E hr h0 hb hv h=>codeAny_mono (F.run A outer s H args us vs _ _ hr h0 hb hv h) fun r s' q=>by
    cases r with
    | ok fl=>cases fl with
      | ret u=>
        obtain⟨v,H',q1,q2,q3,q4,q5,q6⟩:=q;exact⟨v,_,q1,q2,q3.jM,q4.jM,q5,q6⟩
      | _=>exact q
    | error e=>
      obtain⟨a,C,od,H',q1,q2,q3,q4,q5,⟨T,q6⟩,q7⟩:=q;exact⟨a,C,od,_,q1,q2,q3,q4.jM,q5.jM,⟨T,q6.new,q6.newT,uJ q6.un,uJ q6.unT,q6.ob⟩,q7⟩⟩
theorem KY {H H':Hp} (h:∀b u,H b=some u→H' b=some u∨((∀o v,u≠.iG o v)∧∃o,H' b=some (.iG o u))):Same H (jM H H'):=fun b u e=>by
  rcases h b u e with q | ⟨hu,o,q⟩
  · by_cases hx:∃o v,u = .iG o v
    ·obtain⟨o,v,rfl⟩:=hx;exact GR q e
    ·exact pI q fun o v z=>hx ⟨o,v,z⟩
  ·exact Vo q e hu
end
def arT (xs:List V) (R:V→V→V→Prop):Prop:=match xs with | [x,y,z]=>R x y z | _=>False
@[simp ↓] theorem qkQ x y z R:arT [x,y,z] R=R x y z:=rfl
section
variable {X:Cx} {K:W.Frag} {C D:Addr} {b:Bool}
def qdA (K:W.Frag):List V→Hp→VK→Prop:=fun xs H Q=>ar2 xs fun x y=>isRef x fun a=>∃C od b,H a=some (GP a C od)∧Ay K C∧Qs K C y=some b∧Q (.bl b) H
theorem Vp (hK:X.K=K):cu X (.builtin "isinstance") (qdA K):=by
  subst hK;intro p_ s σ H xs us Q I r h;obtain⟨v1,v2,rfl,h⟩:=ar2.out h;obtain⟨a,rfl,C,od,b,e,⟨L,cd,hcd⟩,hk,q⟩:=isRef.out h;obtain⟨u,v,rfl,r1,r2⟩:=r.two;obtain rfl:u=Value.ref a:=r1;obtain⟨ex,_⟩:=I.hok a _ e;have go:∀{c:Value},W.kitOne X.K (.ref C) c=some b→wpAny (model X.prog X.w) X.A (call (.builtin "isinstance") [.ref a,c]) (EP X p_ σ Q) X.xe s:=fun {c} hc=>
    W.kia_one (Qp hcd L) I.mZ ex.at hc (fun z=>by cases z) fun tk=>⟨.bl b,H,I.kept (fun _ _ e=>e),rfl,q⟩
  cases v2 with
  | ref D=>obtain rfl:v=Value.ref D:=r2;exact go hk
  | ty n=>obtain rfl:v=Value.type n:=r2;exact go hk
  | _=>cases hk
end
structure Clause (K:W.Frag) (D:Addr):Prop where
  ob:vB K D
  be:W.mroIn K D (.type "BaseException")=some true
theorem bZ.qgZ {P:Program} {w:World} {K:W.Frag} {mg:Str→Option Value} {base:Heap} {k:Nat} {f:Addr} {fd:FuncData} {ps:List Str} {sp:Sp} (F:bZ P w K mg base lB k f fd ps sp):bZ P w K mg base lB k f fd ps (qam sp):=
  ⟨fun vs H Q E h=>F.len vs H _ _ h,fun A outer s H args us vs Q E hr h0 hb hv h=>codeAny_mono (F.run A outer s H args us vs _ _ hr h0 hb hv h) fun r s' q=>by
    cases r with
    | ok fl=>cases fl with
      | ret u=>
        obtain⟨v,H',q1,q2,q3,q4,q5,q6⟩:=q;exact⟨v,_,q1,q2,q3.jM,q4.jM,q5,q6⟩
      | _=>exact q
    | error e=>exact q.elim⟩
end L2
namespace L2
open PySem
section
variable {α:Type} {R und:α→α→Prop} {u v:α}
def Both (R:α→α→Prop) (u v:α) (x y:α):Prop:=R x y∨(x=u∧y=v)∨(x=v∧y=u)
def A_ (R:α→α→Prop) (u v:α) (x y:α):Prop:=R x y∨(x=u∧y=v)
theorem W7 {y:α} (h:RT (Both R u v) u y):RT R u y∨RT R v y:=by
  induction h with
  | refl=>exact .inl (.refl _)
  | tail _ st ih=>
    rcases st with st | ⟨_,rfl⟩ | ⟨_,rfl⟩
    ·exact ih.imp (fun h=>.tail h st) fun h=>.tail h st
    ·exact .inr (.refl _)
    ·exact .inl (.refl _)
theorem qcl {x z:α} (h:RT (Both R u v) x z):RT R x z∨RT R x u∨RT R x v:=by
  induction h with
  | refl=>exact .inl (.refl _)
  | tail _ st ih=>
    rcases ih with ih | ih
    · rcases st with st | ⟨rfl,_⟩ | ⟨rfl,_⟩
      ·exact .inl (.tail ih st)
      ·exact .inr (.inl ih)
      ·exact .inr (.inr ih)
    ·exact .inr ih
theorem qcm (qfa:∀x y,und x y→R x y∨R y x) (back:∀w,RT (Both R u v) u w→RT (Both R u v) w u) (to:∀x y,RT (Both R u v) u x→und x y→RT (Both R u v) u y) (con:RT und u v):RT R u v∨RT R v u:=by
  apply Classical.byContradiction;intro hno;have h1:¬RT R u v:=fun h=>hno (.inl h);have h2:¬RT R v u:=fun h=>hno (.inr h);have lift:∀{a b:α},RT R a b→RT (Both R u v) a b:=fun h=>by
    induction h with
    | refl=>exact .refl _
    | tail _ st ih=>exact .tail ih (.inl st)
  have dis:∀w,RT R u w→RT R v w→False:=fun w ha hb=>by
    rcases qcl (back w (lift ha)) with h | h | h
    ·exact h2 (hb.trans h)
    ·exact h2 (hb.trans h)
    ·exact h1 (ha.trans h)
  have all:∀y,RT und u y→RT R u y:=fun y hy=>by
    induction hy with
    | refl=>exact .refl _
    | tail _ st ih=>
      rcases qfa _ _ st with r | r
      ·exact .tail ih r
      · rcases W7 (to _ _ (lift ih) st) with h | h
        ·exact h
        ·exact(dis _ ih (.tail h r)).elim
  exact h1 (all v con)
theorem KZ (h:RT R v u) {x y:α} (hb:RT (Both R u v) x y):RT (A_ R u v) x y:=by
  have lift:∀{a b:α},RT R a b→RT (A_ R u v) a b:=fun h=>by
    induction h with
    | refl=>exact .refl _
    | tail _ st ih=>exact .tail ih (.inl st)
  induction hb with
  | refl=>exact .refl _
  | tail _ st ih=>
    rcases st with st | ⟨rfl,rfl⟩ | ⟨rfl,rfl⟩
    ·exact .tail ih (.inl st)
    ·exact .tail ih (.inr ⟨rfl,rfl⟩)
    ·exact ih.trans (lift h)
theorem W8 (qfa:∀x y,und x y→R x y∨R y x) (back:∀w,RT (Both R u v) u w→RT (Both R u v) w u) (to:∀x y,RT (Both R u v) u x→und x y→RT (Both R u v) u y) (con:RT und u v) :
    (∀x y,RT (Both R u v) x y→RT (A_ R u v) x y)∨∀x y,RT (Both R u v) x y→RT (A_ R v u) x y:=by
  rcases qcm qfa back to con with h | h
  · refine .inr fun x y hb=>KZ h ?_;have sw:∀{a b:α},RT (Both R u v) a b→RT (Both R v u) a b:=fun h=>by
      induction h with
      | refl=>exact .refl _
      | tail _ st ih=>exact .tail ih (st.imp_right Or.symm)
    exact sw hb
  ·exact .inl fun x y hb=>KZ h hb
end
def fxs (fx:Nat→Option Int) (k:Nat) (d:Int):Nat→Option Int:=fun j=>if j=k then some d else fx j
theorem iY {fx:Nat→Option Int} {ps:List (Str×Str)} {n:Nat} {a b:Str}:(n,a,b)∈aN fx ps 0↔∃e,ps[n]? = some e∧(((fx n).getD 0=0∧a=e.1∧b=e.2)∨((fx n).getD 1=1∧a=e.2∧b=e.1)):=by
  rw[j_];constructor
  ·rintro⟨j,e,h1,h2⟩;obtain⟨h3,h4⟩:=jF.mp h2;rw[Nat.zero_add] at h3 h4;simp only at h3 h4;subst h3;exact⟨e,h1,h4⟩
  ·rintro⟨e,h1,h2⟩;exact⟨n,e,h1,jF.mpr ⟨by simp,by rw[Nat.zero_add];exact h2⟩⟩
theorem Qx {fx:Nat→Option Int} {ps:List (Str×Str)} {k:Nat} {u v:Str} {xs:List Str} (hfree:fx k=none) (hk:ps[k]? = some (u,v)) (hf:∀j d,fx j=some d→d=0∨d=1)
    (strong:∀x∈xs,∀y∈xs,RT (jf (aN fx ps 0)) x y) (hps:∀e∈ps,e.1∈xs∧e.2∈xs) (con:RT (jG (fun j=>j≠k) ps) u v) :
    (∀x∈xs,∀y∈xs,RT (jf (aN (fxs fx k 0) ps 0)) x y)∨∀x∈xs,∀y∈xs,RT (jf (aN (fxs fx k 1) ps 0)) x y:=by
  have mono:∀{A B:Str→Str→Prop},(∀a b,A a b→B a b)→∀{a b:Str},RT A a b→RT B a b:=by
    intro A B f a b h
    induction h with
    | refl=>exact .refl _
    | tail _ st ih=>exact .tail ih (f _ _ st)
  let R:Str→Str→Prop:=fun x y=>∃n,n≠k∧(n,x,y)∈aN fx ps 0
  have toB:∀a b,jf (aN fx ps 0) a b→Both R u v a b:=fun a b ⟨n,hn⟩=>by
    by_cases e:n=k
    · subst e;obtain⟨e,h1,h2⟩:=iY.mp hn;rw[hk] at h1;cases h1
      rcases h2 with⟨_,h2⟩ | ⟨_,h2⟩
      ·exact .inr (.inl h2)
      ·exact .inr (.inr h2)
    ·exact .inl ⟨n,e,hn⟩
  have ofB:∀a b,Both R u v a b→jf (aN fx ps 0) a b:=fun a b h=>by
    rcases h with⟨n,_,hn⟩ | ⟨rfl,rfl⟩ | ⟨rfl,rfl⟩
    ·exact⟨n,hn⟩
    ·exact⟨k,iY.mpr ⟨_,hk,.inl ⟨by rw[hfree];rfl,rfl,rfl⟩⟩⟩
    ·exact⟨k,iY.mpr ⟨_,hk,.inr ⟨by rw[hfree];rfl,rfl,rfl⟩⟩⟩
  have keep:∀(d:Int) (a b:Str),R a b→jf (aN (fxs fx k d) ps 0) a b:=fun d a b ⟨n,hn,h⟩=>by
    refine⟨n,iY.mpr ?_⟩;unfold fxs;rw[if_neg hn];exact iY.mp h
  have o0:∀a b,A_ R u v a b→jf (aN (fxs fx k 0) ps 0) a b:=fun a b h=>by
    rcases h with h | ⟨rfl,rfl⟩
    ·exact keep 0 a b h
    ·exact⟨k,iY.mpr ⟨_,hk,.inl ⟨by unfold fxs;rw[if_pos rfl];rfl,rfl,rfl⟩⟩⟩
  have o1:∀a b,A_ R v u a b→jf (aN (fxs fx k 1) ps 0) a b:=fun a b h=>by
    rcases h with h | ⟨rfl,rfl⟩
    ·exact keep 1 a b h
    ·exact⟨k,iY.mpr ⟨_,hk,.inr ⟨by unfold fxs;rw[if_pos rfl];rfl,rfl,rfl⟩⟩⟩
  have ux:u∈xs:=(hps _ (List.mem_of_getElem? hk)).1;have inx:∀w,RT (Both R u v) u w→w∈xs:=fun w h=>by
    induction h with
    | refl=>exact ux
    | tail _ st _=>
      obtain⟨n,hn⟩:=ofB _ _ st;obtain⟨e,h1,h2⟩:=iY.mp hn;have:=hps e (List.mem_of_getElem? h1)
      rcases h2 with⟨_,_,rfl⟩ | ⟨_,_,rfl⟩
      ·exact this.2
      ·exact this.1
  have jin:∀x y,jG (fun j=>j≠k) ps x y→y∈xs∧(R x y∨R y x):=fun x y h=>by
    obtain⟨j,hj,h⟩:=h;have dir:(fx j).getD 0=0∨(fx j).getD 1=1:=by
      cases hj:fx j with
      | none=>exact .inl rfl
      | some d=>exact hf j d hj
    rcases h with h | h
    ·refine⟨(hps _ (List.mem_of_getElem? h)).2,dir.imp (fun z=>⟨j,hj,iY.mpr ⟨_,h,.inl ⟨z,rfl,rfl⟩⟩⟩) fun z=>⟨j,hj,iY.mpr ⟨_,h,.inr ⟨z,rfl,rfl⟩⟩⟩⟩
    ·refine⟨(hps _ (List.mem_of_getElem? h)).1,(dir.imp (fun z=>⟨j,hj,iY.mpr ⟨_,h,.inl ⟨z,rfl,rfl⟩⟩⟩) fun z=>⟨j,hj,iY.mpr ⟨_,h,.inr ⟨z,rfl,rfl⟩⟩⟩).symm⟩
  rcases W8 (R:=R) (und:=jG (fun j=>j≠k) ps) (u:=u) (v:=v) (fun x y h=>(jin x y h).2) (fun w h=>mono toB (strong w (inx w h) u ux)) (fun x y _ h=>mono toB (strong u ux y (jin x y h).1)) con with h | h
  ·exact .inl fun x hx y hy=>mono o0 (h x y (mono toB (strong x hx y hy)))
  ·exact .inr fun x hx y hy=>mono o1 (h x y (mono toB (strong x hx y hy)))
end L2
namespace PySem
open Sem (wp)
theorem yX:typeLookup (.type "list") "keys" = pure none:=by rw[typeLookup_type,builtinLookup_eq_fast];kernel_rfl
theorem JB {prog:Program} {w:World} {A:Around} {E:Value→Shared→Prop} {s:Shared} {a:Addr} {o:Obj} {xs:Array Value} {k:Nat} {Q:Option Value→Shared→Prop}
    (hx:s.heap.get? a=some o) (hc:o.cls = .type "list") (hdat:o.data = .seq xs k) (hd:o.dict=none) (hA:A.handled=none)
    (h:∀h' tk,(∀b o,s.heap.get? b=some o→h'.get? b=some o)→Q none {s with heap:=h',toks:=tk}) :
    wpAny (model prog w) A (getAttr? (.ref a) "keys") Q E s:=by
  obtain⟨c,dct,dat,sl⟩:=o;simp only at hc hdat hd;subst hc hdat hd;obtain⟨hp,g,d,tk,os⟩:=s;have hT:∀tk',(⟨hp,g,d,tk',os⟩:Shared).TypeIs (.ref a) "list" :=fun _=>⟨_,hx,rfl⟩;have f1:=sub_AttributeError;have f3:=F.slot_list_getattribute.lookup;have f4:=F.slot_list_getattribute.bind (.ref a);have f5:=am_list_getattr_none;have hname:(["__module__", "__name__", "__qualname__", "__doc__", "__annotations__"]:List Str).contains "keys" = false:=by decide
  unfold getAttr? getAttrBy? getAttrBy
  repeat (any_goals (first | assumption | exact hT _ | ((with_reducible show wpAny _ _ (call (Value.builtin "list.__getattribute__") _ _) _ _ _);refine call_meets F.slot_list_getattribute (hT _) am_entry_list_getattribute (F.args_list_getattribute_2 _ _) (meets_getattribute_miss_list a xs k sl "keys" _ yX hname) ⟨hx,hA,fun h' tk' e hx'=>?_⟩) | wp_step))
  obtain⟨t',u',he⟩:=hx'.there;show wpAny _ _ (getattributeRaised _ _ _ _ _ _ _) _ _ _;unfold getattributeRaised
  repeat (any_goals (first | assumption | wp_step))
  exact h _ _ hx'.of.keeps
end PySem
namespace L2
open PySem PySem.Spec PyProof.Rows
section
variable {P:Program} {w:World} {A:Around} {R:Result→Shared→Prop} {it l D:Addr}
end
section
variable {X:Cx} {K:W.Frag}
theorem Qy {α β:Type}:∀(ks:List α) (R:Nat→α→β→Prop),(∀j e,ks[j]? = some e→∃e',R j e e')→∃ks':List β,ks'.length=ks.length∧∀j e,ks[j]? = some e→∃e',ks'[j]? = some e'∧R j e e'
  | [],R,h=>⟨[],rfl,fun j e z=>by simp at z⟩
  | x::ks,R,h=>by
    obtain⟨y,hy⟩:=h 0 x rfl;obtain⟨ks',h1,h2⟩:=Qy ks (fun j=>R (j+1)) fun j e z=>h (j+1) e z;refine⟨y::ks',by simp[h1],fun j e z=>?_⟩
    match j with
    | 0=>cases z;exact⟨y,rfl,hy⟩
    | j+1=>exact h2 j e z
end
section
variable {prog:Program} {w:World} {A:Around} {E:Value→Shared→Prop} {s:Shared}
theorem W9 {es:Array DictEntry} {hh:Int} (hn:∀e∈es.toList,e.hash≠hh):placesWithHash es.size (fun i=>es[i]?.map (·.hash)) hh=[]:=by
  unfold placesWithHash;rw[List.filter_eq_nil_iff];intro i hi;have hi':i<es.size:=List.mem_range.mp hi;have h1:=hn es[i] (by rw[← Array.getElem_toList];exact List.getElem_mem _);simpa [hi'] using h1
theorem qcn {d:Addr} {o:Obj} {es ep} {key:Value} {hh:Int} {Q:Option Nat→Shared→Prop} (hk:(∀x t,key≠.str x t)∧(key = .none∨∃t,key = .ref t∧∀e∈es.toList,e.key≠.ref t)) (ho:s.heap.get? d=some o) (hd:o.data = .dict es ep)
    (hn:∀e∈es.toList,e.hash≠hh) (h:Q none s):wpAny (model prog w) A (dictFind d key hh) Q E s:=by
  have hp:=W9 hn;unfold dictFind
  try with_reducible refine wpAny_holding ?_
  refine wpAny_bind (wpAny_dictEntries ho hd ?_)
  rcases hk.2 with rfl | ⟨t,rfl,hr⟩
  · dsimp only;rw[hp];simp only[List.filterMap_nil,List.all_cons,List.all_nil,carriedByValue,Bool.and_true,if_true];unfold dictWalkPlain;simp only[List.forIn_nil]
    repeat (first | exact h | refine wpAny_pure ?_ | refine wpAny_bind ?_)
  · have ha:¬(es.any fun e=>e.key == Value.ref t && e.hash != hh)=true:=by
      rw[← Array.any_toList,List.any_eq_true];rintro⟨e,hin,hc⟩;have:=hr e hin;simp[this] at hc
    dsimp only;rw[hp];generalize hst:([]:List Nat).filterMap (fun i=>es[i]?.map (·.key))=st;have hst':st=[]:=hst.symm;rw[if_neg (show ¬((Value.ref t::st).all carriedByValue)=true by simp[carriedByValue]),if_neg ha,if_neg (show ¬(st == [Value.ref t])=true by rw[hst'];exact fun z=>nomatch z)];subst hst';refine wpAny_bind ?_;unfold tableMayTell;simp only[List.isEmpty_nil,if_true];refine wpAny_pure ?_;rw[if_neg (by simp)];simp only[List.forIn_nil]
    repeat (first | exact h | refine wpAny_pure ?_ | refine wpAny_bind ?_)
theorem qfb {d:Addr} {o:Obj} {es ep} {key v:Value} {hh:Int} {Q:Unit→Shared→Prop} (hk:(∀x t,key≠.str x t)∧(key = .none∨∃t,key = .ref t∧∀e∈es.toList,e.key≠.ref t)) (ho:s.heap.get? d=some o) (hc:o.ExactDict) (hd:o.data = .dict es ep) (hz:es.size≤sizeLine)
    (hhash:∀(A:Around) (E:Value→Shared→Prop) (s':Shared) (Q:Int→Shared→Prop),s'.heap=s.heap→A.units+1<cLine→(∀tk,Q hh {s' with toks:=tk})→wpAny (model prog w) A (pyHash key) Q E s')
    (hn:∀e∈es.toList,e.hash≠hh) (hu:A.units+2<cLine)
    (hQ:∀h' o' tk,h'.get? d=some o'→o'.ExactDict→o'.data = .dict (es.push ⟨hh,key,v⟩) (ep+1)→Heap.SameBut d s.heap h'→Q () {s with heap:=h',toks:=tk}):wpAny (model prog w) A (setItem (.ref d) key v) Q E s:=by
  have ht:s.TypeIs (.ref d) "dict" :=⟨o,ho,hc.1⟩;unfold setItem
  try with_reducible refine wpAny_holding ?_
  refine wpAny_bind (wpAny_sequenceKey ht (by decide) ?_);refine wpAny_bind (wpAny_callSpecial?_slot (name:=Str.ofString "__setitem__") ht slot_dict_setitem
    (wpAny_call_entry slot_dict_setitem ht entry_dict_setitem ?_ (args_dict_setitem _ _ _)))
  show wpAny _ _ (Builtin.Dict.notOrdered "__setitem__" ⟨[.ref d,key,v],[]⟩ >>= _) _ _ s;refine wpAny_bind (wpAny_notOrdered_dict ht ?_);show wpAny _ _ (dictSet d key v >>= _) _ _ s;unfold dictSet;refine wpAny_bind (wpAny_holding ?_);refine wpAny_bind (hhash _ _ s _ rfl (Nat.lt_of_le_of_lt (Nat.le_refl _) hu) fun tk=>?_);unfold dictSetHashed
  try with_reducible refine wpAny_holding ?_
  refine wpAny_bind (qcn (s:={s with toks:=tk}) hk ho hd hn ?_);refine wpAny_bind (wpAny_rule (wpAny_updateDictKeys (hz:=hz) (s:={s with toks:=tk}) ho hd ?_));refine wpAny_pure ⟨.none,rfl,wpAny_pure ?_⟩;exact hQ _ _ _ (Heap.get?_update_self _ ho (Obj.isFreed_of_dict (Obj.data_mapDictKeys hd _))) (hc.mapDictKeys _) (Obj.data_mapDictKeys hd _) (Heap.SameBut.update ..)
end
def Bb (o:Obj) (kvs:List (V×V)):Prop:=o.ExactDict∧kvs.length≤sizeLine∧∃es ep,o.data = .dict es ep∧Paired (fun(kv:V×V) (e:DictEntry)=>RelV kv.1 e.key∧RelV kv.2 e.val) kvs es.toList
def yZ (a:Addr) (o:Obj):HO:=.ext fun h=>h.get? a=some o∧(a == sysModules)=false
def Nq (H:Hp) (y:V):Prop:=y = .non∨∃t,y = .ref t∧H t=some (.tup [.int 0])
def SmK (kvs:List (Key×V)):Prop:=∀e∈kvs,∃i:Nat,e.1=Sum.inl (i:Int)∧i<100
def JC (kvs:List (Key×V)):List (V×V):=kvs.map fun e=>(kV e.1,e.2)
theorem qan (P:Params):∀i:Nat,i<100→hashInt (i:Int)≠W.hashW P .none:=by
  have:∀i:Nat,i<100→hashInt (i:Int)≠0xFCA86420:=by decide+kernel
  exact this
theorem qao (P:Program) (w:World):∀i:Nat,i<100→hashInt (i:Int)≠tupleKeyHash (aV P w) [Sum.inl 0]:=by
  have:∀i:Nat,i<100→hashInt (i:Int)≠reduceHash (Builtin.Tuple.tupleHashOf [hashInt 0]):=by decide+kernel
  exact this
section
variable {X:Cx} {p_:List (Addr×Obj)} {σ:St} {H:Hp} {s:Shared} {A:Around} {E:Value→Shared→Prop}
theorem K1 {P:Program} {w:World} {vs:List (Key×Value)} {es:List DictEntry} (hp:Pairs (aV P w) es vs):∀{kvs:List (Key×V)},KV kvs vs→Paired (fun(kv:V×V) (e:DictEntry)=>RelV kv.1 e.key∧RelV kv.2 e.val) (JC kvs) es:=by
  induction hp with
  | nil=>intro kvs h;cases h;exact .nil
  | cons h1 h2 _ ih=>
    intro kvs h;cases h with
    | cons r rs=>
      obtain⟨r1,r2⟩:=r;refine .cons ⟨?_,?_⟩ (ih rs)
      ·show RelV (kV _) _;rw[r1];exact KR h1
      ·rw[h2];exact r2
theorem W_ {P:Program} {w:World} {vs:List (Key×Value)} {es:List DictEntry} (hp:Pairs (aV P w) es vs):∀{kvs:List (Key×V)},KV kvs vs→∀x∈es,∃e∈kvs,(aV P w).is e.1 x.key=true:=by
  induction hp with
  | nil=>intro kvs h x hx;cases hx
  | cons h1 h2 _ ih=>
    intro kvs h x hx;cases h with
    | cons r rs=>
      rcases List.mem_cons.mp hx with rfl | hx
      ·exact⟨_,List.mem_cons_self,by rw[r.1];exact h1⟩
      ·obtain⟨e,he,hk⟩:=ih rs x hx;exact⟨e,List.mem_cons_of_mem _ he,hk⟩
theorem Dj {α β:Type} {R:α→β→Prop} {a:α} {b:β}:∀{xs:List α} {ys:List β},Paired R xs ys→R a b→Paired R (xs++[a]) (ys++[b])
  | _,_,.nil,r=>.cons r .nil
  | _,_,.cons h t,r=>.cons h (Dj t r)
theorem S_ {a:Addr} {kvs:List (Key×V)} {y v:V} {u r:Value} {Q:Unit→Shared→Prop} (hu:A.units+2<cLine) (I:Inv X p_ σ H s) (e:H a=some (.dK kvs)) (sm:SmK kvs) (l:kvs.length<sizeLine) (ok:Nq H y) (ry:RelV y u) (rv:RelV v r)
    (h:∀s' o,Bb o (JC kvs++[(y,v)])→Inv X p_ σ (upd H a (yZ a o)) s'→Q () s'):wpAny (model X.prog X.w) A (setItem (.ref a) u r) Q E s:=by
  obtain⟨z,hd,vs,rel,o,es,ep,ho,ex,dat,kk,prs,nod⟩:=Gi I.hok e;have qkR:es.size=kvs.length:=by
    have h1:=prs.length;have h2:=rel.length;have h3:es.toList.length=es.size:=by simp
    omega
  have key:∀x∈es.toList,∃i:Nat,i<100∧x.hash=hashInt (i:Int)∧∃t,x.key = .int (i:Int) t:=by
    intro x hx;obtain⟨k,hk1,hk2⟩:=kk x (Array.mem_toList_iff.mp hx);obtain⟨e',he',hke⟩:=W_ prs rel x hx;obtain rfl:=(aV X.prog X.w).inj _ _ _ hke hk1;obtain⟨i,hi,h100⟩:=sm e' he';rw[hi] at hke hk2;rw[Fx] at hke
    rcases cN hke with⟨j,t,q1,q2⟩ | ⟨x',t,q1,_⟩
    ·cases q1;exact⟨i,h100,hk2,t,q2⟩
    ·cases q1
  have fin:∀(hh:Int) (hk:(∀x t,u≠.str x t)∧(u = .none∨∃t,u = .ref t∧∀e∈es.toList,e.key≠.ref t)) (hhash:∀(A:Around) (E:Value→Shared→Prop) (s':Shared) (Q:Int→Shared→Prop),s'.heap=s.heap→A.units+1<cLine→(∀tk,Q hh {s' with toks:=tk})→wpAny (model X.prog X.w) A (pyHash u) Q E s')
      (hn:∀i:Nat,i<100→hashInt (i:Int)≠hh),wpAny (model X.prog X.w) A (setItem (.ref a) u r) Q E s:=by
    intro hh hk hhash hn;refine qfb (hh:=hh) hk ho ex dat (by omega) hhash (fun x hx=>?_) hu fun h' o' tk ho' ex' qj8 sb=>?_
    ·obtain⟨i,h1,h2,_⟩:=key x hx;rw[h2];exact hn i h1
    ·refine h _ o' ⟨ex',by simp[JC];omega,_,_,qj8,?_⟩ (Ef (t':=tk) I (by rw[e];exact True.intro) sb ⟨o',ho'⟩ ⟨⟨ho',hd⟩,⟨o',ho'⟩,fun h1 h2 q k=>⟨k _ q.1,q.2⟩⟩);rw[Array.toList_push];exact Dj (K1 prs rel) ⟨ry,rv⟩
  rcases ok with rfl | ⟨t,rfl,ht⟩
  ·obtain rfl:u=Value.none:=ry;refine fin _ ⟨(fun x t z=>by cases z),.inl rfl⟩ (fun A E s' Q hs hA q=>?_) (qan X.w.params);exact W.pyHash_laid .none _ A s' Q rfl .none (Nat.lt_of_le_of_lt (Nat.le_succ _) hA) q
  · obtain rfl:u=Value.ref t:=ry;refine fin _ ⟨(fun x t z=>by cases z),.inr ⟨t,rfl,fun e he z=>?_⟩⟩ (fun A E s' Q hs hA q=>?_) (qao X.prog X.w)
    ·obtain⟨i,_,_,t',q⟩:=key e he;rw[q] at z;cases z
    ·refine wpAny_pyHash_tuple (knd:=aV X.prog X.w) (ks:=[Sum.inl 0]) (Nat.lt_of_le_of_lt (Nat.le_succ _) hA) ?_ (q _);rw[hs];exact vU (ks:=[Sum.inl 0]) I.hok ht
def qap (td ty tv:TE):TS:=fun D σ H=>tv σ H fun v H1=>td σ H1 fun x H2=>ty σ H2 fun y H3=>isRef x fun a=>(∃H4,vV H3 a y v H4∧D.nx σ H4)∨∃kvs,H3 a=some (.dK kvs)∧SmK kvs∧kvs.length<sizeLine∧Nq H3 y∧∀o,Bb o (JC kvs++[(y,v)])→D.nx σ (upd H3 a (yZ a o))
@[simp ↓] theorem qg0 td ty tv D σ H:qap td ty tv D σ H=(tv σ H fun v H1=>td σ H1 fun x H2=>ty σ H2 fun y H3=>isRef x fun a=>(∃H4,vV H3 a y v H4∧D.nx σ H4)∨∃kvs,H3 a=some (.dK kvs)∧SmK kvs∧kvs.length<sizeLine∧Nq H3 y∧∀o,Bb o (JC kvs++[(y,v)])→D.nx σ (upd H3 a (yZ a o))):=rfl
theorem Qz {o i value:Expr} {td ty tv:TE} {pos pos':Pos} (hu:X.A.units+64<cLine) (ho:PE X o td) (hi:PE X i ty) (hv:PE X value tv) (hs:swapsWith value (some (.Subscript o i pos')) pos.line X.env=pure false) :
    PS X (.Assign [.Subscript o i pos'] value pos) (qap td ty tv):=by
  intro p_ s σ H D I h;refine wpAny_Assign_Subscript (cR (hv p_ s σ H _ I h) fun r s1 ⟨v,H1,I1,rv,q1⟩=>cR (ho p_ s1 σ H1 _ I1 q1) fun u s2 ⟨x,H2,I2,rx,q2⟩=>cR (hi p_ s2 σ H2 _ I2 q2) fun iv s3 ⟨y,H3,I3,ry,q3⟩=>?_) hs;obtain⟨a,rfl,q3⟩:=isRef.out q3;obtain rfl:u=Value.ref a:=rx
  rcases q3 with⟨H4,g,q⟩ | ⟨kvs,e,sm,l,ok,q⟩
  ·exact Km (Nat.lt_of_le_of_lt (by omega) hu) I3 g ry rv fun s4 I4=>⟨σ,H4,I4,q⟩
  ·exact S_ (Nat.lt_of_le_of_lt (by omega) hu) I3 e sm l ok ry rv fun s4 o ro I4=>⟨σ,_,I4,q o ro⟩
end
section
variable {prog:Program} {w:World} {A:Around} {E:Value→Shared→Prop}
theorem qco {hp:Heap} {g:Array GenState} {dr:Drawn} {tk:Nat} {os:OsState} {it d:Addr} {i n ep:Nat} {ok ov k v:Value} {Q:Value→Shared→Prop} (I0:IsItemIter hp it d i n ep ok ov)
    (fin:∀h',IsItemIterOut h' it d i n ep k v hp.objs.size→h'.get? hp.objs.size=some {cls:=.type "tuple",data:=.seq #[k,v]}→(∀b o,b≠it→hp.get? b=some o→h'.get? b=some o)→Q (.ref hp.objs.size) ⟨h',g,dr,tk,os⟩) :
    wpAny (model prog w) A (Builtin.Dict_items.pairFromOwner (.ref it) 6 k v) Q E ⟨hp,g,dr,tk,os⟩:=by
  have ne:hp.objs.size≠it:=Nat.ne_of_gt (Heap.lt_size I0);unfold Builtin.Dict_items.pairFromOwner;refine wpAny_bind (wpAny_newTuple ?_);have I1:IsItemIter (hp.push {cls:=.type "tuple",data:=.seq #[k,v]}) it d i n ep ok ov:=Heap.get?_push_of_some _ I0;have t1:(hp.push {cls:=.type "tuple",data:=.seq #[k,v]}).get? hp.objs.size=some {cls:=.type "tuple",data:=.seq #[k,v]}:=Heap.get?_push_size _ rfl;have k1:∀b o,hp.get? b=some o→(hp.push {cls:=.type "tuple",data:=.seq #[k,v]}).get? b=some o:=fun b o e=>Heap.get?_push_of_some _ e;show wpAny _ _ (Builtin.Dict_items.ownedTupleIsFree (.ref it) >>= _) _ _ ⟨hp.push {cls:=.type "tuple",data:=.seq #[k,v]},g,dr,tk,os⟩;generalize hp.push {cls:=.type "tuple",data:=.seq #[k,v]}=h1 at I1 t1 k1 ⊢;unfold Builtin.Dict_items.ownedTupleIsFree;refine wpAny_bind (wpAny_bind (wpAny_field I1 rfl (x:=.none) rfl (wpAny_pure ?_)));rw[if_pos rfl];refine wpAny_bind (wpAny_field I1 rfl (x:=ok) rfl (wpAny_bind (wpAny_field I1 rfl (x:=ov) rfl ?_)));refine wpAny_bind (wpAny_setField_rec I1 (by simp) fun h2 I2 s2=>wpAny_bind (wpAny_setField_rec (show IsItemIter h2 it d i n ep k ov from I2) (by simp) fun h3 I3 s3=>?_));refine wpAny_bind (wpAny_setField_rec (show IsItemIter h3 it d i n ep k v from I3) (by simp) fun h4 I4 s4=>wpAny_bind (wpAny_setField_rec (show IsItemIterOut h4 it d i n ep k v hp.objs.size from I4) (by simp) fun h5 I5 s5=>?_));have kk:∀b o,b≠it→h1.get? b=some o→h5.get? b=some o:=fun b o hb e=>by
    replace s2:Heap.SameBut it h1 h2:=s2;replace s3:Heap.SameBut it h2 h3:=s3;replace s4:Heap.SameBut it h3 h4:=s4;replace s5:Heap.SameBut it h4 h5:=s5;rw[s5.2 b hb,s4.2 b hb,s3.2 b hb,s2.2 b hb];exact e
  exact wpAny_bind (wpAny_letGo (wpAny_pure (fin h5 I5 (kk _ _ ne t1) fun b o hb e=>kk b o hb (k1 b o e))))
theorem qcp {hp:Heap} {g:Array GenState} {dr:Drawn} {tk:Nat} {os:OsState} {it d:Addr} {o:Obj} {es:Array DictEntry} {i n ep:Nat} {ok ov:Value} {Q:Option Value→Shared→Prop} (I0:IsItemIter hp it d i n ep ok ov) (eD:hp.get? d=some o) (dD:o.data = .dict es ep) (zE:es.size=n) (lt:i<es.size)
    (fin:∀h',IsItemIterOut h' it d (i+1) n ep es[i].key es[i].val hp.objs.size→h'.get? hp.objs.size=some {cls:=.type "tuple",data:=.seq #[es[i].key,es[i].val]}→(∀b o,b≠it→hp.get? b=some o→h'.get? b=some o)→Q (some (.ref hp.objs.size)) ⟨h',g,dr,tk,os⟩) :
    wpAny (model prog w) A (pyNext (.ref it)) Q E ⟨hp,g,dr,tk,os⟩:=by
  have T0:Shared.TypeIs ⟨hp,g,dr,tk,os⟩ (.ref it) "dict_itemiterator" :=⟨_,I0,rfl⟩;have lt':es[i]? = some es[i]:=Array.getElem?_eq_getElem lt;unfold pyNext;refine wpAny_bind (wpAny_attempt (wpAny_callSpecial?_slot T0 F.slot_dict_itemiterator_next (wpAny_call_entry F.slot_dict_itemiterator_next T0 F.entry_dict_itemiterator_next ?_ (F.args_dict_itemiterator_next_1 _))));refine wpAny_bind (wpAny_pure (wpAny_bind (wpAny_bind (wpAny_bind (wpAny_typeNameOfWhole_itemiter T0 (wpAny_pure (wpAny_bind (wpAny_fieldsOf I0 rfl ?_))))))));simp only[show Builtin.Dict_items.ownsTuple "dict_itemiterator" = true from rfl,if_true];show wpAny _ _ (if (Value.ref d == Value.none)=true then _ else _) _ _ _
  rw[if_neg (fun z=>nomatch z)];refine wpAny_bind (wpAny_pure (wpAny_bind (wpAny_dictEntries eD dD ?_)));rw[if_neg (by simp[zE])];refine wpAny_bind (wpAny_pure (wpAny_bind (wpAny_dictEpoch eD dD ?_)));rw[if_neg (by simp)];refine wpAny_pure ?_;simp only[show ¬(i:Int)<0 by omega,if_false,Int.toNat_natCast,lt'];refine wpAny_bind (wpAny_bind (wpAny_typeNameOfWhole_itemiter T0 (wpAny_pure (wpAny_bind (wpAny_isOneOf_itemiter T0 ?_)))));show wpAny _ _ (setField (.ref it) 3 (rawInt ((i:Int)+1)) >>= _) _ _ _;refine wpAny_bind (wpAny_setField_rec I0 (by simp) fun h1 I1 s1=>?_);replace s1:Heap.SameBut it hp h1:=s1;have I1':IsItemIter h1 it d (i+1) n ep ok ov:=by
    unfold IsItemIter;rw[show((i+1:Nat):Int)=(i:Int)+1 by omega];exact I1
  have T1:Shared.TypeIs ⟨h1,g,dr,tk,os⟩ (.ref it) "dict_itemiterator" :=⟨_,I1',rfl⟩;refine wpAny_bind (wpAny_holding (wpAny_bind (wpAny_isOneOf_itemiter T1 (wpAny_bind (wpAny_isOneOf_itemiter T1 ?_)))));refine qco I1' fun h2 I2 t2 k2=>wpAny_pure ⟨_,rfl,wpAny_pure ?_⟩;rw[s1.1] at I2 t2 ⊢;exact fin h2 I2 t2 fun b o hb e=>k2 b o hb ((s1.2 b hb).trans e)
end
def qcq (a:Addr) (o:Obj) (kvs:List (V×V)):It:=
  ⟨fun i H=>H a=some (yZ a o)∧i<kvs.length,
   fun i H v H'=>∃t k x,v = .ref t∧H t=none∧H'=upd H t (.tup [k,x])∧kvs[i]? = some (k,x),
   fun _ _=>False⟩
theorem G3 {α β:Type} {R:α→β→Prop}:∀{xs:List α} {ys:List β} {i:Nat} {x:α},Paired R xs ys→xs[i]? = some x→∃y,ys[i]? = some y∧R x y
  | _,_,0,_,.cons r _,e=>by simp at e;subst e;exact⟨_,rfl,r⟩
  | _,_,i+1,x,.cons _ t,e=>by
    obtain⟨u,h1,h2⟩:=G3 (i:=i) (x:=x) t (by simpa using e);exact⟨u,by simpa using h1,h2⟩
  | _,_,_,_,.nil,e=>by simp at e
theorem qaq {P:Program} {w:World} {K:W.Frag} {es:List Expr} {k:Nat} {pos:Pos} {it a:Addr} {o:Obj} {kvs:List (V×V)} {ep:Nat} {ds:Array DictEntry} (hep:o.data = .dict ds ep) (rw0:Bb o kvs) :
    Turn P w K (.Tuple es k pos) (qcq a o kvs) [it] it (fun i h=>∃ok ov,IsItemIter h it a i kvs.length ep ok ov) where
  mem:=by simp
  obj:=fun i h st c hc=>by
    obtain⟨ok,ov,e⟩:=st;have e':c=it:=by simpa using hc
    subst e';exact⟨_,e,fun v z=>nomatch z⟩
  keep:=fun i h h' st kk=>by
    obtain⟨ok,ov,e⟩:=st;exact⟨ok,ov,kk it (by simp) _ e⟩
  item:=by
    intro X hP hw hK hc i p_ s σ H E I hf st hg;subst hP hw hK;obtain⟨hz,hi⟩:=hg;obtain⟨ok,ov,hit⟩:=st;have hob:s.heap.get? a=some o:=(I.hok _ _ hz).1.1;obtain⟨ex,z,es',ep',dat,prs⟩:=rw0;rw[hep] at dat;cases dat;have hx:kvs[i]? = some kvs[i]:=List.getElem?_eq_getElem hi;obtain⟨e,he,r1,r2⟩:=G3 prs hx;have hsz:ds.size=kvs.length:=by
      have:=Paired.length prs;simpa using this.symm
    have hlt:i<ds.size:=by omega
    have hee:ds[i]=e:=by
      rw[Array.getElem?_toList,Array.getElem?_eq_getElem hlt] at he;exact Option.some.inj he
    obtain⟨hp,g,dr,tk,os⟩:=s;refine qcp hit hob hep hsz hlt fun h' out ht kk=>?_;rw[hee] at out ht;refine⟨_,rfl,wpAny_letOwnedTupleGo_items out fun h2 b1 sb=>?_⟩;have lt:hp.objs.size≠it:=Nat.ne_of_gt (Heap.lt_size hit);have hn:H hp.objs.size=none:=I.hok.fresh (Nat.le_refl _);replace sb:Heap.SameBut it h' h2:=sb;have kk2:∀c o,c∉[it]→hp.get? c=some o→h2.get? c=some o:=fun c o hc z=>by
      have hc':c≠it:=by simpa using hc
      exact(sb.2 c hc').trans (kk c o hc' z)
    have I1:Inv X p_ σ H {heap:=h2,gens:=g,drawn:=dr,toks:=tk,os:=os}:=I.qp (t':=tk) kk2 hf;have yE:=sb.extBut _ _ lt ht;have I2:Inv X p_ σ (upd H hp.objs.size (.tup [kvs[i].1,kvs[i].2])) {heap:=h2,gens:=g,drawn:=dr,toks:=tk,os:=os}:=I.Mq I1 r1 r2 yE;refine⟨.ref hp.objs.size,_,I2,rfl,⟨hp.objs.size,_,_,rfl,hn,rfl,hx⟩,⟨_,_,b1⟩,fun c hcm=>?_⟩;have hne:c≠hp.objs.size:=by
      have e':c=it:=by simpa using hcm
      rw[e'];exact lt.symm
    rw[aB hne];exact(hf c hcm).1
  done:=by
    intro X hP hw hK hc i p_ s σ H E I hf st hg;exact hg.elim
  self:=fun A i s Q E st h=>by
    obtain⟨ok,ov,hit⟩:=st;exact W.kcp_self hit h
section
variable {X:Cx}
def qdB (td:TE):TI:=fun σ H R=>td σ H fun x H1=>isRef x fun a=>∃o kvs,H1 a=some (yZ a o)∧Bb o kvs∧R (qcq a o kvs) H1
@[simp ↓] theorem qiV td σ H R:qdB td σ H R=(td σ H fun x H1=>isRef x fun a=>∃o kvs,H1 a=some (yZ a o)∧Bb o kvs∧R (qcq a o kvs) H1):=rfl
theorem qfc {es:List Expr} {k:Nat} {pos':Pos} {d:Expr} {td:TE} {apos cpos:Pos} (hd:PE X d td)
    (hbase:attributeBase d "items" X.env (eval d X.env)=eval d X.env:=by rfl) (hline:(apos.endLine == cpos.line)=true:=by rfl) :
    PI X (.Tuple es k pos') (.Call (.Attribute d "items" apos) [] [] cpos) (qdB td):=by
  intro p_ s σ H R I h;refine wpAny_Call_method0_late hbase hline (cR (hd p_ s σ H _ I h) fun v s1 zz=>?_);obtain⟨x,H1,I1,r1,q1⟩:=zz;obtain⟨a,rfl,o,kvs,ea,ro,q⟩:=isRef.out q1;obtain rfl:v=Value.ref a:=r1;obtain⟨ho,nm⟩:=(I1.hok _ _ ea).1;obtain⟨ex,z,ds,ep,dat,prs⟩:=id ro;have T1:s1.TypeIs (.ref a) "dict" :=⟨o,ho,ex.1⟩;refine⟨"dict", "dict.items",PySem.F.plainAttrs_dict,PySem.F.slot_dict_items,PySem.F.type_dict_items,T1,fun b q=>by cases q;exact⟨o,ho,ex.2.1⟩,Calls.callWith_builtin rfl (PySem.evalArgs_none ?_)⟩;refine wpAny_call_entry PySem.F.slot_dict_items T1 PySem.F.entry_dict_items ?_ (PySem.F.args_dict_items_1 _);unfold Builtin.«dict.items» Builtin.Dict.noArgs Builtin.Dict.showsAll;refine wpAny_bind (wpAny_bind (wpAny_notOrdered_dict T1 (show wpAny _ _ (pure a) _ _ s1 from wpAny_pure ?_)));show wpAny _ _ (Builtin.Dict.showsAll a >>= _) _ _ s1;unfold Builtin.Dict.showsAll;rw[if_neg (by rw[nm];exact Bool.false_ne_true)];refine wpAny_bind (wpAny_pure (wpAny_bind (wpAny_newObj_type (wpAny_pure ⟨_,rfl,?_⟩))));have p1:(s1.heap.push {cls:=.type "dict_items",data:=.fields #[.ref a]}).get? a=some o:=Heap.get?_push_of_some _ ho;have v1:(s1.heap.push {cls:=.type "dict_items",data:=.fields #[.ref a]}).get? s1.heap.objs.size=some {cls:=.type "dict_items",data:=.fields #[.ref a]}:=Heap.get?_push_size _ rfl;have I2:=I1.kept (t':=s1.toks) (h':=s1.heap.push {cls:=.type "dict_items",data:=.fields #[.ref a]}) fun b u e=>Heap.get?_push_of_some _ e;have hz:s1.heap.objs.size≤(s1.heap.push {cls:=.type "dict_items",data:=.fields #[.ref a]}).objs.size:=by rw[Heap.size_push];exact Nat.le_succ _
  have fpo:∀c,s1.heap.objs.size≤c→vg X p_ H1 c:=fun c hc=>I1.FN hc (I1.hok.fresh hc);generalize s1.heap.push {cls:=.type "dict_items",data:=.fields #[.ref a]}=h2 at p1 v1 I2 hz ⊢;have TV:Shared.TypeIs {s1 with heap:=h2} (.ref s1.heap.objs.size) "dict_items" :=⟨_,v1,rfl⟩;refine wpAny_pyIter_slot TV F.slot_dict_items_iter (wpAny_call_entry F.slot_dict_items_iter TV F.entry_dict_items_iter ?_ (F.args_dict_items_iter_1 _));unfold Builtin.«dict_items.__iter__» Builtin.Dict_items.dictOf Builtin.Dict_items.newIterator;refine wpAny_bind (wpAny_pure (wpAny_bind (wpAny_bind (wpAny_field v1 rfl (x:=.ref a) rfl (wpAny_pure (wpAny_bind (wpAny_bind (wpAny_dictEntries p1 dat (wpAny_bind (wpAny_dictEpoch p1 dat ?_))))))))));have hsz:ds.size=kvs.length:=by
    have:=Paired.length prs;simpa using this.symm
  simp only[show Builtin.Dict_items.ownsTuple "dict_itemiterator" = true from rfl,if_true];refine wpAny_newObj_type (wpAny_pure ⟨_,rfl, "dict_itemiterator",_,⟨_,Heap.get?_push_size _ rfl,rfl⟩,F.slot_dict_itemiterator_next.lookup,?_⟩)
    (by have:=sizeLine_eq;simp[sizeOk,Builtin.Dict_items.ownedTupleFields] <;> omega)
  simp only[rawInt,hsz,Builtin.Dict_items.ownedTupleFields];have I3:=I2.kept (t':=s1.toks) (h':=h2.push {cls:=.type "dict_itemiterator",data:=.fields #[.none,.bool false,.ref a,.int 0 0,.int kvs.length 0,.int ep 0,.none,.none]}) fun b u e=>Heap.get?_push_of_some _ e;refine⟨h2.objs.size,[h2.objs.size],_,_,_,rfl,I3,qaq (ep:=ep) (ds:=ds) dat ro,⟨.none,.none,Heap.get?_push_size _ rfl⟩,fun c hc=>?_,q⟩;have e':=List.mem_singleton.mp hc;rw[e'];exact fpo _ hz
end
section
variable {a:Addr} {o:Obj} {kvs:List (V×V)} {g:TG} {tb:TS} {D:Ends} {d:Zx g tb D} {σ:St} {H:Hp}
theorem qj9 (Pv:Nat→St→Hp→Prop) (h0:Pv 0 σ H) (hl:∀i σ H,Pv i σ H→i<kvs.length∧H a=some (yZ a o))
    (hs:∀i k x t σ H,kvs[i]? = some (k,x)→H t=none→Pv i σ H→g (.ref t) σ (upd H t (.tup [k,x])) fun σ2 H2=>tb {D with nx:=Pv (i+1),ct:=Pv (i+1),bk:=D.nx} σ2 H2):tFr (qcq a o kvs) g tb D d σ H:=by
  refine⟨fun i m σ H=>m=kvs.length - i∧Pv i σ H,⟨kvs.length,by simp,h0⟩,?_⟩;rintro i m σ H ⟨rfl,p⟩;obtain⟨hlt,q⟩:=hl i σ H p;refine .inr ⟨⟨q,hlt⟩,Pv (i+1),fun σ' H' p'=>⟨kvs.length - (i+1),by omega,rfl,p'⟩,fun x H' y=>?_⟩;obtain⟨t,k,u,rfl,ht,rfl,e⟩:=y;exact hs i k u t σ H e ht p
end
section
variable {X:Cx} {K:W.Frag}
def qdC (K:W.Frag):List V→Hp→VK→Prop:=fun xs H Q=>ar2 xs fun x y=>MF y fun n=>isRef x fun a=>∃o kvs b,H a=some (yZ a o)∧Bb o kvs∧W.kitOne K (.type "dict") (.type n)=some b∧Q (.bl b) H
@[simp ↓] theorem qiW (K:W.Frag) xs H Q:qdC K xs H Q=(ar2 xs fun x y=>MF y fun n=>isRef x fun a=>∃o kvs b,H a=some (yZ a o)∧Bb o kvs∧W.kitOne K (.type "dict") (.type n)=some b∧Q (.bl b) H):=rfl
theorem qg1 (hK:X.K=K):cu X (.builtin "isinstance") (qdC K):=by
  subst hK;intro p_ s σ H xs us Q I r h;obtain⟨x,y,rfl,h1⟩:=ar2.out h;obtain⟨n,rfl,h2⟩:=MF.out h1;obtain⟨a,rfl,o,kvs,b,ea,ro,e,q⟩:=isRef.out h2;obtain⟨u,v,rfl,rx,rc⟩:=r.two;obtain rfl:v=Value.type n:=rc;obtain rfl:u=Value.ref a:=rx;exact W.kia_one W.kitx_dict I.mZ ⟨o,(I.hok _ _ ea).1.1,ro.1.1⟩ e (fun z=>nomatch z) fun tk=>⟨.bl b,H,I.tok tk,rfl,q⟩
end
inductive LfL:List V→List PyData→Prop
  | nil:LfL [] []
  | cons {v d vs ds}:Lf v d→LfL vs ds→LfL (v::vs) (d::ds)
theorem LfL.reads {h:Heap}:∀{vs:List V} {ds:List PyData} {us:List Value},LfL vs ds→Vals vs us→ReadsAll h us ds []
  | _,_,_,.nil,.nil=>.nil
  | _,_,_,.cons l t,.cons r rs=>ReadsAll.cons (as:=[]) (bs:=[]) (l.reads r) (t.reads rs)
inductive Xa (H:Hp):V→PyData→Prop
  | leaf {v d}:Lf v d→Xa H v d
  | tup {t vs ds}:H t=some (.tup vs)→LfL vs ds→Xa H (.ref t) (.tuple ds)
inductive Tc (H:Hp):V→PyData→Prop
  | key {v d}:Xa H v d→Tc H v d
  | lst {t vs ds}:H t=some (.lst vs)→t≠sysModules→LfL vs ds→Tc H (.ref t) (.list ds)
  | emp {t}:H t=some (.dK [])→Tc H (.ref t) (.dict [])
theorem Xa.same {H H':Hp} {v:V} {d:PyData} (s:Same H H') (h:Xa H v d):Xa H' v d:=by
  cases h with
  | leaf l=>exact .leaf l
  | tup e l=>exact .tup (s _ _ e) l
theorem Tc.same {H H':Hp} {v:V} {d:PyData} (s:Same H H') (h:Tc H v d):Tc H' v d:=by
  cases h with
  | key k=>exact .key (k.same s)
  | lst e n l=>exact .lst (s _ _ e) n l
  | emp e=>exact .emp (s _ _ e)
inductive kI (H:Hp):List (V×V)→List (PyData×PyData)→Prop
  | nil:kI H [] []
  | cons {k v dk dv ks ds}:Xa H k dk→Tc H v dv→kI H ks ds→kI H ((k,v)::ks) ((dk,dv)::ds)
theorem kI.same {H H':Hp} {ks:List (V×V)} {ds:List (PyData×PyData)} (s:Same H H') (h:kI H ks ds):kI H' ks ds:=by
  induction h with
  | nil=>exact .nil
  | cons a b _ ih=>exact .cons (a.same s) (b.same s) ih
section
variable {X:Cx} {p_:List (Addr×Obj)} {σ:St} {H:Hp} {s:Shared}
theorem Xa.reads (I:Inv X p_ σ H s) {v:V} {d:PyData} {u:Value} (h:Xa H v d) (r:RelV v u):Reads s.heap u d []:=by
  cases h with
  | leaf l=>exact l.reads r
  | tup e l=>
    cases r;obtain⟨its,rv,pl,hz⟩:=I.tuple (gY.of e);obtain⟨o,e',c,m,dt⟩:=pl;exact Reads.tuple e' c dt (by simpa using l.reads rv)
theorem Tc.reads (I:Inv X p_ σ H s) {v:V} {d:PyData} {u:Value} (h:Tc H v d) (r:RelV v u):∃as,Reads s.heap u d as∧sysModules∉as:=by
  cases h with
  | key k=>exact⟨[],k.reads I r,by simp⟩
  | @lst t vs ds e n l=>
    cases r;obtain⟨its,rv,pl,hz⟩:=I.list (bU.of e);obtain⟨o,e',c,m,dt⟩:=pl.isList;refine⟨[t],Reads.list (as:=[]) e' c dt (by simpa using l.reads rv),?_⟩;simp;exact n.symm
  | @emp t e=>
    cases r;obtain⟨_,hd,vs,kv,o,es,ep,e1,e2,e3,_,e5,_⟩:=Gi I.hok e;cases kv;have:es.toList=[]:=by cases h:es.toList with | nil=>rfl | cons a b=>rw[h] at e5;cases e5
    refine⟨[t],Reads.dict (as:=[]) (bs:=[]) e1 e2.1 e3 (by rw[this];exact .nil) (by rw[this];exact .nil),?_⟩;simp;intro z;rw[← z] at hd;simp at hd
theorem kI.reads (I:Inv X p_ σ H s) {ks:List (V×V)} {ds:List (PyData×PyData)} (h:kI H ks ds):∀{es:List DictEntry},Paired (fun(kv:V×V) (e:DictEntry)=>RelV kv.1 e.key∧RelV kv.2 e.val) ks es→
    ∃bs,ReadsAll s.heap (es.map (·.key)) (ds.map (·.1)) []∧ReadsAll s.heap (es.map (·.val)) (ds.map (·.2)) bs∧sysModules∉bs:=by
  induction h with
  | nil=>intro es p;cases p;exact⟨[],.nil,.nil,by simp⟩
  | cons a b _ ih=>
    intro es p;cases p with
    | cons r rs=>
      obtain⟨bs,i1,i2,i3⟩:=ih rs;obtain⟨as,ra,na⟩:=b.reads I r.2;exact⟨as++bs,ReadsAll.cons (as:=[]) (bs:=[]) (a.reads I r.1) i1,.cons ra i2,fun z=>(List.mem_append.mp z).elim na i3⟩
end
def qcr (H:Hp) (a:Addr) (kvs:List (V×V)):Prop:=(∃ks,H a=some (.dK ks)∧kvs=JC ks)∨∃o,H a=some (yZ a o)∧Bb o kvs
theorem qcr.same {H H':Hp} {a:Addr} {kvs:List (V×V)} (s:Same H H') (h:qcr H a kvs):qcr H' a kvs:=by
  rcases h with⟨ks,e,q⟩ | ⟨o,e,q⟩
  ·exact .inl ⟨ks,s _ _ e,q⟩
  ·exact .inr ⟨o,s _ _ e,q⟩
def QB (H:Hp) (d:PyData) (v:V):Prop:=Shw H d v∨∃a kvs ds,v = .ref a∧d = .dict ds∧qcr H a kvs∧kI H kvs ds
theorem QB.same {H H':Hp} {d:PyData} {v:V} (h:QB H d v) (s:Same H H'):QB H' d v:=by
  rcases h with h | ⟨a,kvs,ds,h1,h2,h3,h4⟩
  ·exact .inl (h.same s)
  ·exact .inr ⟨a,kvs,ds,h1,h2,h3.same s,h4.same s⟩
def Td:List V→Hp→VK→Prop:=fun xs H Q=>ar1 xs fun v=>∃d:PyData,QB H d v∧d.showable=true∧d.depth≤32∧d.shown.length≤sizeLine∧Q (.str d.shown) H
@[simp ↓] theorem qg2 xs H Q:Td xs H Q=(ar1 xs fun v=>∃d:PyData,QB H d v∧d.showable=true∧d.depth≤32∧d.shown.length≤sizeLine∧Q (.str d.shown) H):=rfl
theorem Dk {X:Cx} (hg:X.A.guards=some []) (hu:X.A.units+64<cLine):cu X (.builtin "repr") Td:=by
  intro p_ s σ H xs us Q I r h;obtain⟨v,rfl,d,hs,h1,h2,h3,q⟩:=ar1.out h
  rcases hs with hs | ⟨a,kvs,ds,rfl,rfl,hd,hr⟩
  ·exact Qv hg hu p_ s σ H [v] us Q I r (show SJ [v] H Q from⟨d,hs,h1,h2,h3,q⟩)
  · obtain⟨u,rfl,ru⟩:=r.one;cases ru;obtain⟨o,es,ep,e1,e2,e3,pr,nm⟩:∃o es ep,s.heap.get? a=some o∧o.ExactDict∧o.data = .dict es ep∧Paired (fun(kv:V×V) (e:DictEntry)=>RelV kv.1 e.key∧RelV kv.2 e.val) kvs es.toList∧(a == sysModules)=false:=by
      rcases hd with⟨ks,e,rfl⟩ | ⟨o,e,x,z,es,ep,dat,pr⟩
      ·obtain⟨_,hd,vs,kv,o,es,ep,e1,e2,e3,_,e5,_⟩:=Gi I.hok e;exact⟨o,es,ep,e1,e2,e3,K1 e5 kv,hd⟩
      ·exact⟨o,es,ep,(I.hok _ _ e).1.1,x,dat,pr,(I.hok _ _ e).1.2⟩
    obtain⟨bs,r1,r2,nb⟩:=hr.reads I pr;refine repr_of_reads' (h₀:=s.heap) (Reads.dict (as:=[]) e1 e2.1 e3 r1 r2) h1 (fun _ hm=>?_) hg (by omega) (fun _ _ e=>e) (fun h' u tk hk=>⟨.str _,H,I.kept (t':=tk) hk,⟨u,rfl⟩,q⟩) h3;simp at hm
    rcases hm with hm | hm
    ·rw[← hm] at nm;simp at nm
    ·exact nb hm
def qar (K:W.Frag):List V→Hp→VK→Prop:=fun xs H Q=>ar2 xs fun x y=>isRef x fun a=>isRef y fun p=>∃(C:Addr) (od:Option Addr) (Ds:List Addr) (b:Bool),H a=some (GP a C od)∧Ay K C∧H p=some (.tup (Ds.map V.ref))∧W.kitAny K (.ref C) (Ds.map Value.ref)=some b∧Q (.bl b) H
@[simp ↓] theorem qg3 (K:W.Frag) xs H Q:qar K xs H Q=(ar2 xs fun x y=>isRef x fun a=>isRef y fun p=>∃(C:Addr) (od:Option Addr) (Ds:List Addr) (b:Bool),H a=some (GP a C od)∧Ay K C∧H p=some (.tup (Ds.map V.ref))∧W.kitAny K (.ref C) (Ds.map Value.ref)=some b∧Q (.bl b) H):=rfl
theorem qas {X:Cx} {K:W.Frag} (hK:X.K=K):cu X (.builtin "isinstance") (qar K):=by
  subst hK;intro p_ s σ H xs us Q I r h;obtain⟨v1,v2,rfl,h⟩:=ar2.out h;obtain⟨a,rfl,h⟩:=isRef.out h;obtain⟨p,rfl,C,od,Ds,b,e,⟨L,cd,hcd⟩,hp,hk,q⟩:=isRef.out h;obtain⟨u,v,rfl,r1,r2⟩:=r.two;obtain rfl:u=Value.ref a:=r1;obtain rfl:v=Value.ref p:=r2;obtain⟨ex,_⟩:=I.hok a _ e;obtain⟨_,its,rv,o,e1,e2,k,e3⟩:=(show cj X.prog X.w H s.heap p (.tup (Ds.map V.ref)) from I.hok p _ hp);obtain rfl:=KJ rv;obtain⟨c,dd,dt,sl⟩:=o;replace e2:c = .type "tuple" :=e2;replace e3:dt = .seq (Ds.map Value.ref).toArray k:=e3;subst e2 e3;exact W.kia_tup (Qp hcd L) I.mZ ex.at e1 hk (fun z=>by cases z) fun tk=>⟨.bl b,H,I.kept (fun _ _ e=>e),rfl,q⟩
theorem wg {K:W.Frag} {C:Addr}:∀{Ds:List Addr},(∀D∈Ds,Qs K C (.ref D)=some false)→W.kitAny K (.ref C) (Ds.map Value.ref)=some false
  | [],_=>SX
  | D::Ds,h=>by
    have:=Qw (h D List.mem_cons_self) (wg fun D' h'=>h D' (List.mem_cons_of_mem _ h'));exact this
end L2
namespace L2
open PySem PySem.Spec
def VE (ψ:Hp→V→Prop) (p:Addr) (t:TE) (σ:St) (H:Hp):Prop:=∀(H1:Hp) (Q:VK),(∃o,H p=some o)→Same H H1→(∀v H2,Same H1 H2→ψ (hid p H2) v→Q v H2)→t σ H1 Q
def VEs (ψ:Hp→V→Prop) (p:Addr) (n:Nat) (t:TA) (σ:St) (H:Hp):Prop:=∀(H1:Hp) (Q:List V→Hp→Prop),(∃o,H p=some o)→Same H H1→(∀vs H2,Same H1 H2→vs.length=n→(∀v∈vs,ψ (hid p H2) v)→Q vs H2)→t σ H1 Q
section
variable {ψ:Hp→V→Prop} {p:Addr} {σ:St} {H:Hp}
theorem Nr:VEs ψ p 0 Jq σ H:=fun H1 Q _ _ q=>q [] H1 (Same.refl _) rfl fun v hv=>absurd hv (by simp)
theorem cO (mono:∀{H H':Hp} {v:V},Same H H'→ψ H v→ψ H' v) {ta:TE} {tr:TA} {n:Nat} (h1:VE ψ p ta σ H) (h2:VEs ψ p n tr σ H):VEs ψ p (n+1) (vm ta tr) σ H:=fun H1 Q hp s q=>
  h1 H1 _ hp s fun v H2 s2 hv=>h2 H2 _ hp (s.trans s2) fun vs H3 s3 hl hvs=>q _ H3 (s2.trans s3) (by simp[hl]) fun u hu=>by
    rcases List.mem_cons.mp hu with rfl | hu
    ·exact mono (kj s3) hv
    ·exact hvs u hu
theorem Tf {v:V} (h:∀H,ψ H v):VE ψ p (tC v) σ H:=fun H1 Q _ s q=>q _ H1 (Same.refl _) (h _)
theorem G4 (mono:∀{H H':Hp} {v:V},Same H H'→ψ H v→ψ H' v) {t:TA} {n:Nat} (h:VEs ψ p n t σ H) (hp:∃o,H p=some o) (hl:n≤sizeLine) {Q:VK} (q:∀b vs H2,H b=none→Same H H2→vs.length=n→H2 b=some (.lst vs)→(∀v∈vs,ψ (hid p H2) v)→Q (.ref b) H2):big (YW t) σ H Q:=
  ⟨h H _ hp (Same.refl _) fun vs H2 s2 hn hv=>⟨by rw[hn];exact hl,fun b hb=>q b vs _ (cF s2 hb) (s2.trans (aA hb)) hn ao fun v h=>mono (kj (aA hb)) (hv v h)⟩⟩
end
end L2
namespace L2
open PySem PySem.Spec PyProof.Rows
section
variable {X:Cx} {K:W.Frag}
end
def qg4:Key→PyData
  | .inl i=>.int i
  | .inr x=>.str x
inductive LfT:List (List Key×V)→List (PyData×PyData)→Prop
  | nil:LfT [] []
  | cons {k v d ks kvs}:Lf v d→LfT ks kvs→LfT ((k,v)::ks) ((.tuple (k.map qg4),d)::kvs)
def qat (H:Hp) (a:Addr) (kvs:List (PyData×PyData)):Prop:=(∃ks,GQ ks kvs∧H a=some (.dK (ks.map fun e=>((Sum.inr e.1:Key),e.2))))∨∃ks,LfT ks kvs∧H a=some (.dT ks)
theorem qat.same {H H':Hp} {a:Addr} {kvs:List (PyData×PyData)} (s:Same H H') (h:qat H a kvs):qat H' a kvs:=by
  rcases h with⟨ks,h1,h2⟩ | ⟨ks,h1,h2⟩
  ·exact .inl ⟨ks,h1,s _ _ h2⟩
  ·exact .inr ⟨ks,h1,s _ _ h2⟩
theorem K3 {h:Heap}:∀{ks:List Key} {us:List Value},Vals (ks.map kV) us→ReadsAll h us (ks.map qg4) []
  | [],_,r=>by rw[List.map_nil] at r;cases r;exact .nil
  | k::ks,_,r=>by
    rw[List.map_cons] at r;cases r with
    | cons r1 r2=>
      refine ReadsAll.cons (as:=[]) (bs:=[]) ?_ (K3 r2);cases k with
      | inl i=>obtain⟨t,rfl⟩:=r1;exact .int i t
      | inr x=>obtain⟨t,rfl⟩:=r1;exact .str x t
theorem K4 {P:Program} {w:World} {H:Hp} {h:Heap} (ok:pq P w H h):∀{ks:List (List Key×V)} {kvs:List (PyData×PyData)} {xs:List (List Key×Addr×Value)},LfT ks kvs→KT H ks xs→
    ReadsAll h ((xs.map (entryOfKey (tupleKind (aV P w)))).map (·.key)) (kvs.map (·.1)) []∧ReadsAll h ((xs.map (entryOfKey (tupleKind (aV P w)))).map (·.val)) (kvs.map (·.2)) []
  | _,_,_,.nil,kt=>by
    cases kt;exact⟨.nil,.nil⟩
  | _,_,_,.cons (k:=k) l ls,kt=>by
    cases kt with
    | @cons _ q _ qs r rs=>
      obtain⟨i1,i2⟩:=K4 ok ls rs;obtain⟨r1,r2,r3⟩:=r;simp only at r1 r2 r3;obtain⟨_,its,rv,o,h1,h2,n,h3⟩:=(show cj P w H h _ (.tup _) from ok _ _ r2);simp only[List.map_cons];refine⟨ReadsAll.cons (as:=[]) (bs:=[]) ?_ i1,ReadsAll.cons (as:=[]) (bs:=[]) ?_ i2⟩
      ·exact Reads.tuple h1 h2 h3 (by simpa using K3 rv)
      ·exact l.reads r3
theorem qfd {P:Program} {w:World} {H:Hp} {h:Heap} {a:Addr} {kvs:List (PyData×PyData)} (ok:pq P w H h) (l:qat H a kvs):Reads h (.ref a) (.dict kvs) [a]∧(a == sysModules)=false:=by
  rcases l with⟨ks,h1,h2⟩ | ⟨ks,h1,h2⟩
  ·exact Dh ok h1 h2
  ·obtain⟨_,hd,xs,kt,o,es,ep,q1,q2,q3,q4,q5,q6⟩:=qdj ok h2;obtain⟨r1,r2⟩:=K4 ok h1 kt;rw[← q4] at r1 r2;exact⟨Reads.dict (as:=[]) (bs:=[]) q1 q2.1 q3 r1 r2,hd⟩
mutual
def dw (H:Hp):PyData→V→Prop
  | .none,v=>v = .non
  | .bool b,v=>v = .bl b
  | .int i,v=>v = .int i
  | .str x,v=>v = .str x
  | .list ds,v=>∃a xs,v = .ref a∧H a=some (.lst xs)∧eO H ds xs
  | .tuple ds,v=>∃a xs,v = .ref a∧H a=some (.tup xs)∧eO H ds xs
  | .dict kvs,v=>∃a,v = .ref a∧qat H a kvs
def eO (H:Hp):List PyData→List V→Prop
  | [],vs=>vs=[]
  | d::ds,vs=>∃v r,vs=v::r∧dw H d v∧eO H ds r
end
mutual
theorem dw.same {H H':Hp} (s:Same H H'):∀(d:PyData) (v:V),dw H d v→dw H' d v
  | .none,v,h=>by simp only[dw] at h ⊢;exact h
  | .bool b,v,h=>by simp only[dw] at h ⊢;exact h
  | .int i,v,h=>by simp only[dw] at h ⊢;exact h
  | .str x,v,h=>by simp only[dw] at h ⊢;exact h
  | .list ds,v,h=>by
    simp only[dw] at h ⊢;obtain⟨a,xs,e,h1,h2⟩:=h;exact⟨a,xs,e,s _ _ h1,eO.same s ds xs h2⟩
  | .tuple ds,v,h=>by
    simp only[dw] at h ⊢;obtain⟨a,xs,e,h1,h2⟩:=h;exact⟨a,xs,e,s _ _ h1,eO.same s ds xs h2⟩
  | .dict kvs,v,h=>by
    simp only[dw] at h ⊢;obtain⟨a,e,h1⟩:=h;exact⟨a,e,h1.same s⟩
theorem eO.same {H H':Hp} (s:Same H H'):∀(ds:List PyData) (vs:List V),eO H ds vs→eO H' ds vs
  | [],vs,h=>by simp only[eO] at h ⊢;exact h
  | d::ds,vs,h=>by
    simp only[eO] at h ⊢;obtain⟨v,r,e,h1,h2⟩:=h;exact⟨v,r,e,dw.same s d v h1,eO.same s ds r h2⟩
end
section
variable {X:Cx} {p_:List (Addr×Obj)} {σ:St} {H:Hp} {s:Shared}
end
end L2
namespace L2
open PySem PySem.Spec
section
variable {σ:St} {H:Hp} {p:Addr}
variable {φ:PyData→Prop}
end
structure Ltr (n:Nat) (x:Str):Prop where
  cp:∀c∈x.cps.toList,c<16 ^ 8
  ln:x.length≤n
theorem dictText_len_le (ts:List Str):(dictText ts).length≤(ts.map (·.length)).sum+2 * ts.length+3:=by
  have la:∀x y:Str,(x++y).length=x.length+y.length:=fun x y=>Array.size_append;unfold dictText;rw[la,la,show("{" : Str).length=1 from rfl,show("}" : Str).length=1 from rfl];have h:(Str.join ", " ts).length≤(ts.map (·.length)).sum+ts.length * 2:=StrLaws.join_length_le ", " ts;omega
theorem qau {kvs:List (PyData×PyData)} {k n m:Nat} (h:∀e∈kvs,yW k n e.1∧yW k n e.2) (hl:(2 * n+4) * kvs.length+3≤m):yW (k+1) m (.dict kvs):=by
  have la:∀x y:Str,(x++y).length=x.length+y.length:=fun x y=>Array.size_append;have key:∀kvs:List (PyData×PyData),(∀e∈kvs,yW k n e.1∧yW k n e.2)→PyData.showableKv kvs=true∧PyData.depthKv kvs≤k∧(PyData.shownKv kvs).length=kvs.length∧((PyData.shownKv kvs).map (·.length)).sum≤(2 * n+2) * kvs.length:=by
    intro kvs
    induction kvs with
    | nil=>intro _;simp[PyData.showableKv,PyData.depthKv,PyData.shownKv]
    | cons e r ih=>
      intro h;obtain⟨⟨a1,a2,a3⟩,b1,b2,b3⟩:=h e List.mem_cons_self;obtain⟨i1,i2,i3,i4⟩:=ih fun e he=>h e (List.mem_cons_of_mem _ he);obtain⟨x,y⟩:=e;simp only at a1 a2 a3 b1 b2 b3;simp only[PyData.showableKv,PyData.depthKv,PyData.shownKv,a1,b1,i1,List.length_cons,List.map_cons,List.sum_cons,i3,la];refine⟨rfl,by simp only[Nat.max_le];omega,trivial,?_⟩;rw[show(": " : Str).length=2 from rfl,Nat.mul_succ];omega
  obtain⟨h1,h2,h3,h4⟩:=key kvs h;have:=dictText_len_le (PyData.shownKv kvs);refine⟨by simpa [PyData.showable] using h1,by simp only[PyData.depth];omega,?_⟩;simp only[PyData.shown];rw[h3] at this;have e:(2 * n+4) * kvs.length=(2 * n+2) * kvs.length+2 * kvs.length:=by rw[← Nat.add_mul]
  omega
section
variable {σ:St} {H:Hp} {p:Addr} {K:W.Frag}
theorem Nt {vs:List V} {k:Int} {n:Nat} (h:vs.length=n) (h0:0≤k) (h1:k<n):∃v,v∈vs∧Ka vs k=some v:=by
  obtain⟨v,hv⟩:∃v,vs[k.toNat]? = some v:=⟨_,List.getElem?_eq_getElem (show k.toNat<vs.length by omega)⟩;refine⟨v,List.mem_of_getElem? hv,?_⟩;rw[show k=(k.toNat:Int) by omega];exact dh hv
end
section
variable {σ:St} {H:Hp} {p:Addr} {K:W.Frag}
mutual
theorem jd.x {H:Hp}:∀(d:PyData) (v:V),jd H d v→dw H d v
  | .none,v,h=>by simp only[jd,dw] at h ⊢;exact h
  | .bool b,v,h=>by simp only[jd,dw] at h ⊢;exact h
  | .int i,v,h=>by simp only[jd,dw] at h ⊢;exact h
  | .str x,v,h=>by simp only[jd,dw] at h ⊢;exact h
  | .list ds,v,h=>by
    simp only[jd,dw] at h ⊢;obtain⟨a,xs,e,h1,h2⟩:=h;exact⟨a,xs,e,h1,bJ.x ds xs h2⟩
  | .tuple ds,v,h=>by
    simp only[jd,dw] at h ⊢;obtain⟨a,xs,e,h1,h2⟩:=h;exact⟨a,xs,e,h1,bJ.x ds xs h2⟩
  | .dict kvs,v,h=>by
    simp only[jd,dw] at h ⊢;obtain⟨rfl,a,e,h1⟩:=h;exact⟨a,e,.inl ⟨[],.nil,h1⟩⟩
theorem bJ.x {H:Hp}:∀(ds:List PyData) (vs:List V),bJ H ds vs→eO H ds vs
  | [],vs,h=>by simp only[bJ,eO] at h ⊢;exact h
  | d::ds,vs,h=>by
    simp only[bJ,eO] at h ⊢;obtain⟨v,r,e,h1,h2⟩:=h;exact⟨v,r,e,jd.x d v h1,bJ.x ds r h2⟩
end
variable {φ:PyData→Prop}
end
end L2
namespace L2
open PySem PySem.Spec PyProof.Rows
section
variable {X:Cx} {e:Expr} {es:List Expr} {te:TE} {t:TA}
structure PAq (X:Cx) (es:List Expr) (t:TA):Prop where
  out:PA X es t
theorem Xb {env:Env} (h:∀a b,e≠.Starred a b):starEach (e::es) env=(false,eval e env)::starEach es env:=by
  cases e <;> first | rfl | exact absurd rfl (h _ _)
theorem Nu:PAq X [] Jq:=⟨ak⟩
theorem bF (ha:PE X e te) (hr:PAq X es t) (hn:∀a b,e≠.Starred a b:=by(intro _ _ h;cases h)):PAq X (e::es) (vm te t):=⟨aj ha hr.out (Xb hn)⟩
end
structure PEq (X:Cx) (e:Expr) (te:TE):Prop where
  out:PE X e te
theorem Nv {X:Cx} {es:List Expr} {t:TA} {pos:Pos} (h:PAq X es t):PEq X (.List es pos) (YW t):=⟨jc h.out⟩
structure PSq (X:Cx) (st:Stmt) (t:TS):Prop where
  out:PS X st t
structure qcs (X:Cx) (st:List Stmt) (t:TS):Prop where
  out:Jm X st t
section
variable {X:Cx} {st:Stmt} {rest:List Stmt} {t u:TS} {e a b:Expr} {te ta tb:TE} {pos:Pos}
theorem mz (h1:PSq X st t) (h2:qcs X rest u):qcs X (st::rest) (qbw t u):=⟨aC h1.out h2.out⟩
theorem qav (h1:PSq X st t):qcs X [st] t:=⟨aF h1.out⟩
theorem qct (h:PEq X e te):PSq X (.Return (some e) pos) (qd1 te):=⟨bh h.out⟩
theorem Vq {i:Nat} {x:Str} {pos':Pos} (hN:X.N.Nodup) (hi:X.N[i]? = some x) (hx:Loc X.env.scope x) (he:PEq X e te) (hs:swapsWith e (some (.Name x pos')) pos.line X.env=pure false:=by rfl) (hf:X.fn x=true∨X.env.scope.names.lookup x=some .local:=by first | exact .inl rfl | exact .inr rfl | assumption) :
    PSq X (.Assign [.Name x pos'] e pos) (V3 te (JZ i)):=⟨bI hN hi hx he.out hs hf⟩
theorem Tg {r:R2} (hr:Yo X r) (ha:PEq X a ta) (hb:PEq X b tb) (hs:UL b):PEq X (.Subscript a b pos) (tOp r ta tb):=⟨gj hr ha.out hb.out hs⟩
theorem Ny (h:PEq X e te):PEq X e (big te):=⟨qe8 h.out⟩
end
end L2
namespace K45
open PySem L2
def top (i:Nat):Stmt:=PySem.Challenge.pw_pointways_k45_refused_fixed.main.body.getD i (.Pass ⟨0,0,0,0⟩)
abbrev nZ:Stmt:=top 1
abbrev qz:Stmt:=top 2
abbrev jR:Stmt:=top 3
abbrev Nz:Stmt:=top 4
abbrev vC:Stmt:=inClass (top 19) 0
abbrev sW:Stmt:=inClass (top 20) 0
abbrev Dl:Stmt:=inClass (top 21) 0
abbrev n6:Stmt:=inClass (top 22) 0
abbrev za:Stmt:=inClass (top 23) 0
abbrev Bc:Stmt:=top 29
abbrev wj:Stmt:=top 30
abbrev uK:Stmt:=top 31
abbrev lY:Stmt:=top 32
abbrev zc:Stmt:=top 33
abbrev qC:Stmt:=top 34
abbrev qD:Stmt:=inClass (top 35) 0
abbrev qF:Stmt:=inClass (top 35) 1
abbrev wk:Stmt:=inClass (top 35) 2
abbrev wu:Stmt:=inClass (top 35) 3
abbrev sX:Stmt:=top 36
abbrev Bd:Stmt:=top 38
abbrev eU:Stmt:=top 40
abbrev lN:Stmt:=top 42
abbrev lO:Stmt:=top 43
abbrev n_:Stmt:=top 44
abbrev gK:Stmt:=top 45
abbrev m8:Stmt:=top 46
abbrev jo:Stmt:=top 47
abbrev G5:Stmt:=top 48
abbrev qaw:Stmt:=top 50
abbrev Ti:Stmt:=top 51
abbrev En:Stmt:=top 52
abbrev NK:Stmt:=top 53
abbrev qax:Stmt:=top 54
abbrev K5:Stmt:=top 55
abbrev NP:Stmt:=top 56
abbrev Tj:Stmt:=top 57
abbrev wz:Stmt:=top 58
abbrev vD:Stmt:=top 59
theorem gM:aX ["web", "fixed", "steps", "number", "first", "second"] ["web", "fixed"] (aD nZ):=⟨rfl,rfl,rfl,by decide+kernel,rfl,by decide+kernel,by decide+kernel⟩
theorem cY:aX ["start", "steps", "ways", "row", "at", "here", "number", "origin", "goal"] ["start", "steps"] (aD qz):=⟨rfl,rfl,rfl,by decide+kernel,rfl,by decide+kernel,by decide+kernel⟩
theorem sY:aX ["web", "start", "steps", "ways"] ["web", "start", "steps"] (aD jR):=⟨rfl,rfl,rfl,by decide+kernel,rfl,by decide+kernel,by decide+kernel⟩
theorem qG:aX ["web", "steps", "told", "number", "first", "second", "lot"] ["web"] (aD Nz):=⟨rfl,rfl,rfl,by decide+kernel,rfl,by decide+kernel,by decide+kernel⟩
theorem NQ:aX ["self", "lot"] ["self", "lot"] (aD sW):=⟨rfl,rfl,rfl,by decide+kernel,rfl,by decide+kernel,by decide+kernel⟩
theorem G6:aX ["self", "tie", "lot"] ["self", "tie", "lot"] (aD n6):=⟨rfl,rfl,rfl,by decide+kernel,rfl,by decide+kernel,by decide+kernel⟩
theorem Tn:aX ["thing"] ["thing"] (aD Bc):=⟨rfl,rfl,rfl,by decide+kernel,rfl,by decide+kernel,by decide+kernel⟩
theorem Dm:aX ["thing"] ["thing"] (aD wj):=⟨rfl,rfl,rfl,by decide+kernel,rfl,by decide+kernel,by decide+kernel⟩
theorem Tp:aX ["thing"] ["thing"] (aD uK):=⟨rfl,rfl,rfl,by decide+kernel,rfl,by decide+kernel,by decide+kernel⟩
theorem JD:aX ["thing"] ["thing"] (aD lY):=⟨rfl,rfl,rfl,by decide+kernel,rfl,by decide+kernel,by decide+kernel⟩
theorem Xc:aX ["thing", "points"] ["thing", "points"] (aD zc):=⟨rfl,rfl,rfl,by decide+kernel,rfl,by decide+kernel,by decide+kernel⟩
theorem QC:aX ["thing", "points"] ["thing", "points"] (aD qC):=⟨rfl,rfl,rfl,by decide+kernel,rfl,by decide+kernel,by decide+kernel⟩
theorem QD:aX ["self", "points", "ties"] ["self", "points", "ties"] (aD qD):=⟨rfl,rfl,rfl,by decide+kernel,rfl,by decide+kernel,by decide+kernel⟩
theorem JF:aX ["self"] ["self"] (aD qF):=⟨rfl,rfl,rfl,by decide+kernel,rfl,by decide+kernel,by decide+kernel⟩
theorem QF:aX ["self"] ["self"] (aD wk):=⟨rfl,rfl,rfl,by decide+kernel,rfl,by decide+kernel,by decide+kernel⟩
theorem QG:aX ["self"] ["self"] (aD wu):=⟨rfl,rfl,rfl,by decide+kernel,rfl,by decide+kernel,by decide+kernel⟩
theorem zf:aX ["web", "thing"] ["web", "thing"] (aD sX):=⟨rfl,rfl,rfl,by decide+kernel,rfl,by decide+kernel,by decide+kernel⟩
theorem G7:aX ["thing"] ["thing"] (aD Bd):=⟨rfl,rfl,rfl,by decide+kernel,rfl,by decide+kernel,by decide+kernel⟩
theorem dU:aX ["web", "steps", "points", "point", "found"] ["web", "steps"] (aD eU):=⟨rfl,rfl,rfl,by decide+kernel,rfl,by decide+kernel,by decide+kernel⟩
theorem bC:aX ["web", "thing", "number", "lead"] ["web", "thing"] (aD lN):=⟨rfl,rfl,rfl,by decide+kernel,rfl,by decide+kernel,by decide+kernel⟩
theorem pJ:aX ["fixed", "number", "lead", "more"] ["fixed", "number", "lead"] (aD lO):=⟨rfl,rfl,rfl,by decide+kernel,rfl,by decide+kernel,by decide+kernel⟩
theorem G8:aX ["web", "fixed"] ["web", "fixed"] (aD n_):=⟨rfl,rfl,rfl,by decide+kernel,rfl,by decide+kernel,by decide+kernel⟩
theorem cV:aX ["web", "fixed", "lot", "barring", "number", "side"] ["web", "fixed"] (aD gK):=⟨rfl,rfl,rfl,by decide+kernel,rfl,by decide+kernel,by decide+kernel⟩
theorem NT:aX ["web", "fixed"] ["web", "fixed"] (aD m8):=⟨rfl,rfl,rfl,by decide+kernel,rfl,by decide+kernel,by decide+kernel⟩
theorem iZ:aX ["web", "fixed", "kept", "number"] ["web", "fixed"] (aD jo):=⟨rfl,rfl,rfl,by decide+kernel,rfl,by decide+kernel,by decide+kernel⟩
theorem mC:aX ["web", "fixed", "told", "number", "lead", "lot"] ["web", "fixed"] (aD G5):=⟨rfl,rfl,rfl,by decide+kernel,rfl,by decide+kernel,by decide+kernel⟩
theorem qay:aX ["_law_script", "_law_k", "_law_cell"] ["_law_script", "_law_k"] (aD qaw):=⟨rfl,rfl,rfl,by decide+kernel,rfl,by decide+kernel,by decide+kernel⟩
theorem Vr:aX ["_law_pot_here", "_law_many", "_law_digit"] ["_law_pot_here", "_law_many"] (aD Ti):=⟨rfl,rfl,rfl,by decide+kernel,rfl,by decide+kernel,by decide+kernel⟩
theorem pK:aX ["_law_pot_here", "_law_many", "_law_letters", "_law_begin", "_law_found", "_law_k", "_law_more"] ["_law_pot_here", "_law_many"] (aD En):=⟨rfl,rfl,rfl,by decide+kernel,rfl,by decide+kernel,by decide+kernel⟩
theorem G9:aX ["_law_pot_here", "_law_things", "_law_found", "_law_thing"] ["_law_pot_here", "_law_things"] (aD NK):=⟨rfl,rfl,rfl,by decide+kernel,rfl,by decide+kernel,by decide+kernel⟩
theorem Tq:aX ["_law_pot_here", "_law_names_here", "_law_a", "_law_b"] ["_law_pot_here", "_law_names_here"] (aD qax):=⟨rfl,rfl,rfl,by decide+kernel,rfl,by decide+kernel,by decide+kernel⟩
theorem qH:aX ["_law_pot_here", "_law_points", "_law_most", "_law_names_here", "_law_kind", "_law_ties", "_law_row", "_law_k", "_law_turns"] ["_law_pot_here", "_law_points", "_law_most"] (aD K5):=⟨rfl,rfl,rfl,by decide+kernel,rfl,by decide+kernel,by decide+kernel⟩
theorem G_:aX ["_law_e", "_law_kinds", "_law_others"] ["_law_e"] (aD NP):=⟨rfl,rfl,rfl,by decide+kernel,rfl,by decide+kernel,by decide+kernel⟩
theorem zj:aX ["_law_road", "_law_made", "_law_fixed", "_law_said_here", "_law_kept", "_law_e"] ["_law_road", "_law_made", "_law_fixed"] (aD Tj):=⟨rfl,rfl,rfl,by decide+kernel,rfl,by decide+kernel,by decide+kernel⟩
theorem kJ:aX ["_law_pot_here", "_law_many", "_law_fixed", "_law_bad", "_law_odd", "_law_found", "_law_turning"] ["_law_pot_here", "_law_many", "_law_fixed"] (aD wz):=⟨rfl,rfl,rfl,by decide+kernel,rfl,by decide+kernel,by decide+kernel⟩
theorem oh:aX ["_law_script", "_law_k", "_law_pot_here", "_law_web_here", "_law_made", "_law_many", "_law_fixed", "_law_turn", "_law_none", "_law_word"] ["_law_script"] (aD vD):=⟨rfl,rfl,rfl,by decide+kernel,rfl,by decide+kernel,by decide+kernel⟩
set_option genInjectivity false in
structure Adr where
  dF:Addr
  jq:FuncData
  eV:Addr
  jT:FuncData
  dG:Addr
  jr:FuncData
  sZ:Addr
  Eo:FuncData
  dH:Addr
  mJ:FuncData
  eX:Addr
  lZ:FuncData
  fP:Addr
  qI:FuncData
  cZ:Addr
  jt:FuncData
  eY:Addr
  ou:FuncData
  jg:Addr
  qJ:FuncData
  fW:Addr
  kO:FuncData
  jh:Addr
  qK:FuncData
  eZ:Addr
  jU:FuncData
  kW:Addr
  uL:FuncData
  gO:Addr
  m9:FuncData
  fX:Addr
  m_:FuncData
  dz:Addr
  jV:FuncData
  fY:Addr
  ni:FuncData
  fZ:Addr
  nj:FuncData
  fj:Addr
  ju:FuncData
  h_:Addr
  mK:FuncData
  bW:Addr
  dW:FuncData
  bB:Addr
  b_:FuncData
  cT:Addr
  ig:FuncData
  dI:Addr
  jw:FuncData
  bY:Addr
  dX:FuncData
  fQ:Addr
  mj:FuncData
  cI:Addr
  eF:FuncData
  iK:Addr
  mD:FuncData
  Dq:Addr
  NZ:FuncData
  tu:Addr
  Ep:FuncData
  nq:Addr
  zm:FuncData
  nu:Addr
  zp:FuncData
  Dr:Addr
  N5:FuncData
  Dt:Addr
  N6:FuncData
  nA:Addr
  zq:FuncData
  tD:Addr
  Er:FuncData
  gP:Addr
  nC:FuncData
  Du:Addr
  N7:FuncData
  jN:Value
  dN:Value
  fC:Value
  gQ:Value
  bG:Addr
  aq:Addr
  cC:Addr
  aR:Addr
  bQ:Addr
  cD:Addr
  aY:Addr
  aQ:Addr
  bw:Addr
  aO:Addr
  bR:Addr
  bx:Addr
  bA:Addr
  bT:Addr
  bV:Addr
  aP:Addr
  aZ:Addr
  cH:Addr
  bH:Addr
def kY (a:Adr):List Addr:=[a.cC,a.aR,a.bQ,a.cD,a.aY,a.aQ,a.bw,a.aO,a.bR,a.bx,a.bA,a.bT,a.bV,a.aP,a.aZ,a.cH,a.bH]
structure Txt (K:W.Frag) (mg:Str→Option Value) (a:Adr):Prop where
  jW:dZ K "steps_along" "steps_along" nZ a.dF a.jq
  oA:Binds K a.jq ["web", "fixed"] []
  oE:mg "steps_along" = some (.ref a.dF)
  qL:dZ K "ways_along" "ways_along" qz a.eV a.jT
  zu:Binds K a.jT ["start", "steps"] []
  zx:mg "ways_along" = some (.ref a.eV)
  jX:dZ K "found_along" "found_along" jR a.dG a.jr
  oF:Binds K a.jr ["web", "start", "steps"] []
  oG:mg "found_along" = some (.ref a.dG)
  Tr:dZ K "bars" "bars" Nz a.sZ a.Eo
  qaz:Binds K a.Eo ["web"] []
  qaA:mg "bars" = some (.ref a.sZ)
  JG:dZ K "__init__" "Parted.__init__" vC a.dH a.mJ
  JH:Binds K a.mJ ["self", "lot"] []
  Dv:dZ K "__init__" "Shut.__init__" sW a.eX a.lZ
  Dw:Binds K a.lZ ["self", "lot"] []
  QH:dZ K "__init__" "Thin.__init__" Dl a.fP a.qI
  QJ:Binds K a.qI ["self", "lot"] []
  vG:dZ K "__init__" "Barred.__init__" n6 a.cZ a.jt
  vH:Binds K a.jt ["self", "tie", "lot"] []
  N8:dZ K "__init__" "NoIns.__init__" za a.eY a.ou
  N_:Binds K a.ou ["self", "word", "part"] []
  pL:dZ K "is_list" "is_list" Bc a.jg a.qJ
  uM:Binds K a.qJ ["thing"] []
  uN:mg "is_list" = some (.ref a.jg)
  je:dZ K "is_whole" "is_whole" wj a.fW a.kO
  mL:Binds K a.kO ["thing"] []
  mO:mg "is_whole" = some (.ref a.fW)
  uO:dZ K "is_name" "is_name" uK a.jh a.qK
  Bf:Binds K a.qK ["thing"] []
  Bg:mg "is_name" = some (.ref a.jh)
  qM:dZ K "are_points" "are_points" lY a.eZ a.jU
  zy:Binds K a.jU ["thing"] []
  zA:mg "are_points" = some (.ref a.eZ)
  Hg:dZ K "is_tie" "is_tie" zc a.kW a.uL
  QK:Binds K a.uL ["thing", "points"] []
  QL:mg "is_tie" = some (.ref a.kW)
  wA:dZ K "are_ties" "are_ties" qC a.gO a.m9
  Hh:Binds K a.m9 ["thing", "points"] []
  Hi:mg "are_ties" = some (.ref a.gO)
  Hj:dZ K "__init__" "Web.__init__" qD a.fX a.m_
  Hl:Binds K a.m_ ["self", "points", "ties"] []
  zB:dZ K "points" "Web.points" qF a.dz a.jV
  qN:Binds K a.jV ["self"] []
  Ho:dZ K "ties" "Web.ties" wk a.fY a.ni
  wB:Binds K a.ni ["self"] []
  Hq:dZ K "many" "Web.many" wu a.fZ a.nj
  mQ:Binds K a.nj ["self"] []
  gR:dZ K "is_number" "is_number" sX a.fj a.ju
  kZ:Binds K a.ju ["web", "thing"] []
  k_:mg "is_number" = some (.ref a.fj)
  jO:dZ K "is_lead" "is_lead" Bd a.h_ a.mK
  pO:Binds K a.mK ["thing"] []
  pP:mg "is_lead" = some (.ref a.h_)
  gU:dZ K "lot_without_way_in" "lot_without_way_in" eU a.bW a.dW
  lg:Binds K a.dW ["web", "steps"] []
  lq:mg "lot_without_way_in" = some (.ref a.bW)
  cL:dZ K "sure_of_fixed" "sure_of_fixed" lN a.bB a.b_
  gw:Binds K a.b_ ["web", "thing"] []
  gA:mg "sure_of_fixed" = some (.ref a.bB)
  i_:dZ K "with_one_more" "with_one_more" lO a.cT a.ig
  lQ:Binds K a.ig ["fixed", "number", "lead"] []
  lR:mg "with_one_more" = some (.ref a.cT)
  iM:dZ K "lot_shut_by" "lot_shut_by" n_ a.dI a.jw
  jY:Binds K a.jw ["web", "fixed"] []
  jZ:mg "lot_shut_by" = some (.ref a.dI)
  fu:dZ K "sure_of_a_pointing" "sure_of_a_pointing" gK a.bY a.dX
  gV:Binds K a.dX ["web", "fixed"] []
  gW:mg "sure_of_a_pointing" = some (.ref a.bY)
  nF:dZ K "free_ties" "free_ties" m8 a.fQ a.mj
  tE:Binds K a.mj ["web", "fixed"] []
  tG:mg "free_ties" = some (.ref a.fQ)
  jx:dZ K "pointed_with" "pointed_with" jo a.cI a.eF
  tH:Binds K a.eF ["web", "fixed"] []
  tK:mg "pointed_with" = some (.ref a.cI)
  zF:dZ K "forced" "forced" G5 a.iK a.mD
  QM:Binds K a.mD ["web", "fixed"] []
  QS:mg "forced" = some (.ref a.iK)
  qaB:dZ K "_law_pot" "_law_pot" qaw a.Dq a.NZ
  qdD:Binds K a.NZ ["_law_script", "_law_k"] []
  qdE:mg "_law_pot" = some (.ref a.Dq)
  fL:dZ K "_law_take" "_law_take" Ti a.tu a.Ep
  f9:Binds K a.Ep ["_law_pot_here", "_law_many"] []
  gb:mg "_law_take" = some (.ref a.tu)
  Oa:dZ K "_law_names" "_law_names" En a.nq a.zm
  Vs:Binds K a.zm ["_law_pot_here", "_law_many"] []
  Vt:mg "_law_names" = some (.ref a.nq)
  zG:dZ K "_law_mixed" "_law_mixed" NK a.nu a.zp
  Es:Binds K a.zp ["_law_pot_here", "_law_things"] []
  Et:mg "_law_mixed" = some (.ref a.nu)
  qaC:dZ K "_law_tie" "_law_tie" qax a.Dr a.N5
  qdF:Binds K a.N5 ["_law_pot_here", "_law_names_here"] []
  qdG:mg "_law_tie" = some (.ref a.Dr)
  qaD:dZ K "_law_web" "_law_web" K5 a.Dt a.N6
  qdH:Binds K a.N6 ["_law_pot_here", "_law_points", "_law_most"] []
  qdI:mg "_law_web" = some (.ref a.Dt)
  Ob:dZ K "_law_class" "_law_class" NP a.nA a.zq
  Vu:Binds K a.zq ["_law_e"] []
  Vv:mg "_law_class" = some (.ref a.nA)
  Bh:dZ K "_law_said" "_law_said" Tj a.tD a.Er
  Hr:Binds K a.Er ["_law_road", "_law_made", "_law_fixed"] []
  Hs:mg "_law_said" = some (.ref a.tD)
  wC:dZ K "_law_no_fixed" "_law_no_fixed" wz a.gP a.nC
  Ht:Binds K a.nC ["_law_pot_here", "_law_many", "_law_fixed"] []
  Hu:mg "_law_no_fixed" = some (.ref a.gP)
  qdJ:dZ K "law" "law" vD a.Du a.N7
  qg5:Binds K a.N7 ["_law_script"] []
  qg6:mg "law" = some (.ref a.Du)
  K6:mg "LETTERS" = some a.jN
  K7:RelV (.str "abcdefghijklmnopqrstuvwxyz") a.jN
  tM:mg "MOST_LETTERS" = some a.dN
  tO:RelV (.int 4) a.dN
  vI:mg "MOST_POINTS" = some a.fC
  vJ:RelV (.int 9) a.fC
  Dy:mg "MOST_TIES" = some a.gQ
  Dz:RelV (.int 20) a.gQ
  qdK:mg "Web" = some (.ref a.bG)
  nG:Cls K a.bG
  Oc:lF K a.bG "names"
  Eu:lF K a.bG "pairs"
  qdL:Mk K a.bG a.fX
  qO:Meth K a.bG "points" a.dz
  wD:Meth K a.bG "ties" a.fY
  mR:Meth K a.bG "many" a.fZ
  mq:mg "PointError" = some (.ref a.aq)
  Vw:mg "NoWeb" = some (.ref a.cC)
  ji:mg "NoFixed" = some (.ref a.aR)
  QT:mg "NoEars" = some (.ref a.bQ)
  Vx:mg "NoLot" = some (.ref a.cD)
  Hv:mg "NoNumber" = some (.ref a.aY)
  DG:mg "NoNumbers" = some (.ref a.aQ)
  K8:mg "NoPoint" = some (.ref a.bw)
  zH:mg "NoPointing" = some (.ref a.aO)
  QV:mg "NoText" = some (.ref a.bR)
  K9:mg "NotOver" = some (.ref a.bx)
  K_:mg "TooMuch" = some (.ref a.bA)
  QW:mg "Unlike" = some (.ref a.bT)
  Tt:mg "Shut" = some (.ref a.bV)
  Hw:mg "Barred" = some (.ref a.aP)
  QX:mg "Parted" = some (.ref a.aZ)
  qaE:mg "Thin" = some (.ref a.cH)
  Vy:mg "NoIns" = some (.ref a.bH)
  cQ:gJ K a.aq
  zJ:gJ K a.cC
  eG:gJ K a.aR
  tQ:gJ K a.bQ
  zK:gJ K a.cD
  mU:gJ K a.aY
  lu:gJ K a.aQ
  pQ:gJ K a.bw
  jy:gJ K a.aO
  tU:gJ K a.bR
  pR:gJ K a.bx
  pU:gJ K a.bA
  tV:gJ K a.bT
  QZ:XC K a.cC a.aq
  qP:XC K a.aR a.aq
  La:XC K a.bQ a.aq
  Q0:XC K a.cD a.aq
  DK:XC K a.aY a.aq
  zL:XC K a.aQ a.aq
  Hx:XC K a.bw a.aq
  vK:XC K a.aO a.aq
  Lb:XC K a.bR a.aq
  Hy:XC K a.bx a.aq
  Hz:XC K a.bA a.aq
  Ld:XC K a.bT a.aq
  zM:XC K a.bV a.aq
  pW:XC K a.aP a.aq
  Le:XC K a.aZ a.aq
  Vz:XC K a.cH a.aq
  Q5:XC K a.bH a.aq
  ib:W.isClsIn K a.aq=true
  tb:W.typeIn K (.ref a.aq)=some (.type "type")
  ini:qgT K a.aq
  Lg:W.specialIn K (.builtin "object.__class__") "__get__" = some (some (.builtin "getset_descriptor.__get__"))
  Lh:W.takesIn K (.builtin "object.__class__")=some true
  nd:(a.aq::kY a).Nodup
  iu:mg "ValueError" = none
  Ew:XMk K a.bV a.aq a.eX
  VB:nY K a.bV a.aq
  jj:W.findIn K (.ref a.bV) "lot" = some none
  uP:XMk K a.aP a.aq a.cZ
  Bj:nY K a.aP a.aq
  gD:W.findIn K (.ref a.aP) "tie" = some none
  gF:W.findIn K (.ref a.aP) "lot" = some none
  Xd:XMk K a.aZ a.aq a.dH
  Xe:nY K a.aZ a.aq
  iQ:W.findIn K (.ref a.aZ) "lot" = some none
  qcu:XMk K a.cH a.aq a.fP
  qcv:nY K a.cH a.aq
  lA:W.findIn K (.ref a.cH) "lot" = some none
  qaF:XMk K a.bH a.aq a.eY
  qaG:nY K a.bH a.aq
  iR:W.findIn K (.ref a.bH) "word" = some none
  iT:W.findIn K (.ref a.bH) "part" = some none
  nm:Nm mg
  Tv:Nm2 mg
  nm3:Nm3 mg
end K45
namespace K45
open PySem L2
variable {P:Program} {w:World} {K:W.Frag} {mg:Str→Option Value} {base:Heap} {a:Adr}
def jl (H:Hp) (p:Addr):Prop:=∃x y:Int,H p=some (.lst [.int x,.int y])∧0≤x∧0≤y∧y<4294967296
def qfe (K:W.Frag):Sp:=fun vs H Q _=>∃(l:Addr) (ns:List Int) (k:Nat),vs=[.ref l,.int k]∧bU K H l (ns.map V.int)∧k<100∧∀p H',H p=none→jl H' p→But p H H'→Q (.ref p) H'
def qcw:Sp:=fun vs H Q _=>∃(p:Addr) (m:Int),vs=[.ref p,.int m]∧jl H p∧0<m∧m<1000000∧∀(d:Int) H',0≤d→d<m→jl H' p→But p H H'→Q (.int d) H'
theorem qff (T:Txt K mg a):bZ P w K mg base lB 1 a.Dq a.NZ ["_law_script", "_law_k"] (qfe K):=by
  refine T.qaB.sV qay (fun vs H Q E h=>?_) (fun cdv A outer s H vs Q E hr h=>?_)
  ·obtain⟨l,ns,k,rfl,_⟩:=h;rfl
  · obtain⟨l,ns,k,rfl,hS,hk,q⟩:=h;refine⟨_,(aC (bI (i:=2) qay.nd rfl (Or.inl rfl) (Pa (bD Gv (aL 1) (aM (fV (K:=K) rfl) rfl T.nm.len PySem.boot_len (aj (aL 0) ak)) (cP _)) (gj (gq (K:=K) rfl) (aL 0) (aL 1) (fun _ _=>rfl)) aG))
      (aF (bh (jc (aj (aM (Gy rfl) rfl T.nm.max boot_max (aj aG (aj (dj uE (aM Kz rfl T.nm.abs boot_abs (aj (aL 2) ak)) (dj Ek aG aG)) ak))) (aj (dj jQ (dj jQ (dj uG (aM Kz rfl T.nm.abs boot_abs (aj (aL 2) ak)) aG) (dj Ej aG (aL 1))) aG) ak)))))),?_⟩
    have fin:∀(x y:Int),0≤x→0≤y→y<4294967296→∀p:Addr,H p=none→Q (.ref p) (upd H p (.lst [.int x,.int y])):=fun x y h1 h2 h3 p hp=>
      q p _ hp ⟨x,y,ao,h1,h2,h3⟩ fun b o hb e=>by rw[aB hb];exact e
    simp -dsimp[au,stC,-Bool.exists_bool,-List.map_take,-Prod.forall,-Prod.exists];refine⟨_,.inl hS,iB.of (fun h=>?_) (fun h=>?_)⟩
    · have hlt:k<ns.length:=by simpa using h
      simp -dsimp[au,stC,-Bool.exists_bool,-List.map_take,-Prod.forall,-Prod.exists];refine⟨_,.inl hS,.int (ns[k]'hlt),dh (by simp[hlt]),?_⟩;simp -dsimp[au,stC,-Bool.exists_bool,-List.map_take,-Prod.forall,-Prod.exists];exact fin _ _ (zpa _) (zpb _ _) (zpc _ hk)
    ·simp -dsimp[au,stC,-Bool.exists_bool,-List.map_take,-Prod.forall,-Prod.exists];exact fin _ _ (by first | omega | (split <;> omega)) (by omega) (by omega)
theorem dY (T:Txt K mg a):bZ P w K mg base lB 1 a.tu a.Ep ["_law_pot_here", "_law_many"] qcw:=by
  refine T.fL.sV Vr (fun vs H Q E h=>?_) (fun cdv A outer s H vs Q E hr h=>?_)
  ·obtain⟨p,m,rfl,_⟩:=h;rfl
  · obtain⟨p,m,rfl,⟨x,y,hp,hx,hy,hy2⟩,hm,hm2,q⟩:=h;refine⟨_,(aC (dg (bD Gw (gj (gq (K:=K) rfl) (aL 0) aG (fun _ _=>rfl)) aG (cP _)) (aC (Ry (aM M_ rfl T.nm.divmod boot_divmod (aj (gj (gq (K:=K) rfl) (aL 0) aG (fun _ _=>rfl)) (aj (aL 1) ak))) (PG.eqv (g8 (K:=K) (n:=2) rfl rfl (lE.eqv (bN (YB (aL 0) aG KC) (lE.eqv (bN (aU (i:=2) Vr.nd rfl (Or.inl rfl)) (lE.mono gZ jJ)) (bO _ _))) (bO _ _))) (g_ _ _ _)))
      (aF (bh (aL 2)))) bM)
      (aC (Ry (dj uG (dj jQ (dj Ej (gj (gq (K:=K) rfl) (aL 0) aG (fun _ _=>rfl)) aG) aG) aG) (YB (aL 0) aG KC))
      (aF (bh (dj uG (dj Z9 (dj uG (dj Ej (gj (gq (K:=K) rfl) (aL 0) aG (fun _ _=>rfl)) (gj (gq (K:=K) rfl) (aL 0) aG (fun _ _=>rfl))) aG) aG) (aL 1)))))),?_⟩
    have hl:bU K H p [.int x,.int y]:=bU.of hp;simp -dsimp[au,stC,-Bool.exists_bool,-List.map_take,-Prod.forall,-Prod.exists];refine⟨_,.inl hl,_,dh (j:=0) rfl,?_⟩;simp -dsimp[au,stC,-Bool.exists_bool,-List.map_take,-Prod.forall,-Prod.exists];refine iB.of (fun h=>?_) (fun h=>?_)
    ·simp -dsimp[au,stC,-Bool.exists_bool,-List.map_take,-Prod.forall,-Prod.exists];refine⟨_,.inl hl,_,dh (j:=0) rfl,?_⟩;simp -dsimp[au,stC,-Bool.exists_bool,-List.map_take,-Prod.forall,-Prod.exists];refine⟨⟨hm,by omega⟩,fun t ht=>?_⟩;have npt:p≠t:=aK hp ht;refine⟨_,gY.of ao,rfl,_,(by rw[aB npt];exact hp),0,rfl,?_⟩;refine q _ _ (Int.emod_nonneg _ (by omega)) (Int.emod_lt_of_pos _ hm) ⟨_,_,ao,Int.ediv_nonneg hx (by omega),hy,hy2⟩ fun b o hb e=>?_;rw[aB hb,aB (aK e ht)];exact e
    ·have z0:0≤(y * 48271+12345) % 2147483647:=Int.emod_nonneg _ (by decide);have z1:(y * 48271+12345) % 2147483647<2147483647:=Int.emod_lt_of_pos _ (by decide);simp -dsimp[au,stC,-Bool.exists_bool,-List.map_take,-Prod.forall,-Prod.exists];refine⟨_,.inl hl,_,dh (j:=1) rfl,?_⟩;simp -dsimp[au,stC,-Bool.exists_bool,-List.map_take,-Prod.forall,-Prod.exists];refine⟨_,hp,1,rfl,_,.inl (bU.of ao),_,dh (j:=1) rfl,_,.inl (bU.of ao),_,dh (j:=1) rfl,?_⟩;simp -dsimp[au,stC,-Bool.exists_bool,-List.map_take,-Prod.forall,-Prod.exists];refine⟨⟨by omega,by omega⟩,hm,?_⟩;refine q _ _ (Int.emod_nonneg _ (by omega)) (Int.emod_lt_of_pos _ hm) ⟨_,_,ao,hx,z0,by omega⟩ fun b o hb e=>?_;rw[aB hb];exact e
def Tw:Sp:=fun vs H Q _=>∃p xs,vs=[.ref p]∧Sq H p xs∧∀H',Same H H'→Q (.bl true) H'
theorem wF (T:Txt K mg a):bZ P w K mg base lB 1 a.jg a.qJ ["thing"] Tw:=by
  refine T.pL.sV Tn (fun vs H Q E h=>?_) (fun cdv A outer s H vs Q E hr h=>?_)
  ·obtain⟨p,xs,rfl,_⟩:=h;rfl
  · obtain⟨p,xs,rfl,hp,q⟩:=h;refine⟨_,(aF (bh (aM (qe1 (K:=K) rfl) rfl T.nm.isinstance boot_isinstance (aj (aL 0) (aj (d9 (aj (iU (v:=.ty "list") rfl T.nm.list boot_list rfl) (aj (iU (v:=.ty "tuple") rfl T.nm.tuple boot_tuple rfl) ak))) ak))))),?_⟩;simp -dsimp[au,stC,-Bool.exists_bool,-List.map_take,-Prod.forall,-Prod.exists];refine fun t ht=>⟨_,_,ao,?_⟩
    rcases(hp.same (aA ht)).ty (K:=K) with ty | ty
    ·exact⟨_,ty,true,by simp[W.kitAny,W.kitOne],q _ (aA ht)⟩
    ·exact⟨_,ty,true,by simp[W.kitAny,W.kitOne];rfl,q _ (aA ht)⟩
def Tz:Sp:=fun vs H Q _=>∃x,vs=[.str x]∧x.length≤sizeLine∧∀H',Same H H'→Q (.bl (nameB x)) H'
theorem HB (T:Txt K mg a):bZ P w K mg base lB 1 a.jh a.qK ["thing"] Tz:=by
  refine T.uO.sV Tp (fun vs H Q E h=>?_) (fun cdv A outer s H vs Q E hr h=>?_)
  ·obtain⟨x,rfl,_⟩:=h;rfl
  · obtain⟨x,rfl,hx,q⟩:=h;refine⟨_,(aC (dg (PW.pt (pB (d8 (cU (aM (sU (K:=K) rfl) rfl T.nm.isinstance boot_isinstance (aj (aL 0) (aj (iU (v:=.ty "str") rfl T.nm.str boot_str rfl) ak))))) (lD (d8 (Ku nU nU aG (aM qe0 rfl T.nm.len PySem.boot_len (aj (aL 0) ak)) (cX rfl T.tM T.tO)))))) (aF (bh pA)) bM)
      (aF (bh (aM (uH rfl) rfl T.nm.all uD (aj (jm rfl rfl (show bK (aD uK) _ ["thing"] ["sign"] [] ["sign"] from⟨rfl,by decide+kernel,by decide+kernel,rfl,by decide+kernel,by decide+kernel⟩) rfl (PI.eqv (qew (aL 0)) (Z5 _)) (fun C s H fp pn=>(aU (i:=0) (show(["sign"]:List Str).Nodup by decide+kernel) rfl (Or.inl rfl))) (fun C s H fp pn=>jP) (fun C s H fp pn=>(yt (qjV (K:=K) rfl) (aL 0) (cX rfl T.K6 T.K7) rfl))) ak))))),?_⟩
    simp -dsimp[au,stC,-Bool.exists_bool,-List.map_take,-Prod.forall,-Prod.exists];refine⟨_,.str x,_,PL K,iB.neg rfl ?_⟩;simp -dsimp[au,stC,-Bool.exists_bool,-List.map_take,-Prod.forall,-Prod.exists];refine⟨hx,iB.of (fun h1=>?_) (fun h1=>?_)⟩
    · have h1':1≤x.length:=by simp at h1;omega
      simp -dsimp[au,stC,-Bool.exists_bool,-List.map_take,-Prod.forall,-Prod.exists];refine iB.of (fun h2=>?_) (fun h2=>?_)
      · have h2':¬x.length≤4:=by simp at h2;omega
        have e:nameB x=false:=by
          unfold nameB;rw[decide_eq_false h2'];simp
        rw[e] at q;simp -dsimp[au,stC,-Bool.exists_bool,-List.map_take,-Prod.forall,-Prod.exists];exact q H (Same.refl H)
      · have h2':x.length≤4:=by simp at h2;omega
        simp -dsimp[au,stC,-Bool.exists_bool,-List.map_take,-Prod.forall,-Prod.exists];refine fun D hD=>cmS (fun i σ' H'=>(∃o,σ'=[o])∧Same H H'∧H' D=some (.lst ((x.cps.toList.take i).map fun c=>.bl (isL c)))) ⟨⟨none,rfl⟩,aA hD,by simpa using ao⟩ ?_ ?_
        · rintro i c σ' H' hc ⟨⟨o,rfl⟩,sm,JK⟩;have h4:4<sizeLine:=by decide
          have hsz:x.cps.size=x.length:=rfl;simp -dsimp[au,stC,-Bool.exists_bool,-List.map_take,-Prod.forall,-Prod.exists];refine⟨_,JK,by simp;omega,cA sm hD,?_⟩;rw[ao,take_one (l:=x.cps.toList) (x:=c) (by simpa using hc),List.map_append];rfl
        · rintro σ' H' ⟨⟨o,rfl⟩,sm,JK⟩;simp -dsimp[au,stC,-Bool.exists_bool,-List.map_take,-Prod.forall,-Prod.exists];refine⟨_,JK,_,Kh isL _,?_⟩;rw[RZ];have e:nameB x=(x.cps.toList.take x.cps.size).all isL:=by
            unfold nameB;rw[decide_eq_true h1',decide_eq_true h2',show x.cps.toList.take x.cps.size=x.cps.toList from List.take_of_length_le (by simp)];rfl
          rw[← e];exact q H' sm
    · have h1':¬1≤x.length:=by simp at h1;omega
      have e:nameB x=false:=by
        unfold nameB;rw[decide_eq_false h1'];simp
      rw[e] at q;simp -dsimp[au,stC,-Bool.exists_bool,-List.map_take,-Prod.forall,-Prod.exists];exact q H (Same.refl H)
theorem qaH {xs:List Str} {i:Nat} {x:V} (h:(xs.map V.str)[i]? = some x):∃z,z∈xs∧x = .str z:=by
  rw[List.getElem?_map] at h;cases e:xs[i]? with
  | none=>rw[e] at h;cases h
  | some z=>
    rw[e] at h;exact⟨z,List.mem_of_getElem? e,(Option.some.inj h).symm⟩
theorem HD {x:Str} (h:nameB x=true):x.length≤sizeLine:=by
  unfold nameB at h;simp at h;have h4:4≤sizeLine:=by decide
  omega
theorem uQ:∀n,vo (List.replicate n (.bl true)) (List.replicate n true)
  | 0=>rfl
  | n+1=>⟨true,_,rfl,rfl,uQ n⟩
theorem HF:∀xs:List Str,keysOf (xs.map V.str)=xs.map Sum.inr
  | []=>rfl
  | x::xs=>by
    show Sum.inr x::keysOf (xs.map V.str)=_;rw[HF xs];rfl
theorem qfg {xs:List Str} (h:xs.Nodup):(Js (fun i=>(keysOf (xs.map V.str))[i]?.getD (Sum.inl 0)) (xs.map V.str).length).length=xs.length:=by
  rw[HF,List.length_map];refine(Zh _ xs.length fun i j hi hj e=>?_).1;simp[hi,hj] at e;exact(List.getElem_inj h).mp e
structure Yr (xs:List Str):Prop where
  len:1≤xs.length∧xs.length≤9
  nm:∀x∈xs,nameB x=true
  nd:xs.Nodup
def JL:Sp:=fun vs H Q _=>∃p xs,vs=[.ref p]∧Sq H p (xs.map V.str)∧Yr xs∧∀H',Same H H'→Q (.bl true) H'
theorem JM (T:Txt K mg a):bZ P w K mg base lB 2 a.eZ a.jU ["thing"] JL:=by
  refine T.qM.sV JD (fun vs H Q E h=>?_) (fun cdv A outer s H vs Q E hr h=>?_)
  ·obtain⟨p,xs,rfl,_⟩:=h;rfl
  · obtain⟨p,xs,rfl,hp,hx,q⟩:=h;refine⟨_,(aC (dg (PW.pt (pB (d8 (cU (PE.eqv (aJ (wF (K:=K) T) (hr.mono (by decide)) rfl T.uN T.pL.kp T.uM .nil aW (aj (aL 0) ak)) (aH _ _ _)))) (lD (d8 (Ku nU nU aG (aM (fV (K:=K) rfl) rfl T.nm.len PySem.boot_len (aj (aL 0) ak)) (cX rfl T.vI T.vJ)))))) (aF (bh pA)) bM)
      (aF (bh (m7 (aM (uH rfl) rfl T.nm.all uD (aj (jm rfl rfl (show bK (aD lY) _ ["thing"] ["one"] [] ["one"] from⟨rfl,by decide+kernel,by decide+kernel,rfl,by decide+kernel,by decide+kernel⟩) rfl (PI.eqv (Ed (K:=K) rfl (aL 0)) (yP _ _)) (fun C s H fp pn=>(aU (i:=0) (show(["one"]:List Str).Nodup by decide+kernel) rfl (Or.inl rfl))) (fun C s H fp pn=>jP) (fun C s H fp pn=>(PE.eqv (aJ (HB (K:=K) T) (hr.mono (by decide)) rfl T.Bg T.uO.kp T.Bf .nil aW (aj (aL 0) ak)) (aH _ _ _)))) ak)) (rW (yt nW (aM Wu rfl T.nm.len PySem.boot_len (aj (eE (Wt rfl) rfl T.nm.set Wq (aj (aL 0) ak)) ak)) (aM (fV (K:=K) rfl) rfl T.nm.len PySem.boot_len (aj (aL 0) ak)) (cP _))))))),?_⟩
    have hl:=hx.len;have h60:60<sizeLine:=by decide
    simp -dsimp[au,stC,-Bool.exists_bool,-List.map_take,-Prod.forall,-Prod.exists];refine⟨p,_,rfl,hp,fun H1 s1=>?_⟩;have hp1:=hp.same s1;simp -dsimp[au,stC,-Bool.exists_bool,-List.map_take,-Prod.forall,-Prod.exists];refine⟨_,hp1.q,iB.pos (by simp;omega) ?_⟩;simp -dsimp[au,stC,-Bool.exists_bool,-List.map_take,-Prod.forall,-Prod.exists];refine iB.neg (by simp;omega) ?_;obtain⟨b,hb⟩:=hp.b;simp -dsimp[au,stC,-Bool.exists_bool,-List.map_take,-Prod.forall,-Prod.exists];refine⟨b,⟨_,hb K H1 s1⟩,fun D hD=>cmQ (xs.map V.str) (fun i σ' H'=>(∃o,σ'=[o])∧Same H1 H'∧H' D=some (.lst (List.replicate i (.bl true)))) ⟨⟨none,rfl⟩,aA hD,ao⟩ (fun i σ' H' _ h=>hb K H' (s1.trans h.2.1)) ?_ ?_⟩
    · rintro i x σ' H' hi ⟨⟨o,rfl⟩,sm,JK⟩;obtain⟨z,hz,rfl⟩:=qaH hi;have hi2:i<xs.length:=by simpa using (List.getElem?_eq_some_iff.mp hi).1
      simp -dsimp[au,stC,-Bool.exists_bool,-List.map_take,-Prod.forall,-Prod.exists];refine⟨z,rfl,HD (hx.nm z hz),fun H2 s2=>?_⟩;simp -dsimp[au,stC,-Bool.exists_bool,-List.map_take,-Prod.forall,-Prod.exists];refine⟨_,s2 _ _ JK,by simp;omega,cA (sm.trans s2) hD,?_⟩;rw[ao,hx.nm z hz,← List.replicate_succ']
    ·rintro σ' H' ⟨⟨o,rfl⟩,sm,JK⟩;have hp2:=hp1.same sm;simp -dsimp[au,stC,-Bool.exists_bool,-List.map_take,-Prod.forall,-Prod.exists];refine⟨_,JK,_,uQ _,?_⟩;rw[show(List.replicate (xs.map V.str).length true).all id=true by simp];simp -dsimp[au,stC,-Bool.exists_bool,-List.map_take,-Prod.forall,-Prod.exists];refine⟨_,hp2.q,by simp[isKey],by simp;unfold scanBound;omega,fun t ht=>⟨_,ao,_,(hp2.same (aA ht)).q,?_⟩⟩;rw[decide_eq_true (by rw[qfg hx.nd];simp)];exact q _ (s1.trans (sm.trans (aA ht)))
theorem qcx {x:Str} {xs:List Str} (h:x∈xs):inV (.str x) (xs.map V.str)=true:=by
  unfold inV;rw[List.any_eq_true];exact⟨.str x,List.mem_map.mpr ⟨x,h,rfl⟩,by simp[Y6]⟩
theorem qaI (xs:List Str):(xs.map V.str).all jz=true:=by
  rw[List.all_eq_true];intro v hv;obtain⟨x,_,rfl⟩:=List.mem_map.mp hv;rfl
def Xf:Sp:=fun vs H Q _=>∃t p x y xs,vs=[.ref t,.ref p]∧Sq H t [.str x,.str y]∧Sq H p (xs.map V.str)∧Yr xs∧x∈xs∧y∈xs∧x≠y∧∀H',Same H H'→Q (.bl true) H'
theorem Xg (T:Txt K mg a):bZ P w K mg base lB 2 a.kW a.uL ["thing", "points"] Xf:=by
  refine T.Hg.sV Xc (fun vs H Q E h=>?_) (fun cdv A outer s H vs Q E hr h=>?_)
  ·obtain⟨t,p,x,y,xs,rfl,_⟩:=h;rfl
  · obtain⟨t,p,x,y,xs,rfl,ht,hp,hx,hxm,hym,hne,q⟩:=h;refine⟨_,(aC (dg (PW.pt (pB (d8 (cU (PE.eqv (aJ (wF (K:=K) T) (hr.mono (by decide)) rfl T.uN T.pL.kp T.uM .nil aW (aj (aL 0) ak)) (aH _ _ _)))) (lD (bD sS (aM (fV (K:=K) rfl) rfl T.nm.len PySem.boot_len (aj (aL 0) ak)) aG (cP _))))) (aF (bh pA)) bM)
      (aC (dg (d8 (cU (aM (uH rfl) rfl T.nm.all uD (aj (jm rfl rfl (show bK (aD zc) _ ["thing", "points"] ["end"] [1] ["end", "points"] from⟨rfl,by decide+kernel,by decide+kernel,rfl,by decide+kernel,by decide+kernel⟩) rfl (PI.eqv (Ed (K:=K) rfl (aL 0)) (yP _ _)) (fun C s H fp pn=>(aU (i:=0) (show(["end", "points"]:List Str).Nodup by decide+kernel) rfl (Or.inl rfl))) (fun C s H fp pn=>jP) (fun C s H fp pn=>(m7 (PE.eqv (aJ (HB (K:=K) T) (hr.mono (by decide)) rfl T.Bg T.uO.kp T.Bf .nil aW (aj (aL 0) ak)) (aH _ _ _)) (rW (yt (qjU (K:=K) rfl) (aL 0) (aL 1) rfl))))) ak)))) (aF (bh pA)) bM)
      (aF (bh (yt sS (gj (gq (K:=K) rfl) (aL 0) aG (fun _ _=>rfl)) (gj (gq (K:=K) rfl) (aL 0) aG (fun _ _=>rfl)) (cP _)))))),?_⟩
    have h60:60<sizeLine:=by decide
    simp -dsimp[au,stC,-Bool.exists_bool,-List.map_take,-Prod.forall,-Prod.exists];refine⟨t,_,rfl,ht,fun H1 s1=>?_⟩;simp -dsimp[au,stC,-Bool.exists_bool,-List.map_take,-Prod.forall,-Prod.exists];refine⟨_,(ht.same s1).q,false,rfl,iB.neg rfl ?_⟩;obtain⟨b,hb⟩:=ht.b;simp -dsimp[au,stC,-Bool.exists_bool,-List.map_take,-Prod.forall,-Prod.exists];refine⟨b,⟨_,hb K H1 s1⟩,fun D hD=>cmQ [.str x,.str y] (fun i σ' H'=>(∃o,σ'=[o,some (.ref p)])∧Same H1 H'∧H' D=some (.lst (List.replicate i (.bl true)))) ⟨⟨none,rfl⟩,aA hD,ao⟩ (fun i σ' H' _ h=>hb K H' (s1.trans h.2.1)) ?_ ?_⟩
    · rintro i v σ' H' hi ⟨⟨o,rfl⟩,sm,JK⟩;obtain⟨z,hz,rfl⟩:∃z,z∈xs∧v = .str z:=by
        match i,hi with
        | 0,hi=>exact⟨x,hxm,(Option.some.inj hi).symm⟩
        | 1,hi=>exact⟨y,hym,(Option.some.inj hi).symm⟩
      have hi2:i<2:=(List.getElem?_eq_some_iff.mp hi).1;simp -dsimp[au,stC,-Bool.exists_bool,-List.map_take,-Prod.forall,-Prod.exists];refine⟨z,rfl,HD (hx.nm z hz),fun H2 s2=>?_⟩;rw[hx.nm z hz];simp -dsimp[au,stC,-Bool.exists_bool,-List.map_take,-Prod.forall,-Prod.exists];refine⟨_,(hp.same (s1.trans (sm.trans s2))).q,rfl,List.all_eq_true.mp (qaI xs),_,s2 _ _ JK,by simp;omega,cA (sm.trans s2) hD,?_⟩;rw[ao,qcx hz,← List.replicate_succ']
    ·rintro σ' H' ⟨⟨o,rfl⟩,sm,JK⟩;have ht2:=ht.same (s1.trans sm);simp -dsimp[au,stC,-Bool.exists_bool,-List.map_take,-Prod.forall,-Prod.exists];refine⟨_,JK,_,uQ _,?_⟩;rw[show(List.replicate [V.str x,V.str y].length true).all id=true by simp];simp -dsimp[au,stC,-Bool.exists_bool,-List.map_take,-Prod.forall,-Prod.exists];refine⟨_,ht2.q,_,dh (j:=0) rfl,_,ht2.q,_,dh (j:=1) rfl,?_⟩;simp -dsimp[au,stC,-Bool.exists_bool,-List.map_take,-Prod.forall,-Prod.exists];refine⟨true,by simp[hne],?_⟩;exact q _ (s1.trans sm)
def HJ (H:Hp) (v:V) (e:Str×Str):Prop:=∃t,v = .ref t∧Sq H t [.str e.1,.str e.2]
theorem HJ.same {H H':Hp} {v:V} {e:Str×Str} (h:HJ H v e) (s:Same H H'):HJ H' v e:=by
  obtain⟨t,rfl,h⟩:=h;exact⟨t,rfl,h.same s⟩
def nH (H:Hp) (vs:List V) (ps:List (Str×Str)):Prop:=vs.length=ps.length∧∀(i:Nat) v e,vs[i]? = some v→ps[i]? = some e→HJ H v e
theorem nH.same {H H':Hp} {vs:List V} {ps:List (Str×Str)} (h:nH H vs ps) (s:Same H H'):nH H' vs ps:=⟨h.1,fun i v e h1 h2=>(h.2 i v e h1 h2).same s⟩
theorem nH.at {H:Hp} {vs:List V} {ps:List (Str×Str)} (h:nH H vs ps) {i:Nat} {v:V} (hv:vs[i]? = some v):∃e,ps[i]? = some e∧HJ H v e:=by
  have hi:i<ps.length:=by rw[← h.1];exact(List.getElem?_eq_some_iff.mp hv).1
  exact⟨ps[i],by simp[hi],h.2 i v _ hv (by simp[hi])⟩
structure zN (xs:List Str) (ps:List (Str×Str)):Prop where
  len:ps.length≤20
  ok:∀e∈ps,e.1∈xs∧e.2∈xs∧e.1≠e.2
def Q6:Sp:=fun vs H Q _=>∃t p tv xs ps,vs=[.ref t,.ref p]∧Sq H t tv∧nH H tv ps∧Sq H p (xs.map V.str)∧Yr xs∧zN xs ps∧∀H',Same H H'→Q (.bl true) H'
theorem Q7 (T:Txt K mg a):bZ P w K mg base lB 3 a.gO a.m9 ["thing", "points"] Q6:=by
  refine T.wA.sV QC (fun vs H Q E h=>?_) (fun cdv A outer s H vs Q E hr h=>?_)
  ·obtain⟨t,p,tv,xs,ps,rfl,_⟩:=h;rfl
  · obtain⟨t,p,tv,xs,ps,rfl,ht,hpr,hp,hx,hts,q⟩:=h;refine⟨_,(aC (dg (PW.pt (pB (d8 (cU (PE.eqv (aJ (wF (K:=K) T) (hr.mono (by decide)) rfl T.uN T.pL.kp T.uM .nil aW (aj (aL 0) ak)) (aH _ _ _)))) (lD (bD Gw (aM (fV (K:=K) rfl) rfl T.nm.len PySem.boot_len (aj (aL 0) ak)) (cX rfl T.Dy T.Dz) (cP _))))) (aF (bh pA)) bM)
      (aF (bh (aM (uH rfl) rfl T.nm.all uD (aj (jm rfl rfl (show bK (aD qC) _ ["thing", "points"] ["one"] [1] ["one", "points"] from⟨rfl,by decide+kernel,by decide+kernel,rfl,by decide+kernel,by decide+kernel⟩) rfl (PI.eqv (Ed (K:=K) rfl (aL 0)) (yP _ _)) (fun C s H fp pn=>(aU (i:=0) (show(["one", "points"]:List Str).Nodup by decide+kernel) rfl (Or.inl rfl))) (fun C s H fp pn=>jP) (fun C s H fp pn=>(PE.eqv (aJ (Xg (K:=K) T) (hr.mono (by decide)) rfl T.QL T.Hg.kp T.QK .nil aW (aj (aL 0) (aj (aL 1) ak))) (aH _ _ _)))) ak))))),?_⟩
    have hlen:=hpr.1;have Xh:=hts.len;have h60:60<sizeLine:=by decide
    simp -dsimp[au,stC,-Bool.exists_bool,-List.map_take,-Prod.forall,-Prod.exists];refine⟨t,_,rfl,ht,fun H1 s1=>?_⟩;simp -dsimp[au,stC,-Bool.exists_bool,-List.map_take,-Prod.forall,-Prod.exists];refine⟨_,(ht.same s1).q,iB.neg (by simp;omega) ?_⟩;obtain⟨b,hb⟩:=ht.b;simp -dsimp[au,stC,-Bool.exists_bool,-List.map_take,-Prod.forall,-Prod.exists];refine⟨b,⟨_,hb K H1 s1⟩,fun D hD=>cmQ tv (fun i σ' H'=>(∃o,σ'=[o,some (.ref p)])∧Same H1 H'∧H' D=some (.lst (List.replicate i (.bl true)))) ⟨⟨none,rfl⟩,aA hD,ao⟩ (fun i σ' H' _ h=>hb K H' (s1.trans h.2.1)) ?_ ?_⟩
    ·rintro i v σ' H' hi ⟨⟨o,rfl⟩,sm,JK⟩;obtain⟨e,he,t2,rfl,ht2⟩:=hpr.at hi;have hi2:i<tv.length:=(List.getElem?_eq_some_iff.mp hi).1;obtain⟨h1,h2,h3⟩:=hts.ok e (List.mem_of_getElem? he);have s2:=s1.trans sm;simp -dsimp[au,stC,-Bool.exists_bool,-List.map_take,-Prod.forall,-Prod.exists];refine⟨t2,p,e.1,e.2,xs,rfl,ht2.same s2,hp.same s2,hx,h1,h2,h3,fun H2 s3=>?_⟩;simp -dsimp[au,stC,-Bool.exists_bool,-List.map_take,-Prod.forall,-Prod.exists];refine⟨_,s3 _ _ JK,by simp;omega,cA (sm.trans s3) hD,?_⟩;rw[ao,← List.replicate_succ']
    ·rintro σ' H' ⟨⟨o,rfl⟩,sm,JK⟩;simp -dsimp[au,stC,-Bool.exists_bool,-List.map_take,-Prod.forall,-Prod.exists];refine⟨_,JK,_,uQ _,?_⟩;rw[show(List.replicate tv.length true).all id=true by simp];exact q _ (s1.trans sm)
def bL (H:Hp) (vs:List V) (ps:List (Str×Str)):Prop:=vs.length=ps.length∧∀(i:Nat) v e,vs[i]? = some v→ps[i]? = some e→∃t,v = .ref t∧H t=some (.tup [.str e.1,.str e.2])
def cJ (H H':Hp):Prop:=∀b xs,H b=some (.tup xs)→H' b=some (.tup xs)
theorem bL.keep {H H':Hp} {vs:List V} {ps:List (Str×Str)} (h:bL H vs ps) (s:cJ H H'):bL H' vs ps:=⟨h.1,fun i v e h1 h2=>by
  obtain⟨t,rfl,e⟩:=h.2 i v e h1 h2;exact⟨t,rfl,s _ _ e⟩⟩
theorem bL.snoc {H:Hp} {vs:List V} {ps:List (Str×Str)} {t:Addr} {e:Str×Str} (h:bL H vs ps) (ht:H t=some (.tup [.str e.1,.str e.2])):bL H (vs++[.ref t]) (ps++[e]):=by
  refine⟨by simp[h.1],fun i v d h1 h2=>?_⟩
  by_cases hi:i<vs.length
  ·rw[List.getElem?_append_left hi] at h1;rw[List.getElem?_append_left (by rw[← h.1];exact hi)] at h2;exact h.2 i v d h1 h2
  · rw[List.getElem?_append_right (by omega)] at h1;rw[List.getElem?_append_right (by rw[← h.1];omega),← h.1] at h2;cases hk:i - vs.length with
    | zero=>
      rw[hk] at h1 h2;cases h1;cases h2;exact⟨t,rfl,ht⟩
    | succ j=>
      rw[hk] at h1;simp at h1
structure cW (C:Addr) (H:Hp) (o:Addr) (xs:List Str) (ps:List (Str×Str)):Prop where
  ex:∃dx n m tv,H o=some (.ins C dx [("names",V.ref n),("pairs",V.ref m)])∧H n=some (.tup (xs.map V.str))∧H m=some (.tup tv)∧bL H tv ps∧ps.length≤20
def qcy (C:Addr):Sp:=fun vs H Q _=>∃o dx p t tv xs ps,vs=[.ref o,.ref p,.ref t]∧H o=some (.ins C dx [])∧Sq H t tv∧nH H tv ps∧Sq H p (xs.map V.str)∧Yr xs∧zN xs ps∧
  ∀H',cW C H' o xs ps→But o H H'→Q .non H'
theorem Q8 (T:Txt K mg a):bZ P w K mg base lB 4 a.fX a.m_ ["self", "points", "ties"] (qcy a.bG):=by
  refine T.Hj.sV QD (fun vs H Q E h=>?_) (fun cdv A outer s H vs Q E hr h=>?_)
  ·obtain⟨o,dx,p,t,tv,xs,ps,rfl,_⟩:=h;rfl
  · obtain⟨o,dx,p,t,tv,xs,ps,rfl,ho,ht,hpr,hp,hx,hts,q⟩:=h;refine⟨_,(aC (dg (d8 (cU (PE.eqv (aJ (JM (K:=K) T) (hr.mono (by decide)) rfl T.zA T.qM.kp T.zy .nil aW (aj (aL 1) ak)) (aH _ _ _)))) (aF yq) bM)
      (aC (dg (d8 (cU (PE.eqv (aJ (Q7 (K:=K) T) (hr.mono (by decide)) rfl T.Hi T.wA.kp T.Hh .nil aW (aj (aL 2) (aj (aL 1) ak))) (aH _ _ _)))) (aF yq) bM)
      (aC (U8 (K:=K) rfl (aL 0) (eE Ky rfl T.nm.tuple boot_tuple (aj (aL 1) ak)) rfl)
      (aF (U8 (K:=K) rfl (aL 0) (eE Ky rfl T.nm.tuple boot_tuple (aj (jm rfl rfl (show bK (aD qD) _ ["self", "points", "ties"] ["pair"] [] ["pair"] from⟨rfl,by decide+kernel,by decide+kernel,rfl,by decide+kernel,by decide+kernel⟩) rfl (PI.eqv (Ed (K:=K) rfl (aL 2)) (yP _ _)) (fun C s H fp pn=>(aU (i:=0) (show(["pair"]:List Str).Nodup by decide+kernel) rfl (Or.inl rfl))) (fun C s H fp pn=>jP) (fun C s H fp pn=>(d9 (aj (gj (gq (K:=K) rfl) (aL 0) aG (fun _ _=>rfl)) (aj (gj (gq (K:=K) rfl) (aL 0) aG (fun _ _=>rfl)) ak))))) ak)) rfl))))),?_⟩
    simp -dsimp[au,stC,-Bool.exists_bool,-List.map_take,-Prod.forall,-Prod.exists];refine⟨p,xs,rfl,hp,hx,fun H1 s1=>?_⟩;simp -dsimp[au,stC,-Bool.exists_bool,-List.map_take,-Prod.forall,-Prod.exists];refine⟨t,p,tv,xs,ps,rfl,ht.same s1,hpr.same s1,hp.same s1,hx,hts,fun H2 s2'=>?_⟩;have s2:=s1.trans s2';simp -dsimp[au,stC,-Bool.exists_bool,-List.map_take,-Prod.forall,-Prod.exists];refine⟨_,hp.same s2,fun n H3 hn s3'=>?_⟩;have s3:=s2.trans s3';have nno:n≠o:=Fy hn (s3 _ _ ho) (by intro z;cases z);refine⟨_,_,_,s3 _ _ ho,T.nG,T.Oc,by simp,?_⟩;have hto:t≠o:=by rcases ht with z | z <;> exact Fy z ho (by intro y;cases y)
    have qg7:∀{ob:HO} {b:Addr} {u:HO},b≠o→H b=some u→upd H3 o ob b=some u:=fun hb e=>by rw[aB hb];exact s3 _ _ e
    obtain⟨b,hb⟩:∃b,∀H',(∀c u,c≠o→H c=some u→H' c=some u)→SqB b K H' t tv:=by
      rcases ht with z | z
      ·exact⟨true,fun H' k=>bU.of (k _ _ hto z)⟩
      ·exact⟨false,fun H' k=>gY.of (k _ _ hto z)⟩
    have e1:jD "names" (V.ref n) []=([("names",V.ref n)]:List (Str×V)):=rfl;rw[e1];have st4:∀(c:Addr) (u:HO),c≠o→H c=some u→upd H3 o (.ins a.bG dx [("names",V.ref n)]) c=some u:=fun c u hc e=>qg7 hc e;generalize h4:upd H3 o (.ins a.bG dx [("names",V.ref n)])=H4 at st4 ⊢;have ho4:H4 o=some (.ins a.bG dx [("names",V.ref n)]):=by rw[← h4];exact ao
    have hn4:H4 n=some (.tup (xs.map V.str)):=by rw[← h4,aB nno];exact hn
    refine⟨b,⟨_,hb H4 st4⟩,fun D hD=>cmQ tv (fun i σ' H'=>(∃o',σ'=[o'])∧Same H4 H'∧∃tvs,H' D=some (.lst tvs)∧bL H' tvs (ps.take i)) ⟨⟨none,rfl⟩,aA hD,[],ao,by simp[bL]⟩ (fun i σ' H' _ h=>hb H' fun c u hc e=>h.2.1 _ _ (st4 c u hc e)) ?_ ?_⟩
    · rintro i v σ' H' hi ⟨⟨o',rfl⟩,sm,tvs,JK,htv⟩;have hi2:i<tv.length:=(List.getElem?_eq_some_iff.mp hi).1;have hlen:=hpr.1;have Xh:=hts.len;obtain⟨e,he,t2,rfl,ht2⟩:=hpr.at hi;have t2o:t2≠o:=by rcases ht2 with z | z <;> exact Fy z ho (by intro y;cases y)
      have ht3:Sq H' t2 [.str e.1,.str e.2]:=by
        rcases ht2 with z | z
        ·exact .inl (sm _ _ (st4 _ _ t2o z))
        ·exact .inr (sm _ _ (st4 _ _ t2o z))
      simp -dsimp[au,stC,-Bool.exists_bool,-List.map_take,-Prod.forall,-Prod.exists];refine⟨_,ht3.q,_,dh (j:=0) rfl,_,ht3.q,_,dh (j:=1) rfl,fun pt hpt=>?_⟩;have hDp:D≠pt:=aK JK hpt;refine⟨tvs,by rw[aB hDp];exact JK,?_,cA (sm.trans (aA hpt)) hD,_,ao,?_⟩
      · have h4':20<sizeLine:=by decide
        have:=htv.1;simp at this;omega
      · rw[take_one he];refine(htv.keep ?_).snoc ?_
        ·intro c zs ec;rw[aB (Fy ec JK (by intro y;cases y)),aB (aK ec hpt)];exact ec
        ·rw[aB (Ne.symm hDp)];exact ao
    · rintro σ' H' ⟨⟨o',rfl⟩,sm,tvs,JK,htv⟩;simp -dsimp[au,stC,-Bool.exists_bool,-List.map_take,-Prod.forall,-Prod.exists];refine⟨tvs,.inl JK,fun m H5 hm s5=>⟨_,_,_,s5 _ _ (sm _ _ ho4),T.nG,T.Eu,by simp,?_⟩⟩;have ho5:=s5 _ _ (sm _ _ ho4);have mno:m≠o:=Fy hm ho5 (by intro z;cases z);have e2:jD "pairs" (V.ref m) ([("names",V.ref n)]:List (Str×V))=([("names",V.ref n),("pairs",V.ref m)]:List (Str×V)):=by
        show(if ("names" : Str) = "pairs" then _ else (("names" : Str),V.ref n)::jD "pairs" (V.ref m) [])=_
        rw[if_neg (by decide+kernel)];rfl
      rw[e2];refine q _ ⟨dx,n,m,tvs,ao,?_,?_,?_,hts.len⟩ fun c u hc e=>?_
      ·rw[aB nno];exact s5 _ _ (sm _ _ hn4)
      ·rw[aB mno];exact hm
      ·have hl:=hpr.1;rw[hl,List.take_length] at htv;refine htv.keep fun c zs ec=>?_;rw[aB (Fy (s5 _ _ ec) ho5 (by intro z;cases z))];exact s5 _ _ ec
      ·rw[aB hc];exact s5 _ _ (sm _ _ (st4 c u hc e))
def Xi (C:Addr):Sp:=fun vs H Q _=>∃o xs ps,vs=[.ref o]∧cW C H o xs ps∧∀l,H l=none→Q (.ref l) (upd H l (.lst (xs.map V.str)))
theorem vL (T:Txt K mg a):bZ P w K mg base lB 1 a.dz a.jV ["self"] (Xi a.bG):=by
  refine T.zB.sV JF (fun vs H Q E h=>?_) (fun cdv A outer s H vs Q E hr h=>?_)
  ·obtain⟨o,xs,ps,rfl,_⟩:=h;rfl
  ·obtain⟨o,xs,ps,rfl,⟨dx,n,m,tv,h1,h2,h3,h4,h5⟩,q⟩:=h;refine⟨_,(aF (bh (eE (yR (K:=K) rfl) rfl T.nm.list boot_list (aj (PE.eqv (Ml (K:=K) rfl (aL 0) rfl) (M7 _ _ _)) ak)))),?_⟩;simp -dsimp[au,stC,-Bool.exists_bool,-List.map_take,-Prod.forall,-Prod.exists];refine⟨_,_,_,h1,T.nG,T.Oc,_,rfl,_,.inr (gY.of h2),q⟩
def qcz (C:Addr):Sp:=fun vs H Q _=>∃o xs ps,vs=[.ref o]∧cW C H o xs ps∧∀l tv,H l=none→bL H tv ps→Q (.ref l) (upd H l (.lst tv))
theorem DN (T:Txt K mg a):bZ P w K mg base lB 1 a.fY a.ni ["self"] (qcz a.bG):=by
  refine T.Ho.sV QF (fun vs H Q E h=>?_) (fun cdv A outer s H vs Q E hr h=>?_)
  ·obtain⟨o,xs,ps,rfl,_⟩:=h;rfl
  ·obtain⟨o,xs,ps,rfl,⟨dx,n,m,tv,h1,h2,h3,h4,h5⟩,q⟩:=h;refine⟨_,(aF (bh (eE (yR (K:=K) rfl) rfl T.nm.list boot_list (aj (PE.eqv (Ml (K:=K) rfl (aL 0) rfl) (M7 _ _ _)) ak)))),?_⟩;simp -dsimp[au,stC,-Bool.exists_bool,-List.map_take,-Prod.forall,-Prod.exists];refine⟨_,_,_,h1,T.nG,T.Eu,_,rfl,_,.inr (gY.of h3),fun l hl=>q l tv hl h4⟩
theorem jl.upd {p q:Addr} {H:Hp} {u:HO} (x:jl H p) (h:p≠q):jl (L2.upd H q u) p:=by
  obtain⟨a,b,e,r⟩:=x;exact⟨a,b,by rw[aB h];exact e,r⟩
theorem jl.ne {p q:Addr} {H:Hp} (x:jl H p) (h:H q=none):p≠q:=by
  obtain⟨a,b,e,r⟩:=x;exact aK e h
theorem jl.none {p b:Addr} {H H':Hp} (x:But p H H') (hp:jl H' p) (h:H' b = .none):H b = .none:=by
  obtain⟨a,b,e,r⟩:=hp;exact x.none e h
def qaJ:Sp:=fun vs H Q _=>∃p l xs,vs=[.ref p,.ref l]∧jl H p∧l≠p∧H l=some (.lst xs)∧xs.length≤100∧∀r ys H',H r=none→H' r=some (.lst ys)→ys.Perm xs→jl H' p→But p H H'→Q (.ref r) H'
theorem HN (T:Txt K mg a):bZ P w K mg base lB 2 a.nu a.zp ["_law_pot_here", "_law_things"] qaJ:=by
  refine T.zG.sV G9 (fun vs H Q E h=>?_) (fun cdv A outer s H vs Q E hr h=>?_)
  ·obtain⟨p,l,xs,rfl,_⟩:=h;rfl
  · obtain⟨p,l,xs,rfl,hp,hlp,hl,h100,q⟩:=h;refine⟨_,(aC (bI (i:=2) G9.nd rfl (Or.inl rfl) (jc ak))
      (aC (iy PassesOwn.never rfl (PI.eqv (iI (K:=K) rfl (aL 1)) (gC _ _)) (aU (i:=3) G9.nd rfl (Or.inl rfl))
      (aF (eN (nQ (K:=K) rfl PySem.F.plainAttrs_list PySem.F.slot_list_insert PySem.F.type_list_insert Sg (aL 2) (aj (PE.eqv (aJ (dY (K:=K) T) (hr.mono (by decide)) rfl T.gb T.fL.kp T.f9 .nil aW (aj (aL 0) (aj (dj jQ (aM (fV (K:=K) rfl) rfl T.nm.len PySem.boot_len (aj (aL 2) ak)) aG) ak))) (aH _ _ _)) (aj (aL 3) ak))))))
      (aF (bh (aL 2))))),?_⟩
    have h4':100<sizeLine:=by decide
    simp -dsimp[au,stC,-Bool.exists_bool,-List.map_take,-Prod.forall,-Prod.exists];intro r hr0;have hpr:p≠r:=hp.ne hr0;refine⟨⟨_,bU.of (cg hl hr0)⟩,frL xs (fun i σ H'=>∃v ys,σ=[some (.ref p),some (.ref l),some (.ref r),v]∧H' r=some (.lst ys)∧ys.Perm (xs.take i)∧jl H' p∧But p H H') ⟨none,[],rfl,ao,by simp,hp.upd hpr,(But.refl _ _).new hr0⟩ (fun i σ H' _ ⟨_,_,_,_,_,_,hb⟩=>bU.of (hb _ _ hlp hl)) ?_ ?_⟩
    · rintro i x σ H' hi ⟨v,ys,rfl,hr',hperm,hP,hB⟩;have hi2:i<xs.length:=(List.getElem?_eq_some_iff.mp hi).1;have hly:ys.length=i:=by
        have:=hperm.length_eq;simp at this;omega
      simp -dsimp[au,stC,-Bool.exists_bool,-List.map_take,-Prod.forall,-Prod.exists];refine⟨⟨_,bU.of hr'⟩,ys,.inl (bU.of hr'),p,_,rfl,hP,by omega,by omega,fun d H1 hd0 hd1 Ys VD=>?_⟩;have hr1:H1 r=some (.lst ys):=VD _ _ (Ne.symm hpr) hr';simp -dsimp[au,stC,-Bool.exists_bool,-List.map_take,-Prod.forall,-Prod.exists];refine⟨ys,hr1,hd0,by omega,by omega,_,ao,?_,Ys.upd hpr,(hB.trans VD).new hr0⟩
      · rw[take_one hi];have e:(ys.take d.toNat++x::ys.drop d.toNat).Perm (x::ys):=by
          refine List.perm_middle.trans ?_;rw[List.take_append_drop]
        exact e.trans ((List.Perm.cons x hperm).trans (List.perm_append_singleton x _).symm)
    ·rintro σ H' ⟨v,ys,rfl,hr',hperm,hP,hB⟩;rw[List.take_length] at hperm;simp -dsimp[au,stC,-Bool.exists_bool,-List.map_take,-Prod.forall,-Prod.exists];exact q r ys H' hr0 hr' hperm hP hB
def qfh:Sp:=fun vs H Q _=>∃(p l:Addr) (xs:List Str),vs=[.ref p,.ref l]∧jl H p∧l≠p∧H l=some (.lst (xs.map V.str))∧2≤xs.length∧xs.length≤9∧xs.Nodup∧∀t x y H',H t=none→H' t=some (.tup [.str x,.str y])→x∈xs→y∈xs→x≠y→jl H' p→But p H H'→Q (.ref t) H'
theorem qfi (T:Txt K mg a):bZ P w K mg base lB 2 a.Dr a.N5 ["_law_pot_here", "_law_names_here"] qfh:=by
  refine T.qaC.sV Tq (fun vs H Q E h=>?_) (fun cdv A outer s H vs Q E hr h=>?_)
  ·obtain⟨p,l,xs,rfl,_⟩:=h;rfl
  · obtain⟨p,l,xs,rfl,hp,hlp,hl,h2,h9,hnd,q⟩:=h;refine⟨_,(aC (bI (i:=2) Tq.nd rfl (Or.inl rfl) (PE.eqv (aJ (dY (K:=K) T) (hr.mono (by decide)) rfl T.gb T.fL.kp T.f9 .nil aW (aj (aL 0) (aj (aM (fV (K:=K) rfl) rfl T.nm.len PySem.boot_len (aj (aL 1) ak)) ak))) (aH _ _ _)))
      (aC (bI (i:=3) Tq.nd rfl (Or.inl rfl) (dj uG (dj jQ (dj jQ (aL 2) aG) (PE.eqv (aJ (dY (K:=K) T) (hr.mono (by decide)) rfl T.gb T.fL.kp T.f9 .nil aW (aj (aL 0) (aj (dj uE (aM (fV (K:=K) rfl) rfl T.nm.len PySem.boot_len (aj (aL 1) ak)) aG) ak))) (aH _ _ _))) (aM (fV (K:=K) rfl) rfl T.nm.len PySem.boot_len (aj (aL 1) ak))))
      (aF (bh (d9 (aj (gj (gq (K:=K) rfl) (aL 1) (aL 2) (fun _ _=>rfl)) (aj (gj (gq (K:=K) rfl) (aL 1) (aL 3) (fun _ _=>rfl)) ak))))))),?_⟩
    simp -dsimp[au,stC,-Bool.exists_bool,-List.map_take,-Prod.forall,-Prod.exists];refine⟨_,.inl (bU.of hl),p,_,rfl,hp,by simp;omega,by simp;omega,fun d H1 hd0 hd1 Ys VD=>?_⟩;have hl1:=VD _ _ hlp hl;simp -dsimp[au,stC,-Bool.exists_bool,-List.map_take,-Prod.forall,-Prod.exists];refine⟨_,.inl (bU.of hl1),p,_,rfl,Ys,by simp;omega,by simp;omega,fun e H2 he0 he1 hP2 hB2=>?_⟩;have hl2:=hB2 _ _ hlp hl1;simp only[List.length_map] at hd1 he1;obtain⟨m0,m1,m2⟩:=qeD hd0 hd1 he0 he1;obtain⟨vx,ex,ax⟩:=U5 (xs:=xs.map V.str) hd0 (by simpa using hd1);obtain⟨vy,ey,ay⟩:=U5 (xs:=xs.map V.str) m0 (by simpa using m1);obtain⟨x,ex',rfl⟩:=Ao ex;obtain⟨y,ey',rfl⟩:=Ao ey;have sl:=bU.of (K:=K) hl2;simp -dsimp[au,stC,-Bool.exists_bool,-List.map_take,-Prod.forall,-Prod.exists];refine⟨_,.inl sl,by simp;omega,_,.inl sl,_,ax,_,.inl sl,_,(by simpa using ay),fun t ht=>?_⟩;refine q t x y _ (jl.none (VD.trans hB2) hP2 ht) ao (List.mem_of_getElem? ex') (List.mem_of_getElem? ey') (fun z=>?_) (hP2.upd (hP2.ne ht)) ((VD.trans hB2).same (aA ht));subst z;have:=Gd hnd ex' ey';omega
def qaK:Sp:=fun vs H Q _=>∃(p:Addr) (m:Nat),vs=[.ref p,.int m]∧jl H p∧1≤m∧m≤9∧∀(r:Addr) (xs:List Str) (H':Hp),H r=none→H' r=some (.lst (xs.map V.str))→Yr xs→xs.length=m→jl H' p→But p H H'→Q (.ref r) H'
theorem qaL (T:Txt K mg a):bZ P w K mg base lB 2 a.nq a.zm ["_law_pot_here", "_law_many"] qaK:=by
  refine T.Oa.sV pK (fun vs H Q E h=>?_) (fun cdv A outer s H vs Q E hr h=>?_)
  ·obtain⟨p,m,rfl,_⟩:=h;rfl
  · obtain⟨p,m,rfl,hp,h1,h9,q⟩:=h;refine⟨_,(aC (bI (i:=2) pK.nd rfl (Or.inr rfl) c7)
      (aC (bI (i:=3) pK.nd rfl (Or.inl rfl) (PE.eqv (aJ (dY (K:=K) T) (hr.mono (by decide)) rfl T.gb T.fL.kp T.f9 .nil aW (aj (aL 0) (aj aG ak))) (aH _ _ _)))
      (aC (bI (i:=4) pK.nd rfl (Or.inl rfl) (jc ak))
      (aC (iy PassesOwn.never rfl (PI.eqv (jC rfl T.nm.range (aj (aL 1) ak)) (jK _)) (aU (i:=5) pK.nd rfl (Or.inl rfl))
      (aC (qm (i:=6) pK.nd rfl rfl rfl rfl (show bK (aD En) _ ["_law_pot_here", "_law_many", "_law_letters", "_law_begin", "_law_found", "_law_k", "_law_more"] ["_law_j"] [2,0] ["_law_j", "_law_letters", "_law_pot_here"] from⟨rfl,by decide+kernel,by decide+kernel,rfl,by decide+kernel,by decide+kernel⟩) rfl (PI.eqv (jC rfl T.nm.range (aj (PE.eqv (aJ (dY (K:=K) T) (hr.mono (by decide)) rfl T.gb T.fL.kp T.f9 .nil aW (aj (aL 0) (aj aG ak))) (aH _ _ _)) ak)) (jK _)) (fun C s H fp pn=>(aU (i:=0) (show(["_law_j", "_law_letters", "_law_pot_here"]:List Str).Nodup by decide+kernel) rfl (Or.inl rfl))) (fun C s H fp pn=>jP) (fun C s H fp pn=>(gj Vd (aL 1) (PE.eqv (aJ (dY (K:=K) T) (hr.mono (by decide)) rfl T.gb T.fL.kp T.f9 .nil aW (aj (aL 2) (aj aG ak))) (aH _ _ _)) (fun _ _=>rfl))))
      (aF (eN (nQ (K:=K) rfl PySem.F.plainAttrs_list PySem.F.slot_list_append PySem.F.type_list_append jL (aL 4) (aj (dj Qe (gj Vd (aL 2) (dj uG (dj jQ (aL 3) (dj Ej aG (aL 5))) aG) (fun _ _=>rfl)) (nQ (K:=K) rfl PySem.F.plainAttrs_str PySem.F.slot_str_join PySem.F.type_str_join Z_ c7 (aj (aL 6) ak))) ak))))))
      (aF (bh (aL 4))))))),?_⟩
    simp -dsimp[au,stC,-Bool.exists_bool,-List.map_take,-Prod.forall,-Prod.exists];refine⟨p,_,rfl,hp,by decide,by decide,fun d H1 hd0 hd1 Ys VD=>?_⟩;obtain⟨b,rfl,qla,hbl⟩:=sG hd0 hd1;have hP2:=Ys;have hB2:=VD;simp -dsimp[au,stC,-Bool.exists_bool,-List.map_take,-Prod.forall,-Prod.exists];intro r hr0;refine⟨by omega,frR (fun i σ H'=>∃v8 v9 ws,σ=[some (.ref p),some (.int m),some (.str (Str.ofString "abcdefghijklmnopqrstuvwxyz")),some (.int b),some (.ref r),v8,v9]∧H' r=some (.lst (ws.map V.str))∧ws.length=i∧(∀(j:Nat) x,ws[j]? = some x→∃k,1≤k∧k≤4∧qt (97+(b+5 * j) % 26) k x)∧jl H' p∧But p H H') ⟨none,none,[],rfl,ao,rfl,fun j x e=>by simp at e,hP2.upd (hP2.ne hr0),hB2.same (aA hr0)⟩ ?_ ?_⟩
    · rintro i σ H' hi ⟨v8,v9,ws,rfl,hr',hl,hw,hP,hB⟩;simp -dsimp[au,stC,-Bool.exists_bool,-List.map_take,-Prod.forall,-Prod.exists];obtain⟨c,hc,qj_,hcl⟩:=sG (i:=((b:Int)+5 * i) % 26) (by omega) (by omega);have hc':c=(b+5 * i) % 26:=by omega
      have pr:r≠p:=fun z=>by subst z;obtain⟨_,_,u,_⟩:=hP2;rw[hr0] at u;cases u
      refine⟨p,_,rfl,hP,by decide,by decide,fun e H3 he0 he1 Q9 hB3=>?_⟩;simp -dsimp[au,stC,-Bool.exists_bool,-List.map_take,-Prod.forall,-Prod.exists];have hDr:∀{D:Addr},H3 D=none→r≠D:=fun hD=>aK (hB3 _ _ pr hr') hD;refine⟨by omega,by omega,fun D hD=>cmR (fun j σ H4=>∃v ys,σ=[v,some (.str (Str.ofString "abcdefghijklmnopqrstuvwxyz")),some (.ref p)]∧H4 D=some (.lst (ys.map V.str))∧H4 r=some (.lst (ws.map V.str))∧ys.length=j∧(∀y∈ys,∃n,n<26∧y=(⟨#[97+n]⟩:Str))∧jl H4 p∧But p H H4) ⟨_,[],rfl,ao,cg (hB3 _ _ pr hr') hD,rfl,by simp,Q9.upd (Q9.ne hD),(hB.trans hB3).same (aA hD)⟩ ?_ ?_⟩
      · rintro j σ H4 hj ⟨v,ys,rfl,hD4,hr4,hyl,hys,Li,Lj⟩;have hDp:D≠p:=(Q9.ne hD).symm;simp -dsimp[au,stC,-Bool.exists_bool,-List.map_take,-Prod.forall,-Prod.exists];refine⟨p,_,rfl,Li,by decide,by decide,fun f H5 hf0 hf1 Jo Q_=>?_⟩;obtain⟨n,rfl,qka,hnl⟩:=sG hf0 hf1;simp -dsimp[au,stC,-Bool.exists_bool,-List.map_take,-Prod.forall,-Prod.exists,C_,hnl];have s20:=of_eq_true Mr;refine⟨_,Q_ _ _ hDp hD4,by simp;omega,ys++[⟨#[97+n]⟩],by rw[ao];simp,by rw[aB (hDr hD)];exact Q_ _ _ pr hr4,by simp[hyl],fun y hy=>?_,Jo.upd hDp.symm,(Lj.trans Q_).new (jl.none (hB.trans hB3) Q9 hD)⟩
        rcases List.mem_append.mp hy with hy | hy
        ·exact hys y hy
        ·exact⟨n,qka,by simpa using hy⟩
      · rintro σ H4 ⟨v,ys,rfl,hD4,hr4,hyl,hys,Li,Lj⟩;have hy3:=sO ys hys;simp -dsimp[au,stC,-Bool.exists_bool,-List.map_take,-Prod.forall,-Prod.exists];have hw4:=(qt.one qj_).glue (by decide) hys;have s20:=of_eq_true Mr;refine⟨⟨_,bU.of hr4⟩,C_,_,hcl,?_⟩;have hlen:(⟨#[97+c]⟩:Str).length+(Txt.join (Str.ofString "") ys).length=1+ys.length:=by
          rw[← hw4.len];exact(Array.size_append).symm
        refine⟨ys,hD4,by rw[hy3.2.2];show _+_ * 0≤_;omega,by omega,_,hr4,by simp;omega,ws++[_],by rw[ao];simp;rfl,by simp[hl],fun j y e=>?_,Li.upd pr.symm,Lj.new (jl.none hB2 hP2 hr0)⟩
        by_cases hj:j<ws.length
        ·rw[List.getElem?_append_left hj] at e;exact hw j y e
        · rw[List.getElem?_append_right (by omega)] at e;cases hk:j - ws.length with
          | zero=>
            rw[hk] at e;simp at e;subst e;have ej:j=i:=by omega
            subst ej;exact⟨1+ys.length,by omega,by omega,by rw[← hc'];exact hw4⟩
          | succ k=>
            rw[hk] at e;simp at e
    · rintro σ H' ⟨v8,v9,ws,rfl,hr',hl,hw,hP,hB⟩;simp -dsimp[au,stC,-Bool.exists_bool,-List.map_take,-Prod.forall,-Prod.exists];have nd:ws.Nodup:=by
        unfold List.Nodup;rw[List.pairwise_iff_getElem];intro i j hi hj hij e;obtain⟨k1,_,_,w1⟩:=hw i _ (by simp[hi]:ws[i]? = some ws[i]);obtain⟨k2,_,_,w2⟩:=hw j _ (by simp[hj]:ws[j]? = some ws[j]);have z:=w1.fst;rw[e,w2.fst] at z;simp at z;omega
      refine q r ws H' (jl.none hB2 hP2 hr0) hr' ⟨by omega,fun x hx=>?_,nd⟩ hl hP hB;obtain⟨j,hj,e⟩:=List.mem_iff_getElem.mp hx;obtain⟨k,k1,k4,w⟩:=hw j x (by simp[hj,e]);exact w.name k1 k4
theorem bL.perm {H:Hp} {vs ys:List V} {ps:List (Str×Str)} (h:bL H vs ps) (hp:ys.Perm vs):∃qs:List (Str×Str),bL H ys qs∧qs.Perm ps:=by
  have e1:vs=(vs.zip ps).map (·.1):=by rw[List.map_fst_zip (by rw[h.1];exact Nat.le_refl _)]
  have e2:ps=(vs.zip ps).map (·.2):=by rw[List.map_snd_zip (by rw[h.1];exact Nat.le_refl _)]
  obtain⟨l',pl,e⟩:=yJ hp _ e1;refine⟨l'.map (·.2),⟨by rw[e];simp,fun i v d h1 h2=>?_⟩,by rw[e2];exact pl.map _⟩;rw[e,List.getElem?_map] at h1;rw[List.getElem?_map] at h2;cases hz:l'[i]? with
  | none=>rw[hz] at h1;cases h1
  | some z=>
    rw[hz] at h1 h2;cases h1;cases h2;have hm:z∈vs.zip ps:=pl.mem_iff.mp (List.mem_of_getElem? hz);obtain⟨j,hj,ez⟩:=List.mem_iff_getElem.mp hm;have hj':j<vs.length∧j<ps.length:=by
      simp at hj;omega
    simp at ez;subst ez;exact h.2 j _ _ (by simp[hj'.1]) (by simp[hj'.2])
theorem bL.at {H:Hp} {vs:List V} {ps:List (Str×Str)} (h:bL H vs ps) {i:Nat} {v:V} (hv:vs[i]? = some v):∃e,ps[i]? = some e∧∃t,v = .ref t∧H t=some (.tup [.str e.1,.str e.2]):=by
  have hi:i<ps.length:=by rw[← h.1];exact(List.getElem?_eq_some_iff.mp hv).1
  exact⟨ps[i],by simp[hi],h.2 i v _ hv (by simp[hi])⟩
theorem bL.but {p:Addr} {H H':Hp} {vs:List V} {ps:List (Str×Str)} (h:bL H vs ps) (hp:jl H p) (b:But p H H'):bL H' vs ps:=h.keep fun c xs e=>b c _ (fun z=>by
  subst z;obtain⟨_,_,u,_⟩:=hp;rw[e] at u;cases u) e
theorem bL.same {H H':Hp} {vs:List V} {ps:List (Str×Str)} (h:bL H vs ps) (b:Same H H'):bL H' vs ps:=h.keep fun c xs e=>b c _ e
theorem jl.nl {p q:Addr} {H:Hp} (x:jl H p) (h:H q = .none):q≠p:=fun z=>(x.ne h) z.symm
def qfj:Sp:=fun vs H Q _=>∃(p:Addr) (m k:Nat),vs=[.ref p,.int m,.int k]∧jl H p∧1≤m∧m≤9∧m≤k∧k≤20∧∀(t n l:Addr) (xs:List Str) (tv:List V) (ps:List (Str×Str)) (H':Hp),
  H t=none→H n=none→H l=none→H' t=some (.tup [.ref n,.ref l])→H' n=some (.lst (xs.map V.str))→H' l=some (.lst tv)→bL H' tv ps→Yr xs→zN xs ps→xs.length≤m→ps.length≤k→jl H' p→But p H H'→Q (.ref t) H'
theorem qfk (T:Txt K mg a):bZ P w K mg base lB 3 a.Dt a.N6 ["_law_pot_here", "_law_points", "_law_most"] qfj:=by
  refine T.qaD.sV qH (fun vs H Q E h=>?_) (fun cdv A outer s H vs Q E hr h=>?_)
  ·obtain⟨p,m,k,rfl,_⟩:=h;rfl
  · obtain⟨p,m,k,rfl,hp,h1,h9,hmk,hk,q⟩:=h;refine⟨_,(aC (bI (i:=3) qH.nd rfl (Or.inl rfl) (PE.eqv (aJ (qaL (K:=K) T) (hr.mono (by decide)) rfl T.Vt T.Oa.kp T.Vs .nil aW (aj (aL 0) (aj (dj jQ aG (PE.eqv (aJ (dY (K:=K) T) (hr.mono (by decide)) rfl T.gb T.fL.kp T.f9 .nil aW (aj (aL 0) (aj (aL 1) ak))) (aH _ _ _))) ak))) (aH _ _ _)))
      (aC (bI (i:=4) qH.nd rfl (Or.inl rfl) (PE.eqv (aJ (dY (K:=K) T) (hr.mono (by decide)) rfl T.gb T.fL.kp T.f9 .nil aW (aj (aL 0) (aj aG ak))) (aH _ _ _)))
      (aC (bI (i:=5) qH.nd rfl (Or.inl rfl) (jc ak))
      (aC (dg (bD Gw (aM (fV (K:=K) rfl) rfl T.nm.len PySem.boot_len (aj (aL 3) ak)) aG (cP _)) (aC (bI (i:=6) qH.nd rfl (Or.inr rfl) (PE.eqv (aJ (HN (K:=K) T) (hr.mono (by decide)) rfl T.Et T.zG.kp T.Es .nil aW (aj (aL 0) (aj (aL 3) ak))) (aH _ _ _)))
      (aC (dg (bD Gw (aL 4) aG (cP _)) (aF (qm (i:=5) qH.nd rfl rfl rfl rfl (show bK (aD K5) _ ["_law_pot_here", "_law_points", "_law_most", "_law_names_here", "_law_kind", "_law_ties", "_law_row", "_law_k", "_law_turns"] ["_law_k"] [6] ["_law_k", "_law_row"] from⟨rfl,by decide+kernel,by decide+kernel,rfl,by decide+kernel,by decide+kernel⟩) rfl (PI.eqv (V4 rfl T.nm.range (aj (eE R_ rfl T.nm.int Ak (aj (yt nW (aL 4) aG (cP _)) ak)) (aj (aM (fV (K:=K) rfl) rfl T.nm.len PySem.boot_len (aj (aL 6) ak)) ak))) (WX _)) (fun C s H fp pn=>(aU (i:=0) (show(["_law_k", "_law_row"]:List Str).Nodup by decide+kernel) rfl (Or.inl rfl))) (fun C s H fp pn=>jP) (fun C s H fp pn=>(d9 (aj (gj (gq (K:=K) rfl) (aL 1) (dj uE (aL 0) aG) (fun _ _=>rfl)) (aj (gj (gq (K:=K) rfl) (aL 1) (aL 0) (fun _ _=>rfl)) ak)))))) bM)
      (aF (iy PassesOwn.never rfl (PI.eqv (jC rfl T.nm.range (aj (PE.eqv (aJ (dY (K:=K) T) (hr.mono (by decide)) rfl T.gb T.fL.kp T.f9 .nil aW (aj (aL 0) (aj (dj jQ (dj uE (aL 2) (aM (fV (K:=K) rfl) rfl T.nm.len PySem.boot_len (aj (aL 5) ak))) aG) ak))) (aH _ _ _)) ak)) (jK _)) (aU (i:=7) qH.nd rfl (Or.inl rfl))
      (aF (eN (nQ (K:=K) rfl PySem.F.plainAttrs_list PySem.F.slot_list_append PySem.F.type_list_append jL (aL 5) (aj (PE.eqv (aJ (qfi (K:=K) T) (hr.mono (by decide)) rfl T.qdG T.qaC.kp T.qdF .nil aW (aj (aL 0) (aj (aL 3) ak))) (aH _ _ _)) ak)))))))) bM)
      (aC (qm (i:=8) qH.nd rfl rfl rfl rfl (show bK (aD K5) _ ["_law_pot_here", "_law_points", "_law_most", "_law_names_here", "_law_kind", "_law_ties", "_law_row", "_law_k", "_law_turns"] ["_law_tie_here"] [0] ["_law_tie_here", "_law_pot_here"] from⟨rfl,by decide+kernel,by decide+kernel,rfl,by decide+kernel,by decide+kernel⟩) rfl (PI.eqv (iI (K:=K) rfl (aL 5)) (gC _ _)) (fun C s H fp pn=>(aU (i:=0) (show(["_law_tie_here", "_law_pot_here"]:List Str).Nodup by decide+kernel) rfl (Or.inl rfl))) (fun C s H fp pn=>jP) (fun C s H fp pn=>(PE.eqv (aJ (dY (K:=K) T) (hr.mono (by decide)) rfl T.gb T.fL.kp T.f9 .nil aW (aj (aL 1) (aj aG ak))) (aH _ _ _))))
      (aC (qm (i:=5) qH.nd rfl rfl rfl rfl (show bK (aD K5) _ ["_law_pot_here", "_law_points", "_law_most", "_law_names_here", "_law_kind", "_law_ties", "_law_row", "_law_k", "_law_turns"] ["_law_turn", "_law_a", "_law_b"] [] ["_law_turn", "_law_a", "_law_b"] from⟨rfl,by decide+kernel,by decide+kernel,rfl,by decide+kernel,by decide+kernel⟩) rfl (PI.eqv (qbU (K:=K) rfl rfl T.nm.zip (aj (aL 5) (aj (aL 8) ak))) (Z6 _ _)) (fun C s H fp pn=>(PG.eqv (g8 (K:=K) (n:=2) rfl rfl (lE.eqv (bN (PG.eqv (g8 (K:=K) (n:=2) rfl rfl (lE.eqv (bN (aU (i:=1) (show(["_law_turn", "_law_a", "_law_b"]:List Str).Nodup by decide+kernel) rfl (Or.inl rfl)) (lE.eqv (bN (aU (i:=2) (show(["_law_turn", "_law_a", "_law_b"]:List Str).Nodup by decide+kernel) rfl (Or.inl rfl)) (lE.mono gZ jJ)) (bO _ _))) (bO _ _))) (g_ _ _ _)) (lE.eqv (bN (aU (i:=0) (show(["_law_turn", "_law_a", "_law_b"]:List Str).Nodup by decide+kernel) rfl (Or.inl rfl)) (lE.mono gZ jJ)) (bO _ _))) (bO _ _))) (g_ _ _ _))) (fun C s H fp pn=>jP) (fun C s H fp pn=>(gj (gq (K:=K) rfl) (jc (aj (d9 (aj (aL 1) (aj (aL 2) ak))) (aj (d9 (aj (aL 2) (aj (aL 1) ak))) ak))) (aL 0) (fun _ _=>rfl))))
      (aF (bh (d9 (aj (aL 3) (aj (PE.eqv (aJ (HN (K:=K) T) (hr.mono (by decide)) rfl T.Et T.zG.kp T.Es .nil aW (aj (aL 0) (aj (aL 5) ak))) (aH _ _ _)) ak))))))))))),?_⟩
    simp -dsimp[au,stC,-Bool.exists_bool,-List.map_take,-Prod.forall,-Prod.exists];refine⟨p,_,rfl,hp,qjY h1,zlt h9 (by decide),fun d H1 hd0 hd1 Ys VD=>?_⟩;simp -dsimp[au,stC,-Bool.exists_bool,-List.map_take,-Prod.forall,-Prod.exists];refine⟨p,d.toNat+1,?_,Ys,Nat.le_add_left 1 _,ztn hd0 hd1 h9,fun n xs H2 hn hn2 hX hxl hP2 hB2'=>?_⟩
    ·simp;exact qj0 hd0 1
    have hxm:xs.length≤m:=by rw[hxl];exact ztn hd0 hd1 (Nat.le_refl m)
    have hx9:=Nat.le_trans hxm h9;have hB2:=VD.trans hB2';simp -dsimp[au,stC,-Bool.exists_bool,-List.map_take,-Prod.forall,-Prod.exists];refine⟨p,_,rfl,hP2,by decide,by decide,fun kd H3 hk0 hk1 Q9 qg8=>?_⟩;have hB3:=hB2.trans qg8;have np:n≠p:=fun z=>by subst z;obtain⟨_,_,u,_⟩:=Ys;rw[hn] at u;cases u
    have hn3:=qg8 _ _ np hn2;simp -dsimp[au,stC,-Bool.exists_bool,-List.map_take,-Prod.forall,-Prod.exists];refine fun L hL=>⟨_,.inl (bU.of (cg hn3 hL)),Gn (fun σ H4=>∃v6 v7 L tv ps,σ=[some (.ref p),some (.int m),some (.int k),some (.ref n),some (.int kd),some (.ref L),v6,v7,none]∧H L=none∧H4 L=some (.lst tv)∧bL H4 tv ps∧zN xs ps∧ps.length≤k∧H4 n=some (.lst (xs.map V.str))∧jl H4 p∧But p H H4) ?_ ?_⟩
    · rintro σ H4 ⟨v6,v7,L,tv,ps,rfl,hL0,TF,htv,hts,hpk,hn4,Li,Lj⟩;simp -dsimp[au,stC,-Bool.exists_bool,-List.map_take,-Prod.forall,-Prod.exists];have Lp:L≠p:=hp.nl hL0;have TJ:tv.length≤20:=by rw[htv.1];exact Nat.le_trans hpk hk
      have s20:=of_eq_true Mr;refine⟨⟨_,bU.of TF⟩,fun D hD=>cmL tv (fun i σ H'=>∃v ds,σ=[v,some (.ref p)]∧H' D=some (.lst (ds.map V.int))∧ds.length=i∧(∀d∈ds,0≤d∧d<2)∧H' L=some (.lst tv)∧bL H' tv ps∧H' n=some (.lst (xs.map V.str))∧jl H' p∧But p H H') ⟨none,[],rfl,ao,rfl,by simp,cg TF hD,htv.same (aA hD),cg hn4 hD,Li.upd (Li.ne hD),Lj.same (aA hD)⟩ (fun i σ H' _ h=>by
        obtain⟨_,_,_,_,_,_,z,_⟩:=h;exact bU.of z) ?_ ?_⟩
      · rintro i x σ H5 hi ⟨v,ds,rfl,Rw,hl,hds,hL5,qfl,hn5,Jo,Q_⟩;have hi2:i<tv.length:=(List.getElem?_eq_some_iff.mp hi).1;simp -dsimp[au,stC,-Bool.exists_bool,-List.map_take,-Prod.forall,-Prod.exists];refine⟨p,_,rfl,Jo,by decide,by decide,fun d H6 hd0 hd1 Ey Od=>?_⟩;have Dp:D≠p:=Li.nl hD;have LD:L≠D:=aK TF hD;have nD:n≠D:=aK hn4 hD;have Xj:=Od _ _ Dp Rw;simp -dsimp[au,stC,-Bool.exists_bool,-List.map_take,-Prod.forall,-Prod.exists];refine⟨_,Xj,by rw[List.length_map,hl];exact zsz hi2 TJ,ds++[d],by rw[ao];simp,by simp[hl],?_,by rw[aB LD];exact Od _ _ Lp hL5,(qfl.but Jo Od).keep (fun c zs e=>yH e Xj (by intro z;cases z)),by rw[aB nD];exact Od _ _ np hn5,Ey.upd (Dp.symm),(Q_.trans Od).new (jl.none Lj Li hD)⟩;intro z hz
        rcases List.mem_append.mp hz with y | y
        ·exact hds z y
        ·simp at y;subst y;exact⟨hd0,hd1⟩
      · rintro σ H5 ⟨v,ds,rfl,Rw,hl,hds,hL5,qfl,hn5,Jo,Q_⟩;simp -dsimp[au,stC,-Bool.exists_bool,-List.map_take,-Prod.forall,-Prod.exists];have hD0:=jl.none Lj Li hD;have LD:L≠D:=aK TF hD;refine⟨⟨_,bU.of hL5⟩,⟨_,bU.of Rw⟩,fun D2 hD2=>cmZ tv (ds.map V.int) (fun i σ H'=>(∃o1 o2 o3,σ=[o1,o2,o3])∧∃tvs qs,H' D2=some (.lst tvs)∧bL H' tvs qs∧qs.length=i∧(∀e∈qs,e.1∈xs∧e.2∈xs∧e.1≠e.2)∧H' L=some (.lst tv)∧H' D=some (.lst (ds.map V.int))∧bL H' tv ps∧H' n=some (.lst (xs.map V.str))∧jl H' p∧But p H H') ⟨⟨_,_,_,rfl⟩,[],[],ao,⟨rfl,by simp⟩,rfl,by simp,cg hL5 hD2,cg Rw hD2,qfl.same (aA hD2),cg hn5 hD2,Jo.upd (Jo.ne hD2),Q_.same (aA hD2)⟩ (by simp[hl]) (fun i σ H' _ h=>by
          obtain⟨_,_,_,_,_,_,_,z1,z2,_⟩:=h;exact⟨bU.of z1,bU.of z2⟩) ?_ ?_⟩
        · rintro i x y t σ H6 hx hy ht ⟨⟨o1,o2,o3,rfl⟩,tvs,qs,qfm,JN,hql,hqs,hL6,Xj,qfn,hn6,Ey,Od⟩;simp -dsimp[au,stC,-Bool.exists_bool,-List.map_take,-Prod.forall,-Prod.exists];obtain⟨e,he,tt,rfl,htt⟩:=qfn.at hx;have hi2:i<tv.length:=(List.getElem?_eq_some_iff.mp hx).1;have hem:=List.mem_of_getElem? he;rw[List.getElem?_map] at hy;obtain⟨d,hd,rfl⟩:∃d,ds[i]? = some d∧y = .int d:=by
            cases z:ds[i]? with
            | none=>rw[z] at hy;cases hy
            | some d=>rw[z] at hy;exact⟨d,rfl,(Option.some.inj hy).symm⟩
          have hd2:=hds d (List.mem_of_getElem? hd);refine⟨_,gY.of ao,rfl,_,gY.of (cg htt ht),rfl,?_⟩;simp -dsimp[au,stC,-Bool.exists_bool,-List.map_take,-Prod.forall,-Prod.exists];refine fun p1 h1 p2 h2 p3 h3=>⟨_,.inl (bU.of ao),?_⟩;have hp1:=cg (u:=HO.lst [V.ref p1,V.ref p2]) (cg (u:=HO.tup [.str e.2,.str e.1]) (ao (H:=upd H6 t (HO.tup [V.ref tt,V.int d])) (a:=p1) (o:=HO.tup [.str e.1,.str e.2])) h2) h3;have hp2:=cg (u:=HO.lst [V.ref p1,V.ref p2]) (ao (H:=upd (upd H6 t (HO.tup [V.ref tt,V.int d])) p1 (HO.tup [.str e.1,.str e.2])) (a:=p2) (o:=HO.tup [.str e.2,.str e.1])) h3;have sm:=(((aA (o:=HO.tup [V.ref tt,V.int d]) ht).trans (aA (o:=HO.tup [.str e.1,.str e.2]) h1)).trans (aA (o:=HO.tup [.str e.2,.str e.1]) h2)).trans (aA (o:=HO.lst [V.ref p1,V.ref p2]) h3);generalize upd (upd (upd (upd H6 t (HO.tup [V.ref tt,V.int d])) p1 (HO.tup [.str e.1,.str e.2])) p2 (HO.tup [.str e.2,.str e.1])) p3 (HO.lst [V.ref p1,V.ref p2])=H9 at hp1 hp2 sm ⊢;have key:∃(pp:Addr) (e':Str×Str),Ka [V.ref p1,V.ref p2] d=some (.ref pp)∧H9 pp=some (.tup [.str e'.1,.str e'.2])∧e'.1∈xs∧e'.2∈xs∧e'.1≠e'.2:=by
            have ⟨q1,q2,q3⟩:=hts.ok e hem;have:d=0∨d=1:=z01 hd2.1 hd2.2
            rcases this with rfl | rfl
            ·exact⟨p1,e,rfl,hp1,q1,q2,q3⟩
            ·exact⟨p2,(e.2,e.1),rfl,hp2,q2,q1,Ne.symm q3⟩
          obtain⟨pp,e',a1,hpp,k1,k2,k3⟩:=key;have D2n:=hD2;have D2p:D2≠p:=Jo.nl hD2;have LD2:L≠D2:=aK hL5 hD2;have DD2:D≠D2:=aK Rw hD2;have nD2:n≠D2:=aK hn5 hD2;have qg9:=sm _ _ qfm;have kp:cJ H9 (upd H9 D2 (.lst (tvs++[.ref pp]))):=fun c zs e=>yH e qg9 (by intro z;cases z);have hP9:jl H9 p:=by
            obtain⟨u1,u2,u3,u4⟩:=Ey;exact⟨u1,u2,sm _ _ u3,u4⟩
          refine⟨_,a1,_,qg9,?_,_,ao,qs++[e'],((JN.same sm).keep kp).snoc (kp _ _ hpp),by simp[hql],?_,by rw[aB LD2];exact sm _ _ hL6,by rw[aB DD2];exact sm _ _ Xj,(qfn.same sm).keep kp,by rw[aB nD2];exact sm _ _ hn6,hP9.upd D2p.symm,(Od.same sm).new (jl.none Q_ Jo hD2)⟩
          ·rw[JN.1,hql];exact zsz hi2 TJ
          · intro z hz
            rcases List.mem_append.mp hz with y | y
            ·exact hqs z y
            ·simp at y;subst y;exact⟨k1,k2,k3⟩
        · rintro σ H6 ⟨⟨o1,o2,o3,rfl⟩,tvs,qs,qfm,JN,hql,hqs,hL6,Xj,qfn,hn6,Ey,Od⟩;simp -dsimp[au,stC,-Bool.exists_bool,-List.map_take,-Prod.forall,-Prod.exists];have D2p:D2≠p:=Jo.nl hD2;have qlb:=jl.none Q_ Jo hD2;have tl:tvs.length=tv.length:=by rw[JN.1,hql]
          refine⟨p,D2,_,rfl,Ey,D2p,qfm,by rw[tl];exact Nat.le_trans TJ (by decide),fun l ys H7 hl0 hl7 hperm Ea zO=>?_⟩;simp -dsimp[au,stC,-Bool.exists_bool,-List.map_take,-Prod.forall,-Prod.exists];intro t ht;obtain⟨rs,hrs,hrp⟩:=(JN.but Ey zO).perm hperm;refine q t n l xs ys rs _ (jl.none (Od.trans zO) Ea ht) (jl.none VD Ys hn) (jl.none Od Ey hl0) ao (cg (zO _ _ np hn6) ht) (cg hl7 ht) (hrs.same (aA ht)) hX ⟨?_,fun e he=>hqs e (hrp.mem_iff.mp he)⟩ hxm ?_ (Ea.upd (Ea.ne ht)) ((Od.trans zO).same (aA ht))
          ·rw[hrp.length_eq,hql];exact TJ
          ·rw[hrp.length_eq,hql,htv.1];exact hpk
    · intro N hN;refine iB.of (fun h=>?_) (fun h=>?_)
      · simp -dsimp[au,stC,-Bool.exists_bool,-List.map_take,-Prod.forall,-Prod.exists];have hx2:2≤xs.length:=by simp at h;exact z2 h
        have qg_:upd H3 L (.lst []) n=some (.lst (xs.map V.str)):=cg hn3 hL;refine⟨p,n,_,rfl,Q9.upd (Q9.ne hL),np,qg_,by rw[List.length_map];exact Nat.le_trans hx9 (by decide),fun rw ys H4 hrw qha hperm Li qfo=>?_⟩;have Lj:=(hB3.same (aA hL)).trans qfo;obtain⟨zs,hzp,rfl⟩:=yJ hperm xs rfl;have hzl:zs.length=xs.length:=hzp.length_eq;have qhb:zs.Nodup:=hzp.nodup_iff.mpr hX.nd;have hn4:=qfo _ _ np qg_;have TF:H4 L=some (.lst []):=qfo _ _ (Q9.nl hL) ao;have hL0:=jl.none hB3 Q9 hL;simp -dsimp[au,stC,-Bool.exists_bool,-List.map_take,-Prod.forall,-Prod.exists];refine Gn (fun σ H5=>∃v6 v7 L tv ps,σ=[some (.ref p),some (.int m),some (.int k),some (.ref n),some (.int kd),some (.ref L),v6,v7,none]∧H L=none∧H5 L=some (.lst tv)∧bL H5 tv ps∧zN xs ps∧ps.length≤m∧H5 n=some (.lst (xs.map V.str))∧jl H5 p∧But p H H5) ?_ ?_
        · rintro σ H5 ⟨v6,v7,L,tv,ps,rfl,hL0,hL5,htv,hts,hpm,hn5,Jo,Q_⟩;simp -dsimp[au,stC,-Bool.exists_bool,-List.map_take,-Prod.forall,-Prod.exists];have Lp:L≠p:=hp.nl hL0;have TJ:tv.length=ps.length:=htv.1;have s20:=of_eq_true Mr;have htk:tv.length≤k:=by rw[TJ];exact Nat.le_trans hpm hmk
          refine⟨_,.inl (bU.of hL5),p,_,rfl,Jo,zk1 htk,zk2 hk (by decide),fun f H6 hf0 hf1 Ey qcA=>?_⟩;simp -dsimp[au,stC,-Bool.exists_bool,-List.map_take,-Prod.forall,-Prod.exists];refine⟨zlo hf0,Int.lt_trans hf1 (zk2 hk (by decide)),frR (fun i σ H7=>∃v7 tv ps,σ=[some (.ref p),some (.int m),some (.int k),some (.ref n),some (.int kd),some (.ref L),v6,v7,none]∧H7 L=some (.lst tv)∧bL H7 tv ps∧zN xs ps∧ps.length+f.toNat≤k+i∧H7 n=some (.lst (xs.map V.str))∧jl H7 p∧But p H H7) ⟨v7,tv,ps,rfl,qcA _ _ Lp hL5,htv.but Jo qcA,hts,zk3 hf0 hf1 TJ,qcA _ _ np hn5,Ey,Q_.trans qcA⟩ ?_ ?_⟩
          · rintro i σ H7 hi ⟨v7,tv,ps,rfl,Yt,Ra,qfp,hpl,hn7,Ea,zO⟩;simp -dsimp[au,stC,-Bool.exists_bool,-List.map_take,-Prod.forall,-Prod.exists];refine⟨⟨_,bU.of Yt⟩,p,n,xs,rfl,Ea,np,hn7,hx2,hx9,hX.nd,fun t x y H8 ht ht8 hx hy hxy hP8 hB8=>?_⟩;simp -dsimp[au,stC,-Bool.exists_bool,-List.map_take,-Prod.forall,-Prod.exists];have hL8:=hB8 _ _ Lp Yt;have hl7:=Ra.1;have kp:cJ H8 (upd H8 L (.lst (tv++[.ref t]))):=fun c zs e=>yH e hL8 (by intro z;cases z);have nL:n≠L:=fun z=>by subst z;rw[jl.none VD Ys hn] at hL0;rw[hn7] at Yt;cases tv with
              | nil=>simp at Yt;rw[Yt] at hx2;simp at hx2
              | cons v tv=>
                obtain⟨e,_,u,rfl,_⟩:=Ra.at (i:=0) rfl;cases xs with
                | nil=>simp at hx2
                | cons x xs=>simp at Yt
            refine⟨_,hL8,zk4 hl7 hpl hi hk,_,ao,ps++[(x,y)],((Ra.but Ea hB8).keep kp).snoc (kp _ _ ht8),⟨by rw[List.length_append];exact Nat.succ_le_succ (zk5 hpl hi hk),?_⟩,by rw[List.length_append];exact zk6 hpl,by rw[aB nL];exact hB8 _ _ np hn7,hP8.upd Lp.symm,(zO.trans hB8).new hL0⟩;intro e he
            rcases List.mem_append.mp he with z | z
            ·exact qfp.ok e z
            ·simp at z;subst z;exact⟨hx,hy,hxy⟩
          ·rintro σ H7 ⟨v7,tv,ps,rfl,Yt,Ra,qfp,hpl,hn7,Ea,zO⟩;simp -dsimp[au,stC,-Bool.exists_bool,-List.map_take,-Prod.forall,-Prod.exists];exact hN _ _ ⟨_,_,L,tv,ps,rfl,hL0,Yt,Ra,qfp,zk7 hpl,hn7,Ea,zO⟩
        · intro N2 hN2;refine iB.of (fun h=>?_) (fun h=>?_)
          · simp -dsimp[au,stC,-Bool.exists_bool,-List.map_take,-Prod.forall,-Prod.exists];obtain⟨lo,hlo,lo1⟩:∃lo:Nat,(if kd=3 then (1:Int) else 0)=lo∧lo≤1:=by
              split
              ·exact⟨1,rfl,Nat.le_refl _⟩
              ·exact⟨0,rfl,by decide⟩
            simp only[hlo];have s20:=of_eq_true Mr;refine⟨_,.inl (bU.of qha),⟨qjZ,zlt lo1 (by decide),zlt (by rw[List.length_map,hzl];exact hx9) (by decide)⟩,fun D hD=>cmR (fun i σ H5=>(∃o,σ=[o,some (.ref rw)])∧∃tvs qs,H5 D=some (.lst tvs)∧bL H5 tvs qs∧qs.length=i∧(∀e∈qs,e.1∈xs∧e.2∈xs∧e.1≠e.2)∧Same H4 H5) ⟨⟨_,rfl⟩,[],[],ao,⟨rfl,by simp⟩,rfl,by simp,aA hD⟩ ?_ ?_⟩
            · rintro i σ H5 hi ⟨⟨o,rfl⟩,tvs,qs,Rw,JN,hql,hqs,sm⟩;have hk:lo+i<zs.length:=by simp at hi;exact qj1 hi
              obtain⟨j,vx,hj,ex,ax⟩:=Zy (xs:=zs.map V.str) (k:=lo+i) (by rw[List.length_map,hzl];exact hx2) (by simpa using hk);obtain⟨x,ex',rfl⟩:=Ao ex;have ey':zs[lo+i]? = some (zs[lo+i]'hk):=by simp[hk]
              have ay:Ka (zs.map V.str) ((lo+i:Nat):Int)=some (.str (zs[lo+i]'hk)):=dh (by rw[List.getElem?_map,ey'];rfl);have c1:((lo+i:Nat):Int)=(lo:Int)+i:=Int.natCast_add ..;rw[c1] at ax ay;have sl:=bU.of (K:=K) (sm _ _ qha);simp -dsimp[au,stC,-Bool.exists_bool,-List.map_take,-Prod.forall,-Prod.exists];refine⟨_,.inl sl,_,ax,_,.inl sl,_,ay,fun pt hpt=>?_⟩;have Dpt:=aK Rw hpt;have Xj:upd H5 pt (.tup [.str x,.str (zs[lo+i]'hk)]) D=some (.lst tvs):=cg Rw hpt;have kp:cJ (upd H5 pt (.tup [.str x,.str (zs[lo+i]'hk)])) (upd (upd H5 pt (.tup [.str x,.str (zs[lo+i]'hk)])) D (.lst (tvs++[.ref pt]))):=fun c zs e=>yH e Xj (by intro z;cases z);have hl:=JN.1;refine⟨_,Xj,by rw[hl,hql];exact zsz (Nat.lt_of_le_of_lt (Nat.le_add_left i lo) hk) (by rw[hzl];exact Nat.le_trans hx9 (by decide)),_,ao,qs++[(x,zs[lo+i]'hk)],((JN.same (aA hpt)).keep kp).snoc (kp _ _ ao),by simp[hql],?_,cA (sm.trans (aA hpt)) hD⟩;intro e he
              rcases List.mem_append.mp he with z | z
              ·exact hqs e z
              ·simp at z;subst z;refine⟨hzp.mem_iff.mp (List.mem_of_getElem? ex'),hzp.mem_iff.mp (List.mem_of_getElem? ey'),fun z=>hj ?_⟩;simp only at z;rw[← z] at ey';exact Gd qhb ex' ey'
            · rintro σ H5 ⟨⟨o,rfl⟩,tvs,qs,Rw,JN,hql,hqs,sm⟩;simp -dsimp[au,stC,-Bool.exists_bool,-List.map_take,-Prod.forall,-Prod.exists];simp at hql;have hqm:qs.length≤m:=by rw[hql,hzl];exact Nat.le_trans (Nat.sub_le ..) hxm
              have Jo:jl H5 p:=by
                obtain⟨u1,u2,u3,u4⟩:=Li;exact⟨u1,u2,sm _ _ u3,u4⟩
              exact hN2 _ _ ⟨_,_,D,tvs,qs,rfl,jl.none Lj Li hD,Rw,JN,⟨Nat.le_trans hqm (Nat.le_trans h9 (by decide)),hqs⟩,hqm,sm _ _ hn4,Jo,Lj.same sm⟩
          ·simp -dsimp[au,stC,-Bool.exists_bool,-List.map_take,-Prod.forall,-Prod.exists];exact hN2 _ _ ⟨_,_,L,[],[],rfl,hL0,TF,⟨rfl,by simp⟩,⟨by simp,by simp⟩,by simp,hn4,Li,Lj⟩
      ·simp -dsimp[au,stC,-Bool.exists_bool,-List.map_take,-Prod.forall,-Prod.exists];exact hN _ _ ⟨_,_,L,[],[],rfl,jl.none hB3 Q9 hL,ao,⟨rfl,by simp⟩,⟨by simp,by simp⟩,by simp,cg hn3 hL,Q9.upd (Q9.ne hL),hB3.same (aA hL)⟩
theorem qhc {m:Str} {u v:V} (h1:¬m = "names") (h2:¬m = "pairs"):∀p∈([("names",u),("pairs",v)]:List (Str×V)),¬m=p.1:=fun p hp=>by
  simp at hp
  rcases hp with rfl | rfl
  ·exact h1
  ·exact h2
theorem cW.same {C:Addr} {H H':Hp} {o:Addr} {xs:List Str} {ps:List (Str×Str)} (h:cW C H o xs ps) (s:Same H H'):cW C H' o xs ps:=by
  obtain⟨dx,n,m,tv,h1,h2,h3,h4,h5⟩:=h.ex;exact⟨⟨dx,n,m,tv,s _ _ h1,s _ _ h2,s _ _ h3,bL.same h4 s,h5⟩⟩
theorem cW.ins {C:Addr} {H:Hp} {o:Addr} {xs:List Str} {ps:List (Str×Str)} (h:cW C H o xs ps) {m:Str} (h1:¬m = "names") (h2:¬m = "pairs"):∃dx fs,H o=some (.ins C dx fs)∧∀p∈fs,¬m=p.1:=by
  obtain⟨dx,n,mm,tv,e,_⟩:=h.ex;exact⟨dx,_,e,qhc h1 h2⟩
theorem Ez:¬(("ties" : Str) = "names")∧¬(("ties" : Str) = "pairs"):=by decide+kernel
theorem uR:¬(("points" : Str) = "names")∧¬(("points" : Str) = "pairs"):=by decide+kernel
theorem nJ:¬(("many" : Str) = "names")∧¬(("many" : Str) = "pairs"):=by decide+kernel
def HS (C:Addr):Sp:=fun vs H Q _=>∃o d xs ps fx,vs=[.ref o,.ref d]∧cW C H o xs ps∧P0 H d fx∧∀l tv H',H l=none→H' l=some (.lst tv)→dO H' tv (aN fx ps 0)→tv.length≤40→Same H H'→Q (.ref l) H'
theorem tW (T:Txt K mg a):bZ P w K mg base lB 2 a.dF a.jq ["web", "fixed"] (HS a.bG):=by
  refine T.jW.sV gM (fun vs H Q E h=>?_) (fun cdv A outer s H vs Q E hr h=>?_)
  ·obtain⟨o,d,xs,ps,fx,rfl,_⟩:=h;rfl
  · obtain⟨o,d,xs,ps,fx,rfl,hw,hfx,q⟩:=h;refine⟨_,(aC (bI (i:=2) gM.nd rfl (Or.inl rfl) (jc ak))
      (aC (iy PassesOwn.never rfl (PI.eqv (U7 (K:=K) rfl rfl T.Tv.enumerate (aj (PE.eqv (j9 (aL 0) T.nG T.wD (DN (K:=K) T) (hr.mono (by decide)) T.wB .nil aW) (kh _ _ _ _ _ _)) ak)) (Kv _ _)) (PG.eqv (g8 (K:=K) (n:=2) rfl rfl (lE.eqv (bN (aU (i:=3) gM.nd rfl (Or.inl rfl)) (lE.eqv (bN (PG.eqv (g8 (K:=K) (n:=2) rfl rfl (lE.eqv (bN (aU (i:=4) gM.nd rfl (Or.inl rfl)) (lE.eqv (bN (aU (i:=5) gM.nd rfl (Or.inl rfl)) (lE.mono gZ jJ)) (bO _ _))) (bO _ _))) (g_ _ _ _)) (lE.mono gZ jJ)) (bO _ _))) (bO _ _))) (g_ _ _ _))
      (aC (dg (bD nW (PE.eqv (PK (sy hr) (aL 1) (aL 3) aG ⟨rfl,rfl,rfl,rfl⟩) (Kw _ _ _)) aG (cP _)) (aF (eN (nQ (K:=K) rfl PySem.F.plainAttrs_list PySem.F.slot_list_append PySem.F.type_list_append jL (aL 2) (aj (d9 (aj (aL 3) (aj (aL 4) (aj (aL 5) ak)))) ak)))) bM)
      (aF (dg (bD nW (PE.eqv (PK (sy hr) (aL 1) (aL 3) aG ⟨rfl,rfl,rfl,rfl⟩) (Kw _ _ _)) aG (cP _)) (aF (eN (nQ (K:=K) rfl PySem.F.plainAttrs_list PySem.F.slot_list_append PySem.F.type_list_append jL (aL 2) (aj (d9 (aj (aL 3) (aj (aL 5) (aj (aL 4) ak)))) ak)))) bM))))
      (aF (bh (aL 2))))),?_⟩
    obtain⟨dx,fs,hi,hno⟩:=hw.ins Ez.1 Ez.2;obtain⟨_,_,_,_,_,_,_,_,Xh⟩:=hw.ex;simp -dsimp[au,stC,-Bool.exists_bool,-List.map_take,-Prod.forall,-Prod.exists];intro L hL;refine⟨_,_,cg hi hL,hno,o,xs,ps,rfl,hw.same (aA hL),fun l2 DP hl2 qfq=>?_⟩;have sa:Same H (upd (upd H L (.lst [])) l2 (.lst DP)):=(aA hL).trans (aA hl2);have eL:upd (upd H L (.lst [])) l2 (.lst DP) L=some (.lst []):=cg ao hl2;have e2:upd (upd H L (.lst [])) l2 (.lst DP) l2=some (.lst DP):=ao;have Oe:=bL.same qfq (aA (o:=HO.lst DP) hl2);have L2n:L≠l2:=fun z=>by subst z;rw[ao] at hl2;cases hl2
    generalize upd (upd H L (.lst [])) l2 (.lst DP)=H1 at sa eL e2 Oe ⊢;obtain⟨kvs,hd,hv⟩:=hfx;have dL:d≠L:=aK hd hL;simp -dsimp[au,stC,-Bool.exists_bool,-List.map_take,-Prod.forall,-Prod.exists];refine⟨⟨_,bU.of e2⟩,frE DP (fun i σ H'=>(∃v3 v4 v5 sv,σ=[some (.ref o),some (.ref d),some (.ref L),v3,v4,v5]∧H' L=some (.lst sv)∧dO H' sv (aN fx (ps.take i) 0)∧sv.length≤2 * i)∧H' l2=some (.lst DP)∧bL H' DP ps∧Same H H') ⟨⟨_,_,_,[],rfl,eL,gG.nil,by simp⟩,e2,Oe,sa⟩ (fun i σ H' _ h=>bU.of h.2.1) ?_ ?_⟩
    · rintro i x t σ H2 hi ht ⟨⟨v3,v4,v5,sv,rfl,hL2,hsv,hsl⟩,qhd,htv,s2⟩;have hi2:i<DP.length:=(List.getElem?_eq_some_iff.mp hi).1;have tl:=htv.1;obtain⟨e,he,tt,rfl,htt⟩:=htv.at hi;rw[Mz fx he];unfold Ar;simp -dsimp[au,stC,-Bool.exists_bool,-List.map_take,-Prod.forall,-Prod.exists];have st:Same H2 (upd H2 t (.tup [.int i,.ref tt])):=aA ht;refine⟨_,gY.of ao,rfl,_,gY.of (st _ _ htt),rfl,isD (st _ _ (s2 _ _ hd)),_,qgu i (st _ _ (s2 _ _ hd)),?_⟩;have tL:L≠t:=aK hL2 ht;have hL3:=st _ _ hL2;have Xk:=st _ _ qhd;have Oe:=bL.same htv st;have s3:=s2.trans st;have qfr:=dO.keep hsv (L2.cJ.of st);generalize upd H2 t (.tup [.int i,.ref tt])=H3 at hL3 Xk Oe s3 qfr ⊢;have s60:60≤sizeLine:=by decide
      have add:∀(H3:Hp) (sv:List V) (S:List lC) (n:Nat) (x y:Str) (b:Addr),H3 L=some (.lst sv)→dO H3 sv S→H3 b=none→H3 l2=some (.lst DP)→bL H3 DP ps→Same H H3→
          (upd (upd H3 b (.tup [.int n,.str x,.str y])) L (.lst (sv++[.ref b])) L=some (.lst (sv++[.ref b]))∧dO (upd (upd H3 b (.tup [.int n,.str x,.str y])) L (.lst (sv++[.ref b]))) (sv++[.ref b]) (S++[(n,x,y)]))∧upd (upd H3 b (.tup [.int n,.str x,.str y])) L (.lst (sv++[.ref b])) l2=some (.lst DP)∧bL (upd (upd H3 b (.tup [.int n,.str x,.str y])) L (.lst (sv++[.ref b]))) DP ps∧Same H (upd (upd H3 b (.tup [.int n,.str x,.str y])) L (.lst (sv++[.ref b]))):=by
        intro H3 sv S n x y b hL3 hsv hb hl2 htv s3;have sb:Same H3 (upd H3 b (.tup [.int n,.str x,.str y])):=aA hb;have kp:L2.cJ (upd H3 b (.tup [.int n,.str x,.str y])) (upd (upd H3 b (.tup [.int n,.str x,.str y])) L (.lst (sv++[.ref b]))):=L2.cJ.set (sb _ _ hL3) (by intro z e;cases e);refine⟨⟨ao,gG.snoc (dO.keep (dO.keep hsv (L2.cJ.of sb)) kp) ⟨b,rfl,kp _ _ ao⟩⟩,by rw[aB L2n.symm];exact sb _ _ hl2,(bL.same htv sb).keep kp,cA (s3.trans sb) hL⟩
      rw[hv i,P_];simp -dsimp[au,stC,-Bool.exists_bool,-List.map_take,-Prod.forall,-Prod.exists];refine Gn (fun σ H4=>(∃sv,σ=[some (.ref o),some (.ref d),some (.ref L),some (.int i),some (.str e.1),some (.str e.2)]∧H4 L=some (.lst sv)∧dO H4 sv (aN fx (ps.take i) 0++if (fx i).getD 0=0 then [(i,e.1,e.2)] else [])∧sv.length≤2 * i+1)∧H4 l2=some (.lst DP)∧bL H4 DP ps∧Same H H4) ?_ ?_
      · rintro σ H4 ⟨⟨sv,rfl,TF,qhe,qfs⟩,Xl,Xm,s4⟩;simp -dsimp[au,stC,-Bool.exists_bool,-List.map_take,-Prod.forall,-Prod.exists];refine⟨isD (s4 _ _ hd),_,qgu i (s4 _ _ hd),?_⟩;rw[hv i,P_];simp -dsimp[au,stC,-Bool.exists_bool,-List.map_take,-Prod.forall,-Prod.exists];refine iB.of (fun h=>?_) (fun h=>?_)
        · have h':(fx i).getD 1=1:=by simpa using h
          simp -dsimp[au,stC,-Bool.exists_bool,-List.map_take,-Prod.forall,-Prod.exists];refine⟨⟨_,bU.of TF⟩,fun b hb=>?_⟩;refine⟨_,cg TF hb,zs1 qfs hi2 tl Xh,?_⟩;obtain⟨⟨k1,k2⟩,k3,k4,k5⟩:=add H4 sv _ i e.2 e.1 b TF qhe hb Xl Xm s4;refine⟨⟨_,k1,?_,by rw[List.length_append];exact zs2 qfs⟩,k3,k4,k5⟩;rw[if_pos h',← List.append_assoc];exact k2
        · have h':¬(fx i).getD 1=1:=by simpa using h
          simp -dsimp[au,stC,-Bool.exists_bool,-List.map_take,-Prod.forall,-Prod.exists];refine⟨⟨_,TF,?_,Nat.le_of_succ_le (zs2 qfs)⟩,Xl,Xm,s4⟩;rw[if_neg h',List.append_nil];exact qhe
      · intro N hN;refine iB.of (fun h=>?_) (fun h=>?_)
        · have h':(fx i).getD 0=0:=by simpa using h
          simp -dsimp[au,stC,-Bool.exists_bool,-List.map_take,-Prod.forall,-Prod.exists];refine⟨⟨_,bU.of hL3⟩,fun b hb=>?_⟩;refine⟨_,cg hL3 hb,zs1 (Nat.le_succ_of_le hsl) hi2 tl Xh,?_⟩;obtain⟨⟨k1,k2⟩,k3,k4,k5⟩:=add H3 sv _ i e.1 e.2 b hL3 qfr hb Xk Oe s3;refine hN _ _ ⟨⟨_,rfl,k1,?_,by rw[List.length_append];exact Nat.succ_le_succ hsl⟩,k3,k4,k5⟩;rw[if_pos h'];exact k2
        · have h':¬(fx i).getD 0=0:=by simpa using h
          simp -dsimp[au,stC,-Bool.exists_bool,-List.map_take,-Prod.forall,-Prod.exists];refine hN _ _ ⟨⟨_,rfl,hL3,?_,Nat.le_succ_of_le hsl⟩,Xk,Oe,s3⟩;rw[if_neg h',List.append_nil];exact qfr
    ·rintro σ H2 ⟨⟨v3,v4,v5,sv,rfl,hL2,hsv,hsl⟩,qhd,htv,s2⟩;simp -dsimp[au,stC,-Bool.exists_bool,-List.map_take,-Prod.forall,-Prod.exists];rw[htv.1,List.take_length] at hsv;have tl:=htv.1;exact q L sv H2 hL hL2 hsv (zs3 hsl tl Xh) s2
def JQ:Sp:=fun vs H Q _=>∃(start:Str) (l:Addr) (tv:List V) (S:List lC) (xs:List Str),vs=[.str start,.ref l]∧H l=some (.lst tv)∧dO H tv S∧start∈xs∧(∀s∈S,s.2.2∈xs)∧xs.length≤9∧
  ∀(d:Addr) (kvs:List (Key×V)) (R:BR) (H':Hp),H d=none→H' d=some (.dK kvs)→fK H' kvs R→Rv S start R.length R→qjW S start R→qw H kvs→Same H H'→Q (.ref d) H'
theorem JR (T:Txt K mg a):bZ P w K mg base lB 1 a.eV a.jT ["start", "steps"] JQ:=by
  refine T.qL.sV cY (fun vs H Q E h=>?_) (fun cdv A outer s H vs Q E hr h=>?_)
  ·obtain⟨start,l,tv,S,xs,rfl,_⟩:=h;rfl
  · obtain⟨start,l,tv,S,xs,rfl,hl,hS,hsx,hSx,h9,q⟩:=h;refine⟨_,(aC (bI (i:=2) cY.nd rfl (Or.inl rfl) (qbT (Zt (aL 0) (jc ak) qbS) rfl rfl (by simp) (by decide)))
      (aC (bI (i:=3) cY.nd rfl (Or.inl rfl) (jc (aj (aL 0) ak)))
      (aC (bI (i:=4) cY.nd rfl (Or.inl rfl) aG)
      (aC (YC PassesOwn.never (bD Gv (aL 4) (aM (fV (K:=K) rfl) rfl T.nm.len PySem.boot_len (aj (aL 3) ak)) (cP _))
      (aC (bI (i:=5) cY.nd rfl (Or.inl rfl) (gj (gq (K:=K) rfl) (aL 3) (aL 4) (fun _ _=>rfl)))
      (aC (iy PassesOwn.never rfl (PI.eqv (iI (K:=K) rfl (aL 1)) (gC _ _)) (PG.eqv (g8 (K:=K) (n:=3) rfl rfl (lE.eqv (bN (aU (i:=6) cY.nd rfl (Or.inl rfl)) (lE.eqv (bN (aU (i:=7) cY.nd rfl (Or.inl rfl)) (lE.eqv (bN (aU (i:=8) cY.nd rfl (Or.inl rfl)) (lE.mono gZ jJ)) (bO _ _))) (bO _ _))) (bO _ _))) (g_ _ _ _))
      (aF (dg (PW.pt (qdY (bD nW (aL 7) (aL 5) (cP _)) (qbu (MK (PC.eqv (Ko (sy hr) (aL 8) (aL 2)) (Gx _ _)))))) (aC (PS.eqv (Eh (sy hr) (aL 2) (aL 8) (dj qbY (PE.eqv (U6 (sy hr) (aL 2) (aL 5) (fun _ _=>rfl)) (Qi _ _)) (jc (aj (aL 6) ak))) rfl) (yQ _ _ _))
      (aF (eN (nQ (K:=K) rfl PySem.F.plainAttrs_list PySem.F.slot_list_append PySem.F.type_list_append jL (aL 3) (aj (aL 8) ak))))) bM)))
      (aF (PS.mono (qd6 (i:=4) cY.nd rfl (Or.inl rfl) aG qb9) qeZ)))))
      (aF (bh (aL 2))))))),?_⟩
    simp -dsimp[au,stC,-Bool.exists_bool,-List.map_take,-Prod.forall,-Prod.exists];intro d hd p1 hp1;refine⟨cg ao hp1,[(Sum.inr start,.ref p1)],rfl,by simp,fun rl hrl=>?_⟩;have em:vX [] [((Sum.inr start:Key),V.ref p1)]=[(Sum.inr start,.ref p1)]:=rfl;rw[em] at hrl ⊢;have dp1:d≠p1:=fun z=>by subst z;rw[ao] at hp1;cases hp1
    have qkb:H p1=none:=cF (aA hd) hp1;have sa:Same H (upd (upd (upd H d (.dK [])) p1 (.lst [])) d (.dK [(Sum.inr start,.ref p1)])):=cA ((aA hd).trans (aA hp1)) hd;have qkc:H rl=none:=cF sa hrl;have e1:upd (upd (upd H d (.dK [])) p1 (.lst [])) d (.dK [(Sum.inr start,.ref p1)]) d=some (.dK [(Sum.inr start,.ref p1)]):=ao;have e2:upd (upd (upd H d (.dK [])) p1 (.lst [])) d (.dK [(Sum.inr start,.ref p1)]) p1=some (.lst []):=by rw[aB dp1.symm];exact ao
    generalize upd (upd (upd H d (.dK [])) p1 (.lst [])) d (.dK [(Sum.inr start,.ref p1)])=H1 at sa hrl e1 e2 ⊢;have sb:=sa.trans (aA (o:=.lst [.str start]) hrl);have dr:d≠rl:=aK e1 hrl;have qhf:qw H [((Sum.inr start:Key),V.ref p1)]:=by
      intro kv hkv q hq;simp at hkv;subst hkv;cases hq;exact qkb
    refine whB (fun σ H'=>∃(n:Nat) (R:BR) (kvs:List (Key×V)) (o5 o6 o7 o8:Option V),σ=[some (.str start),some (.ref l),some (.ref d),some (.ref rl),some (.int n),o5,o6,o7,o8]∧H' d=some (.dK kvs)∧fK H' kvs R∧H' rl=some (.lst (R.map fun yw=>.str yw.1))∧Rv S start n R∧Ax S start n=R∧qw H kvs∧n≤R.length∧Same H H')
      (fun σ _=>qgv 4 σ)
      ⟨0,[(start,[])],[(Sum.inr start,.ref p1)],none,none,none,none,rfl,cg e1 hrl,⟨rfl,?_⟩,ao,Rv.begin S start,rfl,qhf,by simp,sb⟩ ?_ Qj
    · intro i kv yw h1 h2;have hi:i=0:=by have:=(List.getElem?_eq_some_iff.mp h1).1;simp at this;omega
      subst hi;simp at h1 h2;subst h1 h2;exact⟨rfl,p1,rfl,cg e2 hrl⟩
    · rintro σ H2 ⟨n,R,kvs,o5,o6,o7,o8,rfl,hd2,hW2,hr2,hB,hF,hN,hnR,s2⟩;have hR9:R.length≤9:=by
        have h1:=pF hB.nd (hB.sub hsx hSx);simp at h1;omega
      simp -dsimp[au,stC,-Bool.exists_bool,-List.map_take,-Prod.forall,-Prod.exists];refine⟨_,.inl (bU.of hr2),iB.of (fun hlt=>?_) (fun hlt=>?_)⟩
      · have hlt':n<R.length:=by simpa using hlt
        simp -dsimp[au,stC,-Bool.exists_bool,-List.map_take,-Prod.forall,-Prod.exists];obtain⟨⟨hh,wh⟩,hR⟩:∃x,R[n]? = some x:=⟨R[n],by simp[hlt']⟩;refine⟨_,.inl (bU.of hr2),.str hh,dh (by rw[List.getElem?_map,hR];rfl),⟨_,bU.of (s2 _ _ hl)⟩,frL tv (fun j σ H'=>∃(R:BR) (kvs:List (Key×V)) (o6 o7 o8:Option V),σ=[some (.str start),some (.ref l),some (.ref d),some (.ref rl),some (.int n),some (.str hh),o6,o7,o8]∧H' d=some (.dK kvs)∧fK H' kvs R∧H' rl=some (.lst (R.map fun yw=>.str yw.1))∧lH S (S.take j) start n hh wh R∧yS (S.take j) hh wh (Ax S start n)=R∧qw H kvs∧Same H H') ⟨R,kvs,o6,o7,o8,rfl,hd2,hW2,hr2,lH.enter hB hR,hF,hN,s2⟩ (fun j σ H' _ h=>by
          obtain⟨_,_,_,_,_,_,_,_,_,_,_,_,z⟩:=h;exact bU.of (z _ _ hl)) ?_ ?_⟩
        · rintro j x σ H3 hj ⟨R,kvs,o6,o7,o8,rfl,hd3,hW3,hr3,hM,hF3,hN3,s3⟩;obtain⟨⟨sn,so,sg⟩,hs,t,rfl,ht⟩:=hS.at hj;have hR9:R.length≤9:=by
            have h1:=pF hM.bf.nd (hM.bf.sub hsx hSx);simp at h1;omega
          have hFs:=Ss (S.take j) (sn,so,sg) hh wh (Ax S start n);rw[hF3] at hFs;rw[take_one hs];simp -dsimp[au,stC,-Bool.exists_bool,-List.map_take,-Prod.forall,-Prod.exists];refine⟨_,gY.of (s3 _ _ ht),rfl,?_⟩;simp -dsimp[au,stC,-Bool.exists_bool,-List.map_take,-Prod.forall,-Prod.exists]
          by_cases hoh:so=hh
          · subst hoh;refine iB.pos (by simp) ?_;simp -dsimp[au,stC,-Bool.exists_bool,-List.map_take,-Prod.forall,-Prod.exists];refine⟨_,qeI sg hd3,?_⟩;rw[hW3.qjD hM.bf.nd];refine iB.of (fun hg=>?_) (fun hg=>?_)
            · have hg':¬sg∈R.map (·.1):=by simpa using hg
              obtain⟨pw,hpw,qkd⟩:=hW3.some hM.bf.nd (List.mem_of_getElem? hM.hr);have hwl:=hM.bf.qjB (List.mem_of_getElem? hM.hr);have s20:=of_eq_true Mr;simp -dsimp[au,stC,-Bool.exists_bool,-List.map_take,-Prod.forall,-Prod.exists];refine⟨.ref pw,?_,fun b hb=>?_⟩
              ·have:=qeI so hd3;rw[hpw] at this;exact this
              refine⟨_,cg qkd hb,_,ao,by simp;omega,fun c hc=>?_⟩;have s4:Same H3 (upd (upd H3 b (.lst [.int sn])) c (.lst (wh.map (fun n:Nat=>V.int n)++[.int sn]))):=(aA hb).trans (aA hc);have ec:upd (upd H3 b (.lst [.int sn])) c (.lst (wh.map (fun n:Nat=>V.int n)++[.int sn])) c=some (.lst (wh.map (fun n:Nat=>V.int n)++[.int sn])):=ao;generalize upd (upd H3 b (.lst [.int sn])) c (.lst (wh.map (fun n:Nat=>V.int n)++[.int sn]))=H4 at s4 ec ⊢;have hd4:=s4 _ _ hd3;have hr4:=s4 _ _ hr3;have hkl:=hW3.len;have epk:putK kvs (Sum.inr sg) (.ref c)=kvs++[(Sum.inr sg,.ref c)]:=sI _ (hW3.none hg');refine⟨_,qjA sg hd4 (by omega),?_⟩;rw[epk];have hr5:upd H4 d (.dK (kvs++[(Sum.inr sg,.ref c)])) rl=some (.lst (R.map fun yw=>.str yw.1)):=by rw[aB dr.symm];exact hr4
              have ne0:∀w:List Nat,R.map (fun yw=>V.str yw.1)≠w.map (fun n:Nat=>V.int n):=fun w e=>by
                have hst:=hM.bf.st;cases R with
                | nil=>simp at hst
                | cons r R=>
                  cases w with
                  | nil=>simp at e
                  | cons n w=>simp at e
              have kp:∀(p:Addr) (w:List Nat),H4 p=some (.lst (w.map fun n:Nat=>V.int n))→upd (upd H4 d (.dK (kvs++[(Sum.inr sg,.ref c)]))) rl (.lst (R.map (fun yw=>V.str yw.1)++[.str sg])) p=some (.lst (w.map fun n:Nat=>V.int n)):=fun p w e=>by
                have h1:p≠d:=fun z=>by subst z;rw[hd4] at e;cases e
                have h2:p≠rl:=fun z=>by subst z;rw[hr4] at e;exact ne0 w (HO.lst.inj (Option.some.inj e))
                rw[aB h2,aB h1];exact e
              have ec':H4 c=some (.lst ((wh++[sn]).map fun n:Nat=>V.int n)):=by rw[ec];simp
              refine⟨⟨_,bU.of hr5⟩,_,hr5,by simp;omega,R++[(sg,wh++[sn])],_,by rw[aB dr];exact ao,?_,by rw[ao];simp,hM.add (List.mem_of_getElem? hs) hg',hFs.trans (if_pos ⟨rfl,hg'⟩),hN3.snoc (cF (s3.trans (aA hb)) hc),cA (cA (s3.trans s4) hd) qkc⟩;refine fK.snoc (fK.keep (H:=H4) (fK.keep hW3 fun p w e=>s4 _ _ e) kp) (kp _ _ ec')
            · have hg':sg∈R.map (·.1):=by simpa using hg
              simp -dsimp[au,stC,-Bool.exists_bool,-List.map_take,-Prod.forall,-Prod.exists];exact⟨R,kvs,hd3,hW3,hr3,hM.skip fun _=>hg',hFs.trans (if_neg (fun z=>z.2 hg')),hN3,s3⟩
          ·refine iB.neg (by simp[hoh]) ?_;simp -dsimp[au,stC,-Bool.exists_bool,-List.map_take,-Prod.forall,-Prod.exists];exact⟨R,kvs,hd3,hW3,hr3,hM.skip fun z=>absurd z hoh,hFs.trans (if_neg (fun z=>hoh z.1)),hN3,s3⟩
        · rintro σ H3 ⟨R,kvs,o6,o7,o8,rfl,hd3,hW3,hr3,hM,hF3,hN3,s3⟩;have hl3:S.take tv.length=S:=by rw[hS.1,List.take_length]
          rw[hl3] at hM hF3;simp -dsimp[au,stC,-Bool.exists_bool,-List.map_take,-Prod.forall,-Prod.exists];have hlen:=(List.getElem?_eq_some_iff.mp hM.hr).1;refine⟨⟨n+1,by omega,R,kvs,hd3,hW3,hr3,hM.leave,(WY (by rw[hF];exact hR)).trans hF3,hN3,hlen,s3⟩,?_⟩;simp[qgv];omega
      · have hlt':¬n<R.length:=by simpa using hlt
        have en:n=R.length:=by omega
        subst en;simp -dsimp[au,stC,-Bool.exists_bool,-List.map_take,-Prod.forall,-Prod.exists];exact q d kvs R H2 hd hd2 hW2 hB hF hN s2
def HW (C:Addr):Sp:=fun vs H Q _=>∃(o:Addr) (start:Str) (l:Addr) (tv:List V) (S:List lC) (xs:List Str) (ps:List (Str×Str)),vs=[.ref o,.str start,.ref l]∧cW C H o xs ps∧H l=some (.lst tv)∧dO H tv S∧start∈xs∧(∀s∈S,s.2.2∈xs)∧xs.length≤9∧
  ∀(r:Addr) (H':Hp),H r=none→H' r=some (.lst ((Av S xs start).map V.str))→Same H H'→Q (.ref r) H'
theorem tX (T:Txt K mg a):bZ P w K mg base lB 2 a.dG a.jr ["web", "start", "steps"] (HW a.bG):=by
  refine T.jX.sV sY (fun vs H Q E h=>?_) (fun cdv A outer s H vs Q E hr h=>?_)
  ·obtain⟨o,start,l,tv,S,xs,ps,rfl,_⟩:=h;rfl
  · obtain⟨o,start,l,tv,S,xs,ps,rfl,hw,hl,hS,hsx,hSx,h9,q⟩:=h;refine⟨_,(aC (bI (i:=3) sY.nd rfl (Or.inr rfl) (PE.eqv (aJ (JR (K:=K) T) (hr.mono (by decide)) rfl T.zx T.qL.kp T.zu .nil aW (aj (aL 1) (aj (aL 2) ak))) (aH _ _ _)))
      (aF (bh (jm rfl rfl (show bK (aD jR) _ ["web", "start", "steps", "ways"] ["point"] [3] ["point", "ways"] from⟨rfl,by decide+kernel,by decide+kernel,rfl,by decide+kernel,by decide+kernel⟩) rfl (PI.eqv (iI (K:=K) rfl (PE.eqv (j9 (aL 0) T.nG T.qO (vL (K:=K) T) (hr.mono (by decide)) T.qN .nil aW) (kh _ _ _ _ _ _))) (gC _ _)) (fun C s H fp pn=>(aU (i:=0) (show(["point", "ways"]:List Str).Nodup by decide+kernel) rfl (Or.inl rfl))) (fun C s H fp pn=>(yD (MK (PC.eqv (qeF (sy hr) (aL 0) (aL 1)) (qb8 _ _))))) (fun C s H fp pn=>(aL 0)))))),?_⟩
    simp -dsimp[au,stC,-Bool.exists_bool,-List.map_take,-Prod.forall,-Prod.exists];refine⟨start,l,tv,S,xs,rfl,hl,hS,hsx,hSx,h9,fun d kvs R H1 hd hd1 hW hB _ _ s1=>?_⟩;obtain⟨dx,fs,hi,hno⟩:=(hw.same s1).ins uR.1 uR.2;simp -dsimp[au,stC,-Bool.exists_bool,-List.map_take,-Prod.forall,-Prod.exists];refine⟨_,_,hi,hno,o,xs,ps,rfl,hw.same s1,fun l2 hl2=>?_⟩;have s2:Same H1 (upd H1 l2 (.lst (xs.map V.str))):=aA hl2;have e2:upd H1 l2 (.lst (xs.map V.str)) l2=some (.lst (xs.map V.str)):=ao;generalize upd H1 l2 (.lst (xs.map V.str))=H2 at s2 e2 ⊢;have hd2:=s2 _ _ hd1;have hW2:=hW.keep fun p w e=>s2 _ _ e;have s20:=of_eq_true Mr;simp -dsimp[au,stC,-Bool.exists_bool,-List.map_take,-Prod.forall,-Prod.exists];refine⟨⟨_,bU.of e2⟩,fun D hD=>cmL (xs.map V.str) (fun i σ H'=>(∃o,σ=[o,some (.ref d)])∧H' D=some (.lst ((Av S (xs.take i) start).map V.str))∧Same H2 H') ⟨⟨_,rfl⟩,ao,aA hD⟩ (fun i σ H' _ h=>bU.of (h.2.2 _ _ e2)) ?_ ?_⟩
    · rintro i x σ H3 hi ⟨⟨o',rfl⟩,hD3,s3⟩;obtain⟨y,hy,rfl⟩:=Ao hi;have hi2:i<xs.length:=(List.getElem?_eq_some_iff.mp hy).1;simp -dsimp[au,stC,-Bool.exists_bool,-List.map_take,-Prod.forall,-Prod.exists];refine⟨_,qeI y (s3 _ _ hd2),?_⟩;rw[hW2.has hB.nd,ZC hy (decide (y∈R.map (·.1))) (by rw[decide_eq_true_eq];exact hB.iff y)];refine iB.of (fun h=>?_) (fun h=>?_)
      ·rw[if_pos h];simp -dsimp[au,stC,-Bool.exists_bool,-List.map_take,-Prod.forall,-Prod.exists];have hfl:=U_ (S:=S) (xs:=xs.take i) (x:=start);rw[List.length_take] at hfl;refine⟨_,hD3,by simp;omega,by simp[ao],cA s3 hD⟩
      ·rw[if_neg (by rw[h];exact Bool.false_ne_true),List.append_nil];simp -dsimp[au,stC,-Bool.exists_bool,-List.map_take,-Prod.forall,-Prod.exists];exact⟨hD3,s3⟩
    ·rintro σ H3 ⟨⟨o',rfl⟩,hD3,s3⟩;rw[List.length_map,List.take_length] at hD3;simp -dsimp[au,stC,-Bool.exists_bool,-List.map_take,-Prod.forall,-Prod.exists];exact q D H3 (cF (s1.trans s2) hD) hD3 ((s1.trans s2).trans s3)
theorem VF {xs:List Str} {ps:List (Str×Str)} {fx:Nat→Option Int} (h:zN xs ps):∀s∈aN fx ps 0,s.2.2∈xs:=by
  intro s hs;obtain⟨j,e,h1,h2⟩:=j_.mp hs;obtain⟨q1,q2,_⟩:=h.ok e (List.mem_of_getElem? h1);obtain⟨_,q | q⟩:=jF.mp h2
  ·rw[q.2.2];exact q2
  ·rw[q.2.2];exact q1
def qcB (C:Addr):Sp:=fun vs H Q _=>∃o xs ps,vs=[.ref o]∧cW C H o xs ps∧Q (.int ps.length) H
theorem nM (T:Txt K mg a):bZ P w K mg base lB 1 a.fZ a.nj ["self"] (qcB a.bG):=by
  refine T.Hq.sV QG (fun vs H Q E h=>?_) (fun cdv A outer s H vs Q E hr h=>?_)
  ·obtain⟨o,xs,ps,rfl,_⟩:=h;rfl
  ·obtain⟨o,xs,ps,rfl,⟨dx,n,m,tv,h1,h2,h3,h4,h5⟩,q⟩:=h;refine⟨_,(aF (bh (aM (fV (K:=K) rfl) rfl T.nm.len PySem.boot_len (aj (PE.eqv (Ml (K:=K) rfl (aL 0) rfl) (M7 _ _ _)) ak)))),?_⟩;simp -dsimp[au,stC,-Bool.exists_bool,-List.map_take,-Prod.forall,-Prod.exists];refine⟨_,_,_,h1,T.nG,T.Eu,_,rfl,_,.inr (gY.of h3),?_⟩;rw[h4.1];exact q
def Rb:Sp:=fun vs H Q _=>∃n:Int,vs=[.int n]∧Q (.bl true) H
theorem DQ (T:Txt K mg a):bZ P w K mg base lB 1 a.fW a.kO ["thing"] Rb:=by
  refine T.je.sV Dm (fun vs H Q E h=>?_) (fun cdv A outer s H vs Q E hr h=>?_)
  ·obtain⟨n,rfl,_⟩:=h;rfl
  ·obtain⟨n,rfl,q⟩:=h;refine⟨_,(aF (bh (m7 (aM (sU (K:=K) rfl) rfl T.nm.isinstance boot_isinstance (aj (aL 0) (aj (iU (v:=.ty "int") rfl T.nm.int Ak rfl) ak))) (rW (Va (aM (sU (K:=K) rfl) rfl T.nm.isinstance boot_isinstance (aj (aL 0) (aj (iU (v:=.ty "bool") rfl T.Tv.bool Ga rfl) ak)))))))),?_⟩;simp -dsimp[au,stC,-Bool.exists_bool,-List.map_take,-Prod.forall,-Prod.exists];refine⟨_,.int _,_,Dc K,iB.pos rfl ?_⟩;simp -dsimp[au,stC,-Bool.exists_bool,-List.map_take,-Prod.forall,-Prod.exists];refine⟨_,.int _,_,yK K,?_⟩;exact q
def TQ:Sp:=fun vs H Q _=>∃n:Int,vs=[.int n]∧0≤n∧n≤1∧Q (.bl true) H
theorem HX (T:Txt K mg a):bZ P w K mg base lB 2 a.h_ a.mK ["thing"] TQ:=by
  refine T.jO.sV G7 (fun vs H Q E h=>?_) (fun cdv A outer s H vs Q E hr h=>?_)
  ·obtain⟨n,rfl,_⟩:=h;rfl
  ·obtain⟨n,rfl,h0,h1,q⟩:=h;refine⟨_,(aF (bh (m7 (PE.eqv (aJ (DQ (K:=K) T) (hr.mono (by decide)) rfl T.mO T.je.kp T.mL .nil aW (aj (aL 0) ak)) (aH _ _ _)) (rW (uF nU nU aG (aL 0) aG))))),?_⟩;simp -dsimp[au,stC,-Bool.exists_bool,-List.map_take,-Prod.forall,-Prod.exists];refine⟨n,rfl,?_⟩;simp -dsimp[au,stC,-Bool.exists_bool,-List.map_take,-Prod.forall,-Prod.exists];refine iB.pos (by simpa using h0) ?_;simp -dsimp[au,stC,-Bool.exists_bool,-List.map_take,-Prod.forall,-Prod.exists];rw[decide_eq_true h1];exact q
def Og (C:Addr):Sp:=fun vs H Q _=>∃(o:Addr) (n:Nat) (xs:List Str) (ps:List (Str×Str)),vs=[.ref o,.int n]∧cW C H o xs ps∧n<ps.length∧Q (.bl true) H
theorem zP (T:Txt K mg a):bZ P w K mg base lB 2 a.fj a.ju ["web", "thing"] (Og a.bG):=by
  refine T.gR.sV zf (fun vs H Q E h=>?_) (fun cdv A outer s H vs Q E hr h=>?_)
  ·obtain⟨o,n,xs,ps,rfl,_⟩:=h;rfl
  ·obtain⟨o,n,xs,ps,rfl,hw,hn,q⟩:=h;refine⟨_,(aF (bh (m7 (PE.eqv (aJ (DQ (K:=K) T) (hr.mono (by decide)) rfl T.mO T.je.kp T.mL .nil aW (aj (aL 1) ak)) (aH _ _ _)) (rW (uF nU Gv aG (aL 1) (PE.eqv (j9 (aL 0) T.nG T.mR (nM (K:=K) T) (hr.mono (by decide)) T.mQ .nil aW) (kh _ _ _ _ _ _))))))),?_⟩;obtain⟨dx,fs,hi,hno⟩:=hw.ins nJ.1 nJ.2;simp -dsimp[au,stC,-Bool.exists_bool,-List.map_take,-Prod.forall,-Prod.exists];refine⟨n,rfl,?_⟩;simp -dsimp[au,stC,-Bool.exists_bool,-List.map_take,-Prod.forall,-Prod.exists];refine⟨_,_,hi,hno,o,xs,ps,rfl,hw,?_⟩;simp -dsimp[au,stC,-Bool.exists_bool,-List.map_take,-Prod.forall,-Prod.exists];rw[decide_eq_true hn];exact q
def rN (C:Addr):Sp:=fun vs H Q _=>∃(o l:Addr) (tv:List V) (S:List lC) (xs:List Str) (ps:List (Str×Str)),vs=[.ref o,.ref l]∧cW C H o xs ps∧H l=some (.lst tv)∧dO H tv S∧(∀s∈S,s.2.2∈xs)∧xs.length≤9∧
  (∀H',cB S xs xs=none→Same H H'→Q .non H')∧
  ∀(x:Str) (r:Addr) (H':Hp),cB S xs xs=some x→H r=none→H' r=some (.lst ((restOf S xs x).map V.str))→Same H H'→Q (.ref r) H'
theorem rO (T:Txt K mg a):bZ P w K mg base lB 3 a.bW a.dW ["web", "steps"] (rN a.bG):=by
  refine T.gU.sV dU (fun vs H Q E h=>?_) (fun cdv A outer s H vs Q E hr h=>?_)
  ·obtain⟨o,l,tv,S,xs,ps,rfl,_⟩:=h;rfl
  · obtain⟨o,l,tv,S,xs,ps,rfl,hw,hl,hS,hSx,h9,q1,q2⟩:=h;refine⟨_,(aC (bI (i:=2) dU.nd rfl (Or.inl rfl) (PE.eqv (j9 (aL 0) T.nG T.qO (vL (K:=K) T) (hr.mono (by decide)) T.qN .nil aW) (kh _ _ _ _ _ _)))
      (aC (iy PassesOwn.never rfl (PI.eqv (iI (K:=K) rfl (aL 2)) (gC _ _)) (aU (i:=3) dU.nd rfl (Or.inl rfl))
      (aC (bI (i:=4) dU.nd rfl (Or.inr rfl) (PE.eqv (aJ (tX (K:=K) T) (hr.mono (by decide)) rfl T.oG T.jX.kp T.oF .nil aW (aj (aL 0) (aj (aL 3) (aj (aL 1) ak)))) (aH _ _ _)))
      (aF (dg (bD Gv (aM (fV (K:=K) rfl) rfl T.nm.len PySem.boot_len (aj (aL 4) ak)) (aM (fV (K:=K) rfl) rfl T.nm.len PySem.boot_len (aj (aL 2) ak)) (cP _)) (aF (bh (jm rfl rfl (show bK (aD eU) _ ["web", "steps", "points", "point", "found"] ["other"] [4] ["other", "found"] from⟨rfl,by decide+kernel,by decide+kernel,rfl,by decide+kernel,by decide+kernel⟩) rfl (PI.eqv (iI (K:=K) rfl (aL 2)) (gC _ _)) (fun C s H fp pn=>(aU (i:=0) (show(["other", "found"]:List Str).Nodup by decide+kernel) rfl (Or.inl rfl))) (fun C s H fp pn=>(yD (bD (M9 (K:=K) rfl) (aL 0) (aL 1) rfl))) (fun C s H fp pn=>(aL 0))))) bM))))
      (aF (bh vQ)))),?_⟩
    have s60:60≤sizeLine:=by decide
    obtain⟨dx,fs,hi,hno⟩:=hw.ins uR.1 uR.2;simp -dsimp[au,stC,-Bool.exists_bool,-List.map_take,-Prod.forall,-Prod.exists];refine⟨_,_,hi,hno,o,xs,ps,rfl,hw,fun p hp=>?_⟩;have s1:Same H (upd H p (.lst (xs.map V.str))):=aA hp;have ep:upd H p (.lst (xs.map V.str)) p=some (.lst (xs.map V.str)):=ao;generalize upd H p (.lst (xs.map V.str))=H1 at s1 ep ⊢;simp -dsimp[au,stC,-Bool.exists_bool,-List.map_take,-Prod.forall,-Prod.exists];refine⟨⟨_,bU.of ep⟩,frL (xs.map V.str) (fun i σ H'=>(∃o3 o4,σ=[some (.ref o),some (.ref l),some (.ref p),o3,o4])∧cB S xs (xs.take i)=none∧Same H1 H') ⟨⟨_,_,rfl⟩,rfl,Same.refl _⟩ (fun i σ H' _ h=>bU.of (h.2.2 _ _ ep)) ?_ ?_⟩
    · rintro i z σ H2 hi ⟨⟨o3,o4,rfl⟩,hno,s2⟩;obtain⟨x,hx,rfl⟩:=Ao hi;have hxx:=List.mem_of_getElem? hx;have s12:=s1.trans s2;simp -dsimp[au,stC,-Bool.exists_bool,-List.map_take,-Prod.forall,-Prod.exists];refine⟨o,x,l,tv,S,xs,ps,rfl,hw.same s12,s12 _ _ hl,dO.keep hS (L2.cJ.of s12),hxx,hSx,h9,fun r H3 hr0 hr3 s3=>?_⟩;have s13:=s12.trans s3;have ep3:=s3 _ _ (s2 _ _ ep);simp -dsimp[au,stC,-Bool.exists_bool,-List.map_take,-Prod.forall,-Prod.exists];refine⟨_,.inl (bU.of hr3),_,.inl (bU.of ep3),iB.of (fun h=>?_) (fun h=>?_)⟩
      · have h':(Av S xs x).length<xs.length:=by simpa using h
        have hsh:=Qk hno hx h';simp -dsimp[au,stC,-Bool.exists_bool,-List.map_take,-Prod.forall,-Prod.exists];refine⟨⟨_,bU.of ep3⟩,fun D hD=>cmL (xs.map V.str) (fun j σ H'=>(∃o',σ=[o',some (.ref r)])∧H' D=some (.lst (((xs.take j).filter fun y=>!decide (y∈Av S xs x)).map V.str))∧Same H3 H') ⟨⟨_,rfl⟩,ao,aA hD⟩ (fun j σ H' _ h=>bU.of (h.2.2 _ _ ep3)) ?_ ?_⟩
        · rintro j z σ H4 hj ⟨⟨o',rfl⟩,hD4,s4⟩;obtain⟨y,hy,rfl⟩:=Ao hj;have hj2:j<xs.length:=(List.getElem?_eq_some_iff.mp hy).1;have hfl:((xs.take j).filter fun y=>!decide (y∈Av S xs x)).length≤(xs.take j).length:=List.length_filter_le _ _;rw[List.length_take] at hfl;rw[take_one hy,List.filter_append,List.map_append];simp -dsimp[au,stC,-Bool.exists_bool,-List.map_take,-Prod.forall,-Prod.exists];have d1:inV (.str y) ((Av S xs x).map V.str) = !decide (¬y∈Av S xs x):=by rw[Df];simp
          refine⟨_,.inl (bU.of (s4 _ _ hr3)),rfl,List.all_eq_true.mp (Kq _),_,d1,iB.of (fun h=>?_) (fun h=>?_)⟩
          ·have h':¬y∈Av S xs x:=of_decide_eq_true h;simp -dsimp[au,stC,-Bool.exists_bool,-List.map_take,-Prod.forall,-Prod.exists];refine⟨_,hD4,by simp;omega,by rw[ao];simp[h'],cA s4 hD⟩
          · have h':y∈Av S xs x:=by simpa using h
            simp -dsimp[au,stC,-Bool.exists_bool,-List.map_take,-Prod.forall,-Prod.exists];refine⟨by rw[hD4];simp[h'],s4⟩
        ·rintro σ H4 ⟨⟨o',rfl⟩,hD4,s4⟩;rw[List.length_map,List.take_length] at hD4;simp -dsimp[au,stC,-Bool.exists_bool,-List.map_take,-Prod.forall,-Prod.exists];exact q2 x D H4 hsh (cF s13 hD) hD4 (s13.trans s4)
      · have h':¬(Av S xs x).length<xs.length:=by simpa using h
        simp -dsimp[au,stC,-Bool.exists_bool,-List.map_take,-Prod.forall,-Prod.exists];exact⟨Ql hno hx h',s2.trans s3⟩
    ·rintro σ H2 ⟨⟨o3,o4,rfl⟩,hno,s2⟩;rw[List.length_map,List.take_length] at hno;simp -dsimp[au,stC,-Bool.exists_bool,-List.map_take,-Prod.forall,-Prod.exists];exact q1 _ hno (s1.trans s2)
def VG (H:Hp) (e C:Addr) (fs:List (Str×V)):Prop:=∃dx,dx≠e∧H e=some (dJ e C (some dx))∧H dx=some (iD dx fs)
def qaM (C:Addr) (f:Str):Sp:=fun vs H Q _=>∃(e l:Addr) (xs:List V),vs=[.ref e,.ref l]∧H e=some (dJ e C none)∧H l=some (.lst xs)∧
  ∀(b:Addr) (H':Hp),H b=none→H' b=some (.lst xs)→VG H' e C [(f,.ref b)]→But e H H'→Q .non H'
theorem Rf {H:Hp} {e l C:Addr} {xs:List V} {f:Str} {Q:VK} {K:W.Frag} (he:H e=some (dJ e C none)) (hl:H l=some (.lst xs)) (q:∀(b:Addr) (H':Hp),H b=none→H' b=some (.lst xs)→VG H' e C [(f,.ref b)]→But e H H'→Q .non H') :
    (∃x,H e=some (dJ e C x))∧∃ys,(bU K H l ys∨gY K H l ys)∧∀(l:Addr),H l=none→upd H l (.lst ys) e=some (dJ e C none)∧∀dx,upd H l (.lst ys) dx=none→Q .non (upd (upd (upd H l (.lst ys)) dx (iD dx [(f,.ref l)])) e (dJ e C (some dx))):=by
  refine⟨⟨_,he⟩,xs,.inl (bU.of hl),fun b hb=>?_⟩;have s1:Same H (upd H b (.lst xs)):=aA hb;have e1:upd H b (.lst xs) b=some (.lst xs):=ao;generalize upd H b (.lst xs)=H1 at s1 e1 ⊢;refine⟨s1 _ _ he,fun dx hdx=>?_⟩;have ne:dx≠e:=fun z=>by rw[z,s1 _ _ he] at hdx;cases hdx
  have be:b≠e:=fun z=>by rw[z,he] at hb;cases hb
  have bd:b≠dx:=fun z=>by rw[← z,e1] at hdx;cases hdx
  refine q b _ hb (by rw[aB be,aB bd];exact e1) ⟨dx,ne,ao,by rw[aB ne];exact ao⟩ fun c o hc z=>?_;rw[aB hc,aB (fun y=>by rw[← y,s1 _ _ z] at hdx;cases hdx)];exact s1 _ _ z
theorem Rg {H:Hp} {e l C:Addr} {xs:List V} {f g:Str} {y:V} {Q:VK} {K:W.Frag} (fg:g≠f) (he:H e=some (dJ e C none)) (hl:H l=some (.lst xs)) (q:∀(b:Addr) (H':Hp),H b=none→H' b=some (.lst xs)→VG H' e C [(f,y),(g,.ref b)]→But e H H'→Q .non H') :
    (∃x,H e=some (dJ e C x))∧H e=some (dJ e C none)∧∀dx,H dx=none→∃ys,(bU K (upd (upd H dx (iD dx [(f,y)])) e (dJ e C (some dx))) l ys∨gY K (upd (upd H dx (iD dx [(f,y)])) e (dJ e C (some dx))) l ys)∧
      ∀(l:Addr),upd (upd H dx (iD dx [(f,y)])) e (dJ e C (some dx)) l=none→∃d2,upd (upd (upd H dx (iD dx [(f,y)])) e (dJ e C (some dx))) l (.lst ys) e=some (dJ e C (some d2))∧∃fs,upd (upd (upd H dx (iD dx [(f,y)])) e (dJ e C (some dx))) l (.lst ys) d2=some (iD d2 fs)∧fs.length<1000∧
        Q .non (upd (upd (upd (upd H dx (iD dx [(f,y)])) e (dJ e C (some dx))) l (.lst ys)) d2 (iD d2 (jD g (.ref l) fs))):=by
  refine⟨⟨_,he⟩,he,fun dx hdx=>?_⟩;have ne:dx≠e:=fun z=>by rw[z,he] at hdx;cases hdx
  have le:l≠e:=fun z=>by rw[z,he] at hl;cases hl
  have ld:l≠dx:=fun z=>by rw[z,hdx] at hl;cases hl
  have e1:upd (upd H dx (iD dx [(f,y)])) e (dJ e C (some dx)) e=some (dJ e C (some dx)):=ao;have d1:upd (upd H dx (iD dx [(f,y)])) e (dJ e C (some dx)) dx=some (iD dx [(f,y)]):=by rw[aB ne];exact ao
  have b1:But e H (upd (upd H dx (iD dx [(f,y)])) e (dJ e C (some dx))):=fun c o hc z=>by
    rw[aB hc,aB (fun y=>by rw[y,hdx] at z;cases z)];exact z
  generalize upd (upd H dx (iD dx [(f,y)])) e (dJ e C (some dx))=H1 at e1 d1 b1 ⊢;refine⟨xs,.inl (bU.of (b1 _ _ le hl)),fun b hb=>?_⟩;have s2:Same H1 (upd H1 b (.lst xs)):=aA hb;have e2:upd H1 b (.lst xs) b=some (.lst xs):=ao;generalize upd H1 b (.lst xs)=H2 at s2 e2 ⊢;refine⟨dx,s2 _ _ e1,_,s2 _ _ d1,by show(1:Nat)<1000;decide,?_⟩;have bd:b≠dx:=fun z=>by rw[z,d1] at hb;cases hb
  have be:b≠e:=fun z=>by rw[z,e1] at hb;cases hb
  have hb0:H b=none:=by
    cases z:H b with
    | none=>rfl
    | some o=>rw[b1 _ _ be z] at hb;cases hb
  have ep:jD g (.ref b) [(f,y)]=[(f,y),(g,.ref b)]:=by
    show(if f=g then _ else _)=_
    rw[if_neg (fun z=>fg z.symm)];rfl
  rw[ep];refine q b _ hb0 (by rw[aB bd];exact e2) ⟨dx,ne,by rw[aB (Ne.symm ne)];exact s2 _ _ e1,ao⟩ fun c o hc z=>?_;rw[aB (fun y=>by rw[y,hdx] at z;cases z)];exact s2 _ _ (b1 _ _ hc z)
def qaN (C:Addr) (f g:Str):Sp:=fun vs H Q _=>∃(e l:Addr) (y:V) (xs:List V),vs=[.ref e,y,.ref l]∧H e=some (dJ e C none)∧H l=some (.lst xs)∧
  ∀(b:Addr) (H':Hp),H b=none→H' b=some (.lst xs)→VG H' e C [(f,y),(g,.ref b)]→But e H H'→Q .non H'
theorem Oh (T:Txt K mg a):bZ P w K mg base lB 1 a.eX a.lZ ["self", "lot"] (qaM a.bV "lot"):=by
  refine T.Dv.sV NQ (fun vs H Q E h=>?_) (fun cdv A outer s H vs Q E hr h=>?_)
  ·obtain⟨e,l,xs,rfl,_⟩:=h;rfl
  · obtain⟨e,l,xs,rfl,he,hl,q⟩:=h;refine⟨_,(aC (eN (Vk T.Ew T.ini rfl T.mq (aj (aL 0) (aj c7 ak))))
      (aF (qdy T.VB T.jj (aL 0) (eE (yR (K:=K) rfl) rfl T.nm.list boot_list (aj (aL 1) ak)) rfl))),?_⟩
    simp -dsimp[au,stC,-Bool.exists_bool,-List.map_take,-Prod.forall,-Prod.exists];exact Rf he hl q
theorem HY (T:Txt K mg a):bZ P w K mg base lB 1 a.cZ a.jt ["self", "tie", "lot"] (qaN a.aP "tie" "lot"):=by
  refine T.vG.sV G6 (fun vs H Q E h=>?_) (fun cdv A outer s H vs Q E hr h=>?_)
  ·obtain⟨e,l,y,xs,rfl,_⟩:=h;rfl
  · obtain⟨e,l,y,xs,rfl,he,hl,q⟩:=h;refine⟨_,(aC (eN (Vk T.uP T.ini rfl T.mq (aj (aL 0) (aj c7 ak))))
      (aC (qdy T.Bj T.gD (aL 0) (aL 1) rfl)
      (aF (qgU T.Bj T.gF (aL 0) (eE (yR (K:=K) rfl) rfl T.nm.list boot_list (aj (aL 2) ak)) rfl)))),?_⟩
    simp -dsimp[au,stC,-Bool.exists_bool,-List.map_take,-Prod.forall,-Prod.exists];exact Rg (by decide) he hl q
def qcC (C:Addr):Sp:=fun vs H Q _=>∃(o:Addr) (xs:List Str) (ps:List (Str×Str)),vs=[.ref o]∧cW C H o xs ps∧Yr xs∧zN xs ps∧
  ∀(l:Addr) (rs:List V) (H':Hp),H l=none→H' l=some (.lst rs)→∀(zs:List (Addr×Nat×List Str)),gG Aw H' rs zs→zs.map (·.2)=lJ ps xs→(zs.map (·.1)).Nodup→(∀z∈zs,H z.1=none∧z.1≠l)→Same H H'→Q (.ref l) H'
theorem qcD (T:Txt K mg a):bZ P w K mg base lB 3 a.sZ a.Eo ["web"] (qcC a.bG):=by
  refine T.Tr.sV qG (fun vs H Q E h=>?_) (fun cdv A outer s H vs Q E hr h=>?_)
  ·obtain⟨o,xs,ps,rfl,_⟩:=h;rfl
  · obtain⟨o,xs,ps,rfl,hw,hX,hTs,q⟩:=h;refine⟨_,(aC (bI (i:=1) qG.nd rfl (Or.inl rfl) (PE.eqv (aJ (tW (K:=K) T) (hr.mono (by decide)) rfl T.oE T.jW.kp T.oA .nil aW (aj (aL 0) (aj Gk ak))) (aH _ _ _)))
      (aC (bI (i:=2) qG.nd rfl (Or.inl rfl) (jc ak))
      (aC (iy PassesOwn.never rfl (PI.eqv (U7 (K:=K) rfl rfl T.Tv.enumerate (aj (PE.eqv (j9 (aL 0) T.nG T.wD (DN (K:=K) T) (hr.mono (by decide)) T.wB .nil aW) (kh _ _ _ _ _ _)) ak)) (Kv _ _)) (PG.eqv (g8 (K:=K) (n:=2) rfl rfl (lE.eqv (bN (aU (i:=3) qG.nd rfl (Or.inr rfl)) (lE.eqv (bN (PG.eqv (g8 (K:=K) (n:=2) rfl rfl (lE.eqv (bN (aU (i:=4) qG.nd rfl (Or.inl rfl)) (lE.eqv (bN (aU (i:=5) qG.nd rfl (Or.inl rfl)) (lE.mono gZ jJ)) (bO _ _))) (bO _ _))) (g_ _ _ _)) (lE.mono gZ jJ)) (bO _ _))) (bO _ _))) (g_ _ _ _))
      (aC (bI (i:=6) qG.nd rfl (Or.inl rfl) (PE.eqv (aJ (tX (K:=K) T) (hr.mono (by decide)) rfl T.oG T.jX.kp T.oF .nil aW (aj (aL 0) (aj (aL 5) (aj (jm rfl rfl (show bK (aD Nz) _ ["web", "steps", "told", "number", "first", "second", "lot"] ["step"] [3] ["step", "number"] from⟨rfl,by decide+kernel,by decide+kernel,rfl,by decide+kernel,by decide+kernel⟩) rfl (PI.eqv (iI (K:=K) rfl (aL 1)) (gC _ _)) (fun C s H fp pn=>(aU (i:=0) (show(["step", "number"]:List Str).Nodup by decide+kernel) rfl (Or.inl rfl))) (fun C s H fp pn=>(yD (bD sS (gj (gq (K:=K) rfl) (aL 0) aG (fun _ _=>rfl)) (aL 1) (cP _)))) (fun C s H fp pn=>(aL 0))) ak)))) (aH _ _ _)))
      (aF (dg (bD (M9 (K:=K) rfl) (aL 4) (aL 6) rfl) (aF (eN (nQ (K:=K) rfl PySem.F.plainAttrs_list PySem.F.slot_list_append PySem.F.type_list_append jL (aL 2) (aj (d9 (aj (aL 3) (aj (aL 6) ak))) ak)))) bM))))
      (aF (bh (aL 2)))))),?_⟩
    have hSx:=VF (fx:=fun _=>none) hTs;have s50:50≤sizeLine:=by decide
    have l9:=hX.len;simp -dsimp[au,stC,-Bool.exists_bool,-List.map_take,-Prod.forall,-Prod.exists];intro d hd;refine⟨o,d,xs,ps,fun _=>none,rfl,hw.same (aA hd),Zz ao,fun l tv H1 hl0 hl1 hS qkS s1'=>?_⟩;have s1:=(aA hd).trans s1';simp -dsimp[au,stC,-Bool.exists_bool,-List.map_take,-Prod.forall,-Prod.exists];intro L hL;obtain⟨dx,fs,hi,hno⟩:=(hw.same (s1.trans (aA (o:=HO.lst []) hL))).ins Ez.1 Ez.2;refine⟨_,_,hi,hno,o,xs,ps,rfl,hw.same (s1.trans (aA hL)),fun l2 DP hl2 qfq=>?_⟩;have s2:Same H1 (upd (upd H1 L (.lst [])) l2 (.lst DP)):=(aA hL).trans (aA hl2);have e2:upd (upd H1 L (.lst [])) l2 (.lst DP) l2=some (.lst DP):=ao;have eL:upd (upd H1 L (.lst [])) l2 (.lst DP) L=some (.lst []):=cg ao hl2;have l2L:l2≠L:=fun z=>by subst z;rw[ao] at hl2;cases hl2
    have Oe:=bL.same qfq (aA (o:=HO.lst DP) hl2);generalize upd (upd H1 L (.lst [])) l2 (.lst DP)=H2 at s2 e2 eL Oe ⊢;have hL0:=cF s1 hL;simp -dsimp[au,stC,-Bool.exists_bool,-List.map_take,-Prod.forall,-Prod.exists];refine⟨⟨_,bU.of e2⟩,frE DP (fun i σ H'=>(∃o3 o4 o5 o6 rs zs,σ=[some (.ref o),some (.ref l),some (.ref L),o3,o4,o5,o6]∧H' L=some (.lst rs)∧gG Aw H' rs zs∧zs.map (·.2)=qu (rJ ps xs) (ps.take i) 0∧(zs.map (·.1)).Nodup∧∀z∈zs,H z.1=none∧z.1≠L)∧H' l2=some (.lst DP)∧bL H' DP ps∧Same H1 H') ⟨⟨_,_,_,_,[],[],rfl,eL,gG.nil,rfl,by simp,by simp⟩,e2,Oe,s2⟩ (fun i σ H' _ h=>bU.of h.2.1) ?_ ?_⟩
    · rintro i x t σ H3 hi ht ⟨⟨o3,o4,o5,o6,rs,zs,rfl,hL3,hrs,hzs,hzn,hfr⟩,Xk,htv,s3⟩;obtain⟨e,he,tt,rfl,htt⟩:=htv.at hi;have hem:=List.mem_of_getElem? he;obtain⟨q1,q2,q3⟩:=hTs.ok e hem;have hi2:i<ps.length:=(List.getElem?_eq_some_iff.mp he).1;have hcl:(qu (rJ ps xs) (ps.take i) 0).length≤20:=by
        have h1:=Qa (WD ps xs) (ps.take i) 0;rw[List.length_take] at h1;have:=hTs.len;omega
      have hrl:rs.length=(qu (rJ ps xs) (ps.take i) 0).length:=by rw[hrs.1,← hzs,List.length_map]
      have st:Same H3 (upd H3 t (.tup [.int i,.ref tt])):=aA ht;rw[Wz _ he];generalize hcs:qu (rJ ps xs) (ps.take i) 0=cs at hzs hcl hrl ⊢;simp -dsimp[au,stC,-Bool.exists_bool,-List.map_take,-Prod.forall,-Prod.exists];refine⟨_,gY.of ao,rfl,_,gY.of (st _ _ htt),rfl,?_⟩;have TF:=st _ _ hL3;have Xl:=st _ _ Xk;have Xm:=bL.same htv st;have s4:=s3.trans st;have qft:=Aw.same hrs st;generalize upd H3 t (.tup [.int i,.ref tt])=H4 at TF Xl Xm s4 qft ⊢;have hl4:=s4 _ _ hl1;have hS4:=dO.keep hS (L2.cJ.of s4);refine⟨⟨_,bU.of hl4⟩,fun D hD=>cmL tv (fun j σ H'=>(∃o',σ=[o',some (.int i)])∧(∃fv,H' D=some (.lst fv)∧fv.length≤j∧dO H' fv ((((aN (fun _=>none) ps 0)).take j).filter (R8 i)))∧Same H4 H') ⟨⟨_,rfl⟩,⟨[],ao,by simp,gG.nil⟩,aA hD⟩ (fun j σ H' _ h=>bU.of (h.2.2 _ _ hl4)) ?_ ?_⟩
      · rintro j x σ H5 hj ⟨⟨o',rfl⟩,⟨fv,Rw,hfl,hfv⟩,s5⟩;obtain⟨⟨sn,so,sg⟩,hs,t5,rfl,ht5⟩:=hS4.at hj;have hj2:j<tv.length:=(List.getElem?_eq_some_iff.mp hj).1;rw[take_one hs,List.filter_append];simp -dsimp[au,stC,-Bool.exists_bool,-List.map_take,-Prod.forall,-Prod.exists];refine⟨_,.inr (gY.of (s5 _ _ ht5)),_,dh (j:=0) rfl,?_⟩;simp -dsimp[au,stC,-Bool.exists_bool,-List.map_take,-Prod.forall,-Prod.exists]
        by_cases hsi:sn=i
        · refine⟨false,by simp[hsi],iB.neg rfl ?_⟩;have ef : [((sn,so,sg):lC)].filter (R8 i)=[]:=by simp[R8,hsi]
          rw[ef,List.append_nil];simp -dsimp[au,stC,-Bool.exists_bool,-List.map_take,-Prod.forall,-Prod.exists];exact⟨⟨fv,Rw,by omega,hfv⟩,s5⟩
        · refine⟨true,?_,iB.pos rfl ?_⟩
          ·simp;omega
          have ef : [((sn,so,sg):lC)].filter (R8 i)=[(sn,so,sg)]:=by simp[R8,hsi]
          rw[ef];simp -dsimp[au,stC,-Bool.exists_bool,-List.map_take,-Prod.forall,-Prod.exists];have kp:L2.cJ H5 (upd H5 D (.lst (fv++[.ref t5]))):=L2.cJ.set Rw (by intro z e;cases e);exact⟨_,Rw,by omega,⟨_,ao,by simp;omega,gG.snoc (dO.keep hfv kp) ⟨t5,rfl,kp _ _ (s5 _ _ ht5)⟩⟩,cA s5 hD⟩
      · rintro σ H5 ⟨⟨o',rfl⟩,⟨fv,Rw,hfl,hfv⟩,s5⟩;rw[hS.1,List.take_length] at hfv;simp -dsimp[au,stC,-Bool.exists_bool,-List.map_take,-Prod.forall,-Prod.exists];refine⟨o,e.2,D,fv,_,xs,ps,rfl,hw.same ((s1.trans s4).trans s5),Rw,hfv,q2,fun s hs=>hSx s ((List.mem_filter.mp hs).1),l9.2,fun r H6 hr0 hr6 s6=>?_⟩;have qhg:H6 r=some (.lst ((vq ps xs i e.2).map V.str)):=hr6;simp -dsimp[au,stC,-Bool.exists_bool,-List.map_take,-Prod.forall,-Prod.exists];refine⟨_,.inl (bU.of qhg),rfl,List.all_eq_true.mp (Kq _),?_⟩;rw[Df];have hL6:=s6 _ _ (s5 _ _ TF);have sH5:Same H H5:=(s1.trans s4).trans s5;have rH:H r=none:=cF sH5 hr0;have rL:r≠L:=fun z=>by subst z;rw[s5 _ _ TF] at hr0;cases hr0
        have qhh:=Aw.same (Aw.same qft s5) s6;refine⟨!decide (e.1∈vq ps xs i e.2),by simp,iB.of (fun h=>?_) (fun h=>?_)⟩
        · have h':¬e.1∈vq ps xs i e.2:=by simpa using h
          have eb:rJ ps xs e i=[(i,vq ps xs i e.2)]:=by unfold rJ;rw[if_neg h']
          rw[eb];simp -dsimp[au,stC,-Bool.exists_bool,-List.map_take,-Prod.forall,-Prod.exists];refine⟨⟨_,bU.of hL6⟩,fun t7 ht7=>?_⟩;have s7:Same H6 (upd H6 t7 (.tup [.int i,.ref r])):=aA ht7;have Yt:=s7 _ _ hL6;have e7:upd H6 t7 (.tup [.int i,.ref r]) t7=some (.tup [.int i,.ref r]):=ao;have hr7:=s7 _ _ qhg;have qfu:=Aw.same qhh s7;have t7H:H t7=none:=cF (sH5.trans s6) ht7;have s27:=(s4.trans s5).trans (s6.trans s7);have qhi:=s7 _ _ (s6 _ _ (s5 _ _ Xl));have Ra:=bL.same Xm ((s5.trans s6).trans s7);generalize upd H6 t7 (.tup [.int i,.ref r])=H7 at s7 Yt e7 hr7 qfu s27 qhi Ra ⊢;have kt:L2.cJ H7 (upd H7 L (.lst (rs++[.ref t7]))):=L2.cJ.set Yt (by intro z e;cases e);have rzs:¬r∈zs.map (·.1):=fun z=>by
            obtain⟨y,hy,e0⟩:=List.mem_map.mp z;have:=Aw.there (Aw.same qft s5) y hy;rw[e0,hr0] at this;cases this
          refine⟨_,Yt,by omega,⟨_,ao,zs++[(r,i,vq ps xs i e.2)],?_,by simp[hzs],?_,?_⟩,by rw[aB l2L];exact qhi,Ra.keep kt,cA s27 hL⟩
          ·refine gG.snoc ⟨qfu.1,fun j v z h1 h2=>?_⟩ ⟨t7,rfl,kt _ _ e7,by rw[aB rL];exact hr7⟩;obtain⟨t',z1,z2,z3⟩:=qfu.2 j v z h1 h2;exact⟨t',z1,kt _ _ z2,by rw[aB (hfr z (List.mem_of_getElem? h2)).2];exact z3⟩
          ·rw[List.map_append,List.nodup_append];refine⟨hzn,by simp,?_⟩;intro x hx y hy e0;simp at hy;subst hy;exact rzs (e0▸hx)
          · intro z hz
            rcases List.mem_append.mp hz with y | y
            ·exact hfr z y
            ·simp at y;subst y;exact⟨rH,rL⟩
        · have h':e.1∈vq ps xs i e.2:=by simpa using h
          have eb:rJ ps xs e i=[]:=by unfold rJ;rw[if_pos h']
          rw[eb,List.append_nil];simp -dsimp[au,stC,-Bool.exists_bool,-List.map_take,-Prod.forall,-Prod.exists];exact⟨⟨rs,hL6,zs,qhh,hzs,hzn,hfr⟩,s6 _ _ (s5 _ _ Xl),bL.same Xm (s5.trans s6),(s4.trans s5).trans s6⟩
    ·rintro σ H3 ⟨⟨o3,o4,o5,o6,rs,zs,rfl,hL3,hrs,hzs,hzn,hfr⟩,Xk,htv,s3⟩;rw[htv.1,List.take_length] at hzs;simp -dsimp[au,stC,-Bool.exists_bool,-List.map_take,-Prod.forall,-Prod.exists];exact q L rs H3 hL0 hL3 zs hrs hzs hzn hfr (s1.trans s3)
def dM (fs:List (Nat×Int)):List (Key×V):=fs.map fun e=>(Sum.inl (e.1:Int),V.int e.2)
def gB (fs:List (Nat×Int)) (j:Nat):Option Int:=(fs.find? fun e=>decide (e.1=j)).map (·.2)
structure rP (fs:List (Nat×Int)) (m:Nat):Prop where
  nd:(fs.map (·.1)).Nodup
  ok:∀e∈fs,e.1<m∧0≤e.2∧e.2≤1
theorem rP.len {fs:List (Nat×Int)} {m:Nat} (h:rP fs m):fs.length≤m:=by
  have:=pF (xs:=List.range m) h.nd fun n hn=>by
    obtain⟨e,he,rfl⟩:=List.mem_map.mp hn;exact List.mem_range.mpr (h.ok e he).1
  rwa [List.length_map,List.length_range] at this
theorem rP.snoc {fs:List (Nat×Int)} {m k:Nat} {v:Int} (h:rP fs m) (hk:k<m) (hv:0≤v∧v≤1) (hn:k∉fs.map (·.1)):rP (fs++[(k,v)]) m:=by
  refine⟨?_,fun e he=>?_⟩
  ·rw[List.map_append,List.nodup_append];refine⟨h.nd,by simp,fun x hx y hy=>?_⟩;simp at hy;rw[hy];exact fun z=>hn (z▸hx)
  · rcases List.mem_append.mp he with he | he
    ·exact h.ok e he
    ·rw[List.mem_singleton] at he;rw[he];exact⟨hk,hv⟩
theorem zQ:∀(fs:List (Nat×Int)) (k:Nat),jE (dM fs) (Sum.inl (k:Int))=(gB fs k).map V.int
  | [],k=>rfl
  | e::fs,k=>by
    have ih:=zQ fs k;unfold jE dM gB at ih ⊢;rw[List.map_cons,List.find?_cons,List.find?_cons]
    by_cases h:e.1=k
    ·rw[decide_eq_true h,decide_eq_true (by rw[h])];rfl
    ·have h':¬((Sum.inl (e.1:Int):Key)=Sum.inl (k:Int)):=fun z=>h (by injection z with z;omega);rw[decide_eq_false h,decide_eq_false h'];exact ih
theorem Oi {H:Hp} {d:Addr} {fs:List (Nat×Int)} (h:H d=some (.dK (dM fs))):P0 H d (gB fs):=⟨_,h,zQ fs⟩
theorem pX {fs:List (Nat×Int)} {k:Nat}:gB fs k=none↔k∉fs.map (·.1):=by
  unfold gB;rw[Option.map_eq_none_iff,List.find?_eq_none];constructor
  ·intro h z;obtain⟨e,he,hk⟩:=List.mem_map.mp z;exact h e he (decide_eq_true hk)
  ·intro h e he z;exact h (List.mem_map.mpr ⟨e,he,of_decide_eq_true z⟩)
theorem Xn {fs:List (Nat×Int)} {m k:Nat} {v:Int} (h:rP fs m) (e:gB fs k=some v):0≤v∧v≤1∧k<m:=by
  unfold gB at e;obtain⟨p,hp,rfl⟩:=Option.map_eq_some_iff.mp e;have h1:=List.mem_of_find?_eq_some hp;have h2:p.1=k:=by simpa using List.find?_some hp
  have:=h.ok p h1;exact⟨this.2.1,this.2.2,h2▸this.1⟩
theorem Xo {fs:List (Nat×Int)} {k:Nat} {v:Int} (hn:k∉fs.map (·.1)):gB (fs++[(k,v)])=fxs (gB fs) k v:=by
  funext j
  unfold fxs
  by_cases h:j=k
  ·subst h;rw[if_pos rfl];have h0:=pX.mpr hn;unfold gB at h0 ⊢;rw[Option.map_eq_none_iff] at h0;rw[List.find?_append,h0];simp
  · rw[if_neg h];unfold gB;rw[List.find?_append];cases hf:fs.find? fun e=>decide (e.1=j) with
    | some e=>rfl
    | none=>
      have:¬k=j:=fun z=>h z.symm;simp[this]
theorem sI {fs:List (Nat×Int)} {k:Nat} {v:Int} (hn:k∉fs.map (·.1)):putK (dM fs) (Sum.inl (k:Int)) (V.int v)=dM (fs++[(k,v)]):=by
  unfold putK;rw[if_neg ?_]
  ·simp[dM]
  · intro z;obtain⟨p,hp,hk⟩:=List.any_eq_true.mp z;obtain⟨e,he,rfl⟩:=List.mem_map.mp hp;have hk:=of_decide_eq_true hk;simp only at hk;injection hk with hk;have:e.1=k:=by omega
    exact hn (this▸List.mem_map_of_mem he)
theorem qcE {C d:Addr} {H:Hp} {o:Addr} {xs:List Str} {ps:List (Str×Str)} {kvs:List (Key×V)} {u:HO} (h:cW C H o xs ps) (hd:H d=some (.dK kvs)):cW C (upd H d u) o xs ps:=by
  obtain⟨dx,n,m,tv,h1,h2,h3,h4,h5⟩:=h.ex;have ne:∀{b:Addr} {w:HO},H b=some w→(∀z,w≠.dK z)→upd H d u b=some w:=fun {b w} e hw=>by
    rw[aB (fun z=>by rw[z,hd] at e;injection e with e;exact hw _ e.symm)];exact e
  refine⟨⟨dx,n,m,tv,ne h1 (by intro z y;cases y),ne h2 (by intro z y;cases y),ne h3 (by intro z y;cases y),⟨h4.1,fun i v e a1 a2=>?_⟩,h5⟩⟩;obtain⟨t,rfl,y⟩:=h4.2 i v e a1 a2;exact⟨t,rfl,ne y (by intro z y;cases y)⟩
def zR (C:Addr):Sp:=fun vs H Q _=>∃(o d:Addr) (xs:List Str) (ps:List (Str×Str)) (fs:List (Nat×Int)),vs=[.ref o,.ref d]∧cW C H o xs ps∧H d=some (.dK (dM fs))∧rP fs ps.length∧
  ∀(ob:Obj) (H':Hp),H' d=some (.iG ob (.dK (dM fs)))→(∀b u,b≠d→H b=some u→H' b=some u)→Q .non H'
theorem zT (T:Txt K mg a):bZ P w K mg base lB 3 a.bB a.b_ ["web", "thing"] (zR a.bG):=by
  refine T.cL.sV bC (fun vs H Q E h=>?_) (fun cdv A outer s H vs Q E hr h=>?_)
  ·obtain⟨o,d,xs,ps,fs,rfl,_⟩:=h;rfl
  · obtain⟨o,d,xs,ps,fs,rfl,hw,hd,hfs,q⟩:=h;refine⟨_,(aC (dg (d8 (cU (aM (sU (K:=K) rfl) rfl T.nm.isinstance boot_isinstance (aj (aL 1) (aj (iU (v:=.ty "dict") rfl T.Tv.dict gH rfl) ak))))) (aF yq) bM)
      (aF (iy PassesOwn.never rfl (PI.eqv (GX (aL 1)) (GZ _)) (PG.eqv (g8 (K:=K) (n:=2) rfl rfl (lE.eqv (bN (aU (i:=2) bC.nd rfl (Or.inl rfl)) (lE.eqv (bN (aU (i:=3) bC.nd rfl (Or.inl rfl)) (lE.mono gZ jJ)) (bO _ _))) (bO _ _))) (g_ _ _ _))
      (aF (dg (PW.pt (pB (d8 (cU (PE.eqv (aJ (zP (K:=K) T) (hr.mono (by decide)) rfl T.k_ T.gR.kp T.kZ .nil aW (aj (aL 0) (aj (aL 2) ak))) (aH _ _ _)))) (lD (d8 (cU (PE.eqv (aJ (HX (K:=K) T) (hr.mono (by decide)) rfl T.pP T.jO.kp T.pO .nil aW (aj (aL 3) ak)) (aH _ _ _))))))) (aF yq) bM))))),?_⟩
    simp -dsimp[au,stC,-Bool.exists_bool,-List.map_take,-Prod.forall,-Prod.exists];refine⟨_,.dK hd,_,nR K,iB.neg rfl ?_⟩;simp -dsimp[au,stC,-Bool.exists_bool,-List.map_take,-Prod.forall,-Prod.exists];refine⟨_,.inl hd,fun ob hob=>?_⟩;have hwf:cW a.bG (upd H d (.iG ob (.dK (dM fs)))) o xs ps:=qcE hw hd;have ef:upd H d (.iG ob (.dK (dM fs))) d=some (.iG ob (.dK (dM fs))):=ao;have kf:∀b u,b≠d→H b=some u→upd H d (.iG ob (.dK (dM fs))) b=some u:=fun b u hb e=>by rw[aB hb];exact e
    generalize upd H d (.iG ob (.dK (dM fs)))=Hf at hwf ef kf ⊢;refine frD (fun i σ H'=>(∃o2 o3,σ=[some (.ref o),some (.ref d),o2,o3])∧Same Hf H') ⟨⟨_,_,rfl⟩,Same.refl _⟩ (fun i σ H' _ h=>h.2 _ _ ef) ?_ ?_
    · rintro i k x t σ H2 hk ht ⟨⟨o2,o3,rfl⟩,s2⟩;obtain⟨e,he,hke⟩:∃e,fs[i]? = some e∧(Sum.inl (e.1:Int),V.int e.2)=(k,x):=by
        unfold dM at hk;rw[List.getElem?_map] at hk;obtain⟨e,he,h2⟩:=Option.map_eq_some_iff.mp hk;exact⟨e,he,h2⟩
      cases hke;obtain⟨h1,h2,h3⟩:=hfs.ok e (List.mem_of_getElem? he);have st:Same H2 (upd H2 t (.tup [.int (e.1:Int),.int e.2])):=aA ht;have et:upd H2 t (.tup [.int (e.1:Int),.int e.2]) t=some (.tup [.int (e.1:Int),.int e.2]):=ao;have ekv:upd H2 t (.tup [kV (Sum.inl (e.1:Int)),.int e.2])=upd H2 t (.tup [.int (e.1:Int),.int e.2]):=rfl;rw[ekv];generalize upd H2 t (.tup [.int (e.1:Int),.int e.2])=H3 at st et ⊢;simp -dsimp[au,stC,-Bool.exists_bool,-List.map_take,-Prod.forall,-Prod.exists];refine⟨_,gY.of et,rfl,?_⟩;simp -dsimp[au,stC,-Bool.exists_bool,-List.map_take,-Prod.forall,-Prod.exists];refine⟨o,e.1,xs,ps,rfl,hwf.same (s2.trans st),h1,?_⟩;simp -dsimp[au,stC,-Bool.exists_bool,-List.map_take,-Prod.forall,-Prod.exists];refine⟨e.2,rfl,h2,h3,?_⟩;simp -dsimp[au,stC,-Bool.exists_bool,-List.map_take,-Prod.forall,-Prod.exists];exact s2.trans st
    ·rintro σ H2 ⟨⟨o2,o3,rfl⟩,s2⟩;simp -dsimp[au,stC,-Bool.exists_bool,-List.map_take,-Prod.forall,-Prod.exists];exact q ob H2 (s2 _ _ ef) fun b u hb e=>s2 _ _ (kf b u hb e)
def Bk (C:Addr):Sp:=fun vs H Q _=>∃(o d:Addr) (xs:List Str) (ps:List (Str×Str)) (fs:List (Nat×Int)),vs=[.ref o,.ref d]∧cW C H o xs ps∧H d=some (.dK (dM fs))∧rP fs ps.length∧∀(H':Hp),Same H H'→Q .non H'
theorem pY (T:Txt K mg a):bZ P w K mg base lB 3 a.bB a.b_ ["web", "thing"] (Bk a.bG):=by
  refine(zT T).qgZ.imp fun vs H Q E h=>?_;obtain⟨o,d,xs,ps,fs,rfl,hw,hd,hfs,q⟩:=h;refine⟨o,d,xs,ps,fs,rfl,hw,hd,hfs,fun ob H' e k=>q _ (KY fun b u hb=>?_)⟩
  by_cases z:b=d
  ·subst z;rw[hd] at hb;cases hb;exact .inr ⟨fun o v y=>(by cases y),ob,e⟩
  ·exact .inl (k b u z hb)
def Bl:Sp:=fun vs H Q _=>∃(d:Addr) (k:Nat) (v:Int) (fs:List (Nat×Int)),vs=[.ref d,.int k,.int v]∧H d=some (.dK (dM fs))∧fs.length≤100∧k∉fs.map (·.1)∧
  ∀(r:Addr) (H':Hp),H r=none→H' r=some (.dK (dM (fs++[(k,v)])))→Same H H'→Q (.ref r) H'
theorem pZ (T:Txt K mg a):bZ P w K mg base lB 1 a.cT a.ig ["fixed", "number", "lead"] Bl:=by
  refine T.i_.sV pJ (fun vs H Q E h=>?_) (fun cdv A outer s H vs Q E hr h=>?_)
  ·obtain⟨d,k,v,fs,rfl,_⟩:=h;rfl
  · obtain⟨d,k,v,fs,rfl,hd,hl,hk,q⟩:=h;refine⟨_,(aC (bI (i:=3) pJ.nd rfl (Or.inl rfl) (eE SQ rfl T.Tv.dict gH (aj (aL 0) ak)))
      (aC (PS.eqv (Eh (sy hr) (aL 3) (aL 1) (aL 2) rfl) (yQ _ _ _))
      (aF (bh (aL 3))))),?_⟩
    have qke:200≤sizeLine:=by decide
    simp -dsimp[au,stC,-Bool.exists_bool,-List.map_take,-Prod.forall,-Prod.exists];refine⟨_,.inl hd,fun r hr0=>?_⟩;refine⟨_,.inl ⟨_,Sum.inl (k:Int),ao,rfl,by simp[dM];omega,rfl⟩,?_⟩;refine q r _ hr0 ?_ (cA (aA hr0) hr0);rw[ao,sI hk]
def H_ (C:Addr):Sp:=fun vs H Q _=>∃(o d:Addr) (xs:List Str) (ps:List (Str×Str)) (fx:Nat→Option Int),vs=[.ref o,.ref d]∧cW C H o xs ps∧Yr xs∧zN xs ps∧P0 H d fx∧
  (∀H',cB (aN fx ps 0) xs xs=none→Same H H'→Q .non H')∧
  ∀(x:Str) (r:Addr) (H':Hp),cB (aN fx ps 0) xs xs=some x→H r=none→H' r=some (.lst ((restOf (aN fx ps 0) xs x).map V.str))→Same H H'→Q (.ref r) H'
theorem mV (T:Txt K mg a):bZ P w K mg base lB 4 a.dI a.jw ["web", "fixed"] (H_ a.bG):=by
  refine T.iM.sV G8 (fun vs H Q E h=>?_) (fun cdv A outer s H vs Q E hr h=>?_)
  ·obtain⟨o,d,xs,ps,fx,rfl,_⟩:=h;rfl
  · obtain⟨o,d,xs,ps,fx,rfl,hw,hX,hTs,hf,q1,q2⟩:=h;refine⟨_,(aF (bh (PE.eqv (aJ (rO (K:=K) T) (hr.mono (by decide)) rfl T.lq T.gU.kp T.lg .nil aW (aj (aL 0) (aj (PE.eqv (aJ (tW (K:=K) T) (hr.mono (by decide)) rfl T.oE T.jW.kp T.oA .nil aW (aj (aL 0) (aj (aL 1) ak))) (aH _ _ _)) ak))) (aH _ _ _)))),?_⟩;simp -dsimp[au,stC,-Bool.exists_bool,-List.map_take,-Prod.forall,-Prod.exists];refine⟨o,d,xs,ps,fx,rfl,hw,hf,fun l tv H1 hl0 hl1 hS h40 s1=>?_⟩;refine⟨o,l,tv,_,xs,ps,rfl,hw.same s1,hl1,hS,VF hTs,hX.len.2,fun H2 hn s2=>?_,fun x r H2 hx hr0 e2 s2=>?_⟩
    ·exact q1 _ hn (s1.trans s2)
    ·exact q2 x r H2 hx (cF s1 hr0) e2 (s1.trans s2)
def frB (fs:List (Nat×Int)) (j:Nat):Bool:=decide (j∉fs.map (·.1))
def cM (fs:List (Nat×Int)) (m:Nat):List Nat:=(List.range m).filter (frB fs)
def fH (ks:List Nat):List V:=ks.map fun n:Nat=>V.int n
def Oj (C:Addr):Sp:=fun vs H Q _=>∃(o d:Addr) (xs:List Str) (ps:List (Str×Str)) (fs:List (Nat×Int)),vs=[.ref o,.ref d]∧cW C H o xs ps∧ps.length≤20∧H d=some (.dK (dM fs))∧
  ∀(r:Addr) (H':Hp),H r=none→H' r=some (.lst (fH (cM fs ps.length)))→Same H H'→Q (.ref r) H'
theorem zU (T:Txt K mg a):bZ P w K mg base lB 2 a.fQ a.mj ["web", "fixed"] (Oj a.bG):=by
  refine T.nF.sV NT (fun vs H Q E h=>?_) (fun cdv A outer s H vs Q E hr h=>?_)
  ·obtain⟨o,d,xs,ps,fs,rfl,_⟩:=h;rfl
  · obtain⟨o,d,xs,ps,fs,rfl,hw,Xh,hd,q⟩:=h;refine⟨_,(aF (bh (jm rfl rfl (show bK (aD m8) _ ["web", "fixed"] ["number"] [1] ["number", "fixed"] from⟨rfl,by decide+kernel,by decide+kernel,rfl,by decide+kernel,by decide+kernel⟩) rfl (PI.eqv (jC rfl T.nm.range (aj (PE.eqv (j9 (aL 0) T.nG T.mR (nM (K:=K) T) (hr.mono (by decide)) T.mQ .nil aW) (kh _ _ _ _ _ _)) ak)) (jK _)) (fun C s H fp pn=>(aU (i:=0) (show(["number", "fixed"]:List Str).Nodup by decide+kernel) rfl (Or.inl rfl))) (fun C s H fp pn=>(yD (MK (PC.eqv (Ko (sy hr) (aL 0) (aL 1)) (Gx _ _))))) (fun C s H fp pn=>(aL 0))))),?_⟩;have s60:60≤sizeLine:=by decide
    obtain⟨dx,fss,hi,hno⟩:=hw.ins nJ.1 nJ.2;simp -dsimp[au,stC,-Bool.exists_bool,-List.map_take,-Prod.forall,-Prod.exists];refine⟨_,_,hi,hno,o,xs,ps,rfl,hw,?_⟩;simp -dsimp[au,stC,-Bool.exists_bool,-List.map_take,-Prod.forall,-Prod.exists];refine⟨by omega,fun D hD=>cmR (fun i σ H'=>(∃o',σ=[o',some (.ref d)])∧H' D=some (.lst (fH ((List.range i).filter (frB fs))))∧Same H H') ⟨⟨_,rfl⟩,ao,aA hD⟩ ?_ ?_⟩
    · rintro i σ H2 hi ⟨⟨o',rfl⟩,hD2,s2⟩;have fl:((List.range i).filter (frB fs)).length≤i:=Nat.le_trans (List.length_filter_le _ _) (by rw[List.length_range];exact Nat.le_refl _);rw[List.range_succ,List.filter_append];have hg:iJ H2 d (V.int (i:Int)) ((gB fs i).map V.int):=by
        rw[← zQ];exact iJ.k (k:=Sum.inl (i:Int)) (s2 _ _ hd)
      simp -dsimp[au,stC,-Bool.exists_bool,-List.map_take,-Prod.forall,-Prod.exists];refine⟨_,hg,iB.of (fun h=>?_) (fun h=>?_)⟩
      · have h':i∉fs.map (·.1):=pX.mp (by simpa using h);simp -dsimp[au,stC,-Bool.exists_bool,-List.map_take,-Prod.forall,-Prod.exists];refine⟨_,hD2,by unfold fH;rw[List.length_map];omega,?_,cA s2 hD⟩;rw[ao,List.filter_cons,if_pos (show frB fs i=true from decide_eq_true h')];simp[fH]
      · have h':¬i∉fs.map (·.1):=fun z=>by
          rw[pX.mpr z] at h;cases h
        simp -dsimp[au,stC,-Bool.exists_bool,-List.map_take,-Prod.forall,-Prod.exists];refine⟨?_,s2⟩;rw[hD2,List.filter_cons,if_neg (show ¬frB fs i=true from fun z=>h' (of_decide_eq_true z))];simp
    ·rintro σ H2 ⟨⟨o',rfl⟩,hD2,s2⟩;simp -dsimp[au,stC,-Bool.exists_bool,-List.map_take,-Prod.forall,-Prod.exists];exact q D H2 hD hD2 s2
def Strong (S:List lC) (xs:List Str):Prop:=∀x∈xs,∀y∈xs,RT (jf S) x y
theorem Xp {S:List lC} {xs:List Str} (h:cB S xs xs=none):Strong S xs:=fun x hx y hy=>by
  have h1:=Qm h x hx;have h2:Av S xs x=xs:=by
    unfold Av at h1 ⊢;exact List.filter_eq_self.mpr (List.length_filter_eq_length_iff.mp h1)
  have:y∈Av S xs x:=by rw[h2];exact hy
  exact(U9.mp this).2
theorem Lk {S:List lC} {xs:List Str} (h:Strong S xs):cB S xs xs=none:=by
  unfold cB;rw[List.find?_eq_none];intro x hx;rw[decide_eq_true_eq];intro hlt;unfold Av at hlt;rw[List.length_filter_lt_length_iff_exists] at hlt;obtain⟨y,hy,hn⟩:=hlt;exact hn (by simpa using h x hx y hy)
def rQ (C Sh Ba:Addr):Sp:=fun vs H Q E=>∃(o d:Addr) (xs:List Str) (ps:List (Str×Str)) (fx:Nat→Option Int),vs=[.ref o,.ref d]∧cW C H o xs ps∧Yr xs∧zN xs ps∧P0 H d fx∧
  (cB (aN fx ps 0) xs xs=none→lJ ps xs=[]→∀H',Same H H'→Q .non H')∧
  (∀x,cB (aN fx ps 0) xs xs=some x→∀(dx c:Addr) (H':Hp),H c=none→H' dx=some (iD dx [("lot",.ref c)])→H' c=some (.lst ((restOf (aN fx ps 0) xs x).map V.str))→Same H H'→E (.ref Sh) (some dx) H')∧
  (cB (aN fx ps 0) xs xs=none→∀k lot rest,lJ ps xs=(k,lot)::rest→∀(dx c:Addr) (H':Hp),H c=none→H' dx=some (iD dx [("tie",.int (k:Nat)),("lot",.ref c)])→H' c=some (.lst (lot.map V.str))→Same H H'→E (.ref Ba) (some dx) H')
theorem jA (T:Txt K mg a):bZ P w K mg base (GK P w) 5 a.bY a.dX ["web", "fixed"] (rQ a.bG a.bV a.aP):=by
  refine T.fu.Qt cV (fun vs H Q E h=>?_) (fun cdv A outer s H vs Q E hr h=>?_)
  ·obtain⟨o,d,xs,ps,fx,rfl,_⟩:=h;rfl
  · obtain⟨o,d,xs,ps,fx,rfl,hw,hX,hTs,hf,q1,q2,q3⟩:=h;refine⟨_,(aC (bI (i:=2) cV.nd rfl (Or.inl rfl) (PE.eqv (aJ (mV (K:=K) T) (hr.mono (by decide)) rfl T.jZ T.iM.kp T.jY .nil aW (aj (aL 0) (aj (aL 1) ak))) (aH _ _ _)))
      (aC (dg (bD Uz (aL 2) vQ (cP _)) (aF (KQ (E:=E) iW rfl rfl T.Ew (Oh (K:=K) T) (hr.mono (by decide)) rfl T.Tt T.Dw (aj (aL 2) ak))) bM)
      (aC (bI (i:=3) cV.nd rfl (Or.inl rfl) (PE.eqv (aJ (qcD (K:=K) T) (hr.mono (by decide)) rfl T.qaA T.Tr.kp T.qaz .nil aW (aj (aL 0) ak)) (aH _ _ _)))
      (aF (dg (bD Gw (aM (fV (K:=K) rfl) rfl T.nm.len PySem.boot_len (aj (aL 3) ak)) aG (cP _)) (aC (Ry (gj (gq (K:=K) rfl) (aL 3) aG (fun _ _=>rfl)) (PG.eqv (g8 (K:=K) (n:=2) rfl rfl (lE.eqv (bN (aU (i:=4) cV.nd rfl (Or.inl rfl)) (lE.eqv (bN (aU (i:=5) cV.nd rfl (Or.inl rfl)) (lE.mono gZ jJ)) (bO _ _))) (bO _ _))) (g_ _ _ _)))
      (aF (KQ (E:=E) iW rfl rfl T.uP (HY (K:=K) T) (hr.mono (by decide)) rfl T.Hw T.vH (aj (aL 4) (aj (aL 5) ak))))) bM))))),?_⟩
    simp -dsimp[au,stC,-Bool.exists_bool,-List.map_take,-Prod.forall,-Prod.exists];refine⟨o,d,xs,ps,fx,rfl,hw,hX,hTs,hf,fun H1 hn s1=>?_,fun x r H1 hx hr0 e1 s1=>?_⟩
    · simp -dsimp[au,stC,-Bool.exists_bool,-List.map_take,-Prod.forall,-Prod.exists];refine⟨o,xs,ps,rfl,hw.same s1,hX,hTs,fun l rs H2 hl0 e2 zs hzs qaO qhb hzn s2=>?_⟩;have S2:=s1.trans s2;simp -dsimp[au,stC,-Bool.exists_bool,-List.map_take,-Prod.forall,-Prod.exists];refine⟨_,.inl (bU.of e2),iB.of (fun h=>?_) (fun h=>?_)⟩
      · have hpos:=of_decide_eq_true h;cases rs with
        | nil=>simp at hpos
        | cons v rs=>
        cases zs with
        | nil=>have:=hzs.1;simp at this
        | cons z zs=>
        obtain⟨t,rfl,ht,hc⟩:=hzs.2 0 v z rfl rfl;have hz0:=(hzn z List.mem_cons_self).1;rw[List.map_cons] at qaO;simp -dsimp[au,stC,-Bool.exists_bool,-List.map_take,-Prod.forall,-Prod.exists];refine⟨_,.inl (bU.of e2),_,dh (j:=0) rfl,?_⟩;simp -dsimp[au,stC,-Bool.exists_bool,-List.map_take,-Prod.forall,-Prod.exists];refine⟨_,gY.of ht,rfl,?_⟩;simp -dsimp[au,stC,-Bool.exists_bool,-List.map_take,-Prod.forall,-Prod.exists];intro e5 he5;have s5:Same H2 (upd H2 e5 (dJ e5 a.aP none)):=aA he5;have x5:upd H2 e5 (dJ e5 a.aP none) e5=some (dJ e5 a.aP none):=ao;have hc5:=s5 _ _ hc;have e50:H e5=none:=cF S2 he5;have S5:=S2.trans s5;generalize upd H2 e5 (dJ e5 a.aP none)=H5 at s5 x5 hc5 S5 ⊢;refine⟨e5,z.1,.int z.2.1,_,rfl,x5,hc5,fun c H6 hc0 ec hbe hB=>⟨rfl,?_⟩⟩;obtain⟨dx,dxe,hx,hdx⟩:=hbe;have ce:c≠e5:=fun z=>by rw[z,x5] at hc0;cases hc0
        refine⟨_,hx,q3 hn z.2.1 z.2.2 _ qaO.symm dx c _ (cF S5 hc0) (iC dxe hdx) (iC ce ec) fun b' u e=>?_⟩;have be:b'≠e5:=fun z=>by rw[z,e50] at e;cases e
        exact iC be (hB b' u be (S5 _ _ e))
      · have h0:=of_decide_eq_false h;cases zs with
        | cons z zs=>have:=hzs.1;simp at this;omega
        | nil=>
          simp -dsimp[au,stC,-Bool.exists_bool,-List.map_take,-Prod.forall,-Prod.exists];exact q1 hn qaO.symm _ S2
    · simp -dsimp[au,stC,-Bool.exists_bool,-List.map_take,-Prod.forall,-Prod.exists];intro e5 he5;have s5:Same H1 (upd H1 e5 (dJ e5 a.bV none)):=aA he5;have x5:upd H1 e5 (dJ e5 a.bV none) e5=some (dJ e5 a.bV none):=ao;have hc5:=s5 _ _ e1;have e50:H e5=none:=cF s1 he5;have S5:=s1.trans s5;generalize upd H1 e5 (dJ e5 a.bV none)=H5 at s5 x5 hc5 S5 ⊢;refine⟨e5,r,_,rfl,x5,hc5,fun c H6 hc0 ec hbe hB=>⟨rfl,?_⟩⟩;obtain⟨dx,dxe,hx5,hdx⟩:=hbe;have ce:c≠e5:=fun z=>by rw[z,x5] at hc0;cases hc0
      refine⟨_,hx5,q2 x hx dx c _ (cF S5 hc0) (iC dxe hdx) (iC ce ec) fun b' u e=>?_⟩;have be:b'≠e5:=fun z=>by rw[z,e50] at e;cases e
      exact iC be (hB b' u be (S5 _ _ e))
def Rh (ps:List (Str×Str)) (xs:List Str) (fs:List (Nat×Int)) (k:Nat):Int:=if (cB (aN (gB (fs++[(k,0)])) ps 0) xs xs).isNone=true then 0 else 1
def jB (ps:List (Str×Str)) (xs:List Str):List (Nat×Int)→List Nat→List (Nat×Int)
  | acc,[]=>acc
  | acc,k::ks=>jB ps xs (acc++[(k,Rh ps xs acc k)]) ks
theorem Ia (ps:List (Str×Str)) (xs:List Str):∀(ks:List Nat) (acc:List (Nat×Int)) (k:Nat),jB ps xs acc (ks++[k])=jB ps xs acc ks++[(k,Rh ps xs (jB ps xs acc ks) k)]
  | [],acc,k=>rfl
  | j::ks,acc,k=>by
    rw[List.cons_append,jB,jB];exact Ia ps xs ks _ k
theorem qcF (ps:List (Str×Str)) (xs:List Str) (fs:List (Nat×Int)) (k:Nat):0≤Rh ps xs fs k∧Rh ps xs fs k≤1:=by
  unfold Rh;split <;> omega
theorem wG (ps:List (Str×Str)) (xs:List Str):∀(ks:List Nat) (acc:List (Nat×Int)),(jB ps xs acc ks).map (·.1)=acc.map (·.1)++ks
  | [],acc=>by simp[jB]
  | k::ks,acc=>by
    rw[jB,wG ps xs ks];simp
theorem Ri {ps:List (Str×Str)} {xs:List Str} {m:Nat}:∀(ks:List Nat) {acc:List (Nat×Int)},rP acc m→(∀k∈ks,k<m∧k∉acc.map (·.1))→ks.Nodup→rP (jB ps xs acc ks) m
  | [],acc,h,_,_=>h
  | k::ks,acc,h,hk,nd=>by
    rw[jB];have h0:=hk k List.mem_cons_self;refine Ri ks (h.snoc h0.1 (qcF ps xs acc k) h0.2) (fun j hj=>⟨(hk j (List.mem_cons_of_mem _ hj)).1,fun z=>?_⟩) (List.nodup_cons.mp nd).2;rw[List.map_append] at z
    rcases List.mem_append.mp z with z | z
    ·exact(hk j (List.mem_cons_of_mem _ hj)).2 z
    ·simp at z;rw[z] at hj;exact(List.nodup_cons.mp nd).1 hj
theorem Ib {fs:List (Nat×Int)} {m k:Nat}:k∈cM fs m↔k<m∧k∉fs.map (·.1):=by
  unfold cM frB;rw[List.mem_filter,List.mem_range,decide_eq_true_eq]
theorem VH (fs:List (Nat×Int)) (m:Nat):(cM fs m).Nodup:=List.nodup_range.filter _
def zV (ps:List (Str×Str)) (xs:List Str) (fs:List (Nat×Int)):List (Nat×Int):=jB ps xs fs (cM fs ps.length)
def TX (ps:List (Str×Str)) (xs:List Str) (fs:List (Nat×Int)):List Int:=(List.range ps.length).map fun j=>(gB (zV ps xs fs) j).getD 0
theorem Rj {ps:List (Str×Str)} {xs:List Str} {fs:List (Nat×Int)} {j:Nat} (hj:j<ps.length):∃v,gB (zV ps xs fs) j=some v:=by
  cases h:gB (zV ps xs fs) j with
  | some v=>exact⟨v,rfl⟩
  | none=>
    have h1:=pX.mp h;unfold zV at h1;rw[wG,List.mem_append] at h1
    by_cases hk:j∈fs.map (·.1)
    ·exact(h1 (.inl hk)).elim
    ·exact(h1 (.inr (Ib.mpr ⟨hj,hk⟩))).elim
theorem qfv {ps:List (Str×Str)} {xs:List Str} {fs:List (Nat×Int)} {j:Nat} (hj:j<ps.length):(TX ps xs fs)[j]? = gB (zV ps xs fs) j:=by
  obtain⟨v,hv⟩:=Rj (ps:=ps) (xs:=xs) (fs:=fs) hj;unfold TX;rw[List.getElem?_map,List.getElem?_range hj,hv];simp[hv]
theorem VJ (ps:List (Str×Str)) (xs:List Str) (fs:List (Nat×Int)):(TX ps xs fs).length=ps.length:=by simp[TX]
theorem Rk {f:Str×Str→Nat→List (Nat×List Str)}:∀{ps:List (Str×Str)} {k:Nat},qu f ps k=[]→∀(j:Nat) e,ps[j]? = some e→f e (k+j)=[]
  | [],k,_,j,e,h=>by simp at h
  | d::ps,k,h,j,e,he=>by
    rw[qu,List.append_eq_nil_iff] at h;cases j with
    | zero=>simp at he;subst he;exact h.1
    | succ j=>
      have:=Rk h.2 j e (by simpa using he)
      rwa [show k+(j+1)=k+1+j by omega]
theorem qaP {ps:List (Str×Str)} {xs:List Str} (h:lJ ps xs=[]):∀(j:Nat) e,ps[j]? = some e→RT (jG (fun i=>i≠j) ps) e.1 e.2:=fun j e he=>by
  have h1:=Rk h j e he;rw[Nat.zero_add] at h1;unfold rJ at h1;split at h1
  ·rename_i h2;exact((WK.mp h2).2).symm fun _ _ z=>z.symm
  ·cases h1
def rK (C Sh Ba:Addr):Sp:=fun vs H Q E=>∃(o d:Addr) (xs:List Str) (ps:List (Str×Str)) (fs:List (Nat×Int)),vs=[.ref o,.ref d]∧cW C H o xs ps∧Yr xs∧zN xs ps∧H d=some (.dK (dM fs))∧rP fs ps.length∧
  (cB (aN (gB fs) ps 0) xs xs=none→lJ ps xs=[]→∀(r:Addr) (H':Hp),H r=none→H' r=some (.lst ((TX ps xs fs).map V.int))→Same H H'→Q (.ref r) H')∧
  (∀x,cB (aN (gB fs) ps 0) xs xs=some x→∀(dx c:Addr) (H':Hp),H c=none→H' dx=some (iD dx [("lot",.ref c)])→H' c=some (.lst ((restOf (aN (gB fs) ps 0) xs x).map V.str))→Same H H'→E (.ref Sh) (some dx) H')∧
  (cB (aN (gB fs) ps 0) xs xs=none→∀k lot rest,lJ ps xs=(k,lot)::rest→∀(dx c:Addr) (H':Hp),H c=none→H' dx=some (iD dx [("tie",.int (k:Nat)),("lot",.ref c)])→H' c=some (.lst (lot.map V.str))→Same H H'→E (.ref Ba) (some dx) H')
theorem Eb (T:Txt K mg a):bZ P w K mg base (GK P w) 6 a.cI a.eF ["web", "fixed"] (rK a.bG a.bV a.aP):=by
  refine T.jx.Qt iZ (fun vs H Q E h=>?_) (fun cdv A outer s H vs Q E hr h=>?_)
  ·obtain⟨o,d,xs,ps,fs,rfl,_⟩:=h;rfl
  · obtain⟨o,d,xs,ps,fs,rfl,hw,hX,hTs,hd,hfs,q1,q2,q3⟩:=h;refine⟨_,(aC (eN (PE.eqv (aJ (pY (K:=K) T) (hr.mono (by decide)) rfl T.gA T.cL.kp T.gw .nil aW (aj (aL 0) (aj (aL 1) ak))) (aH _ _ _)))
      (aC (eN (PE.eqv (aJ (jA (K:=K) T) (hr.mono (by decide)) rfl T.gW T.fu.kp T.gV .nil (iW.passes rfl) (aj (aL 0) (aj (aL 1) ak))) (aH _ _ _)))
      (aC (bI (i:=2) iZ.nd rfl (Or.inr rfl) (eE SQ rfl T.Tv.dict gH (aj (aL 1) ak)))
      (aC (iy PassesOwn.leaving rfl (PI.eqv (iI (K:=K) rfl (PE.eqv (aJ (zU (K:=K) T) (hr.mono (by decide)) rfl T.tG T.nF.kp T.tE .nil aW (aj (aL 0) (aj (aL 1) ak))) (aH _ _ _))) (gC _ _)) (aU (i:=3) iZ.nd rfl (Or.inl rfl))
      (aF (PS.eqv (Eh (sy hr) (aL 2) (aL 3) (Pa (bD qei (PE.eqv (aJ (mV (K:=K) T) (hr.mono (by decide)) rfl T.jZ T.iM.kp T.jY .nil aW (aj (aL 0) (aj (PE.eqv (aJ (pZ (K:=K) T) (hr.mono (by decide)) rfl T.lR T.i_.kp T.lQ .nil aW (aj (aL 2) (aj (aL 3) (aj aG ak)))) (aH _ _ _)) ak))) (aH _ _ _)) vQ (cP _)) aG aG) rfl) (yQ _ _ _))))
      (aF (bh (jm rfl rfl (show bK (aD jo) _ ["web", "fixed", "kept", "number"] ["number"] [2] ["number", "kept"] from⟨rfl,by decide+kernel,by decide+kernel,rfl,by decide+kernel,by decide+kernel⟩) rfl (PI.eqv (jC rfl T.nm.range (aj (PE.eqv (j9 (aL 0) T.nG T.mR (nM (K:=K) T) (hr.mono (by decide)) T.mQ .nil aW) (kh _ _ _ _ _ _)) ak)) (jK _)) (fun C s H fp pn=>(aU (i:=0) (show(["number", "kept"]:List Str).Nodup by decide+kernel) rfl (Or.inl rfl))) (fun C s H fp pn=>jP) (fun C s H fp pn=>(PE.eqv (U6 (sy hr) (aL 1) (aL 0) (fun _ _=>rfl)) (Qi _ _)))))))))),?_⟩
    have s60:60≤sizeLine:=by decide
    have Xh:=hTs.len;have g2:∀e∈ps,e.1∈xs∧e.2∈xs:=fun e he=>⟨(hTs.ok e he).1,(hTs.ok e he).2.1⟩;simp -dsimp[au,stC,-Bool.exists_bool,-List.map_take,-Prod.forall,-Prod.exists];refine⟨o,d,xs,ps,fs,rfl,hw,hd,hfs,fun H1 s1=>?_⟩;simp -dsimp[au,stC,-Bool.exists_bool,-List.map_take,-Prod.forall,-Prod.exists];refine⟨o,d,xs,ps,gB fs,rfl,hw.same s1,hX,hTs,Oi (s1 _ _ hd),fun hn hb H2 s2=>?_,fun x hx dx c H2 hc hdx ec s2=>?_,fun hn k lot rest hb dx c H2 hc hdx ec s2=>?_⟩
    · have S2:=s1.trans s2;simp -dsimp[au,stC,-Bool.exists_bool,-List.map_take,-Prod.forall,-Prod.exists];refine⟨_,.inl (S2 _ _ hd),fun kd hkd=>?_⟩;have s3:Same H2 (upd H2 kd (.dK (dM fs))):=aA hkd;have e3:upd H2 kd (.dK (dM fs)) kd=some (.dK (dM fs)):=ao;generalize upd H2 kd (.dK (dM fs))=H3 at s3 e3 ⊢;have S3:=S2.trans s3;have kd0:H kd=none:=cF S2 hkd;refine⟨o,d,xs,ps,fs,rfl,hw.same S3,Xh,S3 _ _ hd,fun fl H4 hfl efl s4=>?_⟩;have S4:=S3.trans s4;have flk:fl≠kd:=fun z=>by rw[z,e3] at hfl;cases hfl
      have ndF:=VH fs ps.length;have qcG:∀k∈cM fs ps.length,k<ps.length∧k∉fs.map (·.1):=fun k hk=>Ib.mp hk;simp -dsimp[au,stC,-Bool.exists_bool,-List.map_take,-Prod.forall,-Prod.exists];refine⟨⟨_,bU.of efl⟩,frL (fH (cM fs ps.length)) (fun i σ H'=>(∃o3,σ=[some (.ref o),some (.ref d),some (.ref kd),o3])∧H' kd=some (.dK (dM (jB ps xs fs ((cM fs ps.length).take i))))∧H' fl=some (.lst (fH (cM fs ps.length)))∧Same H H') ⟨⟨_,rfl⟩,s4 _ _ e3,efl,S4⟩ (fun i σ H' _ h=>bU.of h.2.2.1) ?_ ?_⟩
      · rintro i v σ H5 hi ⟨⟨o3,rfl⟩,ek,el,s5⟩;obtain⟨k,hk,rfl⟩:∃k,(cM fs ps.length)[i]? = some k∧v = .int (k:Nat):=by
          unfold fH at hi;rw[List.getElem?_map] at hi;obtain⟨k,hk,rfl⟩:=Option.map_eq_some_iff.mp hi;exact⟨k,hk,rfl⟩
        have tk:(cM fs ps.length).take (i+1)=(cM fs ps.length).take i++[k]:=take_one hk;have sub:∀j∈(cM fs ps.length).take i,j<ps.length∧j∉fs.map (·.1):=fun j hj=>qcG j (List.mem_of_mem_take hj);have ndT:((cM fs ps.length).take i).Nodup:=ndF.sublist (List.take_sublist _ _);have qdM:rP (jB ps xs fs ((cM fs ps.length).take i)) ps.length:=Ri _ hfs sub ndT;have hkm:=qcG k (List.mem_of_getElem? hk);have kn:k∉(jB ps xs fs ((cM fs ps.length).take i)).map (·.1):=fun z=>by
          rw[wG,List.mem_append] at z
          rcases z with z | z
          ·exact hkm.2 z
          · have h2:((cM fs ps.length).take i++[k]).Nodup:=by rw[← tk];exact ndF.sublist (List.take_sublist _ _)
            exact(List.nodup_append.mp h2).2.2 k z k (by simp) rfl
        rw[tk,Ia];have hdv:Rh ps xs (jB ps xs fs ((cM fs ps.length).take i)) k=if (cB (aN (gB (jB ps xs fs ((cM fs ps.length).take i)++[(k,0)])) ps 0) xs xs).isNone=true then 0 else 1:=rfl
        generalize jB ps xs fs ((cM fs ps.length).take i)=acc at ek qdM kn hdv ⊢;have qlc:=qdM.len;simp -dsimp[au,stC,-Bool.exists_bool,-List.map_take,-Prod.forall,-Prod.exists];refine⟨kd,k,0,acc,rfl,ek,by omega,kn,fun r6 H6 hr6 e6 s6=>?_⟩;have S6:=s5.trans s6;have put:∀(H7:Hp) (v:Int),Same H5 H7→v=Rh ps xs acc k→(∃H8,vV H7 kd (.int (k:Nat)) (.int v) H8∧H8 kd=some (.dK (dM (acc++[(k,Rh ps xs acc k)])))∧H8 fl=some (.lst (fH (cM fs ps.length)))∧Same H H8):=fun H7 v s7 hv=>by
          refine⟨_,.inl ⟨_,Sum.inl ((k:Nat):Int),s7 _ _ ek,rfl,by simp[dM];omega,rfl⟩,?_,?_,cA (s5.trans s7) kd0⟩
          ·rw[ao,sI kn,hv]
          ·rw[aB flk];exact s7 _ _ el
        refine⟨o,r6,xs,ps,_,rfl,hw.same S6,hX,hTs,Oi e6,fun H7 hn7 s7=>?_,fun x r H7 hx7 hr7 e7 s7=>?_⟩
        ·obtain⟨H8,p1,p2,p3,p4⟩:=put H7 0 (s6.trans s7) (by rw[hdv,hn7];rfl);simp -dsimp[au,stC,-Bool.exists_bool,-List.map_take,-Prod.forall,-Prod.exists];exact⟨H8,p1,p2,p3,p4⟩
        ·obtain⟨H8,p1,p2,p3,p4⟩:=put H7 1 (s6.trans s7) (by rw[hdv,hx7];rfl);simp -dsimp[au,stC,-Bool.exists_bool,-List.map_take,-Prod.forall,-Prod.exists];exact⟨H8,p1,p2,p3,p4⟩
      · rintro σ H5 ⟨⟨o3,rfl⟩,ek,el,s5⟩;have ek':H5 kd=some (.dK (dM (zV ps xs fs))):=by
          rw[ek];unfold zV fH;rw[List.length_map,List.take_length]
        obtain⟨dx,fss,hi,hno⟩:=(hw.same s5).ins nJ.1 nJ.2;simp -dsimp[au,stC,-Bool.exists_bool,-List.map_take,-Prod.forall,-Prod.exists];refine⟨_,_,hi,hno,o,xs,ps,rfl,hw.same s5,?_⟩;simp -dsimp[au,stC,-Bool.exists_bool,-List.map_take,-Prod.forall,-Prod.exists];refine⟨by omega,fun D hD=>cmR (fun i σ H'=>(∃o',σ=[o',some (.ref kd)])∧H' D=some (.lst (((TX ps xs fs).take i).map V.int))∧Same H5 H') ⟨⟨_,rfl⟩,ao,aA hD⟩ ?_ ?_⟩
        · rintro i σ H6 hi6 ⟨⟨o',rfl⟩,Xj,s6⟩;obtain⟨v,hv⟩:=Rj (ps:=ps) (xs:=xs) (fs:=fs) hi6;have ov:(TX ps xs fs)[i]? = some v:=by rw[qfv hi6];exact hv
          have hg:iJ H6 kd (V.int (i:Int)) (some (.int v)):=by
            have h1:=zQ (zV ps xs fs) i;rw[hv] at h1;have h2:iJ H6 kd (V.int (i:Int)) (jE (dM (zV ps xs fs)) (Sum.inl (i:Int))):=iJ.k (k:=Sum.inl (i:Int)) (s6 _ _ ek');rw[h1] at h2;exact h2
          have ol:=VJ ps xs fs;rw[take_one ov];simp -dsimp[au,stC,-Bool.exists_bool,-List.map_take,-Prod.forall,-Prod.exists];refine⟨_,hg,_,Xj,by simp;omega,?_,cA s6 hD⟩;rw[ao]
        ·rintro σ H6 ⟨⟨o',rfl⟩,Xj,s6⟩;rw[← VJ ps xs fs,List.take_length] at Xj;simp -dsimp[au,stC,-Bool.exists_bool,-List.map_take,-Prod.forall,-Prod.exists];exact q1 hn hb D H6 (cF s5 hD) Xj (s5.trans s6)
    ·exact q2 x hx dx c H2 (cF s1 hc) hdx ec (s1.trans s2)
    ·exact q3 hn k lot rest hb dx c H2 (cF s1 hc) hdx ec (s1.trans s2)
structure FE where
  k:Nat
  ld:Int
  t:Addr
  c:Addr
  lot:List Str
def feK (e:FE):Key×V:=(Sum.inl (e.k:Int),V.ref e.t)
structure qaQ (ps:List (Str×Str)) (xs:List Str) (fs:List (Nat×Int)) (H0 H:Hp) (e:FE):Prop where
  tp:H e.t=some (.tup [.int e.ld,.ref e.c])
  lt:H e.c=some (.lst (e.lot.map V.str))
  nw:H0 e.c=none
  sh:∃x,cB (aN (gB (fs++[(e.k,1 - e.ld)])) ps 0) xs xs=some x∧e.lot=restOf (aN (gB (fs++[(e.k,1 - e.ld)])) ps 0) xs x
theorem qaQ.same {ps:List (Str×Str)} {xs:List Str} {fs:List (Nat×Int)} {H0 H H':Hp} {e:FE} (h:qaQ ps xs fs H0 H e) (s:Same H H'):qaQ ps xs fs H0 H' e:=⟨s _ _ h.tp,s _ _ h.lt,h.nw,h.sh⟩
def shB (ps:List (Str×Str)) (xs:List Str) (fs:List (Nat×Int)) (k:Nat) (v:Int):Bool:=(cB (aN (gB (fs++[(k,v)])) ps 0) xs xs).isSome
def vh (ps:List (Str×Str)) (xs:List Str) (fs:List (Nat×Int)) (k:Nat) (ld:Int):List (Nat×Int):=if shB ps xs fs k (1 - ld)=true then [(k,ld)] else []
def qfw (ps:List (Str×Str)) (xs:List Str) (fs:List (Nat×Int)) (k:Nat):List (Nat×Int):=vh ps xs fs k 0++vh ps xs fs k 1
def Bm (ps:List (Str×Str)) (xs:List Str) (fs:List (Nat×Int)) (ks:List Nat):List (Nat×Int):=ks.flatMap (qfw ps xs fs)
theorem Ie {ps:List (Str×Str)} {xs:List Str} {fs:List (Nat×Int)} {k:Nat} {ld:Int} {e:Nat×Int} (h:e∈vh ps xs fs k ld):e=(k,ld)∧shB ps xs fs k (1 - ld)=true:=by
  unfold vh at h;split at h
  ·rename_i h2;rw[List.mem_singleton] at h;exact⟨h,h2⟩
  ·cases h
theorem qaR {ps:List (Str×Str)} {xs:List Str} {fs:List (Nat×Int)} {ks:List Nat} {e:Nat×Int} (h:e∈Bm ps xs fs ks):e.1∈ks∧(e.2=0∨e.2=1)∧shB ps xs fs e.1 (1 - e.2)=true:=by
  obtain⟨k,hk,h⟩:=List.mem_flatMap.mp h
  rcases List.mem_append.mp h with h | h
  ·obtain⟨rfl,h2⟩:=Ie h;exact⟨hk,.inl rfl,h2⟩
  ·obtain⟨rfl,h2⟩:=Ie h;exact⟨hk,.inr rfl,h2⟩
theorem qaS {ps:List (Str×Str)} {xs:List Str} {fs:List (Nat×Int)} {k:Nat} (hTs:zN xs ps) (hfs:rP fs ps.length) (hk:k<ps.length) (hn:k∉fs.map (·.1)) (hs:cB (aN (gB fs) ps 0) xs xs=none) (hb:lJ ps xs=[]) (h0:shB ps xs fs k 0=true) (h1:shB ps xs fs k 1=true):False:=by
  have hps:∀e∈ps,e.1∈xs∧e.2∈xs:=fun e he=>⟨(hTs.ok e he).1,(hTs.ok e he).2.1⟩;obtain⟨e,he⟩:∃e,ps[k]? = some e:=⟨_,List.getElem?_eq_getElem hk⟩;have two:=Qx (fx:=gB fs) (u:=e.1) (v:=e.2) (pX.mpr hn) (by rw[he]) (fun j d hj=>by have:=Xn hfs hj;omega) (Xp hs) hps (qaP hb k e he);unfold shB at h0 h1;rw[Xo hn] at h0 h1
  rcases two with z | z
  ·rw[Lk z] at h0;cases h0
  ·rw[Lk z] at h1;cases h1
theorem qfx {es:List FE} {k:Nat} {v:V} (hn:∀e∈es,e.k≠k):putK (es.map feK) (Sum.inl (k:Int)) v=es.map feK++[(Sum.inl (k:Int),v)]:=by
  unfold putK;rw[if_neg ?_];intro z;obtain⟨p,hp,hk⟩:=List.any_eq_true.mp z;obtain⟨e,he,rfl⟩:=List.mem_map.mp hp;have hk:=of_decide_eq_true hk;simp only[feK] at hk;injection hk with hk;exact hn e he (by omega)
def Rm (ps:List (Str×Str)) (xs:List Str) (fs:List (Nat×Int)) (H0 H:Hp) (td:Addr) (g:List (Nat×Int)):Prop:=∃es:List FE,H td=some (.dK (es.map feK))∧(∀e∈es,qaQ ps xs fs H0 H e)∧es.map (fun e=>(e.k,e.ld))=g∧(es.map (·.c)).Nodup
theorem Rm.same {ps:List (Str×Str)} {xs:List Str} {fs:List (Nat×Int)} {H0 H H':Hp} {td:Addr} {g:List (Nat×Int)} (h:Rm ps xs fs H0 H td g) (s:Same H H'):Rm ps xs fs H0 H' td g:=by
  obtain⟨es,h1,h2,h3,h4⟩:=h;exact⟨es,s _ _ h1,fun e he=>(h2 e he).same s,h3,h4⟩
def TY (ps:List (Str×Str)) (xs:List Str) (fs:List (Nat×Int)) (k:Nat):Nat→List (Nat×Int)
  | 0=>[]
  | 1=>vh ps xs fs k 0
  | _=>vh ps xs fs k 0++vh ps xs fs k 1
def Ln (C Sh Ba:Addr):Sp:=fun vs H Q E=>∃(o d:Addr) (xs:List Str) (ps:List (Str×Str)) (fs:List (Nat×Int)),vs=[.ref o,.ref d]∧cW C H o xs ps∧Yr xs∧zN xs ps∧H d=some (.dK (dM fs))∧rP fs ps.length∧
  (cB (aN (gB fs) ps 0) xs xs=none→lJ ps xs=[]→∀(td:Addr) (es:List FE) (H':Hp),H td=none→H' td=some (.dK (es.map feK))→(∀e∈es,qaQ ps xs fs H H' e)→es.map (fun e=>(e.k,e.ld))=Bm ps xs fs (cM fs ps.length)→(es.map (·.c)).Nodup→Same H H'→Q (.ref td) H')∧
  (∀x,cB (aN (gB fs) ps 0) xs xs=some x→∀(dx c:Addr) (H':Hp),H c=none→H' dx=some (iD dx [("lot",.ref c)])→H' c=some (.lst ((restOf (aN (gB fs) ps 0) xs x).map V.str))→Same H H'→E (.ref Sh) (some dx) H')∧
  (cB (aN (gB fs) ps 0) xs xs=none→∀k lot rest,lJ ps xs=(k,lot)::rest→∀(dx c:Addr) (H':Hp),H c=none→H' dx=some (iD dx [("tie",.int (k:Nat)),("lot",.ref c)])→H' c=some (.lst (lot.map V.str))→Same H H'→E (.ref Ba) (some dx) H')
theorem Xq (T:Txt K mg a):bZ P w K mg base (GK P w) 6 a.iK a.mD ["web", "fixed"] (Ln a.bG a.bV a.aP):=by
  refine T.zF.Qt mC (fun vs H Q E h=>?_) (fun cdv A outer s H vs Q E hr h=>?_)
  ·obtain⟨o,d,xs,ps,fs,rfl,_⟩:=h;rfl
  · obtain⟨o,d,xs,ps,fs,rfl,hw,hX,hTs,hd,hfs,q1,q2,q3⟩:=h;refine⟨_,(aC (eN (PE.eqv (aJ (pY (K:=K) T) (hr.mono (by decide)) rfl T.gA T.cL.kp T.gw .nil aW (aj (aL 0) (aj (aL 1) ak))) (aH _ _ _)))
      (aC (eN (PE.eqv (aJ (jA (K:=K) T) (hr.mono (by decide)) rfl T.gW T.fu.kp T.gV .nil (iW.passes rfl) (aj (aL 0) (aj (aL 1) ak))) (aH _ _ _)))
      (aC (bI (i:=2) mC.nd rfl (Or.inl rfl) Gk)
      (aC (iy PassesOwn.leaving rfl (PI.eqv (iI (K:=K) rfl (PE.eqv (aJ (zU (K:=K) T) (hr.mono (by decide)) rfl T.tG T.nF.kp T.tE .nil aW (aj (aL 0) (aj (aL 1) ak))) (aH _ _ _))) (gC _ _)) (aU (i:=3) mC.nd rfl (Or.inl rfl))
      (aF (iy PassesOwn.leaving rfl (qbP (K:=K) rfl (d9 (aj aG (aj aG ak)))) (aU (i:=4) mC.nd rfl (Or.inl rfl))
      (aC (bI (i:=5) mC.nd rfl (Or.inl rfl) (PE.eqv (aJ (mV (K:=K) T) (hr.mono (by decide)) rfl T.jZ T.iM.kp T.jY .nil aW (aj (aL 0) (aj (PE.eqv (aJ (pZ (K:=K) T) (hr.mono (by decide)) rfl T.lR T.i_.kp T.lQ .nil aW (aj (aL 1) (aj (aL 3) (aj (dj uE aG (aL 4)) ak)))) (aH _ _ _)) ak))) (aH _ _ _)))
      (aF (dg (bD Uz (aL 5) vQ (cP _)) (aF (PS.eqv (Eh (sy hr) (aL 2) (aL 3) (d9 (aj (aL 4) (aj (aL 5) ak))) rfl) (yQ _ _ _))) bM))))))
      (aF (bh (aL 2))))))),?_⟩
    have s60:60≤sizeLine:=by decide
    have Xh:=hTs.len;have qld:=hfs.len;simp -dsimp[au,stC,-Bool.exists_bool,-List.map_take,-Prod.forall,-Prod.exists];refine⟨o,d,xs,ps,fs,rfl,hw,hd,hfs,fun H1 s1=>?_⟩;simp -dsimp[au,stC,-Bool.exists_bool,-List.map_take,-Prod.forall,-Prod.exists];refine⟨o,d,xs,ps,gB fs,rfl,hw.same s1,hX,hTs,Oi (s1 _ _ hd),fun hn hb H2 s2=>?_,fun x hx dx c H2 hc hdx ec s2=>?_,fun hn k lot rest hb dx c H2 hc hdx ec s2=>?_⟩
    · have S2:=s1.trans s2;simp -dsimp[au,stC,-Bool.exists_bool,-List.map_take,-Prod.forall,-Prod.exists];intro td htd;have s3:Same H2 (upd H2 td (.dK [])):=aA htd;have e3:upd H2 td (.dK []) td=some (.dK (([]:List FE).map feK)):=ao;generalize upd H2 td (.dK [])=H3 at s3 e3 ⊢;have S3:=S2.trans s3;have td0:H td=none:=cF S2 htd;refine⟨o,d,xs,ps,fs,rfl,hw.same S3,Xh,S3 _ _ hd,fun fl H4 hfl efl s4=>?_⟩;have S4:=S3.trans s4;have flt:fl≠td:=fun z=>by rw[z,e3] at hfl;cases hfl
      have ndF:=VH fs ps.length;have qcG:∀k∈cM fs ps.length,k<ps.length∧k∉fs.map (·.1):=fun k hk=>Ib.mp hk;simp -dsimp[au,stC,-Bool.exists_bool,-List.map_take,-Prod.forall,-Prod.exists];refine⟨⟨_,bU.of efl⟩,frL (fH (cM fs ps.length)) (fun i σ H'=>(∃o3 o4 o5,σ=[some (.ref o),some (.ref d),some (.ref td),o3,o4,o5])∧Rm ps xs fs H H' td (Bm ps xs fs ((cM fs ps.length).take i))∧H' fl=some (.lst (fH (cM fs ps.length)))∧Same H H') ⟨⟨_,_,_,rfl⟩,⟨[],s4 _ _ e3,by simp,by simp[Bm],by simp⟩,efl,S4⟩ (fun i σ H' _ h=>bU.of h.2.2.1) ?_ ?_⟩
      · rintro i v σ H5 hi ⟨⟨o3,o4,o5,rfl⟩,hF5,el,s5⟩;obtain⟨k,hk,rfl⟩:∃k,(cM fs ps.length)[i]? = some k∧v = .int (k:Nat):=by
          unfold fH at hi;rw[List.getElem?_map] at hi;obtain⟨k,hk,rfl⟩:=Option.map_eq_some_iff.mp hi;exact⟨k,hk,rfl⟩
        have hi2:=(List.getElem?_eq_some_iff.mp hk).1;have tk:(cM fs ps.length).take (i+1)=(cM fs ps.length).take i++[k]:=take_one hk;have hkm:=qcG k (List.mem_of_getElem? hk);have knt:k∉(cM fs ps.length).take i:=fun z=>by
          have h2:((cM fs ps.length).take i++[k]).Nodup:=by rw[← tk];exact ndF.sublist (List.take_sublist _ _)
          exact(List.nodup_append.mp h2).2.2 k z k (by simp) rfl
        have nb:=qaS hTs hfs hkm.1 hkm.2 hn hb;have tke:Bm ps xs fs ((cM fs ps.length).take (i+1))=Bm ps xs fs ((cM fs ps.length).take i)++(vh ps xs fs k 0++vh ps xs fs k 1):=by
          rw[tk];simp[Bm,qfw]
        have gk:∀e∈Bm ps xs fs ((cM fs ps.length).take i),e.1≠k:=fun e he z=>knt (z▸(qaR he).1);have gl:(Bm ps xs fs ((cM fs ps.length).take i)).length≤40:=by
          have h1:∀ks:List Nat,(Bm ps xs fs ks).length≤2 * ks.length:=fun ks=>by
            induction ks with
            | nil=>simp[Bm]
            | cons k ks ih=>
              have f1:∀l,(vh ps xs fs k l).length≤1:=fun l=>by unfold vh;split <;> simp
              have:=f1 0;have:=f1 1;simp only[Bm,List.flatMap_cons,qfw,List.length_append,List.length_cons] at ih ⊢;omega
          have h2:=h1 ((cM fs ps.length).take i);have h3:(cM fs ps.length).length≤ps.length:=by
            unfold cM;exact Nat.le_trans (List.length_filter_le _ _) (by rw[List.length_range];exact Nat.le_refl _)
          rw[List.length_take] at h2;omega
        rw[tke];generalize Bm ps xs fs ((cM fs ps.length).take i)=g0 at hF5 gk gl ⊢;simp -dsimp[au,stC,-Bool.exists_bool,-List.map_take,-Prod.forall,-Prod.exists];intro tt htt;have st:Same H5 (upd H5 tt (.tup [.int 0,.int 1])):=aA htt;have et:upd H5 tt (.tup [.int 0,.int 1]) tt=some (.tup [.int 0,.int 1]):=ao;generalize upd H5 tt (.tup [.int 0,.int 1])=H6 at st et ⊢;have ttd:tt≠td:=fun z=>by
          obtain⟨es,h1,_⟩:=hF5;rw[z,h1] at htt;cases htt
        have one:∀(ld:Int) (g:List (Nat×Int)) (σ:St) (H7:Hp),True:=fun _ _ _ _=>trivial;refine⟨⟨_,gY.of et⟩,frT [.int 0,.int 1] (fun j σ H'=>(∃o4 o5,σ=[some (.ref o),some (.ref d),some (.ref td),some (.int (k:Nat)),o4,o5])∧Rm ps xs fs H H' td (g0++TY ps xs fs k j)∧H' fl=some (.lst (fH (cM fs ps.length)))∧H' tt=some (.tup [.int 0,.int 1])∧Same H H') ⟨⟨_,_,rfl⟩,by rw[show TY ps xs fs k 0=[] from rfl,List.append_nil];exact hF5.same st,st _ _ el,et,s5.trans st⟩ (fun j σ H' _ h=>gY.of h.2.2.2.1) ?_ ?_⟩
        · rintro j v σ H7 hj ⟨⟨o4,o5,rfl⟩,hF7,el7,et7,s7⟩;obtain⟨ld,rfl,hld,hjl⟩:∃ld:Int,v = .int ld∧(ld=0∨ld=1)∧TY ps xs fs k (j+1)=TY ps xs fs k j++vh ps xs fs k ld∧(∀e∈TY ps xs fs k j,shB ps xs fs k (1 - ld)=true→False)∧(TY ps xs fs k j).length≤1:=by
            match j,hj with
            | 0,hj=>exact⟨0,by simpa using hj.symm,.inl rfl,rfl,fun e he=>(by cases he),Nat.zero_le _⟩
            | 1,hj=>exact⟨1,by simpa using hj.symm,.inr rfl,rfl,fun e he h=>nb h (by have:=(Ie he).2;simpa using this),by show(vh ps xs fs k 0).length≤1;unfold vh;split <;> simp⟩
          rw[hjl.1,← List.append_assoc];simp -dsimp[au,stC,-Bool.exists_bool,-List.map_take,-Prod.forall,-Prod.exists];refine⟨d,k,1 - ld,fs,rfl,s7 _ _ hd,by omega,hkm.2,fun r8 H8 hr8 e8 s8=>?_⟩;have S8:=s7.trans s8;refine⟨o,r8,xs,ps,_,rfl,hw.same S8,hX,hTs,Oi e8,fun H9 hn9 s9=>?_,fun x r H9 hx9 hr9 e9 s9=>?_⟩
          ·have s79:=s8.trans s9;simp -dsimp[au,stC,-Bool.exists_bool,-List.map_take,-Prod.forall,-Prod.exists];refine⟨?_,s79 _ _ el7,s79 _ _ et7,s7.trans s79⟩;rw[show vh ps xs fs k ld=[] from if_neg (by unfold shB;rw[hn9];decide),List.append_nil];exact hF7.same s79
          · have s79:=s8.trans s9;have hsh:shB ps xs fs k (1 - ld)=true:=by unfold shB;rw[hx9];rfl
            rw[show vh ps xs fs k ld=[(k,ld)] from if_pos hsh];simp -dsimp[au,stC,-Bool.exists_bool,-List.map_take,-Prod.forall,-Prod.exists];intro p hp;have sp:Same H9 (upd H9 p (.tup [.int ld,.ref r])):=aA hp;have ep:upd H9 p (.tup [.int ld,.ref r]) p=some (.tup [.int ld,.ref r]):=ao;have epr:=sp _ _ e9;generalize upd H9 p (.tup [.int ld,.ref r])=H10 at sp ep epr ⊢;obtain⟨es,f1,f2,f3,f4⟩:=hF7;have sA:=s79.trans sp;have ekn:∀e∈es,e.k≠k:=fun e he z=>by
              have h1:(e.k,e.ld)∈g0++TY ps xs fs k j:=by rw[← f3];exact List.mem_map.mpr ⟨e,he,rfl⟩
              rcases List.mem_append.mp h1 with h1 | h1
              ·exact gk _ h1 z
              ·exact hjl.2.1 _ h1 hsh
            have esl:es.length≤41:=by
              have h1:=congrArg List.length f3;rw[List.length_map,List.length_append] at h1;have:=hjl.2.2;omega
            have neT:∀{b:Addr} {u:HO},H10 b=some u→(∀kvs,u≠.dK kvs)→b≠td:=fun h1 h2 z=>by
              rw[z,sA _ _ f1] at h1;injection h1 with h1;exact h2 _ h1.symm
            have rtd:r≠td:=neT epr (fun _ z=>by cases z);have ptd:p≠td:=neT ep (fun _ z=>by cases z);refine⟨_,.inl ⟨_,Sum.inl ((k:Nat):Int),sA _ _ f1,rfl,by rw[List.length_map];omega,rfl⟩,⟨es++[⟨k,ld,p,r,restOf (aN (gB (fs++[(k,1 - ld)])) ps 0) xs x⟩],?_,fun e he=>?_,?_,?_⟩,?_,?_,cA (s7.trans sA) td0⟩
            ·rw[ao,qfx ekn,List.map_append];rfl
            · rcases List.mem_append.mp he with he | he
              ·have h1:=(f2 e he).same sA;exact⟨by rw[aB (neT h1.tp (fun _ z=>by cases z))];exact h1.tp,by rw[aB (neT h1.lt (fun _ z=>by cases z))];exact h1.lt,h1.nw,h1.sh⟩
              ·rw[List.mem_singleton] at he;subst he;exact⟨by rw[aB ptd];exact ep,by rw[aB rtd];exact epr,cF S8 hr9,x,hx9,rfl⟩
            ·rw[List.map_append,f3,List.append_assoc];rfl
            ·rw[List.map_append];refine List.nodup_append.mpr ⟨f4,by simp,fun y hy z hz=>?_⟩;obtain⟨e,he,rfl⟩:=List.mem_map.mp hy;simp at hz;subst hz;intro w;have h1:=s8 _ _ (f2 e he).lt;rw[w,hr9] at h1;cases h1
            ·rw[aB flt];exact sA _ _ el7
            ·rw[aB ttd];exact sA _ _ et7
        ·rintro σ H7 ⟨⟨o4,o5,rfl⟩,hF7,el7,et7,s7⟩;simp -dsimp[au,stC,-Bool.exists_bool,-List.map_take,-Prod.forall,-Prod.exists];exact⟨hF7,el7,s7⟩
      · rintro σ H5 ⟨⟨o3,o4,o5,rfl⟩,⟨es,f1,f2,f3,f4⟩,el,s5⟩;have hl:(fH (cM fs ps.length)).length=(cM fs ps.length).length:=by simp[fH]
        rw[hl,List.take_length] at f3;simp -dsimp[au,stC,-Bool.exists_bool,-List.map_take,-Prod.forall,-Prod.exists];exact q1 hn hb td es H5 td0 f1 f2 f3 f4 s5
    ·exact q2 x hx dx c H2 (cF s1 hc) hdx ec (s1.trans s2)
    ·exact q3 hn k lot rest hb dx c H2 (cF s1 hc) hdx ec (s1.trans s2)
def tyD:PyData→String
  | .none=> "NoneType"
  | .bool _=> "bool"
  | .int _=> "int"
  | .str _=> "str"
  | .list _=> "list"
  | .tuple _=> "tuple"
  | .dict _=> "dict"
def intD:PyData→Bool
  | .int _=>true
  | .bool _=>true
  | _=>false
def qdN:PyData→Bool
  | .bool _=>true
  | _=>false
def Ig:PyData→Bool
  | .int _=>true
  | _=>false
theorem T3 {H:Hp} {d:PyData} {v:V} (h:dw H d v):lG K H v (.type (tyD d)):=by
  cases d with
  | none=>simp only[dw] at h;subst h;exact .non
  | bool b=>simp only[dw] at h;subst h;exact .bl b
  | int i=>simp only[dw] at h;subst h;exact .int i
  | str x=>simp only[dw] at h;subst h;exact .str x
  | list ds=>simp only[dw] at h;obtain⟨a,xs,rfl,h1,_⟩:=h;exact .lst h1
  | tuple ds=>simp only[dw] at h;obtain⟨a,xs,rfl,h1,_⟩:=h;exact .tup h1
  | dict ds=>simp only[dw] at h;obtain⟨a,rfl,h1⟩:=h;rcases h1 with⟨_,_,h1⟩ | ⟨_,_,h1⟩ <;> first | exact .dK h1 | exact .dT h1
theorem qaT (d:PyData):W.kitOne K (.type (tyD d)) (.type "int")=some (intD d):=by
  cases d with
  | none=>exact Aq K
  | bool b=>exact Mw K
  | int i=>exact Dc K
  | str x=>exact PN K
  | list ds=>exact Ms K
  | tuple ds=>exact Jw K
  | dict ds=>exact Mx K
theorem Xr (d:PyData):W.kitOne K (.type (tyD d)) (.type "bool")=some (qdN d):=by
  cases d with
  | none=>exact yL K
  | bool b=>exact Jx K
  | int i=>exact yK K
  | str x=>exact Mt K
  | list ds=>exact Ju K
  | tuple ds=>exact Gp K
  | dict ds=>exact Jz K
def Ol:Sp:=fun vs H Q _=>∃(d:PyData) (v:V),vs=[v]∧dw H d v∧Q (.bl (Ig d)) H
theorem zW (T:Txt K mg a):bZ P w K mg base lB 1 a.fW a.kO ["thing"] Ol:=by
  refine T.je.sV Dm (fun vs H Q E h=>?_) (fun cdv A outer s H vs Q E hr h=>?_)
  ·obtain⟨d,v,rfl,_⟩:=h;rfl
  · obtain⟨d,v,rfl,hd,q⟩:=h;refine⟨_,(aF (bh (m7 (aM (sU (K:=K) rfl) rfl T.nm.isinstance boot_isinstance (aj (aL 0) (aj (iU (v:=.ty "int") rfl T.nm.int Ak rfl) ak))) (rW (Va (aM (sU (K:=K) rfl) rfl T.nm.isinstance boot_isinstance (aj (aL 0) (aj (iU (v:=.ty "bool") rfl T.Tv.bool Ga rfl) ak)))))))),?_⟩;simp -dsimp[au,stC,-Bool.exists_bool,-List.map_take,-Prod.forall,-Prod.exists];refine⟨_,T3 hd,_,qaT d,?_⟩;cases hi:intD d with
    | false=>
      refine iB.neg rfl ?_;simp -dsimp[au,stC,-Bool.exists_bool,-List.map_take,-Prod.forall,-Prod.exists];rw[show Ig d=false by cases d <;> first | rfl | cases hi] at q
      exact q
    | true=>
      refine iB.pos rfl ?_;simp -dsimp[au,stC,-Bool.exists_bool,-List.map_take,-Prod.forall,-Prod.exists];refine⟨_,T3 hd,_,Xr d,?_⟩;rw[show Ig d = !qdN d by cases d <;> first | rfl | cases hi] at q
      exact q
def nrD (n:Nat):PyData→Bool
  | .int k=>decide (0≤k) && decide (k<n)
  | _=>false
def JT (C:Addr):Sp:=fun vs H Q _=>∃(o:Addr) (v:V) (d:PyData) (xs:List Str) (ps:List (Str×Str)),vs=[.ref o,v]∧cW C H o xs ps∧dw H d v∧Q (.bl (nrD ps.length d)) H
theorem vM (T:Txt K mg a):bZ P w K mg base lB 2 a.fj a.ju ["web", "thing"] (JT a.bG):=by
  refine T.gR.sV zf (fun vs H Q E h=>?_) (fun cdv A outer s H vs Q E hr h=>?_)
  ·obtain⟨o,v,d,xs,ps,rfl,_⟩:=h;rfl
  · obtain⟨o,v,d,xs,ps,rfl,hw,hd,q⟩:=h;refine⟨_,(aF (bh (m7 (PE.eqv (aJ (zW (K:=K) T) (hr.mono (by decide)) rfl T.mO T.je.kp T.mL .nil aW (aj (aL 1) ak)) (aH _ _ _)) (rW (uF nU Gv aG (aL 1) (PE.eqv (j9 (aL 0) T.nG T.mR (nM (K:=K) T) (hr.mono (by decide)) T.mQ .nil aW) (kh _ _ _ _ _ _))))))),?_⟩;obtain⟨dx,fs,hi,hno⟩:=hw.ins nJ.1 nJ.2;simp -dsimp[au,stC,-Bool.exists_bool,-List.map_take,-Prod.forall,-Prod.exists];refine⟨d,v,rfl,hd,?_⟩;cases hwh:Ig d with
    | false=>
      rw[show nrD ps.length d=false by cases d <;> first | rfl | cases hwh] at q
      simp -dsimp[au,stC,-Bool.exists_bool,-List.map_take,-Prod.forall,-Prod.exists];exact q
    | true=>
      obtain⟨k,rfl⟩:∃i,d = .int i:=by cases d <;> first | exact⟨_,rfl⟩ | cases hwh
      simp only[dw] at hd;subst hd;simp only[nrD] at q;simp -dsimp[au,stC,-Bool.exists_bool,-List.map_take,-Prod.forall,-Prod.exists];refine iB.of (fun h=>?_) (fun h=>?_)
      ·rw[h] at q;simp -dsimp[au,stC,-Bool.exists_bool,-List.map_take,-Prod.forall,-Prod.exists];exact⟨_,_,hi,hno,o,xs,ps,rfl,hw,q⟩
      ·rw[h] at q;simp -dsimp[au,stC,-Bool.exists_bool,-List.map_take,-Prod.forall,-Prod.exists];exact q
def ldD:PyData→Bool
  | .int k=>decide (0≤k) && decide (k≤1)
  | _=>false
def Rn:Sp:=fun vs H Q _=>∃(v:V) (d:PyData),vs=[v]∧dw H d v∧Q (.bl (ldD d)) H
theorem DR (T:Txt K mg a):bZ P w K mg base lB 2 a.h_ a.mK ["thing"] Rn:=by
  refine T.jO.sV G7 (fun vs H Q E h=>?_) (fun cdv A outer s H vs Q E hr h=>?_)
  ·obtain⟨v,d,rfl,_⟩:=h;rfl
  · obtain⟨v,d,rfl,hd,q⟩:=h;refine⟨_,(aF (bh (m7 (PE.eqv (aJ (zW (K:=K) T) (hr.mono (by decide)) rfl T.mO T.je.kp T.mL .nil aW (aj (aL 0) ak)) (aH _ _ _)) (rW (uF nU nU aG (aL 0) aG))))),?_⟩;simp -dsimp[au,stC,-Bool.exists_bool,-List.map_take,-Prod.forall,-Prod.exists];refine⟨d,v,rfl,hd,?_⟩;cases hwh:Ig d with
    | false=>
      rw[show ldD d=false by cases d <;> first | rfl | cases hwh] at q
      simp -dsimp[au,stC,-Bool.exists_bool,-List.map_take,-Prod.forall,-Prod.exists];exact q
    | true=>
      obtain⟨k,rfl⟩:∃i,d = .int i:=by cases d <;> first | exact⟨_,rfl⟩ | cases hwh
      simp only[dw] at hd;subst hd;simp only[ldD] at q;simp -dsimp[au,stC,-Bool.exists_bool,-List.map_take,-Prod.forall,-Prod.exists];refine iB.of (fun h=>?_) (fun h=>?_)
      ·rw[h] at q;simp -dsimp[au,stC,-Bool.exists_bool,-List.map_take,-Prod.forall,-Prod.exists];exact q
      ·rw[h] at q;simp -dsimp[au,stC,-Bool.exists_bool,-List.map_take,-Prod.forall,-Prod.exists];exact q
theorem Om {H:Hp}:∀{vs:List V} {ds:List PyData},LfL vs ds→eO H ds vs
  | _,_,.nil=>by simp[eO]
  | _,_,.cons l t=>by
    simp only[eO];refine⟨_,_,rfl,?_,Om t⟩;cases l <;> simp[dw]
theorem Oo {H:Hp} {v:V} {d:PyData} (h:Xa H v d):dw H d v:=by
  cases h with
  | leaf l=>cases l <;> simp[dw]
  | tup e l=>simp only[dw];exact⟨_,_,rfl,e,Om l⟩
theorem VL {H:Hp} {v:V} {d:PyData} (h:Tc H v d):dw H d v:=by
  cases h with
  | key k=>exact Oo k
  | lst e n l=>simp only[dw];exact⟨_,_,rfl,e,Om l⟩
  | emp e=>simp only[dw];exact⟨_,rfl,.inl ⟨[],.nil,e⟩⟩
theorem Ro {H:Hp} {ks:List (V×V)} {ds:List (PyData×PyData)} (h:kI H ks ds):∀{i:Nat} {k x:V},ks[i]? = some (k,x)→∃dk dv,ds[i]? = some (dk,dv)∧Xa H k dk∧Tc H x dv:=by
  induction h with
  | nil=>intro i k x e;simp at e
  | cons a b _ ih=>
    intro i k x e;cases i with
    | zero=>simp at e;obtain⟨rfl,rfl⟩:=e;exact⟨_,_,rfl,a,b⟩
    | succ i=>exact ih (i:=i) (by simpa using e)
theorem Rp {H:Hp} {ks:List (V×V)} {ds:List (PyData×PyData)} (h:kI H ks ds):ds.length=ks.length:=by
  induction h with
  | nil=>rfl
  | cons _ _ _ ih=>simp[ih]
def qdO (n:Nat) (l:List (PyData×PyData)):Prop:=l.all (fun e=>nrD n e.1 && ldD e.2)=true
def Qo (n:Nat) (e:PyData×PyData):Bool:=nrD n e.1 && ldD e.2
theorem Xu {d:PyData} (h:tyD d≠ "dict"):W.kitOne K (.type (tyD d)) (.type "dict")=some false:=by
  cases d with
  | none=>exact yM K
  | bool b=>exact Jy K
  | int i=>exact Mv K
  | str x=>exact Mu K
  | list ds=>exact Jv K
  | tuple ds=>exact Gq K
  | dict ds=>exact absurd rfl h
def zX (C N:Addr):Sp:=fun vs H _ E=>∃(o:Addr) (v:V) (d:PyData),vs=[.ref o,v]∧dw H d v∧tyD d≠ "dict" ∧∀H',Same H H'→E (.ref N) none H'
theorem zY (T:Txt K mg a):bZ P w K mg base (GK P w) 3 a.bB a.b_ ["web", "thing"] (zX a.bG a.aR):=by
  refine T.cL.Qt bC (fun vs H Q E h=>?_) (fun cdv A outer s H vs Q E hr h=>?_)
  ·obtain⟨o,v,d,rfl,_⟩:=h;rfl
  · obtain⟨o,v,d,rfl,hd,hnd,q⟩:=h;refine⟨_,(aC (dg (d8 (cU (aM (sU (K:=K) rfl) rfl T.nm.isinstance boot_isinstance (aj (aL 1) (aj (iU (v:=.ty "dict") rfl T.Tv.dict gH rfl) ak))))) (aF (pH (E:=E) iW rfl rfl T.eG rfl T.ji (aj c7 ak))) bM)
      (aF (iy PassesOwn.leaving rfl (PI.eqv (GX (aL 1)) (GZ _)) (PG.eqv (g8 (K:=K) (n:=2) rfl rfl (lE.eqv (bN (aU (i:=2) bC.nd rfl (Or.inl rfl)) (lE.eqv (bN (aU (i:=3) bC.nd rfl (Or.inl rfl)) (lE.mono gZ jJ)) (bO _ _))) (bO _ _))) (g_ _ _ _))
      (aF (dg (PW.pt (pB (d8 (cU (PE.eqv (aJ (zP (K:=K) T) (hr.mono (by decide)) rfl T.k_ T.gR.kp T.kZ .nil aW (aj (aL 0) (aj (aL 2) ak))) (aH _ _ _)))) (lD (d8 (cU (PE.eqv (aJ (HX (K:=K) T) (hr.mono (by decide)) rfl T.pP T.jO.kp T.pO .nil aW (aj (aL 3) ak)) (aH _ _ _))))))) (aF (pH (E:=E) iW rfl rfl T.eG rfl T.ji (aj c7 ak))) bM))))),?_⟩
    simp -dsimp[au,stC,-Bool.exists_bool,-List.map_take,-Prod.forall,-Prod.exists];refine⟨_,T3 hd,_,Xu hnd,?_⟩;simp -dsimp[au,stC,-Bool.exists_bool,-List.map_take,-Prod.forall,-Prod.exists];exact q _ (Same.refl _)
theorem take_all {α:Type} {p:α→Bool} {l:List α} {i:Nat} {x:α} (h:(l.take i).all p=true) (hx:l[i]? = some x) (hp:p x=true):(l.take (i+1)).all p=true:=by
  rw[take_one hx,List.all_append,h];simp[hp]
def zZ (C N:Addr):Sp:=fun vs H _ E=>∃(o d:Addr) (ob:Obj) (xs:List Str) (ps:List (Str×Str)) (kvs:List (V×V)) (ds:List (PyData×PyData)),vs=[.ref o,.ref d]∧cW C H o xs ps∧H d=some (yZ d ob)∧Bb ob kvs∧kI H kvs ds∧ds.all (Qo ps.length)=false∧∀H',Same H H'→E (.ref N) none H'
theorem z6 (T:Txt K mg a):bZ P w K mg base (GK P w) 3 a.bB a.b_ ["web", "thing"] (zZ a.bG a.aR):=by
  refine T.cL.Qt bC (fun vs H Q E h=>?_) (fun cdv A outer s H vs Q E hr h=>?_)
  ·obtain⟨o,d,ob,xs,ps,kvs,ds,rfl,_⟩:=h;rfl
  · obtain⟨o,d,ob,xs,ps,kvs,ds,rfl,hw,hd,ro,rk,hbad,q⟩:=h;refine⟨_,(aC (dg (d8 (cU (aM (qg1 (K:=K) rfl) rfl T.nm.isinstance boot_isinstance (aj (aL 1) (aj (iU (v:=.ty "dict") rfl T.Tv.dict gH rfl) ak))))) (aF (pH (E:=E) iW rfl rfl T.eG rfl T.ji (aj c7 ak))) bM)
      (aF (iy PassesOwn.leaving rfl (qfc (aL 1)) (PG.eqv (g8 (K:=K) (n:=2) rfl rfl (lE.eqv (bN (aU (i:=2) bC.nd rfl (Or.inl rfl)) (lE.eqv (bN (aU (i:=3) bC.nd rfl (Or.inl rfl)) (lE.mono gZ jJ)) (bO _ _))) (bO _ _))) (g_ _ _ _))
      (aF (dg (PW.pt (pB (d8 (cU (PE.eqv (aJ (vM (K:=K) T) (hr.mono (by decide)) rfl T.k_ T.gR.kp T.kZ .nil aW (aj (aL 0) (aj (aL 2) ak))) (aH _ _ _)))) (lD (d8 (cU (PE.eqv (aJ (DR (K:=K) T) (hr.mono (by decide)) rfl T.pP T.jO.kp T.pO .nil aW (aj (aL 3) ak)) (aH _ _ _))))))) (aF (pH (E:=E) iW rfl rfl T.eG rfl T.ji (aj c7 ak))) bM))))),?_⟩
    have ll:=Rp rk;simp -dsimp[au,stC,-Bool.exists_bool,-List.map_take,-Prod.forall,-Prod.exists];refine⟨ob,hd,⟨kvs,ro⟩,true,nR K,?_⟩;simp -dsimp[au,stC,-Bool.exists_bool,-List.map_take,-Prod.forall,-Prod.exists];refine⟨ob,hd,kvs,ro,qj9 (fun i σ H'=>(∃o2 o3,σ=[some (.ref o),some (.ref d),o2,o3])∧Same H H'∧qdO ps.length (ds.take i)) ⟨⟨_,_,rfl⟩,Same.refl _,rfl⟩ (fun i σ H' h=>⟨?_,h.2.1 _ _ hd⟩) ?_⟩
    · rcases Nat.lt_or_ge i kvs.length with z | z
      ·exact z
      ·have:(ds.take i).all (Qo ps.length)=true:=h.2.2;rw[List.take_of_length_le (by omega),hbad] at this;cases this
    · rintro i k x t σ H2 hk ht ⟨⟨o2,o3,rfl⟩,s2,ha⟩;obtain⟨dk,dv,hds,hK,hX⟩:=Ro rk hk;have st:Same H2 (upd H2 t (.tup [k,x])):=aA ht;have et:upd H2 t (.tup [k,x]) t=some (.tup [k,x]):=ao;generalize upd H2 t (.tup [k,x])=H3 at st et ⊢;have S3:=s2.trans st;simp -dsimp[au,stC,-Bool.exists_bool,-List.map_take,-Prod.forall,-Prod.exists];refine⟨_,gY.of et,rfl,?_⟩;simp -dsimp[au,stC,-Bool.exists_bool,-List.map_take,-Prod.forall,-Prod.exists];refine⟨o,k,dk,xs,ps,rfl,hw.same S3,dw.same S3 _ _ (Oo hK),?_⟩;cases hn:nrD ps.length dk with
      | false=>
        simp -dsimp[au,stC,-Bool.exists_bool,-List.map_take,-Prod.forall,-Prod.exists];exact q _ S3
      | true=>
        simp -dsimp[au,stC,-Bool.exists_bool,-List.map_take,-Prod.forall,-Prod.exists];refine⟨x,dv,rfl,dw.same S3 _ _ (VL hX),?_⟩;cases hl:ldD dv with
        | false=>
          simp -dsimp[au,stC,-Bool.exists_bool,-List.map_take,-Prod.forall,-Prod.exists];exact q _ S3
        | true=>
          simp -dsimp[au,stC,-Bool.exists_bool,-List.map_take,-Prod.forall,-Prod.exists];exact⟨S3,take_all (p:=Qo ps.length) ha hds (by simp[Qo,hn,hl])⟩
def wH (C N:Addr):Sp:=fun vs H _ E=>∃(o d:Addr) (xs:List Str) (ps:List (Str×Str)) (ks:List (Key×V)) (ds:List (PyData×PyData)),vs=[.ref o,.ref d]∧cW C H o xs ps∧H d=some (.dK ks)∧kI (hid d H) (JC ks) ds∧ds.all (Qo ps.length)=false∧
  ∀(ob:Obj) (H':Hp),H' d=some (.iG ob (.dK ks))→(∀b u,b≠d→H b=some u→H' b=some u)→E (.ref N) none H'
theorem qaU {C o d:Addr} {H:Hp} {ob:Obj} {ks:List (Key×V)} {xs:List Str} {ps:List (Str×Str)} (hw:cW C H o xs ps) (hd:H d=some (.dK ks)):cW C (upd H d (.iG ob (.dK ks))) o xs ps:=by
  obtain⟨dx,n,m,tv,h1,h2,h3,h4,h5⟩:=hw.ex;have nd:∀{b:Addr} {u:HO},H b=some u→(∀ks,u≠.dK ks)→upd H d (.iG ob (.dK ks)) b=some u:=fun e hn=>by
    rw[aB fun z=>by rw[z,hd] at e;exact hn _ (Option.some.inj e).symm];exact e
  exact⟨⟨dx,n,m,tv,nd h1 (by intro ks z;cases z),nd h2 (by intro ks z;cases z),nd h3 (by intro ks z;cases z),h4.keep (fun b us e=>nd e (by intro ks z;cases z)),h5⟩⟩
theorem wI (T:Txt K mg a):bZ P w K mg base (GK P w) 3 a.bB a.b_ ["web", "thing"] (wH a.bG a.aR):=by
  refine T.cL.Qt bC (fun vs H Q E h=>?_) (fun cdv A outer s H vs Q E hr h=>?_)
  ·obtain⟨o,d,xs,ps,ks,ds,rfl,_⟩:=h;rfl
  · obtain⟨o,d,xs,ps,ks,ds,rfl,hw,hd,rk,hbad,q⟩:=h;refine⟨_,(aC (dg (d8 (cU (aM (sU (K:=K) rfl) rfl T.nm.isinstance boot_isinstance (aj (aL 1) (aj (iU (v:=.ty "dict") rfl T.Tv.dict gH rfl) ak))))) (aF (pH (E:=E) iW rfl rfl T.eG rfl T.ji (aj c7 ak))) bM)
      (aF (iy PassesOwn.leaving rfl (PI.eqv (GX (aL 1)) (GZ _)) (PG.eqv (g8 (K:=K) (n:=2) rfl rfl (lE.eqv (bN (aU (i:=2) bC.nd rfl (Or.inl rfl)) (lE.eqv (bN (aU (i:=3) bC.nd rfl (Or.inl rfl)) (lE.mono gZ jJ)) (bO _ _))) (bO _ _))) (g_ _ _ _))
      (aF (dg (PW.pt (pB (d8 (cU (PE.eqv (aJ (vM (K:=K) T) (hr.mono (by decide)) rfl T.k_ T.gR.kp T.kZ .nil aW (aj (aL 0) (aj (aL 2) ak))) (aH _ _ _)))) (lD (d8 (cU (PE.eqv (aJ (DR (K:=K) T) (hr.mono (by decide)) rfl T.pP T.jO.kp T.pO .nil aW (aj (aL 3) ak)) (aH _ _ _))))))) (aF (pH (E:=E) iW rfl rfl T.eG rfl T.ji (aj c7 ak))) bM))))),?_⟩
    have ll:=Rp rk;have kl:(JC ks).length=ks.length:=by simp[JC]
    simp -dsimp[au,stC,-Bool.exists_bool,-List.map_take,-Prod.forall,-Prod.exists];refine⟨_,.dK hd,_,nR K,iB.neg rfl ?_⟩;simp -dsimp[au,stC,-Bool.exists_bool,-List.map_take,-Prod.forall,-Prod.exists];refine⟨_,.inl hd,fun ob hob=>?_⟩;have hwf:cW a.bG (upd H d (.iG ob (.dK ks))) o xs ps:=qaU hw hd;have ef:upd H d (.iG ob (.dK ks)) d=some (.iG ob (.dK ks)):=ao;have kf:∀b u,b≠d→H b=some u→upd H d (.iG ob (.dK ks)) b=some u:=fun b u hb e=>by rw[aB hb];exact e
    have hh:Same (hid d H) (upd H d (.iG ob (.dK ks))):=fun b u e=>by
      unfold hid at e;split at e
      ·cases e
      ·rename_i hb;exact kf b u hb e
    generalize upd H d (.iG ob (.dK ks))=Hf at hwf ef kf hh ⊢;refine frD (fun i σ H'=>(∃o2 o3,σ=[some (.ref o),some (.ref d),o2,o3])∧Same Hf H'∧qdO ps.length (ds.take i)) ⟨⟨_,_,rfl⟩,Same.refl _,rfl⟩ (fun i σ H' _ h=>h.2.1 _ _ ef) ?_ ?_
    · rintro i k x t σ H2 hk ht ⟨⟨o2,o3,rfl⟩,s2,ha⟩;obtain⟨dk,dv,hds,hK,hX⟩:=Ro (k:=kV k) (x:=x) (i:=i) rk (by unfold JC;rw[List.getElem?_map,hk];rfl);have st:Same H2 (upd H2 t (.tup [kV k,x])):=aA ht;have et:upd H2 t (.tup [kV k,x]) t=some (.tup [kV k,x]):=ao;generalize upd H2 t (.tup [kV k,x])=H3 at st et ⊢;have S3:=s2.trans st;have qq:∀H',Same H3 H'→E (.ref a.aR) none H':=fun H' s'=>q ob H' (s' _ _ (S3 _ _ ef)) fun b u hb e=>s' _ _ (S3 _ _ (kf b u hb e));simp -dsimp[au,stC,-Bool.exists_bool,-List.map_take,-Prod.forall,-Prod.exists];refine⟨_,gY.of et,rfl,?_⟩;simp -dsimp[au,stC,-Bool.exists_bool,-List.map_take,-Prod.forall,-Prod.exists];refine⟨o,kV k,dk,xs,ps,rfl,hwf.same S3,dw.same (hh.trans S3) _ _ (Oo hK),?_⟩;cases hn:nrD ps.length dk with
      | false=>
        simp -dsimp[au,stC,-Bool.exists_bool,-List.map_take,-Prod.forall,-Prod.exists];exact qq _ (Same.refl _)
      | true=>
        simp -dsimp[au,stC,-Bool.exists_bool,-List.map_take,-Prod.forall,-Prod.exists];refine⟨x,dv,rfl,dw.same (hh.trans S3) _ _ (VL hX),?_⟩;cases hl:ldD dv with
        | false=>
          simp -dsimp[au,stC,-Bool.exists_bool,-List.map_take,-Prod.forall,-Prod.exists];exact qq _ (Same.refl _)
        | true=>
          simp -dsimp[au,stC,-Bool.exists_bool,-List.map_take,-Prod.forall,-Prod.exists];exact⟨S3,take_all (p:=Qo ps.length) ha hds (by simp[Qo,hn,hl])⟩
    ·rintro σ H2 ⟨⟨o2,o3,rfl⟩,s2,ha⟩;have:(ds.take ks.length).all (Qo ps.length)=true:=ha;rw[List.take_of_length_le (by omega),hbad] at this;cases this
def z7 (C N:Addr):Sp:=fun vs H _ E=>∃(o d:Addr) (xs:List Str) (ps:List (Str×Str)) (ks:List (Key×V)) (ds:List (PyData×PyData)),vs=[.ref o,.ref d]∧cW C H o xs ps∧H d=some (.dK ks)∧kI (hid d H) (JC ks) ds∧ds.all (Qo ps.length)=false∧∀H',Same H H'→E (.ref N) none H'
theorem z8 (T:Txt K mg a):bZ P w K mg base (GK P w) 3 a.bB a.b_ ["web", "thing"] (z7 a.bG a.aR):=by
  refine(wI T).jM.imp fun vs H Q E h=>?_;obtain⟨o,d,xs,ps,ks,ds,rfl,hw,hd,rk,hbad,q⟩:=h;refine⟨o,d,xs,ps,ks,ds,rfl,hw,hd,rk,hbad,fun ob H' e k=>q _ (KY fun b u hb=>?_)⟩
  by_cases z:b=d
  ·subst z;rw[hd] at hb;cases hb;exact .inr ⟨fun o v y=>(by cases y),ob,e⟩
  ·exact .inl (k b u z hb)
def Xv (H:Hp) (v:V) (n:Nat):Prop:=(∃d,dw H d v∧tyD d≠ "dict")∨(∃d ks ds,v = .ref d∧H d=some (.dK ks)∧kI (hid d H) (JC ks) ds∧ds.all (Qo n)=false)∨∃d ob kvs ds,v = .ref d∧H d=some (yZ d ob)∧Bb ob kvs∧kI H kvs ds∧ds.all (Qo n)=false
theorem Xv.same {H H':Hp} {v:V} {n:Nat} (s:Same H H') (h:Xv H v n):Xv H' v n:=by
  rcases h with⟨d,h1,h2⟩ | ⟨d,ks,ds,rfl,h1,h2,h3⟩ | ⟨d,ob,kvs,ds,rfl,h1,h2,h3,h4⟩
  ·exact .inl ⟨d,dw.same s d v h1,h2⟩
  ·exact .inr (.inl ⟨d,ks,ds,rfl,s _ _ h1,h2.same (kj s),h3⟩)
  ·exact .inr (.inr ⟨d,ob,kvs,ds,rfl,s _ _ h1,h2,h3.same s,h4⟩)
def fB (C N:Addr):Sp:=fun vs H _ E=>∃(o:Addr) (v:V) (xs:List Str) (ps:List (Str×Str)),vs=[.ref o,v]∧cW C H o xs ps∧Xv H v ps.length∧∀H',Same H H'→E (.ref N) none H'
theorem nO (T:Txt K mg a):bZ P w K mg base (GK P w) 3 a.bB a.b_ ["web", "thing"] (fB a.bG a.aR):=by
  refine(((zY T).or (z8 T)).or (z6 T)).imp fun vs H Q E h=>?_;obtain⟨o,v,xs,ps,rfl,hw,hb,q⟩:=h
  rcases hb with⟨d,h1,h2⟩ | ⟨d,ks,ds,rfl,h1,h2,h3⟩ | ⟨d,ob,kvs,ds,rfl,h1,h2,h3,h4⟩
  ·exact .inl (.inl ⟨o,v,d,rfl,h1,h2,q⟩)
  ·exact .inl (.inr ⟨o,d,xs,ps,ks,ds,rfl,hw,h1,h2,h3,q⟩)
  ·exact .inr ⟨o,d,ob,xs,ps,kvs,ds,rfl,hw,h1,h2,h3,h4,q⟩
theorem Bo (T:Txt K mg a):bZ P w K mg base (GK P w) 6 a.cI a.eF ["web", "fixed"] (fB a.bG a.aR):=by
  refine T.jx.Qt iZ (fun vs H Q E h=>?_) (fun cdv A outer s H vs Q E hr h=>?_)
  ·obtain⟨o,v,xs,ps,rfl,_⟩:=h;rfl
  · obtain⟨o,v,xs,ps,rfl,hw,hb,q⟩:=h;refine⟨_,(aC (eN (PE.eqv (aJ (nO (K:=K) T) (hr.mono (by decide)) rfl T.gA T.cL.kp T.gw .nil (iW.passes rfl) (aj (aL 0) (aj (aL 1) ak))) (aH _ _ _)))
      JX),?_⟩
    simp -dsimp[au,stC,-Bool.exists_bool,-List.map_take,-Prod.forall,-Prod.exists];exact⟨o,v,xs,ps,rfl,hw,hb,q⟩
theorem T7 (T:Txt K mg a):bZ P w K mg base (GK P w) 6 a.iK a.mD ["web", "fixed"] (fB a.bG a.aR):=by
  refine T.zF.Qt mC (fun vs H Q E h=>?_) (fun cdv A outer s H vs Q E hr h=>?_)
  ·obtain⟨o,v,xs,ps,rfl,_⟩:=h;rfl
  · obtain⟨o,v,xs,ps,rfl,hw,hb,q⟩:=h;refine⟨_,(aC (eN (PE.eqv (aJ (nO (K:=K) T) (hr.mono (by decide)) rfl T.gA T.cL.kp T.gw .nil (iW.passes rfl) (aj (aL 0) (aj (aL 1) ak))) (aH _ _ _)))
      JX),?_⟩
    simp -dsimp[au,stC,-Bool.exists_bool,-List.map_take,-Prod.forall,-Prod.exists];exact⟨o,v,xs,ps,rfl,hw,hb,q⟩
@[simp ↓] theorem qiX (K:W.Frag) (xs:List V) (H:Hp) (Q:VK):qdA K xs H Q=(ar2 xs fun x y=>isRef x fun a=>∃C od b,H a=some (GP a C od)∧Ay K C∧Qs K C y=some b∧Q (.bl b) H):=rfl
def Rq (Nf Sh Ba:Addr):Addr→Sp:=fun e vs H Q _=>∃(C:Addr) (od:Option Addr) (wd:Str),vs=[.ref e]∧(C=Nf∧wd=Str.ofString "fixed" ∨C=Sh∧wd=Str.ofString "shut" ∨C=Ba∧wd=Str.ofString "barred")∧H e=some (GP e C od)∧∀(H':Hp),Same H H'→Q (.str wd) H'
theorem qaV (T:Txt K mg a):Vi P w K mg base 1 a.nA a.zq ["_law_e"] (Rq a.aR a.bV a.aP):=by
  refine T.Ob.qj3 G_ (fun e vs H Q E h=>?_) (fun e cdv A outer s H vs Q hr h=>?_)
  ·obtain⟨C,od,wd,rfl,_⟩:=h;rfl
  · obtain⟨C,od,wd,rfl,hC,he,q⟩:=h;refine⟨_,(aC (bI (i:=1) G_.nd rfl (Or.inl rfl) (jc (aj (aM (Vp (K:=K) rfl) rfl T.nm.isinstance boot_isinstance (aj (aL 0) (aj (cX (v:=.ref a.aR) rfl T.ji rfl) ak))) (aj (aM (Vp (K:=K) rfl) rfl T.nm.isinstance boot_isinstance (aj (aL 0) (aj (cX (v:=.ref a.bV) rfl T.Tt rfl) ak))) (aj (aM (Vp (K:=K) rfl) rfl T.nm.isinstance boot_isinstance (aj (aL 0) (aj (cX (v:=.ref a.aP) rfl T.Hw rfl) ak))) ak)))))
      (aC (bI (i:=2) G_.nd rfl (Or.inl rfl) (aM (qas (K:=K) rfl) rfl T.nm.isinstance boot_isinstance (aj (aL 0) (aj (d9 (aj (cX (v:=.ref a.bQ) rfl T.QT rfl) (aj (cX (v:=.ref a.bH) rfl T.Vy rfl) (aj (cX (v:=.ref a.cD) rfl T.Vx rfl) (aj (cX (v:=.ref a.aY) rfl T.Hv rfl) (aj (cX (v:=.ref a.aQ) rfl T.DG rfl) (aj (cX (v:=.ref a.bw) rfl T.K8 rfl) (aj (cX (v:=.ref a.aO) rfl T.zH rfl) (aj (cX (v:=.ref a.bR) rfl T.QV rfl) (aj (cX (v:=.ref a.cC) rfl T.Vw rfl) ak)))))))))) ak))))
      (aC (dg (PW.pt (pB (cU (aL 2)) (pB (cU (aM (qas (K:=K) rfl) rfl T.nm.isinstance boot_isinstance (aj (aL 0) (aj (d9 (aj (cX (v:=.ref a.bx) rfl T.K9 rfl) (aj (cX (v:=.ref a.aZ) rfl T.QX rfl) (aj (cX (v:=.ref a.cH) rfl T.qaE rfl) (aj (cX (v:=.ref a.bA) rfl T.K_ rfl) (aj (cX (v:=.ref a.bT) rfl T.QW rfl) ak)))))) ak)))) (lD (d8 (cU (aM (Vp (K:=K) rfl) rfl T.nm.isinstance boot_isinstance (aj (aL 0) (aj (iU (v:=.ty "ValueError") rfl T.iu qcb rfl) ak))))))))) (aF (bh c7)) bM)
      (aC (dg (bD sS (nQ (K:=K) rfl PySem.F.plainAttrs_list PySem.F.slot_list_count PySem.F.type_list_count (SM (K:=K) rfl) (aL 1) (aj pA ak)) aG (cP _)) (aF (bh c7)) bM)
      (aF (bh (gj (gq (K:=K) rfl) (jc (aj c7 (aj c7 (aj c7 ak)))) (nQ (K:=K) rfl PySem.F.plainAttrs_list PySem.F.slot_list_index PySem.F.type_list_index (SN (K:=K) rfl) (aL 1) (aj pA ak)) (fun _ _=>rfl)))))))),?_⟩
    have xcC:XC K C a.aq:=by
      rcases hC with⟨rfl,_⟩ | ⟨rfl,_⟩ | ⟨rfl,_⟩
      ·exact T.qP
      ·exact T.zM
      ·exact T.pW
    have Xw:Ay K C:=xcC.ask T.Lg T.Lh;have ndB:=(List.nodup_cons.mp T.nd).1;have ndA:=(List.nodup_cons.mp T.nd).2;have qkf:∀{D:Addr},D∈kY a→D≠a.aq:=fun h z=>ndB (z▸h);have kE:∀{D:Addr},XC K D a.aq→D∈kY a→Qs K C (.ref D)=some (decide (C=D)):=fun x h=>xcC.kit x (qkf h);have kF:=kE T.qP (by simp[kY]);have kS:=kE T.zM (by simp[kY]);have kB:=kE T.pW (by simp[kY]);have kV:=xcC.qj6;unfold kY at ndA;have no:∀D∈[a.bQ,a.bH,a.cD,a.aY,a.aQ,a.bw,a.aO,a.bR,a.cC,a.bx,a.aZ,a.cH,a.bA,a.bT],Qs K C (.ref D)=some false:=by
      intro D hD;have hne:C≠D:=by
        simp only[List.mem_cons,List.not_mem_nil,or_false] at hD
        rcases hC with⟨rfl,_⟩ | ⟨rfl,_⟩ | ⟨rfl,_⟩ <;> rcases hD with rfl | rfl | rfl | rfl | rfl | rfl | rfl | rfl | rfl | rfl | rfl | rfl | rfl | rfl <;> exact fun z=>by
          rw[z] at ndA;simp at ndA
      have hx:XC K D a.aq∧D∈kY a:=by
        simp only[List.mem_cons,List.not_mem_nil,or_false] at hD
        rcases hD with rfl | rfl | rfl | rfl | rfl | rfl | rfl | rfl | rfl | rfl | rfl | rfl | rfl | rfl
        ·exact⟨T.La,by simp[kY]⟩
        ·exact⟨T.Q5,by simp[kY]⟩
        ·exact⟨T.Q0,by simp[kY]⟩
        ·exact⟨T.DK,by simp[kY]⟩
        ·exact⟨T.zL,by simp[kY]⟩
        ·exact⟨T.Hx,by simp[kY]⟩
        ·exact⟨T.vK,by simp[kY]⟩
        ·exact⟨T.Lb,by simp[kY]⟩
        ·exact⟨T.QZ,by simp[kY]⟩
        ·exact⟨T.Hy,by simp[kY]⟩
        ·exact⟨T.Le,by simp[kY]⟩
        ·exact⟨T.Vz,by simp[kY]⟩
        ·exact⟨T.Hz,by simp[kY]⟩
        ·exact⟨T.Ld,by simp[kY]⟩
      rw[kE hx.1 hx.2,decide_eq_false hne]
    have n1:W.kitAny K (.ref C) ([a.bQ,a.bH,a.cD,a.aY,a.aQ,a.bw,a.aO,a.bR,a.cC].map Value.ref)=some false:=wg fun D hD=>no D (List.mem_append_left [a.bx,a.aZ,a.cH,a.bA,a.bT] hD);have n2:W.kitAny K (.ref C) ([a.bx,a.aZ,a.cH,a.bA,a.bT].map Value.ref)=some false:=wg fun D hD=>no D (List.mem_append_right [a.bQ,a.bH,a.cD,a.aY,a.aQ,a.bw,a.aO,a.bR,a.cC] hD);obtain⟨b1,b2,b3,e1,e2,e3,hw⟩:∃b1 b2 b3:Bool,decide (C=a.aR)=b1∧decide (C=a.bV)=b2∧decide (C=a.aP)=b3∧(([b1,b2,b3]=[true,false,false]∧wd=Str.ofString "fixed")∨([b1,b2,b3]=[false,true,false]∧wd=Str.ofString "shut")∨([b1,b2,b3]=[false,false,true]∧wd=Str.ofString "barred")):=by
      have x1:a.aR≠a.bV:=fun z=>by rw[z] at ndA;simp at ndA
      have x2:a.aR≠a.aP:=fun z=>by rw[z] at ndA;simp at ndA
      have x3:a.bV≠a.aP:=fun z=>by rw[z] at ndA;simp at ndA
      rcases hC with⟨rfl,rfl⟩ | ⟨rfl,rfl⟩ | ⟨rfl,rfl⟩
      ·exact⟨_,_,_,rfl,rfl,rfl,.inl ⟨by simp[x1,x2],rfl⟩⟩
      ·exact⟨_,_,_,rfl,rfl,rfl,.inr (.inl ⟨by simp[x1.symm,x3],rfl⟩)⟩
      ·exact⟨_,_,_,rfl,rfl,rfl,.inr (.inr ⟨by simp[x2.symm,x3.symm],rfl⟩)⟩
    rw[e1] at kF;rw[e2] at kS;rw[e3] at kB;have qke:200≤sizeLine:=by decide
    simp -dsimp[au,stC,-Bool.exists_bool,-List.map_take,-Prod.forall,-Prod.exists];refine⟨C,⟨_,he⟩,Xw,_,kF,C,⟨_,he⟩,Xw,_,kS,C,⟨_,he⟩,Xw,_,kB,fun p1 h1=>?_⟩;have s1:Same H (upd H p1 (.lst [.bl b1,.bl b2,.bl b3])):=aA h1;have f1:upd H p1 (.lst [.bl b1,.bl b2,.bl b3]) p1=some (.lst [.bl b1,.bl b2,.bl b3]):=ao;generalize upd H p1 (.lst [.bl b1,.bl b2,.bl b3])=H1 at s1 f1 ⊢;refine fun p2 h2=>?_;have s2:Same H1 (upd H1 p2 (.tup ([a.bQ,a.bH,a.cD,a.aY,a.aQ,a.bw,a.aO,a.bR,a.cC].map V.ref))):=aA h2;have f2:upd H1 p2 (.tup ([a.bQ,a.bH,a.cD,a.aY,a.aQ,a.bw,a.aO,a.bR,a.cC].map V.ref)) p2=some (.tup ([a.bQ,a.bH,a.cD,a.aY,a.aQ,a.bw,a.aO,a.bR,a.cC].map V.ref)):=ao;rw[show(HO.tup [V.ref a.bQ,V.ref a.bH,V.ref a.cD,V.ref a.aY,V.ref a.aQ,V.ref a.bw,V.ref a.aO,V.ref a.bR,V.ref a.cC]) = .tup ([a.bQ,a.bH,a.cD,a.aY,a.aQ,a.bw,a.aO,a.bR,a.cC].map V.ref) from rfl];generalize upd H1 p2 (.tup ([a.bQ,a.bH,a.cD,a.aY,a.aQ,a.bw,a.aO,a.bR,a.cC].map V.ref))=H2 at s2 f2 ⊢;have he2:=s2 _ _ (s1 _ _ he);refine⟨C,⟨_,he2⟩,Xw,_,f2,_,n1,iB.neg rfl ?_⟩;simp -dsimp[au,stC,-Bool.exists_bool,-List.map_take,-Prod.forall,-Prod.exists];refine fun p3 h3=>?_;have s3:Same H2 (upd H2 p3 (.tup ([a.bx,a.aZ,a.cH,a.bA,a.bT].map V.ref))):=aA h3;have f3:upd H2 p3 (.tup ([a.bx,a.aZ,a.cH,a.bA,a.bT].map V.ref)) p3=some (.tup ([a.bx,a.aZ,a.cH,a.bA,a.bT].map V.ref)):=ao;rw[show(HO.tup [V.ref a.bx,V.ref a.aZ,V.ref a.cH,V.ref a.bA,V.ref a.bT]) = .tup ([a.bx,a.aZ,a.cH,a.bA,a.bT].map V.ref) from rfl];generalize upd H2 p3 (.tup ([a.bx,a.aZ,a.cH,a.bA,a.bT].map V.ref))=H3 at s3 f3 ⊢;have he3:=s3 _ _ he2;refine⟨C,⟨_,he3⟩,Xw,_,f3,_,n2,iB.neg rfl ?_⟩;simp -dsimp[au,stC,-Bool.exists_bool,-List.map_take,-Prod.forall,-Prod.exists];refine⟨C,⟨_,he3⟩,Xw,_,kV,?_⟩;have l3:=s3 _ _ (s2 _ _ f1);have S3:=s1.trans (s2.trans s3);simp -dsimp[au,stC,-Bool.exists_bool,-List.map_take,-Prod.forall,-Prod.exists];have hcount:List.count true [b1,b2,b3]=1:=by rcases hw with⟨z,_⟩ | ⟨z,_⟩ | ⟨z,_⟩ <;> rw[z] <;> rfl
    refine⟨⟨_,bU.of l3⟩,[b1,b2,b3],bU.of l3,false,by rw[hcount];rfl,iB.neg rfl ?_⟩;simp -dsimp[au,stC,-Bool.exists_bool,-List.map_take,-Prod.forall,-Prod.exists];refine fun p4 h4=>?_;have s4:Same H3 (upd H3 p4 (.lst [.str (Str.ofString "fixed"),.str (Str.ofString "shut"),.str (Str.ofString "barred")])):=aA h4;have f4:upd H3 p4 (.lst [.str (Str.ofString "fixed"),.str (Str.ofString "shut"),.str (Str.ofString "barred")]) p4=some (.lst [.str (Str.ofString "fixed"),.str (Str.ofString "shut"),.str (Str.ofString "barred")]):=ao;generalize upd H3 p4 (.lst [.str (Str.ofString "fixed"),.str (Str.ofString "shut"),.str (Str.ofString "barred")])=H4 at s4 f4 ⊢;have l4:=s4 _ _ l3;have fin:=q _ (S3.trans s4)
    rcases hw with⟨z,rfl⟩ | ⟨z,rfl⟩ | ⟨z,rfl⟩ <;> simp only[List.cons.injEq,and_true] at z <;> obtain⟨rfl,rfl,rfl⟩:=z
    ·refine⟨⟨_,bU.of l4⟩,[true,false,false],bU.of l4,by simp,_,.inl (bU.of f4),_,rfl,fin⟩
    ·refine⟨⟨_,bU.of l4⟩,[false,true,false],bU.of l4,by simp,_,.inl (bU.of f4),_,rfl,fin⟩
    ·refine⟨⟨_,bU.of l4⟩,[false,false,true],bU.of l4,by simp,_,.inl (bU.of f4),_,rfl,fin⟩
theorem Bp (T:Txt K mg a):bZ P w K mg base (GK P w) 6 a.cI a.eF ["web", "fixed"] (fun vs H Q E=>rK a.bG a.bV a.aP vs H Q E∨fB a.bG a.aR vs H Q E):=(Eb T).or (Bo T)
theorem T8 (T:Txt K mg a):bZ P w K mg base (GK P w) 6 a.iK a.mD ["web", "fixed"] (fun vs H Q E=>Ln a.bG a.bV a.aP vs H Q E∨fB a.bG a.aR vs H Q E):=(Xq T).or (T7 T)
def Ih (ps:List (Str×Str)) (xs:List Str) (fs:List (Nat×Int)):Str:=match cB (aN (gB fs) ps 0) xs xs with
  | some _=>Str.ofString "shut"
  | none=>match lJ ps xs with
    | []=>Str.ofString "told"
    | _::_=>Str.ofString "barred"
def qcH (C:Addr):Sp:=fun vs H Q _=>∃(k:Int) (o:Addr) (v:V) (dd:PyData) (xs:List Str) (ps:List (Str×Str)) (wd:Str),vs=[.int k,.ref o,v]∧cW C H o xs ps∧Yr xs∧zN xs ps∧QB H dd v∧yW 30 30000 dd∧
  ((Xv H v ps.length∧wd=Str.ofString "fixed")∨∃d fs,v = .ref d∧H d=some (.dK (dM fs))∧rP fs ps.length∧wd=Ih ps xs fs)∧∀(H':Hp),Same H H'→Q (.str wd) H'
theorem EY (T:Txt K mg a):bZ P w K mg base lB 7 a.tD a.Er ["_law_road", "_law_made", "_law_fixed"] (qcH a.bG):=by
  refine T.Bh.sV zj (fun vs H Q E h=>?_) (fun cdv A outer s H vs Q E hr h=>?_)
  ·obtain⟨k,o,v,dd,xs,ps,wd,rfl,_⟩:=h;rfl
  · obtain⟨k,o,v,dd,xs,ps,wd,rfl,hw,hX,hTs,hsh,hsm,hb,q⟩:=h;refine⟨_,(aC (bI (i:=3) zj.nd rfl (Or.inl rfl) c7)
      (aC (bI (i:=4) zj.nd rfl (Or.inl rfl) (aM (Dk hr.gd hr.units) rfl T.Tv.repr boot_repr (aj (aL 2) ak)))
      (aC (qe3 (i:=5) rfl rfl rfl zj.nd rfl rfl (fun R pn xe hx=>(aF (dg (bD nW (aL 0) aG (cP _)) (aF (eN (Qq hx rfl (Bp (K:=K) T) (hr.mono (by decide)) rfl T.tK T.jx.kp T.tH (aj (aL 1) (aj (aL 2) ak))))) (aF (eN (Qq hx rfl (T8 (K:=K) T) (hr.mono (by decide)) rfl T.QS T.zF.kp T.QM (aj (aL 1) (aj (aL 2) ak)))))))) rfl T.mq T.cQ (fun e=>(aF (bI (i:=3) zj.nd rfl (Or.inl rfl) (qag (qaV (K:=K) T) (hr.mono (by decide)) rfl T.Vv T.Ob.kp T.Vu (aj (aL 5) ak))))))
      (aC (dg (bD sS (aM (Dk hr.gd hr.units) rfl T.Tv.repr boot_repr (aj (aL 2) ak)) (aL 4) (cP _)) (aF (bh c7)) bM)
      (aF (bh (aL 3))))))),?_⟩
    simp -dsimp[au,stC,-Bool.exists_bool,-List.map_take,-Prod.forall,-Prod.exists];refine⟨dd,hsh,hsm.sh,Nat.le_trans hsm.dp (by decide),Nat.le_trans hsm.ln (by decide),?_⟩;generalize hNx:qbw (qd2 (vA (tOp fNe (tCB Td (vm (fVar 2) Jq)) (fVar 4))) _ _) _ _=Nx;have tail:∀(o5:Option V) (H':Hp),Same H H'→Nx [some (.int k),some (.ref o),some v,some (.str wd),some (.str dd.shown),o5] H':=by
      intro o5 H' S';subst hNx;simp -dsimp[au,stC,-Bool.exists_bool,-List.map_take,-Prod.forall,-Prod.exists];refine⟨dd,hsh.same S',hsm.sh,Nat.le_trans hsm.dp (by decide),Nat.le_trans hsm.ln (by decide),false,by simp,iB.neg rfl ?_⟩;simp -dsimp[au,stC,-Bool.exists_bool,-List.map_take,-Prod.forall,-Prod.exists];exact q _ S'
    have neP:∀{D:Addr},D∈kY a→D≠a.aq:=fun h z=>(List.nodup_cons.mp T.nd).1 (z▸h);have go:∀(C:Addr) (od:Option Addr),(C=a.aR∧wd=Str.ofString "fixed" ∨C=a.bV∧wd=Str.ofString "shut" ∨C=a.aP∧wd=Str.ofString "barred")→∀H3,Same H H3→
        qaf 5 K a.aq (fun e=>V3 (Sy (Rq a.aR a.bV a.aP e) (vm (fVar 5) Jq)) (JZ 3)) {nx:=Nx,rt:=Q} [some (.int k),some (.ref o),some v,some (.str (Str.ofString "told")),some (.str dd.shown),none] C od H3:=fun C od hC H3 S3=>by
      have hob:(vB K C∧W.mroIn K C (.ref a.aq)=some true∧C≠a.aq):=by
        rcases hC with⟨rfl,_⟩ | ⟨rfl,_⟩ | ⟨rfl,_⟩
        ·exact⟨vB.of T.eG,by rw[T.qP.mro];simp,neP (by simp[kY])⟩
        ·exact⟨vB.ofX T.Ew T.zM,by rw[T.zM.mro];simp,neP (by simp[kY])⟩
        ·exact⟨vB.ofX T.uP T.pW,by rw[T.pW.mro];simp,neP (by simp[kY])⟩
      refine⟨hob,fun ex hex=>?_⟩;have se:Same H3 (upd H3 ex (GP ex C od)):=aA hex;have ee:upd H3 ex (GP ex C od) ex=some (GP ex C od):=ao;generalize upd H3 ex (GP ex C od)=H4 at se ee ⊢;simp -dsimp[au,stC,-Bool.exists_bool,-List.map_take,-Prod.forall,-Prod.exists];refine⟨C,od,wd,rfl,hC,ee,fun H5 s5=>?_⟩;simp -dsimp[au,stC,-Bool.exists_bool,-List.map_take,-Prod.forall,-Prod.exists];exact tail _ H5 (S3.trans (se.trans s5))
    rcases hb with⟨hN,rfl⟩ | ⟨d,fs,rfl,hd,hfs,rfl⟩
    · refine iB.of (fun h=>?_) (fun h=>?_)
      ·simp -dsimp[au,stC,-Bool.exists_bool,-List.map_take,-Prod.forall,-Prod.exists];exact .inr ⟨o,v,xs,ps,rfl,hw,hN,fun H3 S3=>⟨_,rfl,go _ _ (.inl ⟨rfl,rfl⟩) H3 S3⟩⟩
      ·simp -dsimp[au,stC,-Bool.exists_bool,-List.map_take,-Prod.forall,-Prod.exists];exact .inr ⟨o,v,xs,ps,rfl,hw,hN,fun H3 S3=>⟨_,rfl,go _ _ (.inl ⟨rfl,rfl⟩) H3 S3⟩⟩
    · have w1:∀x,cB (aN (gB fs) ps 0) xs xs=some x→Ih ps xs fs=Str.ofString "shut" :=fun x e=>by unfold Ih;rw[e]
      have w2:cB (aN (gB fs) ps 0) xs xs=none→∀y r,lJ ps xs=y::r→Ih ps xs fs=Str.ofString "barred" :=fun e y r e2=>by unfold Ih;rw[e,e2]
      have w3:cB (aN (gB fs) ps 0) xs xs=none→lJ ps xs=[]→Ih ps xs fs=Str.ofString "told" :=fun e e2=>by unfold Ih;rw[e,e2]
      refine iB.of (fun h=>?_) (fun h=>?_)
      ·simp -dsimp[au,stC,-Bool.exists_bool,-List.map_take,-Prod.forall,-Prod.exists];refine .inl ⟨o,d,xs,ps,fs,rfl,hw,hX,hTs,hd,hfs,fun e1 e2 r H' hr er S'=>?_,fun x e1 dx c H' hc ed ec S'=>⟨_,rfl,go _ _ (.inr (.inl ⟨rfl,w1 x e1⟩)) H' S'⟩,fun e1 k' lot rest e2 dx c H' hc ed ec S'=>⟨_,rfl,go _ _ (.inr (.inr ⟨rfl,w2 e1 _ _ e2⟩)) H' S'⟩⟩;have:=tail none H' S';rw[w3 e1 e2] at this;exact this
      ·simp -dsimp[au,stC,-Bool.exists_bool,-List.map_take,-Prod.forall,-Prod.exists];refine .inl ⟨o,d,xs,ps,fs,rfl,hw,hX,hTs,hd,hfs,fun e1 e2 td es H' htd etd hfe hes hnd S'=>?_,fun x e1 dx c H' hc ed ec S'=>⟨_,rfl,go _ _ (.inr (.inl ⟨rfl,w1 x e1⟩)) H' S'⟩,fun e1 k' lot rest e2 dx c H' hc ed ec S'=>⟨_,rfl,go _ _ (.inr (.inr ⟨rfl,w2 e1 _ _ e2⟩)) H' S'⟩⟩;have:=tail none H' S';rw[w3 e1 e2] at this;exact this
end K45
namespace L2
open PySem PySem.Spec PyProof.Rows
inductive LfY (H:Hp):List (Str×V)→List (PyData×PyData)→Prop
  | nil:LfY H [] []
  | leaf {x v d ks kvs}:Lf v d→LfY H ks kvs→LfY H ((x,v)::ks) ((.str x,d)::kvs)
  | lst {x t ks kvs} {ss:List Str}:H t=some (.lst (ss.map V.str))→t≠sysModules→LfY H ks kvs→LfY H ((x,.ref t)::ks) ((.str x,.list (ss.map PyData.str))::kvs)
  | tup {x t ks kvs}:H t=some (.tup [])→LfY H ks kvs→LfY H ((x,.ref t)::ks) ((.str x,.tuple [])::kvs)
def qaW (t:TA):TE:=fun σ H Q=>t σ H fun xs H1=>xs.length≤sizeLine∧∀p,H1 p=none→p≠sysModules→Q (.ref p) (upd H1 p (.lst xs))
@[simp ↓] theorem qiY (t:TA) σ H Q:qaW t σ H Q=(t σ H fun xs H1=>xs.length≤sizeLine∧∀p,H1 p=none→p≠sysModules→Q (.ref p) (upd H1 p (.lst xs))):=rfl
theorem VN {X:Cx} {es:List Expr} {t:TA} {pos:Pos} (h:PA X es t):PE X (.List es pos) (qaW t):=by
  intro p_ s σ H Q I hq;refine wpAny_List_spliced (cR (h pos p_ s σ H _ I hq) fun us s1 zz=>?_);obtain⟨xs,H1,I1,r,z,q⟩:=zz;refine⟨by rw[← r.length];exact z,?_⟩;have hf:H1 s1.heap.objs.size=none:=I1.hok.fresh (Nat.le_refl _);refine⟨.ref s1.heap.objs.size,upd H1 s1.heap.objs.size (.lst xs),I1.laid (t':=s1.toks) (fun b u e=>Heap.get?_push_of_some _ e) (Nat.le_refl _) ?_,rfl,q _ hf (Nat.ne_of_gt I1.big)⟩;exact⟨z,us,0,r,Heap.get?_push_size _ rfl⟩
end L2
namespace K45
open PySem L2
variable {P:Program} {w:World} {K:W.Frag} {mg:Str→Option Value} {base:Heap} {a:Adr}
theorem jl.ex {p:Addr} {H:Hp} (h:jl H p):∃o,H p=some o:=by
  obtain⟨x,y,u,_⟩:=h;exact⟨_,u⟩
theorem jl.DW {p:Addr} {H H':Hp} (x:jl H p) (s:Same H H'):jl H' p:=by
  obtain⟨u1,u2,u3,u4⟩:=x;exact⟨u1,u2,s _ _ u3,u4⟩
theorem Lq (i:Int) (h1:(PyData.int i).showable=true:=by decide+kernel) (h2:(PyData.int i).depth≤3:=by decide+kernel) (h3:(PyData.int i).shown.length≤100:=by decide+kernel):yW 3 100 (.int i):=⟨h1,h2,h3⟩
theorem p7 (d:PyData) (h1:d.showable=true:=by decide+kernel) (h2:d.depth≤3:=by decide+kernel) (h3:d.shown.length≤100:=by decide+kernel):yW 3 100 d:=⟨h1,h2,h3⟩
theorem mW {i:Int} (h0 : -30≤i) (h1:i≤30):yW 3 100 (.int i):=by
  obtain⟨n,rfl⟩:∃n:Nat,i=(n:Int) - 30:=⟨(i+30).toNat,by omega⟩;have h:n≤60:=by omega
  have z:∀n,n≤60→(PyData.int ((n:Nat) - 30)).showable=true∧(PyData.int ((n:Nat) - 30)).depth≤3∧(PyData.int ((n:Nat) - 30)).shown.length≤100:=by decide+kernel
  exact⟨(z n h).1,(z n h).2.1,(z n h).2.2⟩
structure BdK (m:Nat) (H:Hp) (v:V) (d:PyData):Prop where
  rd:Xa H v d
  no:nrD m d=false
  sm:yW 3 100 d
  kd:(∃k:Key,v=kV k∧∀i:Nat,i<m→k≠Sum.inl (i:Int))∨Nq H v
def rR (m:Nat) (H:Hp) (v:V):Prop:=∃d,BdK m H v d
theorem rR.mono {m:Nat} {H H':Hp} {v:V} (s:Same H H') (h:rR m H v):rR m H' v:=by
  obtain⟨d,h⟩:=h;refine⟨d,h.rd.same s,h.no,h.sm,?_⟩
  rcases h.kd with k | k | ⟨t,e,k⟩
  ·exact .inl k
  ·exact .inr (.inl k)
  ·exact .inr (.inr ⟨t,e,s _ _ k⟩)
theorem Bq {m:Nat} {i:Int} (h:i<0∨(m:Int)≤i) (sm:yW 3 100 (.int i)):∀H,rR m H (.int i):=fun H=>⟨.int i,.leaf (.int i),by simp[nrD];omega,sm,.inl ⟨Sum.inl i,rfl,fun j hj z=>by cases z;omega⟩⟩
structure OdX (H:Hp) (v:V) (d:PyData):Prop where
  rd:Tc H v d
  no:ldD d=false
  sm:yW 3 100 d
def qQ (H:Hp) (v:V):Prop:=∃d,OdX H v d
theorem qQ.mono {H H':Hp} {v:V} (s:Same H H') (h:qQ H v):qQ H' v:=by
  obtain⟨d,h⟩:=h;exact⟨d,h.rd.same s,h.no,h.sm⟩
theorem qR {v:V} {d:PyData} (l:Lf v d) (hn:ldD d=false) (sm:yW 3 100 d):∀H,qQ H v:=fun H=>⟨d,.key (.leaf l),hn,sm⟩
theorem qhj {H H':Hp} {b p:Addr} (hb:H b=none) (k:∀x u,x≠b→x≠p→H x=some u→H' x=some u):Same (hid p H) (hid b (hid p H')):=fun x u e=>by
  have hx:x≠b:=fun z=>by rw[z] at e;have:=yU _ _ e;rw[hb] at this;cases this
  unfold hid at e ⊢;split at e
  ·cases e
  ·rename_i hp;rw[if_neg hx,if_neg hp];exact k x u hx hp e
theorem Lr {H:Hp} {ks:List (V×V)} {ds:List (PyData×PyData)} {k v:V} {dk dv:PyData} (h:kI H ks ds) (hk:Xa H k dk) (hv:Tc H v dv):kI H (ks++[(k,v)]) (ds++[(dk,dv)]):=by
  induction h with
  | nil=>exact .cons hk hv .nil
  | cons a b _ ih=>exact .cons a b ih
def dFs (fs:List (Nat×Int)):List (PyData×PyData):=fs.map fun e=>(.int e.1,.int e.2)
theorem z9 {H:Hp}:∀(fs:List (Nat×Int)),kI H (JC (dM fs)) (dFs fs)
  | []=>.nil
  | e::fs=>.cons (.leaf (.int _)) (.key (.leaf (.int _))) (z9 fs)
theorem qaX {ds:List (PyData×PyData)} (h:∀e∈ds,yW 3 100 e.1∧yW 3 100 e.2) (hl:ds.length≤21):yW 30 30000 (.dict ds):=(qau (m:=30000) h (by omega)).mono (by decide) (by decide)
theorem Oq {fs:List (Nat×Int)} {m:Nat} (hfs:rP fs m) (hm:m≤20):∀e∈dFs fs,yW 3 100 e.1∧yW 3 100 e.2:=by
  intro e he;obtain⟨f,hf,rfl⟩:=List.mem_map.mp he;have:=hfs.ok f hf;exact⟨mW (by omega) (by omega),mW (by omega) (by omega)⟩
theorem qaY {H:Hp} {i:Nat} {v:V} {dv:PyData} (hv:Tc H v dv):∀{ks:List (Key×V)} {ds:List (PyData×PyData)},kI H (JC ks) ds→∃ds',kI H (JC (putK ks (Sum.inl (i:Int)) v)) ds'∧ds'.length≤ds.length+1∧(∃e∈ds',e.2=dv)∧∀e∈ds',(∃e'∈ds,e.1=e'.1∧(e.2=e'.2∨e.2=dv))∨e=(.int i,dv):=by
  intro ks ds h;unfold putK
  by_cases ha:(ks.any fun kv=>decide (kv.1=(Sum.inl (i:Int):Key)))=true
  · rw[if_pos ha];have key:∀{ks:List (Key×V)} {ds:List (PyData×PyData)},kI H (JC ks) ds→∃ds',kI H (JC (ks.map fun kv=>if kv.1=(Sum.inl (i:Int):Key) then (kv.1,v) else kv)) ds'∧ds'.length=ds.length∧((ks.any fun kv=>decide (kv.1=(Sum.inl (i:Int):Key)))=true→∃e∈ds',e.2=dv)∧∀e∈ds',∃e'∈ds,e.1=e'.1∧(e.2=e'.2∨e.2=dv):=by
      intro ks
      induction ks with
      | nil=>intro ds h;cases h;exact⟨[],.nil,rfl,fun z=>by simp at z,fun e he=>by simp at he⟩
      | cons x ks ih=>
        intro ds h;cases h with
        | cons a b c=>
          rename_i dk dv0 ds;obtain⟨ds',h1,h2,h3,h4⟩:=ih c
          by_cases hx:x.1=(Sum.inl (i:Int):Key)
          · refine⟨(dk,dv)::ds',?_,by simp[h2],fun _=>⟨_,List.mem_cons_self,rfl⟩,fun e he=>?_⟩
            ·rw[List.map_cons,if_pos hx];exact .cons a hv h1
            · rcases List.mem_cons.mp he with rfl | he
              ·exact⟨_,List.mem_cons_self,rfl,.inr rfl⟩
              ·obtain⟨e',he',z⟩:=h4 e he;exact⟨e',List.mem_cons_of_mem _ he',z⟩
          · refine⟨(dk,dv0)::ds',?_,by simp[h2],fun z=>?_,fun e he=>?_⟩
            ·rw[List.map_cons,if_neg hx];exact .cons a b h1
            ·rw[List.any_cons,decide_eq_false hx,Bool.false_or] at z;obtain⟨e,he,z⟩:=h3 z;exact⟨e,List.mem_cons_of_mem _ he,z⟩
            · rcases List.mem_cons.mp he with rfl | he
              ·exact⟨_,List.mem_cons_self,rfl,.inl rfl⟩
              ·obtain⟨e',he',z⟩:=h4 e he;exact⟨e',List.mem_cons_of_mem _ he',z⟩
    obtain⟨ds',h1,h2,h3,h4⟩:=key h;exact⟨ds',h1,by omega,h3 ha,fun e he=>.inl (h4 e he)⟩
  · rw[if_neg ha];refine⟨ds++[(.int i,dv)],?_,by simp,⟨_,List.mem_append_right _ List.mem_cons_self,rfl⟩,fun e he=>?_⟩
    ·show kI H ((ks++[_]).map _) _;rw[List.map_append];exact Lr h (.leaf (.int _)) hv
    · rcases List.mem_append.mp he with he | he
      ·exact .inl ⟨e,he,rfl,.inl rfl⟩
      ·rw[List.mem_singleton] at he;exact .inr he
theorem Nq.mono {H H':Hp} {v:V} (s:Same H H') (h:Nq H v):Nq H' v:=by
  rcases h with h | ⟨t,h1,h2⟩
  ·exact .inl h
  ·exact .inr ⟨t,h1,s _ _ h2⟩
def Yu (H:Hp) (v:V):Prop:=∃d,Shw H d v∧dw H d v∧tyD d≠ "dict" ∧yW 3 100 d
theorem Yu.mono {H H':Hp} {v:V} (s:Same H H') (h:Yu H v):Yu H' v:=by
  obtain⟨d,h1,h2,h3,h4⟩:=h;exact⟨d,h1.same s,dw.same s _ _ h2,h3,h4⟩
theorem vN {p:Addr} {t:TE} {σ:St} {H:Hp} {d:PyData} (h:GD p t σ H d) (hd:d.hasDict=false) (ht:tyD d≠ "dict") (sm:yW 3 100 d):VE Yu p t σ H:=fun H1 Q hp s q=>h H1 Q hp s fun v H2 s2 hv=>q v H2 s2 ⟨d,.thg hv hd,jd.x _ _ hv,ht,sm⟩
theorem qfy {p:Addr} {σ:St} {H:Hp}:VE qQ p R4 σ H:=fun H1 Q' hpe s' q' t ht=>q' _ _ (aA ht) ⟨.dict [],.emp (iC (lM hpe s' ht) ao),rfl,p7 _⟩
theorem j4 {p:Addr} {σ:St} {H:Hp} {ta:TE} {tr:TA} {n:Nat} (h1:VE Yu p ta σ H) (h2:VEs Yu p n tr σ H):VEs Yu p (n+1) (vm ta tr) σ H:=cO (ψ:=Yu) (fun s h=>Yu.mono s h) h1 h2
theorem qcI {p:Addr} {σ:St} {H:Hp} {t:TA} {ds:List PyData} (h:GDs p t σ H ds) (hl:ds.length≤sizeLine):GD p (qaW t) σ H (.list ds):=fun H1 Q hp s q=>
  h H1 _ hp s fun vs H2 s2 hv=>⟨by rw[← hv.length];exact hl,fun b hb _=>q _ _ (s2.trans (aA hb)) (by simp only[jd];exact⟨b,vs,rfl,iC (lM hp (s.trans s2) hb) ao,bJ.same (kj (aA hb)) ds vs hv⟩)⟩
def Rr:Sp:=fun vs H Q _=>∃(p d:Addr) (m:Nat) (fs:List (Nat×Int)),vs=[.ref p,.int (m:Nat),.ref d]∧jl H p∧d≠p∧H d=some (.dK (dM fs))∧rP fs m∧m≤20∧
  ∀(v:V) (dd:PyData) (H':Hp),Xv (hid p H') v m→QB (hid p H') dd v→yW 30 30000 dd→jl H' p→But p H H'→Q v H'
theorem Rt (T:Txt K mg a):bZ P w K mg base lB 2 a.gP a.nC ["_law_pot_here", "_law_many", "_law_fixed"] Rr:=by
  refine T.wC.sV kJ (fun vs H Q E h=>?_) (fun cdv A outer s H vs Q E hr h=>?_)
  ·obtain⟨p,d,m,fs,rfl,_⟩:=h;rfl
  · obtain⟨p,d,m,fs,rfl,hp,dp,hd,hfs,hm,q⟩:=h;refine⟨_,(@qcs.out _ _ _ (mz (Vq (i:=3) kJ.nd rfl (Or.inl rfl) (Tg (gq (K:=K) rfl) (Ny (Nv (bF (aL 1) (bF (dj jQ (aL 1) aG) (bF (Uv Ei aG) (bF (dj uE (Uv Ei (aL 1)) aG) (bF c7 (bF vQ (bF (d9 (aj aG ak)) (bF (dj Ek aG aG) (bF (Uv Ei (dj Ek aG aG)) Nu))))))))))) (PEq.mk (PE.eqv (aJ (dY (K:=K) T) (hr.mono (by decide)) rfl T.gb T.fL.kp T.f9 .nil aW (aj (aL 0) (aj aG ak))) (aH _ _ _))) (fun _ _=>rfl)))
      (mz (Vq (i:=4) kJ.nd rfl (Or.inl rfl) (Tg (gq (K:=K) rfl) (Ny (Nv (bF aG (bF (Uv Ei aG) (bF pA (bF pA (bF vQ (bF c7 (bF (VN (aj aG ak)) (bF (d9 (aj aG ak)) (bF Gk (bF (dj Ek aG aG) Nu)))))))))))) (PEq.mk (PE.eqv (aJ (dY (K:=K) T) (hr.mono (by decide)) rfl T.gb T.fL.kp T.f9 .nil aW (aj (aL 0) (aj aG ak))) (aH _ _ _))) (fun _ _=>rfl)))
      (mz (PSq.mk (bI (i:=5) kJ.nd rfl (Or.inl rfl) (eE SQ rfl T.Tv.dict gH (aj (aL 2) ak))))
      (mz (PSq.mk (bI (i:=6) kJ.nd rfl (Or.inl rfl) (PE.eqv (aJ (dY (K:=K) T) (hr.mono (by decide)) rfl T.gb T.fL.kp T.f9 .nil aW (aj (aL 0) (aj aG ak))) (aH _ _ _))))
      (mz (PSq.mk (dg (PW.pt (pB (bD nW (aL 6) aG (cP _)) (lD (bD nW (aL 1) aG (cP _))))) (aC (Qz hr.units (aL 5) (aL 3) (PE.eqv (aJ (dY (K:=K) T) (hr.mono (by decide)) rfl T.gb T.fL.kp T.f9 .nil aW (aj (aL 0) (aj aG ak))) (aH _ _ _)) rfl)
      (aF (bh (aL 5)))) bM))
      (mz (PSq.mk (dg (bD nW (aL 6) aG (cP _)) (aC (Qz hr.units (aL 5) (PE.eqv (aJ (dY (K:=K) T) (hr.mono (by decide)) rfl T.gb T.fL.kp T.f9 .nil aW (aj (aL 0) (aj (aL 1) ak))) (aH _ _ _)) (aL 4) rfl)
      (aF (bh (aL 5)))) bM))
      (qav (qct (Tg (gq (K:=K) rfl) (Ny (Nv (bF vQ (bF aG (bF pA (bF c7 (bF (jc ak) (bF (d9 ak) (bF (VN (aj aG ak)) (bF (jc (aj (d9 (aj aG (aj aG ak))) ak)) (bF (d9 (aj (d9 (aj aG (aj aG ak))) ak)) (bF c7 Nu)))))))))))) (PEq.mk (PE.eqv (aJ (dY (K:=K) T) (hr.mono (by decide)) rfl T.gb T.fL.kp T.f9 .nil aW (aj (aL 0) (aj aG ak))) (aH _ _ _))) (fun _ _=>rfl))))))))))),?_⟩
    have mk:∀{H H':Hp} {v:V},Same H H'→rR m H v→rR m H' v:=fun s h=>rR.mono s h;have mo:∀{H H':Hp} {v:V},Same H H'→qQ H v→qQ H' v:=fun s h=>qQ.mono s h;simp -dsimp[au,stC,-Bool.exists_bool,-List.map_take,-Prod.forall,-Prod.exists];have c1:∀{H0:Hp},VE (rR m) p (fVar 1) [some (V.ref p),some (V.int (m:Nat)),some (V.ref d),none,none,none,none] H0:=fun H1 Q' hpe s' q'=>getSt.of rfl (q' _ _ (Same.refl _) (Bq (.inr (by omega)) (mW (by omega) (by omega)) _));refine G4 (ψ:=rR m) mk (p:=p) (n:=9) (
      cO (ψ:=rR m) mk c1 <|
      cO (ψ:=rR m) mk (fun H1 Q' hpe s' q'=>by
        simp -dsimp[au,stC,-Bool.exists_bool,-List.map_take,-Prod.forall,-Prod.exists];exact q' _ _ (Same.refl _) (Bq (.inr (by omega)) (mW (by omega) (by omega)) _)) <|
      cO (ψ:=rR m) mk (fun H1 Q' hpe s' q'=>by
        simp -dsimp[au,stC,-Bool.exists_bool,-List.map_take,-Prod.forall,-Prod.exists];exact q' _ _ (Same.refl _) (Bq (.inl (by omega)) (Lq _) _)) <|
      cO (ψ:=rR m) mk (fun H1 Q' hpe s' q'=>by
        simp -dsimp[au,stC,-Bool.exists_bool,-List.map_take,-Prod.forall,-Prod.exists];exact q' _ _ (Same.refl _) (Bq (.inl (by omega)) (mW (by omega) (by omega)) _)) <|
      cO (ψ:=rR m) mk (Tf fun H0=>⟨.str (Str.ofString "0"),.leaf (.str _),rfl,p7 _,.inl ⟨Sum.inr (Str.ofString "0"),rfl,fun i _ z=>by cases z⟩⟩) <|
      cO (ψ:=rR m) mk (Tf fun H0=>⟨.none,.leaf .non,rfl,p7 _,.inr (.inl rfl)⟩) <|
      cO (ψ:=rR m) mk (fun H1 Q' hpe s' q'=>⟨show 1≤sizeLine by decide,fun t ht=>q' _ _ (aA ht) ⟨.tuple [.int 0],.tup (iC (lM hpe s' ht) ao) (.cons (.int 0) .nil),rfl,p7 _,.inr (.inr ⟨t,rfl,iC (lM hpe s' ht) ao⟩)⟩⟩) <|
      cO (ψ:=rR m) mk (fun H1 Q' hpe s' q'=>by
        simp -dsimp[au,stC,-Bool.exists_bool,-List.map_take,-Prod.forall,-Prod.exists];exact q' _ _ (Same.refl _) (Bq (.inr (by omega)) (Lq _) _)) <|
      cO (ψ:=rR m) mk (fun H1 Q' hpe s' q'=>by
        simp -dsimp[au,stC,-Bool.exists_bool,-List.map_take,-Prod.forall,-Prod.exists];exact q' _ _ (Same.refl _) (Bq (.inl (by omega)) (Lq _) _)) Nr) hp.ex (by decide) fun b1 vs1 H1 hb1 s1 hn1 e1 a1=>?_
    have bp1:b1≠p:=lM hp.ex (Same.refl _) hb1;refine⟨p,9,rfl,hp.DW s1,by decide,by decide,fun j1 H2 hj0 hj1 hP2 hB2=>?_⟩;obtain⟨bv,hbv,qkg⟩:=Nt hn1 hj0 hj1;have k2:=mk (uI hB2) (a1 bv hbv);simp -dsimp[au,stC,-Bool.exists_bool,-List.map_take,-Prod.forall,-Prod.exists];refine⟨_,.inl (bU.of (hB2 _ _ bp1 e1)),bv,qkg,?_⟩;have d2:=hB2 _ _ dp (s1 _ _ hd);have B2:But p H H2:=(But.of s1).trans hB2;refine G4 (ψ:=qQ) mo (p:=p) (n:=10) (
      cO (ψ:=qQ) mo (Tf (qR (.int 2) rfl (Lq _))) <|
      cO (ψ:=qQ) mo (fun H1 Q' hpe s' q'=>by
        simp -dsimp[au,stC,-Bool.exists_bool,-List.map_take,-Prod.forall,-Prod.exists];exact q' _ _ (Same.refl _) (qR (.int (-1)) rfl (Lq _) _)) <|
      cO (ψ:=qQ) mo (Tf (qR (.bl true) rfl (p7 _))) <|
      cO (ψ:=qQ) mo (Tf (qR (.bl false) rfl (p7 _))) <|
      cO (ψ:=qQ) mo (Tf (qR .non rfl (p7 _))) <|
      cO (ψ:=qQ) mo (Tf (qR (.str (Str.ofString "0")) rfl (p7 _))) <|
      cO (ψ:=qQ) mo (fun H1 Q' hpe s' q'=>⟨show 1≤sizeLine by decide,fun t ht hs=>q' _ _ (aA ht) ⟨.list [.int 0],.lst (iC (lM hpe s' ht) ao) hs (.cons (.int 0) .nil),rfl,p7 _⟩⟩) <|
      cO (ψ:=qQ) mo (fun H1 Q' hpe s' q'=>⟨show 1≤sizeLine by decide,fun t ht=>q' _ _ (aA ht) ⟨.tuple [.int 1],.key (.tup (iC (lM hpe s' ht) ao) (.cons (.int 1) .nil)),rfl,p7 _⟩⟩) <|
      cO (ψ:=qQ) mo qfy <|
      cO (ψ:=qQ) mo (fun H1 Q' hpe s' q'=>by
        simp -dsimp[au,stC,-Bool.exists_bool,-List.map_take,-Prod.forall,-Prod.exists];exact q' _ _ (Same.refl _) (qR (.int 100000000000000000) rfl (Lq _) _)) Nr) hP2.ex (by decide) fun b3 vs3 H3 hb3 s3 hn3 e3 a3=>?_
    have bp3:b3≠p:=lM hP2.ex (Same.refl _) hb3;refine⟨p,10,rfl,hP2.DW s3,by decide,by decide,fun j3 H4 qkh qki Li Lj=>?_⟩;obtain⟨ov,hov,hat3⟩:=Nt hn3 qkh qki;have o4:=mo (uI Lj) (a3 ov hov);have k4:=mk (uI Lj) (mk (kj s3) k2);simp -dsimp[au,stC,-Bool.exists_bool,-List.map_take,-Prod.forall,-Prod.exists];refine⟨_,.inl (bU.of (Lj _ _ bp3 e3)),ov,hat3,?_⟩;have d4:=Lj _ _ dp (s3 _ _ d2);have B4:But p H H4:=(B2.trans (But.of s3)).trans Lj;refine⟨_,.inl d4,fun f hf=>?_⟩;have fp:f≠p:=lM Li.ex (Same.refl _) hf;have s5:Same H4 (upd H4 f (.dK (dM fs))):=aA hf;have e5:upd H4 f (.dK (dM fs)) f=some (.dK (dM fs)):=ao;generalize upd H4 f (.dK (dM fs))=H5 at s5 e5 ⊢;refine⟨p,3,rfl,Li.DW s5,by decide,by decide,fun j6 H6 qle qlf Ey Od=>?_⟩;have e6:=Od _ _ fp e5;have B6:But p H4 H6:=(But.of s5).trans Od;have l6:(dM fs).length≤20:=by
      have:=hfs.len;simp only[dM,List.length_map];omega
    have z20:30≤sizeLine:=by decide
    have lds:(dFs fs).length≤20:=by
      have:=hfs.len;simp only[dFs,List.length_map];omega
    have fin:∀(ob:HO) (kvs:List (V×V)) (ds:List (PyData×PyData)) (H7 H8:Hp),But p H4 H7→H8=upd H7 f ob→jl H7 p→((∃ks,ob = .dK ks∧kvs=JC ks)∨∃o,ob=yZ f o∧Bb o kvs)→kI (hid f (hid p H8)) kvs ds→ds.all (Qo m)=false→(∀e∈ds,yW 3 100 e.1∧yW 3 100 e.2)→ds.length≤21→Q (.ref f) H8:=by
      intro ob kvs ds H7 H8 B7 h8 Ea hob hrd hbad hsm hln;subst h8;have e8:hid p (upd H7 f ob) f=some ob:=iC fp ao;have r8:=hrd.same (yU (p:=f) (H:=hid p (upd H7 f ob)));refine q _ (.dict ds) _ ?_ ?_ (qaX hsm hln) ?_ fun b u hb hu=>?_
      · rcases hob with⟨ks,rfl,rfl⟩ | ⟨o,rfl,ro⟩
        ·exact .inr (.inl ⟨f,ks,ds,rfl,e8,hrd,hbad⟩)
        ·exact .inr (.inr ⟨f,o,kvs,ds,rfl,e8,ro,r8,hbad⟩)
      · rcases hob with⟨ks,rfl,rfl⟩ | ⟨o,rfl,ro⟩
        ·exact .inr ⟨f,_,ds,rfl,rfl,.inl ⟨ks,e8,rfl⟩,r8⟩
        ·exact .inr ⟨f,_,ds,rfl,rfl,.inr ⟨o,e8,ro⟩,r8⟩
      ·obtain⟨u1,u2,u3,u4⟩:=Ea;exact⟨u1,u2,by rw[aB fp.symm];exact u3,u4⟩
      ·have h4:=B4 b u hb hu;rw[aB (aK h4 hf)];exact B7 b u hb h4
    have goA:∀(j7:Int) (H7:Hp),0≤j7→j7<2→jl H7 p→But p H6 H7→(∃H8,vV H7 f bv (.int j7) H8∧Q (.ref f) H8)∨∃kvs,H7 f=some (.dK kvs)∧SmK kvs∧kvs.length<sizeLine∧Nq H7 bv∧∀o,Bb o (JC kvs++[(bv,.int j7)])→Q (.ref f) (upd H7 f (yZ f o)):=by
      intro j7 H7 h70 h71 Ea zO;have e7:=zO _ _ fp e6;have B7:=B6.trans zO;obtain⟨db,kb⟩:=k4;have bad:(dFs fs++[(db,PyData.int j7)]).all (Qo m)=false:=by
        rw[List.all_append];simp[Qo,kb.no]
      have sm:∀e∈dFs fs++[(db,PyData.int j7)],yW 3 100 e.1∧yW 3 100 e.2:=fun e he=>by
        rcases List.mem_append.mp he with he | he
        ·exact Oq hfs hm e he
        ·rw[List.mem_singleton] at he;rw[he];exact⟨kb.sm,mW (by omega) (by omega)⟩
      have rd:∀(ob:HO),kI (hid f (hid p (upd H7 f ob))) (JC (dM fs)++[(bv,.int j7)]) (dFs fs++[(db,PyData.int j7)]):=fun ob=>by
        refine Lr (z9 fs) (kb.rd.same (qhj hf fun x u hx hxp e=>?_)) (.key (.leaf (.int _)));rw[aB hx];exact B7 x u hxp e
      rcases kb.kd with⟨k,rfl,hk⟩ | ho
      · refine .inl ⟨_,vV.k e7 (by omega),?_⟩;rw[L2.sI _ (by
          cases hv:jE (dM fs) k with
          | none=>rfl
          | some x=>
            exfalso;unfold jE at hv;obtain⟨z,hz,rfl⟩:=Option.map_eq_some_iff.mp hv;have h1:=List.mem_of_find?_eq_some hz;have h2:z.1=k:=by simpa using List.find?_some hz
            obtain⟨y,hy,rfl⟩:=List.mem_map.mp h1;exact hk _ (hfs.ok y hy).1 h2.symm)]
        exact fin _ _ _ H7 _ B7 rfl Ea (.inl ⟨_,rfl,by unfold JC;rw[List.map_append];rfl⟩) (rd _) bad sm (by simp;omega)
      · refine .inr ⟨_,e7,fun e he=>?_,by omega,Nq.mono ?_ ho,fun o ro=>?_⟩
        ·obtain⟨y,hy,rfl⟩:=List.mem_map.mp he;exact⟨y.1,rfl,by have:=(hfs.ok y hy).1;omega⟩
        ·exact(uI B7).trans yU
        ·exact fin _ _ _ H7 _ B7 rfl Ea (.inr ⟨o,rfl,ro⟩) (rd _) bad sm (by simp;omega)
    simp -dsimp[au,stC,-Bool.exists_bool,-List.map_take,-Prod.forall,-Prod.exists];refine iB.of (fun h=>?_) (fun h=>?_)
    ·simp -dsimp[au,stC,-Bool.exists_bool,-List.map_take,-Prod.forall,-Prod.exists];refine⟨p,2,rfl,Ey,by decide,by decide,fun j7 H7 h70 h71 Ea zO=>?_⟩;simp -dsimp[au,stC,-Bool.exists_bool,-List.map_take,-Prod.forall,-Prod.exists];exact goA j7 H7 h70 h71 Ea zO
    · simp -dsimp[au,stC,-Bool.exists_bool,-List.map_take,-Prod.forall,-Prod.exists];refine iB.of (fun h2=>?_) (fun h2=>?_)
      ·simp -dsimp[au,stC,-Bool.exists_bool,-List.map_take,-Prod.forall,-Prod.exists];refine⟨p,2,rfl,Ey,by decide,by decide,fun j7 H7 h70 h71 Ea zO=>?_⟩;simp -dsimp[au,stC,-Bool.exists_bool,-List.map_take,-Prod.forall,-Prod.exists];exact goA j7 H7 h70 h71 Ea zO
      · have hm0:0<m:=by
          have:=of_decide_eq_false h2;omega
        simp -dsimp[au,stC,-Bool.exists_bool,-List.map_take,-Prod.forall,-Prod.exists];refine iB.of (fun h3=>?_) (fun h3=>?_)
        · simp -dsimp[au,stC,-Bool.exists_bool,-List.map_take,-Prod.forall,-Prod.exists];refine⟨p,m,rfl,Ey,by omega,by omega,fun j7 H7 h70 h71 Ea zO=>?_⟩;have e7:=zO _ _ fp e6;have B7:=B6.trans zO;obtain⟨n7,rfl⟩:=Int.eq_ofNat_of_zero_le h70;obtain⟨dv,ko⟩:=o4;simp -dsimp[au,stC,-Bool.exists_bool,-List.map_take,-Prod.forall,-Prod.exists];refine .inl ⟨_,vV.k (k:=Sum.inl (n7:Int)) e7 (by omega),?_⟩;have rx:∀(ob:HO),Tc (hid f (hid p (upd H7 f ob))) ov dv:=fun ob=>ko.rd.same (qhj hf fun x u hx hxp e=>by
            rw[aB hx];exact B7 x u hxp e)
          obtain⟨ds',r1,r2,⟨eb,r3,r4⟩,r5⟩:=qaY (i:=n7) (rx (.dK (putK (dM fs) (Sum.inl (n7:Int)) ov))) (z9 fs);refine fin _ _ ds' H7 _ B7 rfl Ea (.inl ⟨_,rfl,rfl⟩) r1 ?_ (fun e he=>?_) (by omega)
          ·rw[List.all_eq_false];exact⟨eb,r3,by simp[Qo,r4,ko.no]⟩
          · rcases r5 e he with⟨e',he',z1,z2⟩ | rfl
            · have:=Oq hfs hm e' he';rw[z1];refine⟨this.1,?_⟩
              rcases z2 with z2 | z2
              ·rw[z2];exact this.2
              ·rw[z2];exact ko.sm
            ·exact⟨mW (by omega) (by omega),ko.sm⟩
        · simp -dsimp[au,stC,-Bool.exists_bool,-List.map_take,-Prod.forall,-Prod.exists];refine G4 (ψ:=Yu) (fun s h=>Yu.mono s h) (p:=p) (n:=10) (
            j4 (vN qe7 rfl (by decide) (p7 _)) <|
            j4 (vN Az rfl (by decide) (p7 _)) <|
            j4 (vN qgW rfl (by decide) (p7 _)) <|
            j4 (vN qaj rfl (by decide) (p7 _)) <|
            j4 (vN (qai qy (by simp)) rfl (by decide) (p7 _)) <|
            j4 (vN (Nk qy (by simp)) rfl (by decide) (p7 _)) <|
            j4 (vN (qcI (mH Az qy) (by decide)) rfl (by decide) (p7 _)) <|
            j4 (vN (qai (mH (Nk (mH Az (mH Az qy)) (by decide)) qy) (by decide)) rfl (by decide) (p7 _)) <|
            j4 (vN (Nk (mH (Nk (mH Az (mH Az qy)) (by decide)) qy) (by decide)) rfl (by decide) (p7 _)) <|
            j4 (vN qaj rfl (by decide) (p7 _)) Nr) Ey.ex (by decide) fun b7 vs7 H7 hb7 s7 hn7 e7 a7=>?_
          have bp7:b7≠p:=lM Ey.ex (Same.refl _) hb7;refine⟨p,10,rfl,Ey.DW s7,by decide,by decide,fun j8 H8 qkj qkk hP8 hB8=>?_⟩;obtain⟨nv,hnv,qkl⟩:=Nt hn7 qkj qkk;obtain⟨dn,n1,n2,n3,n4⟩:=Yu.mono (uI hB8) (a7 nv hnv);simp -dsimp[au,stC,-Bool.exists_bool,-List.map_take,-Prod.forall,-Prod.exists];refine⟨_,.inl (bU.of (hB8 _ _ bp7 e7)),nv,qkl,?_⟩;exact q nv dn H8 (.inl ⟨dn,n2,n3⟩) (.inl n1) (n4.mono (by decide) (by decide)) hP8 ((B4.trans B6).trans ((But.of s7).trans hB8))
end K45
namespace L2
open PySem PySem.Spec PyProof.Rows
section
variable {P:Program} {w:World} {A:Around} {R:Result→Shared→Prop} {it l D:Addr}
def Jp {α:Type} (ks:List (Int×α)):List (Key×α):=ks.map fun e=>(Sum.inl e.1,e.2)
theorem qcJ {α:Type} {ks:List (Int×α)} {x:Int} (h:(Jp ks).any (fun kv=>decide (kv.1=(Sum.inl x:Key)))=true):x∈ks.map (·.1):=by
  obtain⟨kv,h1,h2⟩:=List.any_eq_true.mp h;obtain⟨e,h3,rfl⟩:=List.mem_map.mp h1;have h4:=of_decide_eq_true h2;injection h4 with h4;exact List.mem_map.mpr ⟨e,h3,h4⟩
theorem qcK {its:List Value} {ks:List (Int×Value)} (hh:A.handled=none) (h2:D≠it) (h3:D≠l) (h4:l≠it) (hs:its.length≤sizeLine) (hk:its.length=ks.length) (hn:(ks.map (·.1)).Nodup) :
    ∀(k i:Nat) (s:Shared),its.length - i=k→i≤its.length→s.heap.IsListIter it l i→s.heap.IsList l its.toArray→s.heap.DictOf (aV P w) D (Jp (ks.take i))→
      (∀(j:Nat) (e:Int×Value),ks[j]? = some e→∃t u,its[j]? = some (.ref t)∧t≠D∧t≠it∧s.heap.IsTuple t #[.int e.1 u,e.2])→
      (∀h' tk,(∀c o,c≠D→c≠it→s.heap.get? c=some o→h'.get? c=some o)→h'.DictOf (aV P w) D (Jp ks)→R (.ok (.ret .none)) {s with heap:=h',toks:=tk})→
      codeAny (model P w) A (.builtin "dict.update.loop" ⟨[.ref D,.ref it,rawInt i,.none],[]⟩) R s:=by
  intro k
  induction k with
  | zero=>
    intro i s hk0 hi hE hl hD hT hR;obtain rfl:i=its.length:=by omega
    refine codeAny_builtin yN ?_;rw[Around.under_plainId lX _];show wpAny _ A.in1 (pyNext (.ref it) >>= _) _ _ s;refine wpAny_bind (wpAny_pyNext_list_end (A:=A.in1) hh hE hl (by simp) fun h' hm=>?_);refine wpAny_bind (wpAny_pure ?_);refine wpAny_pure (hR h' s.toks (fun c o c1 c2 z=>hm c o c2 z) ?_);rw[hk,List.take_length] at hD;exact hD.extBut hm h2
  | succ k ih=>
    intro i s hk0 hi hE hl hD hT hR;have hlt:i<its.length:=by omega
    have hlt2:i<ks.length:=by omega
    obtain⟨t,u,hit,htD,hti,htt⟩:=hT i ks[i] (List.getElem?_eq_getElem hlt2);refine codeAny_builtin yN ?_;rw[Around.under_plainId lX _];show wpAny _ A.in1 (pyNext (.ref it) >>= _) _ _ s;refine wpAny_bind (wpAny_pyNext_list_item hE hl (x:=.ref t) (by simpa using hit) fun h' hE' hsb'=>?_);have km:∀c o,c≠it→s.heap.get? c=some o→h'.get? c=some o:=fun c o c1 z=>(hsb'.2 c c1).trans z;obtain⟨ot,hot,hct,nt,hdt⟩:=id htt;have qhk:=km _ _ hti hot;have hT':(Shared.mk h' s.gens s.drawn s.toks s.os).TypeIs (.ref t) "tuple" :=⟨_,qhk,hct⟩;show wpAny _ A.in1 (holding _ _ >>= _) _ _ _;refine wpAny_bind (wpAny_holding ?_);refine wpAny_bind (wpAny_tryCatch ?_);unfold Builtin.Dict.pairItems;refine wpAny_bind (wpAny_typeOf hT' ?_);rw[if_pos (by decide)];refine wpAny_bind (wpAny_seqItems qhk hdt ?_);refine wpAny_pure ?_;show wpAny _ A.in1 (holding _ (dictSet D (.int ks[i].1 u) ks[i].2)) _ _ _;refine wpAny_holding ?_;have hD':h'.DictOf (aV P w) D (Jp (ks.take i)):=by
      obtain⟨o,es,ep,ho,r⟩:=hD;exact⟨o,es,ep,km D o h2 ho,r⟩
    refine wpAny_dictSet_pairs (knd:=aV P w) (k:=Sum.inl ks[i].1) (s:=Shared.mk h' s.gens s.drawn s.toks s.os) (CV P w _ u) hD' (fun h2' hD2 hsb=>?_) (by rw[Jp,List.length_map,List.length_take];omega);have est:stored (Jp (ks.take i)) (Sum.inl ks[i].1) ks[i].2=Jp (ks.take (i+1)):=by
      unfold stored;rw[if_neg (fun z=>?_)]
      ·rw[List.take_succ_eq_append_getElem hlt2,Jp,Jp,List.map_append];rfl
      · have h5:=qcJ z;rw[List.map_take] at h5;have h6:(ks.map (·.1))[i]? = some ks[i].1:=by rw[List.getElem?_map,List.getElem?_eq_getElem hlt2];rfl
        obtain⟨j,hj⟩:=List.getElem?_of_mem h5;rw[List.getElem?_take] at hj;split at hj
        ·rename_i hji;have hj1:=List.getElem?_eq_some_iff.mp hj;have hi1:=List.getElem?_eq_some_iff.mp h6;have:=(List.getElem?_inj hj1.1 hn).mp (hj.trans h6.symm);omega
        ·cases hj
    rw[est] at hD2;refine wpAny_pure ⟨plainId_quiet lX _,?_⟩;show codeAny _ A (.builtin "dict.update.loop" ⟨[.ref D,.ref it,rawInt ((i:Int)+1),.none],[]⟩) _ _;have ei:(i:Int)+1=((i+1:Nat):Int):=by omega
    rw[ei];have kk:∀c o,c≠D→c≠it→s.heap.get? c=some o→h2'.get? c=some o:=fun c o c1 c2 z=>(hsb.2 c c1).trans (km c o c2 z);refine ih (i+1) _ (by omega) hlt ?_ ?_ hD2 (fun j e he=>?_) fun h3' tk hm3 hD3=>?_
    ·obtain⟨o,ho,hc,hd⟩:=hE';exact⟨o,(hsb.2 _ h2.symm).trans ho,hc,hd⟩
    ·obtain⟨o,ho,r⟩:=hl;exact⟨o,kk _ _ h3.symm h4 ho,r⟩
    ·obtain⟨t,u,q1,q2,q3,o,ho,r⟩:=hT j e he;exact⟨t,u,q1,q2,q3,o,kk _ _ q2 q3 ho,r⟩
    ·exact hR h3' tk (fun c o c1 c2 z=>hm3 c o c1 c2 (kk c o c1 c2 z)) hD3
end
section
variable {P:Program} {w:World} {A:Around} {E:Value→Shared→Prop} {s:Shared} {l:Addr}
theorem qcL {its:List Value} {ks:List (Int×Value)} {Q:Value→Shared→Prop} (hh:A.handled=none) (hl:PlainL s.heap l its.toArray) (hs:its.length≤sizeLine) (hk:its.length=ks.length) (hn:(ks.map (·.1)).Nodup)
    (hT:∀(j:Nat) (e:Int×Value),ks[j]? = some e→∃t u,its[j]? = some (.ref t)∧s.heap.IsTuple t #[.int e.1 u,e.2])
    (h:∀h' tk,(∀c o,s.heap.get? c=some o→h'.get? c=some o)→h'.DictOf (aV P w) s.heap.objs.size (Jp ks)→Q (.ref s.heap.objs.size) {s with heap:=h',toks:=tk}) :
    wpAny (model P w) A (call (.type "dict") [.ref l]) Q E s:=by
  obtain⟨ol,nl,hol,hcl,hdl,hdat⟩:=id hl;refine callType_codes (Q₁:=fun obj s₁=>obj = .ref s.heap.objs.size∧s₁={s with heap:=s.heap.push {cls:=.type "dict",data:=.dict #[]}}) F.kt_called_dict (F.kt_typeCall_dict_1 _) F.entry_dict_init (kt_code_dict_new _ ⟨rfl,rfl⟩) ?_;rintro obj s₁ ⟨rfl,rfl⟩;have hnew:(s.heap.push {cls:=.type "dict",data:=.dict #[]}).DictOf (aV P w) s.heap.objs.size []:=Heap.DictOf.new s.heap;have kp:∀c o,s.heap.get? c=some o→(s.heap.push {cls:=.type "dict",data:=.dict #[]}).get? c=some o:=fun c o z=>Heap.get?_push_of_some _ z;have ne:∀{c o},s.heap.get? c=some o→s.heap.objs.size≠c:=fun z=>Nat.ne_of_gt (Heap.lt_size z);have hTy:(Shared.mk (s.heap.push {cls:=.type "dict",data:=.dict #[]}) s.gens s.drawn s.toks s.os).TypeIs (.ref l) "list" :=⟨_,kp _ _ hol,hcl⟩;refine⟨hnew.typeIs,F.args_dict_init_2 _ _,?_⟩;unfold Builtin.«dict.__init__»;refine wpAny_bind ?_;unfold Builtin.Dict.selfAndRest;refine wpAny_bind (wpAny_notOrdered_dict hnew.typeIs ?_);show wpAny _ _ (pure (s.heap.objs.size,[Value.ref l])) _ _ _;refine wpAny_pure ?_;show wpAny _ _ (Builtin.Dict.updateFrom "dict.__init__" s.heap.objs.size (.ref l) [] .none) _ _ _;unfold Builtin.Dict.updateFrom;refine wpAny_bind (wpAny_typeOf hTy ?_);rw[if_pos (by decide)];show wpAny (model P w) A.in1.in1 (getAttr? (.ref l) "keys" >>= _) _ _ _;refine wpAny_bind (JB (A:=A.in1.in1) (kp _ _ hol) hcl hdat hdl hh fun h1 tk1 k1=>?_);have hl1:h1.IsList l its.toArray:=⟨ol,k1 _ _ (kp _ _ hol),hcl,nl,hdat⟩;simp only[Option.isNone_none,if_true];refine wpAny_bind (wpAny_rule ?_);refine wpAny_bind (wpAny_pyIter_list (s:=Shared.mk h1 s.gens s.drawn tk1 s.os) hl1 ?_);refine wpAny_pure ⟨plainId_quiet lX _,?_⟩;have kp2:∀c o,s.heap.get? c=some o→(h1.push {cls:=.type "list_iterator",data:=.fields #[.ref l,.int 0 0]}).get? c=some o:=fun c o z=>Heap.get?_push_of_some _ (k1 _ _ (kp _ _ z));have hD1:(h1.push {cls:=.type "list_iterator",data:=.fields #[.ref l,.int 0 0]}).DictOf (aV P w) s.heap.objs.size []:=by
    obtain⟨o,es,ep,ho,r⟩:=hnew;exact⟨o,es,ep,Heap.get?_push_of_some _ (k1 _ o ho),r⟩
  have ltD:s.heap.objs.size<h1.objs.size:=by
    obtain⟨o,es,ep,ho,r⟩:=hnew;exact Heap.lt_size (k1 _ o ho)
  have lt1:∀{c o},s.heap.get? c=some o→c≠h1.objs.size:=fun z=>Nat.ne_of_lt (Nat.lt_trans (Heap.lt_size z) ltD);refine qcK (A:=A.in1) (l:=l) (it:=h1.objs.size) hh (Nat.ne_of_lt ltD) (ne hol) (lt1 hol) hs hk hn its.length 0 _ (by omega) (Nat.zero_le _) ⟨_,Heap.get?_push_size _ rfl,rfl,rfl⟩ ⟨ol,kp2 _ _ hol,hcl,nl,hdat⟩ (by simpa [Jp] using hD1) (fun j e he=>?_) fun h' tk hm hD=>⟨rfl,h h' tk (fun c o z=>hm c o (ne z).symm (lt1 z) (kp2 _ _ z)) hD⟩;obtain⟨t,u,q1,o,ho,r⟩:=hT j e he;exact⟨t,u,q1,(ne ho).symm,lt1 ho,o,kp2 _ _ ho,r⟩
end
section
variable {X:Cx} {K:W.Frag}
def DX (H:Hp) (tv:List V) (ks:List (Int×V)):Prop:=tv.length=ks.length∧∀(i:Nat) (e:Int×V),ks[i]? = some e→∃t,tv[i]? = some (.ref t)∧H t=some (.tup [.int e.1,e.2])
theorem qaZ:∀{ks:List (Int×V)} {ks':List (Int×Value)},ks'.length=ks.length→(∀(j:Nat) e e',ks[j]? = some e→ks'[j]? = some e'→e'.1=e.1∧RelV e.2 e'.2)→KV (Jp ks) (Jp ks')
  | [],[],_,_=>.nil
  | [],_::_,h,_=>by simp at h
  | _::_,[],h,_=>by simp at h
  | e::ks,e'::ks',h,hr=>by
    obtain⟨h1,h2⟩:=hr 0 e e' rfl rfl;exact .cons ⟨congrArg Sum.inl h1.symm,h2⟩ (qaZ (by simpa using h) fun j x y p q=>hr (j+1) x y p q)
def rDI (K:W.Frag):List V→Hp→VK→Prop:=fun xs H Q=>∃l tv ks,xs=[.ref l]∧bU K H l tv∧DX H tv ks∧(ks.map (·.1)).Nodup∧∀p,H p=none→Q (.ref p) (upd H p (.dK (Jp ks)))
theorem T9 (hK:X.K=K) (hc:X.calm=true):cu X (.type "dict") (rDI K):=by
  subst hK;intro p_ s σ H xs us Q I r h;obtain⟨l,tv,ks,rfl,hl,hp,hn,q⟩:=h;obtain⟨u,rfl,ru⟩:=r.one;obtain rfl:u=Value.ref l:=ru;obtain⟨its,rv,pl,hz⟩:=I.list hl;obtain⟨ks',hl',hr⟩:=Qy ks (fun j (e:Int×V) (e':Int×Value)=>e'.1=e.1∧RelV e.2 e'.2∧∃t u,its[j]? = some (.ref t)∧s.heap.IsTuple t #[.int e'.1 u,e'.2]) fun j e he=>by
    obtain⟨t,h1,h2⟩:=hp.2 j e he;obtain⟨v,e1,e2⟩:=Vals.get rv h1;obtain rfl:v=Value.ref t:=e2;obtain⟨ws,Wh,pw,_⟩:=I.tuple (gY.of h2);obtain⟨a,b,rfl,ra,rb⟩:=vals2 Wh;obtain⟨u,rfl⟩:=(show ∃u,a=Value.int e.1 u from ra);exact⟨(e.1,b),rfl,rb,t,u,e1,pw⟩
  have hlen:its.length=tv.length:=rv.length.symm;have hkey:ks'.map (·.1)=ks.map (·.1):=by
    refine List.ext_getElem? fun j=>?_;rw[List.getElem?_map,List.getElem?_map];cases e:ks[j]? with
    | none=>
      have:ks'[j]? = none:=by
        rw[List.getElem?_eq_none_iff] at e ⊢;omega
      rw[this];rfl
    | some x=>
      obtain⟨x',h1,h2,_⟩:=hr j x e;rw[h1];simp[h2]
  refine qcL (ks:=ks') (I.ok.hd hc) pl (by omega) (by have:=hp.1;omega) (by rw[hkey];exact hn) (fun j e he=>?_) fun h' tk kk hD=>?_
  · have hj:j<ks.length:=by
      have:=(List.getElem?_eq_some_iff.mp he).1;omega
    obtain⟨e',h1,_,_,t,u,h2,h3⟩:=hr j ks[j] (List.getElem?_eq_getElem hj);rw[he] at h1;cases h1;exact⟨t,u,h2,h3⟩
  · have hf:H s.heap.objs.size=none:=I.hok.fresh (Nat.le_refl _);refine⟨.ref s.heap.objs.size,_,I.laid (o:=.dK (Jp ks)) (t':=tk) kk (Nat.le_refl _) ?_,rfl,q _ hf⟩;refine(show cj _ _ _ _ _ (.dK (Jp ks)) from⟨by have:=hp.1;rw[Jp,List.length_map];omega,?_,Jp ks',qaZ hl' fun j x y h1 h2=>?_,hD⟩)
    ·exact beq_eq_false_iff_ne.mpr (Nat.ne_of_gt I.big)
    ·obtain⟨x',h3,h4,h5,_⟩:=hr j x h1;rw[h2] at h3;cases h3;exact⟨h4,h5⟩
def fDI (K:W.Frag):List V→Hp→VK→Prop:=fun xs H Q=>ar1 xs fun x=>isRef x fun l=>∃tv,bU K H l tv∧∃ks,DX H tv ks∧(ks.map (·.1)).Nodup∧∀p,H p=none→Q (.ref p) (upd H p (.dK (Jp ks)))
@[simp ↓] theorem qkT (K:W.Frag) xs H Q:fDI K xs H Q=(ar1 xs fun x=>isRef x fun l=>∃tv,bU K H l tv∧∃ks,DX H tv ks∧(ks.map (·.1)).Nodup∧∀p,H p=none→Q (.ref p) (upd H p (.dK (Jp ks)))):=rfl
theorem qhl {K:W.Frag} {xs H Q} (h:fDI K xs H Q):rDI K xs H Q:=by
  obtain⟨x,rfl,h⟩:=ar1.out h;obtain⟨l,rfl,h⟩:=isRef.out h;obtain⟨tv,h1,ks,h2⟩:=h;exact⟨l,tv,ks,rfl,h1,h2⟩
theorem qfz (hK:X.K=K) (hc:X.calm=true):cu X (.type "dict") (fDI K):=(T9 hK hc).mono qhl
end
end L2
namespace K45
open PySem L2
variable {P:Program} {w:World} {K:W.Frag} {mg:Str→Option Value} {base:Heap} {a:Adr}
theorem jl.qhm {p b:Addr} {H:Hp} {o:HO} (x:jl H p) (h:H b=some o) (hn:∀zs,o≠.lst zs):b≠p:=fun z=>by
  subst z;obtain⟨u,v,e,_⟩:=x;rw[h] at e;exact hn _ (Option.some.inj e)
theorem cW.but {C p:Addr} {H H':Hp} {o:Addr} {xs:List Str} {ps:List (Str×Str)} (h:cW C H o xs ps) (hp:jl H p) (s:But p H H'):cW C H' o xs ps:=by
  obtain⟨dx,n,m,tv,h1,h2,h3,h4,h5⟩:=h.ex;have ne:∀{b u},H b=some u→(∀zs,u≠.lst zs)→b≠p:=fun e k z=>by
    subst z;obtain⟨_,_,w,_⟩:=hp;rw[e] at w;exact k _ (Option.some.inj w)
  exact⟨⟨dx,n,m,tv,s _ _ (ne h1 (by intro z e;cases e)) h1,s _ _ (ne h2 (by intro z e;cases e)) h2,s _ _ (ne h3 (by intro z e;cases e)) h3,h4.but hp s,h5⟩⟩
theorem Xx {ys:List V} {m:Nat} (h:ys.Perm (fH (List.range m))):∃ks:List Nat,ys=fH ks∧ks.Nodup∧∀k∈ks,k<m:=by
  have all:∀y∈ys,∃k:Nat,y=V.int k:=fun y hy=>by
    obtain⟨z,_,rfl⟩:=List.mem_map.mp (h.mem_iff.mp hy);exact⟨z,rfl⟩
  have:∃ks:List Nat,ys=fH ks:=by
    clear h
    induction ys with
    | nil=>exact⟨[],rfl⟩
    | cons y ys ih=>
      obtain⟨zs,rfl⟩:=ih fun z hz=>all z (List.mem_cons_of_mem _ hz);obtain⟨z,rfl⟩:=all y List.mem_cons_self;exact⟨z::zs,rfl⟩
  obtain⟨ks,rfl⟩:=this;have e:∀l:List Nat,(fH l).map (fun v=>match v with | V.int s=>s.toNat | _=>0)=l:=fun l=>by
    induction l with
    | nil=>rfl
    | cons a l ih=>
      simp only[fH,List.map_cons] at ih ⊢;rw[ih];simp
  have h2:=h.map (fun v=>match v with | V.int s=>s.toNat | _=>0)
  rw[e,e] at h2;exact⟨ks,rfl,h2.nodup_iff.mpr List.nodup_range,fun k hk=>List.mem_range.mp (h2.mem_iff.mp hk)⟩
theorem T_ {H:Hp} {tv:List V} {ps:List (Int×V)} {p:Addr} {e:Int×V} (h:DX H tv ps) (hp:H p=some (.tup [.int e.1,e.2])):DX H (tv++[.ref p]) (ps++[e]):=by
  have h1:=h.1;refine⟨by simp[h1],fun j e' h2=>?_⟩
  by_cases hj:j<ps.length
  ·rw[List.getElem?_append_left hj] at h2;obtain⟨t,z1,z2⟩:=h.2 j e' h2;exact⟨t,by rw[List.getElem?_append_left (by omega)];exact z1,z2⟩
  · rw[List.getElem?_append_right (by omega)] at h2;have hz:j - ps.length=0:=by
      have:=(List.getElem?_eq_some_iff.mp h2).1;simp at this;omega
    rw[hz] at h2;simp at h2;subst h2;exact⟨p,by rw[List.getElem?_append_right (by omega),show j - tv.length=0 by omega];rfl,hp⟩
theorem qT {H H':Hp} {tv:List V} {ps:List (Int×V)} (h:DX H tv ps) (s:cJ H H'):DX H' tv ps:=⟨h.1,fun i e he=>by
  obtain⟨t,z1,z2⟩:=h.2 i e he;exact⟨t,z1,s _ _ z2⟩⟩
def qkm (ks:List Nat) (m:Nat) (D:Addr) (i:Nat) (H:Hp):Prop:=∃(tv:List V) (fs:List (Nat×Int)),H D=some (.lst tv)∧DX H tv (fs.map fun e=>((e.1:Int),V.int e.2))∧rP fs m∧∀e∈fs,e.1∈ks.take i
theorem qfA (fs:List (Nat×Int)):Jp (fs.map fun e=>((e.1:Int),V.int e.2))=dM fs:=by
  unfold Jp dM;rw[List.map_map];rfl
theorem qhn (ps:List (Str×Str)) (xs:List Str) (fs:List (Nat×Int)):Ih ps xs fs=Str.ofString "told" ∨Ih ps xs fs=Str.ofString "shut" ∨Ih ps xs fs=Str.ofString "barred" :=by
  unfold Ih;split
  ·exact .inr (.inl rfl)
  · split
    ·exact .inl rfl
    ·exact .inr (.inr rfl)
def Ot (K:W.Frag):Sp:=fun vs H Q _=>∃(l:Addr) (ns:List Int),vs=[.ref l]∧bU K H l (ns.map V.int)∧ns.length≤63∧∀H',Q (.bl true) H'
theorem qfB (T:Txt K mg a):bZ P w K mg base lB 9 a.Du a.N7 ["_law_script"] (Ot K):=by
  refine T.qdJ.sV oh (fun vs H Q E h=>?_) (fun cdv A outer s H vs Q E hr h=>?_)
  ·obtain⟨l,ns,rfl,_⟩:=h;rfl
  · obtain⟨sl,ns0,rfl,hS,qkU,q⟩:=h;refine⟨_,(aC (iy PassesOwn.never rfl (PI.eqv (jC rfl T.nm.range (aj (aM (Gy rfl) rfl T.nm.max boot_max (aj aG (aj (aM (Sd rfl) rfl T.nm.min boot_min (aj aG (aj (aM (fV (K:=K) rfl) rfl T.nm.len PySem.boot_len (aj (aL 0) ak)) ak))) ak))) ak)) (jK _)) (aU (i:=1) oh.nd rfl (Or.inl rfl))
      (aC (bI (i:=2) oh.nd rfl (Or.inr rfl) (PE.eqv (aJ (qff (K:=K) T) (hr.mono (by decide)) rfl T.qdE T.qaB.kp T.qdD .nil aW (aj (aL 0) (aj (aL 1) ak))) (aH _ _ _)))
      (aC (bI (i:=3) oh.nd rfl (Or.inl rfl) (PE.eqv (aJ (qfk (K:=K) T) (hr.mono (by decide)) rfl T.qdI T.qaD.kp T.qdH .nil aW (aj (aL 2) (aj aG (aj aG ak)))) (aH _ _ _)))
      (aC (bI (i:=4) oh.nd rfl (Or.inl rfl) (PE.eqv (qbG T.qdL (Q8 (K:=K) T) (hr.mono (by decide)) rfl T.qdK T.Hl .nil aW (aj (gj (gq (K:=K) rfl) (aL 3) aG (fun _ _=>rfl)) (aj (gj (gq (K:=K) rfl) (aL 3) aG (fun _ _=>rfl)) ak))) (Z7 _ _ _ _)))
      (aC (bI (i:=5) oh.nd rfl (Or.inl rfl) (aM (fV (K:=K) rfl) rfl T.nm.len PySem.boot_len (aj (gj (gq (K:=K) rfl) (aL 3) aG (fun _ _=>rfl)) ak)))
      (aC (bI (i:=6) oh.nd rfl (Or.inl rfl) (eE (qfz (K:=K) rfl rfl) rfl T.Tv.dict gH (aj (jm rfl rfl (show bK (aD vD) _ ["_law_script", "_law_k", "_law_pot_here", "_law_web_here", "_law_made", "_law_many", "_law_fixed", "_law_turn", "_law_none", "_law_word"] ["_law_j"] [2] ["_law_j", "_law_pot_here"] from⟨rfl,by decide+kernel,by decide+kernel,rfl,by decide+kernel,by decide+kernel⟩) rfl (PI.eqv (iI (K:=K) rfl (PE.eqv (aJ (HN (K:=K) T) (hr.mono (by decide)) rfl T.Et T.zG.kp T.Es .nil aW (aj (aL 2) (aj (Nb rfl rfl T.nm.list rfl T.nm.range (aj (aL 5) ak)) ak))) (aH _ _ _))) (gC _ _)) (fun C s H fp pn=>(aU (i:=0) (show(["_law_j", "_law_pot_here"]:List Str).Nodup by decide+kernel) rfl (Or.inl rfl))) (fun C s H fp pn=>(yD (bD nW (PE.eqv (aJ (dY (K:=K) T) (hr.mono (by decide)) rfl T.gb T.fL.kp T.f9 .nil aW (aj (aL 1) (aj aG ak))) (aH _ _ _)) aG (cP _)))) (fun C s H fp pn=>(d9 (aj (aL 0) (aj (PE.eqv (aJ (dY (K:=K) T) (hr.mono (by decide)) rfl T.gb T.fL.kp T.f9 .nil aW (aj (aL 1) (aj aG ak))) (aH _ _ _)) ak))))) ak)))
      (aC (iy PassesOwn.never rfl (PI.eqv (jC rfl T.nm.range (aj aG ak)) (jK _)) (aU (i:=7) oh.nd rfl (Or.inl rfl))
      (aC (bI (i:=8) oh.nd rfl (Or.inl rfl) (PE.eqv (aJ (Rt (K:=K) T) (hr.mono (by decide)) rfl T.Hu T.wC.kp T.Ht .nil aW (aj (aL 2) (aj (aL 5) (aj (aL 6) ak)))) (aH _ _ _)))
      (aF (dg (PW.pt (pB (bD sS (PE.eqv (aJ (EY (K:=K) T) (hr.mono (by decide)) rfl T.Hs T.Bh.kp T.Hr .nil aW (aj aG (aj (aL 4) (aj (aL 8) ak)))) (aH _ _ _)) c7 (cP _)) (lD (bD sS (PE.eqv (aJ (EY (K:=K) T) (hr.mono (by decide)) rfl T.Hs T.Bh.kp T.Hr .nil aW (aj aG (aj (aL 4) (aj (aL 8) ak)))) (aH _ _ _)) c7 (cP _))))) (aF (bh pA)) bM))))
      (aC (bI (i:=9) oh.nd rfl (Or.inl rfl) (PE.eqv (aJ (EY (K:=K) T) (hr.mono (by decide)) rfl T.Hs T.Bh.kp T.Hr .nil aW (aj aG (aj (aL 4) (aj (aL 6) ak)))) (aH _ _ _)))
      (aF (dg (PW.pt (pB (bD (M9 (K:=K) rfl) (aL 9) (d9 (aj c7 (aj c7 (aj c7 ak)))) rfl) (lD (bD sS (PE.eqv (aJ (EY (K:=K) T) (hr.mono (by decide)) rfl T.Hs T.Bh.kp T.Hr .nil aW (aj aG (aj (aL 4) (aj (aL 6) ak)))) (aH _ _ _)) (aL 9) (cP _))))) (aF (bh pA)) bM))))))))))
      (aF (bh pA))),?_⟩
    have s60:60≤sizeLine:=by decide
    have z5:20000≤sizeLine:=by decide
    simp -dsimp[au,stC,-Bool.exists_bool,-List.map_take,-Prod.forall,-Prod.exists];refine⟨_,.inl hS,?_⟩;simp only[List.length_map];obtain⟨m,hm,hm6⟩:∃m:Nat,(if 1<if (ns0.length:Int)<8 then (ns0.length:Int) else 8 then if (ns0.length:Int)<8 then (ns0.length:Int) else 8 else 1)=m∧m≤8:=by
      by_cases h1:(ns0.length:Int)<8
      · rw[if_pos h1]
        by_cases h2:1<(ns0.length:Int)
        ·exact⟨ns0.length,by rw[if_pos h2],by omega⟩
        ·exact⟨1,by rw[if_neg h2];rfl,by decide⟩
      ·rw[if_neg h1];exact⟨8,rfl,by decide⟩
    simp only[hm,Int.toNat_natCast];refine⟨by omega,by omega,frR (fun i σ H'=>(∃o1 o2 o3 o4 o5 o6 o7 o8 o9,σ=[some (.ref sl),o1,o2,o3,o4,o5,o6,o7,o8,o9])∧Same H H') ⟨⟨_,_,_,_,_,_,_,_,_,rfl⟩,Same.refl _⟩ ?_ ?_⟩
    · rintro i σ H0 hi ⟨⟨o1,o2,o3,o4,o5,o6,o7,o8,o9,rfl⟩,s0⟩;simp -dsimp[au,stC,-Bool.exists_bool,-List.map_take,-Prod.forall,-Prod.exists];refine⟨sl,ns0,i,rfl,s0.seq hS,by omega,fun p Hp hp0 hPp hBp=>?_⟩;have sp1:Same H0 Hp:=fun b o e=>hBp b o (aK e hp0) e;simp -dsimp[au,stC,-Bool.exists_bool,-List.map_take,-Prod.forall,-Prod.exists];refine⟨p,9,20,rfl,hPp,by decide,by decide,by decide,by decide,fun t n l xs tv ps H1 ht0 hn0 hl0 ht1 hn1 hl1 qfC hX hTs _ _ Ys VD=>?_⟩;have np:n≠p:=(hPp.ne hn0).symm;have lp:l≠p:=(hPp.ne hl0).symm;have l9:=hX.len;have Xh:=hTs.len;simp -dsimp[au,stC,-Bool.exists_bool,-List.map_take,-Prod.forall,-Prod.exists];refine⟨_,.inr (gY.of ht1),_,dh (j:=0) rfl,_,.inr (gY.of ht1),_,dh (j:=1) rfl,fun o dx ho hdx qlg=>?_⟩;have so:Same H1 (upd (upd H1 dx (.own o)) o (.ins a.bG dx [])):=fun b u e=>by
        rw[aB (aK e ho),aB (aK e hdx)];exact e
      have hpr:nH H1 tv ps:=⟨qfC.1,fun i v e h1 h2=>by
        obtain⟨t,rfl,z⟩:=qfC.2 i v e h1 h2;exact⟨t,rfl,.inr z⟩⟩
      refine⟨o,dx,n,l,tv,xs,ps,rfl,ao,.inl (so _ _ hl1),hpr.same so,.inl (so _ _ hn1),hX,hTs,fun H2 hW2 hB2=>⟨rfl,?_⟩⟩;have s2:Same H1 H2:=fun b u e=>hB2 b u (aK e ho) (so b u e);have hP2:=Ys.DW s2;have tl:tv.length=ps.length:=qfC.1;simp -dsimp[au,stC,-Bool.exists_bool,-List.map_take,-Prod.forall,-Prod.exists];refine⟨_,.inr (gY.of (s2 _ _ ht1)),_,dh (j:=1) rfl,_,.inl (bU.of (s2 _ _ hl1)),?_⟩;refine⟨by omega,fun rl hrl=>?_⟩;have ee:upd H2 rl (.lst ((List.range tv.length).map fun i=>V.int (i:Nat)))=upd H2 rl (.lst (fH (List.range tv.length))):=rfl;rw[ee];have s3:Same H2 (upd H2 rl (.lst (fH (List.range tv.length)))):=aA hrl;have e3:upd H2 rl (.lst (fH (List.range tv.length))) rl=some (.lst (fH (List.range tv.length))):=ao;have rlp:rl≠p:=(hP2.ne hrl).symm;have Q9:=hP2.DW s3;generalize upd H2 rl (.lst (fH (List.range tv.length)))=H3 at s3 e3 Q9 ⊢;refine⟨p,rl,_,rfl,Q9,rlp,e3,by simp[fH];omega,fun r4 ys H4 hr4 e4 hperm Li Lj=>?_⟩;obtain⟨ks,rfl,knd,klt⟩:=Xx hperm;have r4p:r4≠p:=(Q9.ne hr4).symm;simp -dsimp[au,stC,-Bool.exists_bool,-List.map_take,-Prod.forall,-Prod.exists];refine⟨⟨_,bU.of e4⟩,fun D hD=>?_⟩;have Dp:D≠p:=(Li.ne hD).symm;refine cmL (fH ks) (fun j σ H'=>(∃o',σ=[o',some (.ref p)])∧qkm ks ps.length D j H'∧jl H' p∧But p H4 H') ⟨⟨_,rfl⟩,⟨[],[],ao,⟨rfl,fun i e h=>by simp at h⟩,⟨by simp,by simp⟩,by simp⟩,Li.upd Dp.symm,(But.refl _ _).new hD⟩ (fun i σ H' _ h=>bU.of (h.2.2.2 _ _ r4p e4)) ?_ ?_
      · rintro j v σ H5 hj ⟨⟨o',rfl⟩,⟨tv5,fs,eD,hpi,hfs,hsub⟩,Jo,Q_⟩;obtain⟨k,hk,rfl⟩:∃k,ks[j]? = some k∧v = .int (k:Nat):=by
          unfold fH at hj;rw[List.getElem?_map] at hj;obtain⟨k,hk,rfl⟩:=Option.map_eq_some_iff.mp hj;exact⟨k,hk,rfl⟩
        have hkm:=klt k (List.mem_of_getElem? hk);have tk:ks.take (j+1)=ks.take j++[k]:=take_one hk;have kn:k∉fs.map (·.1):=fun z=>by
          obtain⟨e,he,rfl⟩:=List.mem_map.mp z;have h2:(ks.take j++[e.1]).Nodup:=by rw[← tk];exact knd.sublist (List.take_sublist _ _)
          exact(List.nodup_append.mp h2).2.2 e.1 (hsub e he) e.1 (by simp) rfl
        have fl:=hfs.len;have ml:∀e∈fs,e.1∈ks.take (j+1):=fun e he=>by rw[tk];exact List.mem_append_left _ (hsub e he)
        simp -dsimp[au,stC,-Bool.exists_bool,-List.map_take,-Prod.forall,-Prod.exists];refine⟨p,3,rfl,Jo,by decide,by decide,fun d6 H6 qlh qli Ey Od=>?_⟩;have eD6:=Od _ _ Dp eD;have kp6:cJ H5 H6:=fun c zs e=>Od _ _ (Jo.qhm e (by intro zs z;cases z)) e;have qho:=qT hpi kp6;simp -dsimp[au,stC,-Bool.exists_bool,-List.map_take,-Prod.forall,-Prod.exists];refine iB.of (fun h=>?_) (fun h=>?_)
        · simp -dsimp[au,stC,-Bool.exists_bool,-List.map_take,-Prod.forall,-Prod.exists];refine⟨p,2,rfl,Ey,by decide,by decide,fun d7 H7 qlj qlk Ea zO=>?_⟩;have eD7:=zO _ _ Dp eD6;have kp7:cJ H6 H7:=fun c zs e=>zO _ _ (Ey.qhm e (by intro zs z;cases z)) e;have qkn:=qT qho kp7;simp -dsimp[au,stC,-Bool.exists_bool,-List.map_take,-Prod.forall,-Prod.exists];intro pt hpt;have ptp:pt≠p:=(Ea.ne hpt).symm;have eD8:upd H7 pt (.tup [.int (k:Int),.int d7]) D=some (.lst tv5):=cg eD7 hpt;have kp:cJ (upd H7 pt (.tup [.int (k:Int),.int d7])) (upd (upd H7 pt (.tup [.int (k:Int),.int d7])) D (.lst (tv5++[.ref pt]))):=fun c zs e=>yH e eD8 (by intro z;cases z);have hl:=hpi.1;rw[List.length_map] at hl;refine⟨_,eD8,by omega,⟨_,fs++[(k,d7)],ao,?_,hfs.snoc (by omega) ⟨by omega,by omega⟩ kn,fun e he=>?_⟩,(Ea.upd ptp.symm).upd Dp.symm,?_⟩
          ·rw[List.map_append];exact T_ (qT (qT qkn fun c zs e=>cg e hpt) kp) (kp _ _ ao)
          · rcases List.mem_append.mp he with he | he
            ·exact ml e he
            ·rw[List.mem_singleton] at he;rw[he,tk];simp
          ·exact(((Q_.trans Od).trans zO).same (aA hpt)).new hD
        ·simp -dsimp[au,stC,-Bool.exists_bool,-List.map_take,-Prod.forall,-Prod.exists];exact⟨⟨_,fs,eD6,qho,hfs,ml⟩,Ey,Q_.trans Od⟩
      · rintro σ H5 ⟨⟨o',rfl⟩,⟨tv5,fs,eD,hpi,hfs,hsub⟩,Jo,Q_⟩;simp -dsimp[au,stC,-Bool.exists_bool,-List.map_take,-Prod.forall,-Prod.exists];refine⟨_,bU.of eD,_,hpi,?_,fun d hd0=>?_⟩
        · rw[List.map_map];have:=hfs.nd;have inj:∀l:List (Nat×Int),(l.map (·.1)).Nodup→(l.map ((·.1) ∘ fun e:Nat×Int=>((e.1:Int),V.int e.2))).Nodup:=fun l h=>by
            induction l with
            | nil=>simp
            | cons x l ih=>
              rw[List.map_cons,List.nodup_cons] at h ⊢;refine⟨fun z=>h.1 ?_,ih h.2⟩;obtain⟨y,hy,z⟩:=List.mem_map.mp z;refine List.mem_map.mpr ⟨y,hy,?_⟩;simp only[Function.comp] at z;omega
          exact inj _ this
        · rw[qfA];have s6:Same H5 (upd H5 d (.dK (dM fs))):=aA hd0;have e6:upd H5 d (.dK (dM fs)) d=some (.dK (dM fs)):=ao;have dp:d≠p:=(Jo.ne hd0).symm;generalize upd H5 d (.dK (dM fs))=H6 at s6 e6 ⊢;have Ey:=Jo.DW s6;have B6:But p Hp H6:=((((VD.same s2).same s3).trans Lj).trans Q_).same s6;have S6:Same H0 H6:=fun b u e=>B6 b u (aK e hp0) (sp1 b u e);have hW6:=(((hW2.same s3).but Q9 Lj).but Li Q_).same s6;refine frR (fun i3 σ H'=>(∃o7 o8 o9,σ=[some (.ref sl),some (.int (i:Int)),some (.ref p),some (.ref t),some (.ref o),some (.int tv.length),some (.ref d),o7,o8,o9])∧jl H' p∧But p H6 H') ⟨⟨_,_,_,rfl⟩,Ey,But.refl _ _⟩ ?_ ?_
          ·rintro i3 σ H7 hi3 ⟨⟨o7,o8,o9,rfl⟩,Ea,zO⟩;simp -dsimp[au,stC,-Bool.exists_bool,-List.map_take,-Prod.forall,-Prod.exists];refine⟨p,d,ps.length,fs,by rw[tl],Ea,dp,zO _ _ dp e6,hfs,Xh,fun nv dd H8 hN hsh hsm hP8 hB8=>?_⟩;have qhp:=zO.trans hB8;have hW8:=hW6.but Ey qhp;have S8:Same (hid p H8) H8:=yU;simp -dsimp[au,stC,-Bool.exists_bool,-List.map_take,-Prod.forall,-Prod.exists];refine⟨0,o,nv,dd,xs,ps,_,rfl,hW8,hX,hTs,hsh.same S8,hsm,.inl ⟨hN.same S8,rfl⟩,fun H9 s9=>?_⟩;simp -dsimp[au,stC,-Bool.exists_bool,-List.map_take,-Prod.forall,-Prod.exists];refine⟨1,o,nv,dd,xs,ps,_,rfl,hW8.same s9,hX,hTs,hsh.same (S8.trans s9),hsm,.inl ⟨hN.same (S8.trans s9),rfl⟩,fun H10 s10=>?_⟩;simp -dsimp[au,stC,-Bool.exists_bool,-List.map_take,-Prod.forall,-Prod.exists];exact⟨hP8.DW (s9.trans s10),(qhp.same s9).same s10⟩
          · rintro σ H7 ⟨⟨o7,o8,o9,rfl⟩,Ea,zO⟩;have e7:=zO _ _ dp e6;have hW7:=hW6.but Ey zO;have hsh:QB H7 (.dict (dFs fs)) (.ref d):=.inr ⟨d,_,_,rfl,rfl,.inl ⟨_,e7,rfl⟩,z9 fs⟩;have hsm:yW 30 30000 (.dict (dFs fs)):=qaX (Oq hfs Xh) (by have:=hfs.len;simp only[dFs,List.length_map];omega);simp -dsimp[au,stC,-Bool.exists_bool,-List.map_take,-Prod.forall,-Prod.exists];refine⟨0,o,.ref d,_,xs,ps,_,rfl,hW7,hX,hTs,hsh,hsm,.inr ⟨d,fs,rfl,e7,hfs,rfl⟩,fun H8 s8=>?_⟩;simp -dsimp[au,stC,-Bool.exists_bool,-List.map_take,-Prod.forall,-Prod.exists];intro tp htp;have s9:Same H8 (upd H8 tp (.tup [.str (Str.ofString "told"),.str (Str.ofString "shut"),.str (Str.ofString "barred")])):=aA htp;have e9:upd H8 tp (.tup [.str (Str.ofString "told"),.str (Str.ofString "shut"),.str (Str.ofString "barred")]) tp=some (.tup [.str (Str.ofString "told"),.str (Str.ofString "shut"),.str (Str.ofString "barred")]):=ao;generalize upd H8 tp (.tup [.str (Str.ofString "told"),.str (Str.ofString "shut"),.str (Str.ofString "barred")])=H9 at s9 e9 ⊢;have S9:=s8.trans s9;refine⟨_,.inr (gY.of e9),rfl,fun z hz=>by
              simp only[List.mem_cons,List.not_mem_nil,or_false] at hz
              rcases hz with rfl | rfl | rfl <;> rfl,false,?_,iB.neg rfl ?_⟩
            ·rcases qhn ps xs fs with z | z | z <;> rw[z] <;> decide+kernel
            ·simp -dsimp[au,stC,-Bool.exists_bool,-List.map_take,-Prod.forall,-Prod.exists];refine⟨1,o,.ref d,_,xs,ps,_,rfl,hW7.same S9,hX,hTs,hsh.same S9,hsm,.inr ⟨d,fs,rfl,S9 _ _ e7,hfs,rfl⟩,fun H10 s10=>?_⟩;simp -dsimp[au,stC,-Bool.exists_bool,-List.map_take,-Prod.forall,-Prod.exists];exact s0.trans fun b u e=>S9.trans s10 b u (zO b u (aK e hp0) (S6 b u e))
    ·rintro σ H1 ⟨_,s1⟩;simp -dsimp[au,stC,-Bool.exists_bool,-List.map_take,-Prod.forall,-Prod.exists];exact q _
end K45
namespace K45
open PySem L2
theorem unc {α:Type} {n:Nat} (l:List α) (h:l.length=n+1):∃a r,l=a::r:=by
  cases l with
  | nil=>cases h
  | cons a r=>exact⟨a,r,rfl⟩
theorem mX {fd:FuncData} {ps:List Str} (h:∀v0,bindArgs fd {pos:=[v0]}=pure (ps.zip [v0])):∀us:List Value,us.length=1→bindArgs fd {pos:=us}=pure (ps.zip us):=by
  intro us hl;obtain⟨v0,us,rfl⟩:=unc us hl;replace hl:=Nat.succ.inj hl;obtain rfl:=List.eq_nil_of_length_eq_zero hl;exact h v0
theorem fM {fd:FuncData} {ps:List Str} (h:∀v0 v1,bindArgs fd {pos:=[v0,v1]}=pure (ps.zip [v0,v1])):∀us:List Value,us.length=2→bindArgs fd {pos:=us}=pure (ps.zip us):=by
  intro us hl;obtain⟨v0,us,rfl⟩:=unc us hl;replace hl:=Nat.succ.inj hl;obtain⟨v1,us,rfl⟩:=unc us hl;replace hl:=Nat.succ.inj hl;obtain rfl:=List.eq_nil_of_length_eq_zero hl;exact h v0 v1
theorem tY {fd:FuncData} {ps:List Str} (h:∀v0 v1 v2,bindArgs fd {pos:=[v0,v1,v2]}=pure (ps.zip [v0,v1,v2])):∀us:List Value,us.length=3→bindArgs fd {pos:=us}=pure (ps.zip us):=by
  intro us hl;obtain⟨v0,us,rfl⟩:=unc us hl;replace hl:=Nat.succ.inj hl;obtain⟨v1,us,rfl⟩:=unc us hl;replace hl:=Nat.succ.inj hl;obtain⟨v2,us,rfl⟩:=unc us hl;replace hl:=Nat.succ.inj hl;obtain rfl:=List.eq_nil_of_length_eq_zero hl;exact h v0 v1 v2
theorem all_mk {l:W.OpenLaw} {w:World} {K:W.Frag} {h:Heap} {mg:Str→Option Value} {fa bG aq cC aR bQ cD aY aQ bw aO bR bx bA bT bV aP aZ cH bH dF eV dG sZ dH eX fP cZ eY jg fW jh eZ kW gO fX dz fY fZ fj h_ bW bB cT dI bY fQ cI iK Dq tu nq nu Dr Dt nA tD gP Du:Addr} (X:K.In h) (G:h.Ns mainGlobals mg) (hfa:mg "law" = some (.ref fa))
    {fd1 fd2 fd3 fd4 fd5 fd6 fd7 fd8 fd9 qhq qhr qhs qht qhu qhv qhw qhx qhy qhz qhA qhB qhC qhD qhE qhF qhG qhH qhI qhJ qhK qhL qhM qhN qhO qhP qhQ qhR qhS:FuncData}
    {qko qhT:Option Addr} {qkp:Array (Option Value)} {qkq qhU qhV qhW qfD qhX:Value} {wJ lU mY qU:Tok}
    {vO Ii wK Br Ij tZ qW wL oH Bs wM wN Bt Ou Bu Bv Ov Ik:ClassData} {qcM qcN:Str} {qfE:Addr} {qcO qa0:List Value} {qcP qcQ:Bool} {qcR:List Str} {qa1:Option Bool} {qcS:Option Addr} {qcT qcU qcV qcW qcX:Option Value} {Xy Xz:Str} {qa2:Addr} {XD Ua:List Value} {XF XH:Bool} {XJ:List Str} {Ub:Option Bool} {XM:Option Addr} {XQ XR XS X3 X4:Option Value} {X5 X6:Str} {qa3:Addr} {X7 Uc:List Value} {X8 X_:Bool} {Yb:List Str} {Ud:Option Bool} {Yc:Option Addr} {Yd Ye Yg Yh Yi:Option Value} {qcY qcZ:Str} {qfF:Addr} {qc0 qa4:List Value} {qc1 qc2:Bool} {qc3:List Str} {qa5:Option Bool} {qc4:Option Addr} {qc5 qc6 qc7 qc8 qc9:Option Value} {qa6 qa7:Str} {qc_:Addr} {qa8 Yj:List Value} {qa9 qa_:Bool} {qba:List Str} {Yk:Option Bool} {qbb:Option Addr} {qbc qbd qbe qbf qbg:Option Value}
    (Ue:W.nsIn K mainGlobals "Web" = some (some (.ref bG)))
    (oJ:W.nsIn K mainGlobals "PointError" = some (some (.ref aq)))
    (Il:W.nsIn K mainGlobals "NoWeb" = some (some (.ref cC)))
    (wO:W.nsIn K mainGlobals "NoFixed" = some (some (.ref aR)))
    (Bw:W.nsIn K mainGlobals "NoEars" = some (some (.ref bQ)))
    (Im:W.nsIn K mainGlobals "NoLot" = some (some (.ref cD)))
    (t_:W.nsIn K mainGlobals "NoNumber" = some (some (.ref aY)))
    (qX:W.nsIn K mainGlobals "NoNumbers" = some (some (.ref aQ)))
    (wQ:W.nsIn K mainGlobals "NoPoint" = some (some (.ref bw)))
    (oK:W.nsIn K mainGlobals "NoPointing" = some (some (.ref aO)))
    (Bx:W.nsIn K mainGlobals "NoText" = some (some (.ref bR)))
    (wR:W.nsIn K mainGlobals "NotOver" = some (some (.ref bx)))
    (wU:W.nsIn K mainGlobals "TooMuch" = some (some (.ref bA)))
    (BJ:W.nsIn K mainGlobals "Unlike" = some (some (.ref bT)))
    (Ow:W.nsIn K mainGlobals "Shut" = some (some (.ref bV)))
    (BK:W.nsIn K mainGlobals "Barred" = some (some (.ref aP)))
    (BL:W.nsIn K mainGlobals "Parted" = some (some (.ref aZ)))
    (Ox:W.nsIn K mainGlobals "Thin" = some (some (.ref cH)))
    (Io:W.nsIn K mainGlobals "NoIns" = some (some (.ref bH)))
    (a1:W.nsIn K mainGlobals "steps_along" = some (some (.ref dF)))
    (F1:dZ K "steps_along" "steps_along" nZ dF fd1)
    (a2:W.nsIn K mainGlobals "ways_along" = some (some (.ref eV)))
    (F2:dZ K "ways_along" "ways_along" qz eV fd2)
    (a3:W.nsIn K mainGlobals "found_along" = some (some (.ref dG)))
    (F3:dZ K "found_along" "found_along" jR dG fd3)
    (a4:W.nsIn K mainGlobals "bars" = some (some (.ref sZ)))
    (F4:dZ K "bars" "bars" Nz sZ fd4)
    (a5:W.findIn K (.ref aZ) "__init__" = some (some (.ref dH))) (i5:W.isFn K (.ref dH)=true)
    (F5:dZ K "__init__" "Parted.__init__" vC dH fd5)
    (a6:W.findIn K (.ref bV) "__init__" = some (some (.ref eX))) (i6:W.isFn K (.ref eX)=true)
    (F6:dZ K "__init__" "Shut.__init__" sW eX fd6)
    (a7:W.findIn K (.ref cH) "__init__" = some (some (.ref fP))) (i7:W.isFn K (.ref fP)=true)
    (F7:dZ K "__init__" "Thin.__init__" Dl fP fd7)
    (a8:W.findIn K (.ref aP) "__init__" = some (some (.ref cZ))) (i8:W.isFn K (.ref cZ)=true)
    (F8:dZ K "__init__" "Barred.__init__" n6 cZ fd8)
    (a9:W.findIn K (.ref bH) "__init__" = some (some (.ref eY))) (i9:W.isFn K (.ref eY)=true)
    (F9:dZ K "__init__" "NoIns.__init__" za eY fd9)
    (a10:W.nsIn K mainGlobals "is_list" = some (some (.ref jg)))
    (F10:dZ K "is_list" "is_list" Bc jg qhq)
    (a11:W.nsIn K mainGlobals "is_whole" = some (some (.ref fW)))
    (F11:dZ K "is_whole" "is_whole" wj fW qhr)
    (a12:W.nsIn K mainGlobals "is_name" = some (some (.ref jh)))
    (F12:dZ K "is_name" "is_name" uK jh qhs)
    (a13:W.nsIn K mainGlobals "are_points" = some (some (.ref eZ)))
    (F13:dZ K "are_points" "are_points" lY eZ qht)
    (a14:W.nsIn K mainGlobals "is_tie" = some (some (.ref kW)))
    (F14:dZ K "is_tie" "is_tie" zc kW qhu)
    (a15:W.nsIn K mainGlobals "are_ties" = some (some (.ref gO)))
    (F15:dZ K "are_ties" "are_ties" qC gO qhv)
    (a16:W.findIn K (.ref bG) "__init__" = some (some (.ref fX))) (i16:W.isFn K (.ref fX)=true)
    (F16:dZ K "__init__" "Web.__init__" qD fX qhw)
    (a17:W.findIn K (.ref bG) "points" = some (some (.ref dz))) (i17:W.isFn K (.ref dz)=true)
    (F17:dZ K "points" "Web.points" qF dz qhx)
    (a18:W.findIn K (.ref bG) "ties" = some (some (.ref fY))) (i18:W.isFn K (.ref fY)=true)
    (F18:dZ K "ties" "Web.ties" wk fY qhy)
    (a19:W.findIn K (.ref bG) "many" = some (some (.ref fZ))) (i19:W.isFn K (.ref fZ)=true)
    (F19:dZ K "many" "Web.many" wu fZ qhz)
    (a20:W.nsIn K mainGlobals "is_number" = some (some (.ref fj)))
    (F20:dZ K "is_number" "is_number" sX fj qhA)
    (a21:W.nsIn K mainGlobals "is_lead" = some (some (.ref h_)))
    (F21:dZ K "is_lead" "is_lead" Bd h_ qhB)
    (a22:W.nsIn K mainGlobals "lot_without_way_in" = some (some (.ref bW)))
    (F22:dZ K "lot_without_way_in" "lot_without_way_in" eU bW qhC)
    (a23:W.nsIn K mainGlobals "sure_of_fixed" = some (some (.ref bB)))
    (F23:dZ K "sure_of_fixed" "sure_of_fixed" lN bB qhD)
    (a24:W.nsIn K mainGlobals "with_one_more" = some (some (.ref cT)))
    (F24:dZ K "with_one_more" "with_one_more" lO cT qhE)
    (a25:W.nsIn K mainGlobals "lot_shut_by" = some (some (.ref dI)))
    (F25:dZ K "lot_shut_by" "lot_shut_by" n_ dI qhF)
    (a26:W.nsIn K mainGlobals "sure_of_a_pointing" = some (some (.ref bY)))
    (F26:dZ K "sure_of_a_pointing" "sure_of_a_pointing" gK bY qhG)
    (a27:W.nsIn K mainGlobals "free_ties" = some (some (.ref fQ)))
    (F27:dZ K "free_ties" "free_ties" m8 fQ qhH)
    (a28:W.nsIn K mainGlobals "pointed_with" = some (some (.ref cI)))
    (F28:dZ K "pointed_with" "pointed_with" jo cI qhI)
    (a29:W.nsIn K mainGlobals "forced" = some (some (.ref iK)))
    (F29:dZ K "forced" "forced" G5 iK qhJ)
    (a30:W.nsIn K mainGlobals "_law_pot" = some (some (.ref Dq)))
    (F30:dZ K "_law_pot" "_law_pot" qaw Dq qhK)
    (a31:W.nsIn K mainGlobals "_law_take" = some (some (.ref tu)))
    (F31:dZ K "_law_take" "_law_take" Ti tu qhL)
    (a32:W.nsIn K mainGlobals "_law_names" = some (some (.ref nq)))
    (F32:dZ K "_law_names" "_law_names" En nq qhM)
    (a33:W.nsIn K mainGlobals "_law_mixed" = some (some (.ref nu)))
    (F33:dZ K "_law_mixed" "_law_mixed" NK nu qhN)
    (a34:W.nsIn K mainGlobals "_law_tie" = some (some (.ref Dr)))
    (F34:dZ K "_law_tie" "_law_tie" qax Dr qhO)
    (a35:W.nsIn K mainGlobals "_law_web" = some (some (.ref Dt)))
    (F35:dZ K "_law_web" "_law_web" K5 Dt qhP)
    (a36:W.nsIn K mainGlobals "_law_class" = some (some (.ref nA)))
    (F36:dZ K "_law_class" "_law_class" NP nA qhQ)
    (a37:W.nsIn K mainGlobals "_law_said" = some (some (.ref tD)))
    (F37:dZ K "_law_said" "_law_said" Tj tD qhR)
    (a38:W.nsIn K mainGlobals "_law_no_fixed" = some (some (.ref gP)))
    (F38:dZ K "_law_no_fixed" "_law_no_fixed" wz gP qhS)
    (a39:W.nsIn K mainGlobals "law" = some (some (.ref Du)))
    (l39:K.lookup Du=some ⟨qkq,qko,.func (W.fnOf "law" "law" (uz vD) (iV vD) (aD vD) .none qhU qhV qhW qhT qfD qhX),qkp⟩) (c39:W.codeIn K qfD "law" = true) (k39:W.keepIn K (.ref Du)=true)
    (jN:W.nsIn K mainGlobals "LETTERS" = some (some (.str "abcdefghijklmnopqrstuvwxyz" wJ)))
    (dN:W.nsIn K mainGlobals "MOST_LETTERS" = some (some (.int 4 lU)))
    (fC:W.nsIn K mainGlobals "MOST_POINTS" = some (some (.int 9 mY)))
    (gQ:W.nsIn K mainGlobals "MOST_TIES" = some (some (.int 20 qU)))
    (Ug:W.plainGet K bG Str.empty=true) (Uh:W.hasDictIn K bG=true) (Ui:W.plainOver K bG=true) (Uj:W.findIn K (.ref bG) "__setattr__" = some (some (.builtin "object.__setattr__"))) (Uk:W.makesIn K bG=true) (Ul:W.keepIn K (.ref bG)=true)
    (Ip:W.findIn K (.ref bG) "names" = some none)
    (Ir:W.findIn K (.ref bG) "pairs" = some none)
    (qbh:W.nsIn K mainGlobals "len" = some none)
    (qbi:W.nsIn K mainGlobals "max" = some none)
    (qbj:W.nsIn K mainGlobals "min" = some none)
    (qbk:W.nsIn K mainGlobals "abs" = some none)
    (Iu:W.nsIn K mainGlobals "divmod" = some none)
    (Oz:W.nsIn K mainGlobals "range" = some none)
    (qbl:W.nsIn K mainGlobals "zip" = some none)
    (Um:W.nsIn K mainGlobals "list" = some none)
    (OD:W.nsIn K mainGlobals "tuple" = some none)
    (qbm:W.nsIn K mainGlobals "int" = some none)
    (qbn:W.nsIn K mainGlobals "str" = some none)
    (qbo:W.nsIn K mainGlobals "set" = some none)
    (qbp:W.nsIn K mainGlobals "all" = some none)
    (qY:W.nsIn K mainGlobals "isinstance" = some none)
    (uc:W.nsIn K mainGlobals "enumerate" = some none)
    (qbq:W.nsIn K mainGlobals "any" = some none)
    (Uo:W.nsIn K mainGlobals "dict" = some none)
    (Iv:W.nsIn K mainGlobals "sorted" = some none)
    (Uq:W.nsIn K mainGlobals "repr" = some none)
    (Ur:W.nsIn K mainGlobals "bool" = some none)
    (qbr:W.nsIn K mainGlobals "sum" = some none)
    (fD:W.clsIn K aq=some vO) (fG:vO.mro=[.ref aq,.type "ValueError",.type "Exception",.type "BaseException",.type "object"]) (oM:W.typeIn K (.ref aq)=some (.type "type"))
    (Iw:W.clsIn K cC=some Ii) (Iz:Ii.mro=[.ref cC,.ref aq,.type "ValueError",.type "Exception",.type "BaseException",.type "object"]) (IK:W.typeIn K (.ref cC)=some (.type "type"))
    (wV:W.clsIn K aR=some wK) (wW:wK.mro=[.ref aR,.ref aq,.type "ValueError",.type "Exception",.type "BaseException",.type "object"]) (wX:W.typeIn K (.ref aR)=some (.type "type"))
    (BP:W.clsIn K bQ=some Br) (BW:Br.mro=[.ref bQ,.ref aq,.type "ValueError",.type "Exception",.type "BaseException",.type "object"]) (BX:W.typeIn K (.ref bQ)=some (.type "type"))
    (IV:W.clsIn K cD=some Ij) (IW:Ij.mro=[.ref cD,.ref aq,.type "ValueError",.type "Exception",.type "BaseException",.type "object"]) (I_:W.typeIn K (.ref cD)=some (.type "type"))
    (ud:W.clsIn K aY=some tZ) (uf:tZ.mro=[.ref aY,.ref aq,.type "ValueError",.type "Exception",.type "BaseException",.type "object"]) (ug:W.typeIn K (.ref aY)=some (.type "type"))
    (qZ:W.clsIn K aQ=some qW) (q_:qW.mro=[.ref aQ,.ref aq,.type "ValueError",.type "Exception",.type "BaseException",.type "object"]) (rm:W.typeIn K (.ref aQ)=some (.type "type"))
    (wY:W.clsIn K bw=some wL) (wZ:wL.mro=[.ref bw,.ref aq,.type "ValueError",.type "Exception",.type "BaseException",.type "object"]) (w5:W.typeIn K (.ref bw)=some (.type "type"))
    (oN:W.clsIn K aO=some oH) (oO:oH.mro=[.ref aO,.ref aq,.type "ValueError",.type "Exception",.type "BaseException",.type "object"]) (oR:W.typeIn K (.ref aO)=some (.type "type"))
    (BZ:W.clsIn K bR=some Bs) (B_:Bs.mro=[.ref bR,.ref aq,.type "ValueError",.type "Exception",.type "BaseException",.type "object"]) (Ca:W.typeIn K (.ref bR)=some (.type "type"))
    (w6:W.clsIn K bx=some wM) (xg:wM.mro=[.ref bx,.ref aq,.type "ValueError",.type "Exception",.type "BaseException",.type "object"]) (xq:W.typeIn K (.ref bx)=some (.type "type"))
    (xr:W.clsIn K bA=some wN) (xu:wN.mro=[.ref bA,.ref aq,.type "ValueError",.type "Exception",.type "BaseException",.type "object"]) (xG:W.typeIn K (.ref bA)=some (.type "type"))
    (Cd:W.clsIn K bT=some Bt) (Ce:Bt.mro=[.ref bT,.ref aq,.type "ValueError",.type "Exception",.type "BaseException",.type "object"]) (Cg:W.typeIn K (.ref bT)=some (.type "type"))
    (E_:W.clsIn K bV=some Ou) (Fb:Ou.mro=[.ref bV,.ref aq,.type "ValueError",.type "Exception",.type "BaseException",.type "object"]) (Fd:W.typeIn K (.ref bV)=some (.type "type"))
    (uT:W.clsIn K aP=some Bu) (uU:Bu.mro=[.ref aP,.ref aq,.type "ValueError",.type "Exception",.type "BaseException",.type "object"]) (uV:W.typeIn K (.ref aP)=some (.type "type"))
    (uW:W.clsIn K aZ=some Bv) (uX:Bv.mro=[.ref aZ,.ref aq,.type "ValueError",.type "Exception",.type "BaseException",.type "object"]) (uY:W.typeIn K (.ref aZ)=some (.type "type"))
    (Fe:W.clsIn K cH=some Ov) (Fg:Ov.mro=[.ref cH,.ref aq,.type "ValueError",.type "Exception",.type "BaseException",.type "object"]) (Fi:W.typeIn K (.ref cH)=some (.type "type"))
    (z_:W.clsIn K bH=some Ik) (Aa:Ik.mro=[.ref bH,.ref aq,.type "ValueError",.type "Exception",.type "BaseException",.type "object"]) (Ab:W.typeIn K (.ref bH)=some (.type "type"))
    (cQ:W.excIn K aq fO "ValueError.__new__" = true)
    (zJ:W.excIn K cC fO "ValueError.__new__" = true)
    (eG:W.excIn K aR fO "ValueError.__new__" = true)
    (tQ:W.excIn K bQ fO "ValueError.__new__" = true)
    (zK:W.excIn K cD fO "ValueError.__new__" = true)
    (mU:W.excIn K aY fO "ValueError.__new__" = true)
    (lu:W.excIn K aQ fO "ValueError.__new__" = true)
    (pQ:W.excIn K bw fO "ValueError.__new__" = true)
    (jy:W.excIn K aO fO "ValueError.__new__" = true)
    (tU:W.excIn K bR fO "ValueError.__new__" = true)
    (pR:W.excIn K bx fO "ValueError.__new__" = true)
    (pU:W.excIn K bA fO "ValueError.__new__" = true)
    (tV:W.excIn K bT fO "ValueError.__new__" = true)
    (oU:W.isClsIn K aq=true) (qfG:W.specialIn K (.ref aq) "__getattribute__" = some (some (.builtin "type.__getattribute__"))) (qfH:W.readsIn K aq (.type "type")=true) (qfI:W.findCls K (.ref aq) (.type "type") "__init__" = some (.val (.builtin "ValueError.__init__")))
    (Lg:W.specialIn K (.builtin "object.__class__") "__get__" = some (some (.builtin "getset_descriptor.__get__"))) (Lh:W.takesIn K (.builtin "object.__class__")=some true)
    (Us:Np [aq,cC,aR,bQ,cD,aY,aQ,bw,aO,bR,bx,bA,bT,bV,aP,aZ,cH,bH]=true)
    (Ja:Ii.hasDict=true) (Jb:W.findIn K (.ref cC) "__getattribute__" = some (some (.builtin "BaseException.__getattribute__"))) (Jc:W.findIn K (.ref cC) "__getattr__" = some none) (Jd:W.findIn K (.ref cC) "__class__" = some (some (.builtin "object.__class__"))) (Je:W.keepIn K (.ref cC)=true)
    (xH:wK.hasDict=true) (xJ:W.findIn K (.ref aR) "__getattribute__" = some (some (.builtin "BaseException.__getattribute__"))) (xK:W.findIn K (.ref aR) "__getattr__" = some none) (xM:W.findIn K (.ref aR) "__class__" = some (some (.builtin "object.__class__"))) (xO:W.keepIn K (.ref aR)=true)
    (Ci:Br.hasDict=true) (Cj:W.findIn K (.ref bQ) "__getattribute__" = some (some (.builtin "BaseException.__getattribute__"))) (Ck:W.findIn K (.ref bQ) "__getattr__" = some none) (Cm:W.findIn K (.ref bQ) "__class__" = some (some (.builtin "object.__class__"))) (Cp:W.keepIn K (.ref bQ)=true)
    (Jf:Ij.hasDict=true) (Jg:W.findIn K (.ref cD) "__getattribute__" = some (some (.builtin "BaseException.__getattribute__"))) (Jh:W.findIn K (.ref cD) "__getattr__" = some none) (Ji:W.findIn K (.ref cD) "__class__" = some (some (.builtin "object.__class__"))) (Jj:W.keepIn K (.ref cD)=true)
    (uh:tZ.hasDict=true) (um:W.findIn K (.ref aY) "__getattribute__" = some (some (.builtin "BaseException.__getattribute__"))) (uo:W.findIn K (.ref aY) "__getattr__" = some none) (uq:W.findIn K (.ref aY) "__class__" = some (some (.builtin "object.__class__"))) (ur:W.keepIn K (.ref aY)=true)
    (rA:qW.hasDict=true) (rB:W.findIn K (.ref aQ) "__getattribute__" = some (some (.builtin "BaseException.__getattribute__"))) (rC:W.findIn K (.ref aQ) "__getattr__" = some none) (rD:W.findIn K (.ref aQ) "__class__" = some (some (.builtin "object.__class__"))) (rE:W.keepIn K (.ref aQ)=true)
    (xP:wL.hasDict=true) (xQ:W.findIn K (.ref bw) "__getattribute__" = some (some (.builtin "BaseException.__getattribute__"))) (xR:W.findIn K (.ref bw) "__getattr__" = some none) (xT:W.findIn K (.ref bw) "__class__" = some (some (.builtin "object.__class__"))) (xU:W.keepIn K (.ref bw)=true)
    (oV:oH.hasDict=true) (oW:W.findIn K (.ref aO) "__getattribute__" = some (some (.builtin "BaseException.__getattribute__"))) (oX:W.findIn K (.ref aO) "__getattr__" = some none) (oY:W.findIn K (.ref aO) "__class__" = some (some (.builtin "object.__class__"))) (oZ:W.keepIn K (.ref aO)=true)
    (Cq:Bs.hasDict=true) (Cr:W.findIn K (.ref bR) "__getattribute__" = some (some (.builtin "BaseException.__getattribute__"))) (Cu:W.findIn K (.ref bR) "__getattr__" = some none) (Cv:W.findIn K (.ref bR) "__class__" = some (some (.builtin "object.__class__"))) (Cw:W.keepIn K (.ref bR)=true)
    (xV:wM.hasDict=true) (xW:W.findIn K (.ref bx) "__getattribute__" = some (some (.builtin "BaseException.__getattribute__"))) (xX:W.findIn K (.ref bx) "__getattr__" = some none) (xY:W.findIn K (.ref bx) "__class__" = some (some (.builtin "object.__class__"))) (xZ:W.keepIn K (.ref bx)=true)
    (yc:wN.hasDict=true) (yd:W.findIn K (.ref bA) "__getattribute__" = some (some (.builtin "BaseException.__getattribute__"))) (yg:W.findIn K (.ref bA) "__getattr__" = some none) (yh:W.findIn K (.ref bA) "__class__" = some (some (.builtin "object.__class__"))) (yj:W.keepIn K (.ref bA)=true)
    (Cy:Bt.hasDict=true) (Cz:W.findIn K (.ref bT) "__getattribute__" = some (some (.builtin "BaseException.__getattribute__"))) (CG:W.findIn K (.ref bT) "__getattr__" = some none) (CJ:W.findIn K (.ref bT) "__class__" = some (some (.builtin "object.__class__"))) (CK:W.keepIn K (.ref bT)=true)
    (Fj:Ou.hasDict=true) (Fl:W.findIn K (.ref bV) "__getattribute__" = some (some (.builtin "BaseException.__getattribute__"))) (Fo:W.findIn K (.ref bV) "__getattr__" = some none) (Fp:W.findIn K (.ref bV) "__class__" = some (some (.builtin "object.__class__"))) (Ac:W.keepIn K (.ref bV)=true)
    (uZ:Bu.hasDict=true) (u0:W.findIn K (.ref aP) "__getattribute__" = some (some (.builtin "BaseException.__getattribute__"))) (u5:W.findIn K (.ref aP) "__getattr__" = some none) (u6:W.findIn K (.ref aP) "__class__" = some (some (.builtin "object.__class__"))) (p8:W.keepIn K (.ref aP)=true)
    (u9:Bv.hasDict=true) (u_:W.findIn K (.ref aZ) "__getattribute__" = some (some (.builtin "BaseException.__getattribute__"))) (vd:W.findIn K (.ref aZ) "__getattr__" = some none) (vf:W.findIn K (.ref aZ) "__class__" = some (some (.builtin "object.__class__"))) (qe:W.keepIn K (.ref aZ)=true)
    (Fq:Ov.hasDict=true) (Ft:W.findIn K (.ref cH) "__getattribute__" = some (some (.builtin "BaseException.__getattribute__"))) (Fv:W.findIn K (.ref cH) "__getattr__" = some none) (Fw:W.findIn K (.ref cH) "__class__" = some (some (.builtin "object.__class__"))) (Ad:W.keepIn K (.ref cH)=true)
    (Ae:Ik.hasDict=true) (Af:W.findIn K (.ref bH) "__getattribute__" = some (some (.builtin "BaseException.__getattribute__"))) (Ag:W.findIn K (.ref bH) "__getattr__" = some none) (Ah:W.findIn K (.ref bH) "__class__" = some (some (.builtin "object.__class__"))) (uw:W.keepIn K (.ref bH)=true)
    (OJ:K.lookup bV=some (excClassObj qcM qcN bV qfE qcO [.ref aq,.type "ValueError",.type "Exception",.type "BaseException",.type "object"] qcP qcR qa0 qcQ qa1 qcS qcT qcU qcV qcW qcX "ValueError.__new__")) (O1:W.findIn K (.ref bV) "__setattr__" = some (some (.builtin "object.__setattr__")))
    (jj:W.findIn K (.ref bV) "lot" = some none)
    (CN:K.lookup aP=some (excClassObj Xy Xz aP qa2 XD [.ref aq,.type "ValueError",.type "Exception",.type "BaseException",.type "object"] XF XJ Ua XH Ub XM XQ XR XS X3 X4 "ValueError.__new__")) (CP:W.findIn K (.ref aP) "__setattr__" = some (some (.builtin "object.__setattr__")))
    (gD:W.findIn K (.ref aP) "tie" = some none)
    (gF:W.findIn K (.ref aP) "lot" = some none)
    (CQ:K.lookup aZ=some (excClassObj X5 X6 aZ qa3 X7 [.ref aq,.type "ValueError",.type "Exception",.type "BaseException",.type "object"] X8 Yb Uc X_ Ud Yc Yd Ye Yg Yh Yi "ValueError.__new__")) (CT:W.findIn K (.ref aZ) "__setattr__" = some (some (.builtin "object.__setattr__")))
    (iQ:W.findIn K (.ref aZ) "lot" = some none)
    (O2:K.lookup cH=some (excClassObj qcY qcZ cH qfF qc0 [.ref aq,.type "ValueError",.type "Exception",.type "BaseException",.type "object"] qc1 qc3 qa4 qc2 qa5 qc4 qc5 qc6 qc7 qc8 qc9 "ValueError.__new__")) (O4:W.findIn K (.ref cH) "__setattr__" = some (some (.builtin "object.__setattr__")))
    (lA:W.findIn K (.ref cH) "lot" = some none)
    (Jk:K.lookup bH=some (excClassObj qa6 qa7 bH qc_ qa8 [.ref aq,.type "ValueError",.type "Exception",.type "BaseException",.type "object"] qa9 qba Yj qa_ Yk qbb qbc qbd qbe qbf qbg "ValueError.__new__")) (Jl:W.findIn K (.ref bH) "__setattr__" = some (some (.builtin "object.__setattr__")))
    (iR:W.findIn K (.ref bH) "word" = some none)
    (iT:W.findIn K (.ref bH) "part" = some none)
    (iu:W.nsIn K mainGlobals "ValueError" = some none)
    : ∃fd:FuncData,(∀(s:Shared) (v:Value),BindsTo s fd ⟨[v],[]⟩ [("_law_script",v)])∧∀base:Heap,K.In base→base.Ns mainGlobals mg→bZ l.prog w K mg base lB 9 fa fd ["_law_script"] (Ot K):=by
  have e:=hfa.symm.trans (W.mg_of X G a39);cases e;have b1:=F1.binds (ps:=["web", "fixed"]) fun _ _ _ _ _ _=>fM fun _ _=>rfl;have b2:=F2.binds (ps:=["start", "steps"]) fun _ _ _ _ _ _=>fM fun _ _=>rfl;have b3:=F3.binds (ps:=["web", "start", "steps"]) fun _ _ _ _ _ _=>tY fun _ _ _=>rfl;have b4:=F4.binds (ps:=["web"]) fun _ _ _ _ _ _=>mX fun _=>rfl;have b5:=F5.binds (ps:=["self", "lot"]) fun _ _ _ _ _ _=>fM fun _ _=>rfl;have b6:=F6.binds (ps:=["self", "lot"]) fun _ _ _ _ _ _=>fM fun _ _=>rfl;have b7:=F7.binds (ps:=["self", "lot"]) fun _ _ _ _ _ _=>fM fun _ _=>rfl;have b8:=F8.binds (ps:=["self", "tie", "lot"]) fun _ _ _ _ _ _=>tY fun _ _ _=>rfl;have b9:=F9.binds (ps:=["self", "word", "part"]) fun _ _ _ _ _ _=>tY fun _ _ _=>rfl;have b10:=F10.binds (ps:=["thing"]) fun _ _ _ _ _ _=>mX fun _=>rfl;have b11:=F11.binds (ps:=["thing"]) fun _ _ _ _ _ _=>mX fun _=>rfl;have b12:=F12.binds (ps:=["thing"]) fun _ _ _ _ _ _=>mX fun _=>rfl;have b13:=F13.binds (ps:=["thing"]) fun _ _ _ _ _ _=>mX fun _=>rfl;have b14:=F14.binds (ps:=["thing", "points"]) fun _ _ _ _ _ _=>fM fun _ _=>rfl;have b15:=F15.binds (ps:=["thing", "points"]) fun _ _ _ _ _ _=>fM fun _ _=>rfl;have b16:=F16.binds (ps:=["self", "points", "ties"]) fun _ _ _ _ _ _=>tY fun _ _ _=>rfl;have b17:=F17.binds (ps:=["self"]) fun _ _ _ _ _ _=>mX fun _=>rfl;have b18:=F18.binds (ps:=["self"]) fun _ _ _ _ _ _=>mX fun _=>rfl;have b19:=F19.binds (ps:=["self"]) fun _ _ _ _ _ _=>mX fun _=>rfl;have b20:=F20.binds (ps:=["web", "thing"]) fun _ _ _ _ _ _=>fM fun _ _=>rfl;have b21:=F21.binds (ps:=["thing"]) fun _ _ _ _ _ _=>mX fun _=>rfl;have b22:=F22.binds (ps:=["web", "steps"]) fun _ _ _ _ _ _=>fM fun _ _=>rfl;have b23:=F23.binds (ps:=["web", "thing"]) fun _ _ _ _ _ _=>fM fun _ _=>rfl;have b24:=F24.binds (ps:=["fixed", "number", "lead"]) fun _ _ _ _ _ _=>tY fun _ _ _=>rfl;have b25:=F25.binds (ps:=["web", "fixed"]) fun _ _ _ _ _ _=>fM fun _ _=>rfl;have b26:=F26.binds (ps:=["web", "fixed"]) fun _ _ _ _ _ _=>fM fun _ _=>rfl;have b27:=F27.binds (ps:=["web", "fixed"]) fun _ _ _ _ _ _=>fM fun _ _=>rfl;have b28:=F28.binds (ps:=["web", "fixed"]) fun _ _ _ _ _ _=>fM fun _ _=>rfl;have b29:=F29.binds (ps:=["web", "fixed"]) fun _ _ _ _ _ _=>fM fun _ _=>rfl;have b30:=F30.binds (ps:=["_law_script", "_law_k"]) fun _ _ _ _ _ _=>fM fun _ _=>rfl;have b31:=F31.binds (ps:=["_law_pot_here", "_law_many"]) fun _ _ _ _ _ _=>fM fun _ _=>rfl;have b32:=F32.binds (ps:=["_law_pot_here", "_law_many"]) fun _ _ _ _ _ _=>fM fun _ _=>rfl;have b33:=F33.binds (ps:=["_law_pot_here", "_law_things"]) fun _ _ _ _ _ _=>fM fun _ _=>rfl;have b34:=F34.binds (ps:=["_law_pot_here", "_law_names_here"]) fun _ _ _ _ _ _=>fM fun _ _=>rfl;have b35:=F35.binds (ps:=["_law_pot_here", "_law_points", "_law_most"]) fun _ _ _ _ _ _=>tY fun _ _ _=>rfl;have b36:=F36.binds (ps:=["_law_e"]) fun _ _ _ _ _ _=>mX fun _=>rfl;have b37:=F37.binds (ps:=["_law_road", "_law_made", "_law_fixed"]) fun _ _ _ _ _ _=>tY fun _ _ _=>rfl;have b38:=F38.binds (ps:=["_law_pot_here", "_law_many", "_law_fixed"]) fun _ _ _ _ _ _=>tY fun _ _ _=>rfl;have F39:=Y_ (st:=vD) l39 c39 k39;have b39:=F39.binds (ps:=["_law_script"]) fun _ _ _ _ _ _=>mX fun _=>rfl;have T:Txt K mg {dF:=dF,jq:=fd1,eV:=eV,jT:=fd2,dG:=dG,jr:=fd3,sZ:=sZ,Eo:=fd4,dH:=dH,mJ:=fd5,eX:=eX,lZ:=fd6,fP:=fP,qI:=fd7,cZ:=cZ,jt:=fd8,eY:=eY,ou:=fd9,jg:=jg,qJ:=qhq,fW:=fW,kO:=qhr,jh:=jh,qK:=qhs,eZ:=eZ,jU:=qht,kW:=kW,uL:=qhu,gO:=gO,m9:=qhv,fX:=fX,m_:=qhw,dz:=dz,jV:=qhx,fY:=fY,ni:=qhy,fZ:=fZ,nj:=qhz,fj:=fj,ju:=qhA,h_:=h_,mK:=qhB,bW:=bW,dW:=qhC,bB:=bB,b_:=qhD,cT:=cT,ig:=qhE,dI:=dI,jw:=qhF,bY:=bY,dX:=qhG,fQ:=fQ,mj:=qhH,cI:=cI,eF:=qhI,iK:=iK,mD:=qhJ,Dq:=Dq,NZ:=qhK,tu:=tu,Ep:=qhL,nq:=nq,zm:=qhM,nu:=nu,zp:=qhN,Dr:=Dr,N5:=qhO,Dt:=Dt,N6:=qhP,nA:=nA,zq:=qhQ,tD:=tD,Er:=qhR,gP:=gP,nC:=qhS,Du:=fa,N7:=W.fnOf "law" "law" (uz vD) (iV vD) (aD vD) .none qhU qhV qhW qhT qfD qhX,jN:=.str "abcdefghijklmnopqrstuvwxyz" wJ,dN:=.int 4 lU,fC:=.int 9 mY,gQ:=.int 20 qU,bG:=bG,aq:=aq,cC:=cC,aR:=aR,bQ:=bQ,cD:=cD,aY:=aY,aQ:=aQ,bw:=bw,aO:=aO,bR:=bR,bx:=bx,bA:=bA,bT:=bT,bV:=bV,aP:=aP,aZ:=aZ,cH:=cH,bH:=bH}:={jW:=F1,oA:=b1,oE:=W.mg_of X G a1,qL:=F2,zu:=b2,zx:=W.mg_of X G a2,jX:=F3,oF:=b3,oG:=W.mg_of X G a3,Tr:=F4,qaz:=b4,qaA:=W.mg_of X G a4,JG:=F5,JH:=b5,Dv:=F6,Dw:=b6,QH:=F7,QJ:=b7,vG:=F8,vH:=b8,N8:=F9,N_:=b9,pL:=F10,uM:=b10,uN:=W.mg_of X G a10,je:=F11,mL:=b11,mO:=W.mg_of X G a11,uO:=F12,Bf:=b12,Bg:=W.mg_of X G a12,qM:=F13,zy:=b13,zA:=W.mg_of X G a13,Hg:=F14,QK:=b14,QL:=W.mg_of X G a14,wA:=F15,Hh:=b15,Hi:=W.mg_of X G a15,Hj:=F16,Hl:=b16,zB:=F17,qN:=b17,qO:=⟨a17,i17,F17.kp⟩,Ho:=F18,wB:=b18,wD:=⟨a18,i18,F18.kp⟩,Hq:=F19,mQ:=b19,mR:=⟨a19,i19,F19.kp⟩,gR:=F20,kZ:=b20,k_:=W.mg_of X G a20,jO:=F21,pO:=b21,pP:=W.mg_of X G a21,gU:=F22,lg:=b22,lq:=W.mg_of X G a22,cL:=F23,gw:=b23,gA:=W.mg_of X G a23,i_:=F24,lQ:=b24,lR:=W.mg_of X G a24,iM:=F25,jY:=b25,jZ:=W.mg_of X G a25,fu:=F26,gV:=b26,gW:=W.mg_of X G a26,nF:=F27,tE:=b27,tG:=W.mg_of X G a27,jx:=F28,tH:=b28,tK:=W.mg_of X G a28,zF:=F29,QM:=b29,QS:=W.mg_of X G a29,qaB:=F30,qdD:=b30,qdE:=W.mg_of X G a30,fL:=F31,f9:=b31,gb:=W.mg_of X G a31,Oa:=F32,Vs:=b32,Vt:=W.mg_of X G a32,zG:=F33,Es:=b33,Et:=W.mg_of X G a33,qaC:=F34,qdF:=b34,qdG:=W.mg_of X G a34,qaD:=F35,qdH:=b35,qdI:=W.mg_of X G a35,Ob:=F36,Vu:=b36,Vv:=W.mg_of X G a36,Bh:=F37,Hr:=b37,Hs:=W.mg_of X G a37,wC:=F38,Ht:=b38,Hu:=W.mg_of X G a38,qdJ:=F39,qg5:=b39,qg6:=W.mg_of X G a39,K6:=W.mg_of X G jN,K7:=⟨wJ,rfl⟩,tM:=W.mg_of X G dN,tO:=⟨lU,rfl⟩,vI:=W.mg_of X G fC,vJ:=⟨mY,rfl⟩,Dy:=W.mg_of X G gQ,Dz:=⟨qU,rfl⟩,Oc:=Ip,Eu:=Ir,qdK:=W.mg_of X G Ue,nG:=⟨Ug,Uh,Ui,Uj⟩,qdL:=⟨Uk,a16,i16,Ul⟩,nm:=⟨W.mg_none_of X G qbh,W.mg_none_of X G qbi,W.mg_none_of X G qbj,W.mg_none_of X G qbk,W.mg_none_of X G Iu,W.mg_none_of X G Oz,W.mg_none_of X G qbl,W.mg_none_of X G Um,W.mg_none_of X G OD,W.mg_none_of X G qbm,W.mg_none_of X G qbn,W.mg_none_of X G qbo,W.mg_none_of X G qbp,W.mg_none_of X G qY⟩,Tv:=⟨W.mg_none_of X G uc,W.mg_none_of X G qbq,W.mg_none_of X G Uo,W.mg_none_of X G Iv,W.mg_none_of X G Uq,W.mg_none_of X G Ur⟩,nm3:=⟨W.mg_none_of X G qbr⟩,mq:=W.mg_of X G oJ,Vw:=W.mg_of X G Il,ji:=W.mg_of X G wO,QT:=W.mg_of X G Bw,Vx:=W.mg_of X G Im,Hv:=W.mg_of X G t_,DG:=W.mg_of X G qX,K8:=W.mg_of X G wQ,zH:=W.mg_of X G oK,QV:=W.mg_of X G Bx,K9:=W.mg_of X G wR,K_:=W.mg_of X G wU,QW:=W.mg_of X G BJ,Tt:=W.mg_of X G Ow,Hw:=W.mg_of X G BK,QX:=W.mg_of X G BL,qaE:=W.mg_of X G Ox,Vy:=W.mg_of X G Io,cQ:=cQ,zJ:=zJ,eG:=eG,tQ:=tQ,zK:=zK,mU:=mU,lu:=lu,pQ:=pQ,jy:=jy,tU:=tU,pR:=pR,pU:=pU,tV:=tV,ib:=oU,tb:=oM,ini:=⟨qfG,qfH,qfI⟩,Lg:=Lg,Lh:=Lh,nd:=KN Us,QZ:=⟨⟨_,Iw,Iz,Ja⟩,IK,Jb,Jc,Jd,Je⟩,qP:=⟨⟨_,wV,wW,xH⟩,wX,xJ,xK,xM,xO⟩,La:=⟨⟨_,BP,BW,Ci⟩,BX,Cj,Ck,Cm,Cp⟩,Q0:=⟨⟨_,IV,IW,Jf⟩,I_,Jg,Jh,Ji,Jj⟩,DK:=⟨⟨_,ud,uf,uh⟩,ug,um,uo,uq,ur⟩,zL:=⟨⟨_,qZ,q_,rA⟩,rm,rB,rC,rD,rE⟩,Hx:=⟨⟨_,wY,wZ,xP⟩,w5,xQ,xR,xT,xU⟩,vK:=⟨⟨_,oN,oO,oV⟩,oR,oW,oX,oY,oZ⟩,Lb:=⟨⟨_,BZ,B_,Cq⟩,Ca,Cr,Cu,Cv,Cw⟩,Hy:=⟨⟨_,w6,xg,xV⟩,xq,xW,xX,xY,xZ⟩,Hz:=⟨⟨_,xr,xu,yc⟩,xG,yd,yg,yh,yj⟩,Ld:=⟨⟨_,Cd,Ce,Cy⟩,Cg,Cz,CG,CJ,CK⟩,zM:=⟨⟨_,E_,Fb,Fj⟩,Fd,Fl,Fo,Fp,Ac⟩,pW:=⟨⟨_,uT,uU,uZ⟩,uV,u0,u5,u6,p8⟩,Le:=⟨⟨_,uW,uX,u9⟩,uY,u_,vd,vf,qe⟩,Vz:=⟨⟨_,Fe,Fg,Fq⟩,Fi,Ft,Fv,Fw,Ad⟩,Q5:=⟨⟨_,z_,Aa,Ae⟩,Ab,Af,Ag,Ah,uw⟩,Ew:=⟨⟨_,_,_,_,_,_,_,_,_,_,_,_,_,_,_,OJ⟩,cQ,⟨_,fD,fG⟩,a6,beq_iff_eq.mp i6,Ac⟩,VB:=XC.set ⟨⟨_,E_,Fb,Fj⟩,Fd,Fl,Fo,Fp,Ac⟩ O1,jj:=jj,uP:=⟨⟨_,_,_,_,_,_,_,_,_,_,_,_,_,_,_,CN⟩,cQ,⟨_,fD,fG⟩,a8,beq_iff_eq.mp i8,p8⟩,Bj:=XC.set ⟨⟨_,uT,uU,uZ⟩,uV,u0,u5,u6,p8⟩ CP,gD:=gD,gF:=gF,Xd:=⟨⟨_,_,_,_,_,_,_,_,_,_,_,_,_,_,_,CQ⟩,cQ,⟨_,fD,fG⟩,a5,beq_iff_eq.mp i5,qe⟩,Xe:=XC.set ⟨⟨_,uW,uX,u9⟩,uY,u_,vd,vf,qe⟩ CT,iQ:=iQ,qcu:=⟨⟨_,_,_,_,_,_,_,_,_,_,_,_,_,_,_,O2⟩,cQ,⟨_,fD,fG⟩,a7,beq_iff_eq.mp i7,Ad⟩,qcv:=XC.set ⟨⟨_,Fe,Fg,Fq⟩,Fi,Ft,Fv,Fw,Ad⟩ O4,lA:=lA,qaF:=⟨⟨_,_,_,_,_,_,_,_,_,_,_,_,_,_,_,Jk⟩,cQ,⟨_,fD,fG⟩,a9,beq_iff_eq.mp i9,uw⟩,qaG:=XC.set ⟨⟨_,z_,Aa,Ae⟩,Ab,Af,Ag,Ah,uw⟩ Jl,iR:=iR,iT:=iT,iu:=W.mg_none_of X G iu};exact⟨_,fun s v=>.of_eq rfl,fun base _ _=>qfB T⟩
theorem walk {l:W.OpenLaw} {q:Program} {loose:List Str} {XP:(Str→Option Value)→Heap→Prop} {YP:World→Heap→Prop} {d:DefRec} {K:Params→W.Frag} (hn:l.most=some 63) (hdf:d.params.defaults=[])
    (hY:∀(w:World) (h:Heap),YP w h→(K w.params).In h)
    (F:∀(w:World) (mg:Str→Option Value) (fa:Addr) (h:Heap),(K w.params).In h→h.Ns mainGlobals mg→mg d.name=some (.ref fa)→
      ∃fd:FuncData,(∀(s:Shared) (u:Value),BindsTo s fd ⟨[u],[]⟩ [("_law_script",u)])∧∀base:Heap,(K w.params).In base→base.Ns mainGlobals mg→bZ l.prog w (K w.params) mg base lB 9 fa fd ["_law_script"] (Ot (K w.params))) :
    W.WalkO q loose XP YP l.row.toRowW d [] (fun f vs=>PySem.call f vs):=
  L2.qbI (n:=63) (k:=9) (x:= "_law_script") (CX:=fun _=>lB) (sp:=fun w=>Ot (K w.params)) hn (by decide) hdf ⟨rfl,by decide,by decide,rfl⟩ hY F (fun _ _ a ns hl _ hS=>⟨a,ns,rfl,hS,hl,fun _=>rfl⟩) fun _ _ _ _ _ z=>z
end K45
end
set_option Elab.async false
set_option maxRecDepth 100000
set_option maxHeartbeats 4000000
open PySem PySem.W PyProof.Rows
namespace PySem.W.Fast
def tw3622401215337896913:=0
def tw3200354514977554694:=0
def tw3368068296631575416:=0
def tw14685113626916242504:=0
def tw13528835465513938075:=0
def tw17924758051988790859:=0
def tw236736098532620634:=0
def tw13843516025533088159:=0
def tw5140326024876605290:=0
def tw6274072212115157265:=0
def tw1274467007859675349:=0
def tw7127126325933592375:=0
def tw14884562506670563549:=0
def tw1770211643431495866:=0
def tw14570832343310907278:=0
def tw6477273529975467693:=0
def tw10143985033326888870:=0
def tw2898998163897719088:=0
def tw2790751189965972454:=0
def tw10020625046199682496:=0
def tw12135110717743267866:=0
def tw14026386736118589966:=0
def tw112961264011297223:=0
def tw8619495440171181608:=0
def tw2965371034933923149:=0
def tw17593861354730931015:=0
def tw6909271640384579073:=0
def tw2748761448770033407:=0
def tw6740435927985143740:=0
def tw1391099995830757582:=0
end PySem.W.Fast
set_option maxRecDepth 100000 in
set_option maxHeartbeats 0 in
theorem PySem.Challenge.cw_pointways_k45_refused_fixed_holds : PySem.Challenge.rw_pointways_k45_refused_fixed.Holds := by
  w_on;o_law;k_head;(case hw=>w_witness2)
  k_fill
  refine' K45.walk (l:=PySem.Challenge.rw_pointways_k45_refused_fixed) rfl rfl (fun w h Y=>W.kIn_of Y) ?F
  case F=>
    intro w mg fa h KX G hmg;refine' K45.all_mk KX G hmg ?Ue ?oJ ?Il ?wO ?Bw ?Im ?t_ ?qX ?wQ ?oK ?Bx ?wR ?wU ?BJ ?Ow ?BK ?BL ?Ox ?Io ?a1 ?F1 ?a2 ?F2 ?a3 ?F3 ?a4 ?F4 ?a5 ?i5 ?F5 ?a6 ?i6 ?F6 ?a7 ?i7 ?F7 ?a8 ?i8 ?F8 ?a9 ?i9 ?F9 ?a10 ?F10 ?a11 ?F11 ?a12 ?F12 ?a13 ?F13 ?a14 ?F14 ?a15 ?F15 ?a16 ?i16 ?F16 ?a17 ?i17 ?F17 ?a18 ?i18 ?F18 ?a19 ?i19 ?F19 ?a20 ?F20 ?a21 ?F21 ?a22 ?F22 ?a23 ?F23 ?a24 ?F24 ?a25 ?F25 ?a26 ?F26 ?a27 ?F27 ?a28 ?F28 ?a29 ?F29 ?a30 ?F30 ?a31 ?F31 ?a32 ?F32 ?a33 ?F33 ?a34 ?F34 ?a35 ?F35 ?a36 ?F36 ?a37 ?F37 ?a38 ?F38 ?a39 ?l39 ?c39 ?k39 ?jN ?dN ?fC ?gQ ?Ug ?Uh ?Ui ?Uj ?Uk ?Ul ?Ip ?Ir ?qbh ?qbi ?qbj ?qbk ?Iu ?Oz ?qbl ?Um ?OD ?qbm ?qbn ?qbo ?qbp ?qY ?uc ?qbq ?Uo ?Iv ?Uq ?Ur ?qbr ?fD ?fG ?oM ?Iw ?Iz ?IK ?wV ?wW ?wX ?BP ?BW ?BX ?IV ?IW ?I_ ?ud ?uf ?ug ?qZ ?q_ ?rm ?wY ?wZ ?w5 ?oN ?oO ?oR ?BZ ?B_ ?Ca ?w6 ?xg ?xq ?xr ?xu ?xG ?Cd ?Ce ?Cg ?E_ ?Fb ?Fd ?uT ?uU ?uV ?uW ?uX ?uY ?Fe ?Fg ?Fi ?z_ ?Aa ?Ab ?cQ ?zJ ?eG ?tQ ?zK ?mU ?lu ?pQ ?jy ?tU ?pR ?pU ?tV ?oU ?qfG ?qfH ?qfI ?Lg ?Lh ?Us ?Ja ?Jb ?Jc ?Jd ?Je ?xH ?xJ ?xK ?xM ?xO ?Ci ?Cj ?Ck ?Cm ?Cp ?Jf ?Jg ?Jh ?Ji ?Jj ?uh ?um ?uo ?uq ?ur ?rA ?rB ?rC ?rD ?rE ?xP ?xQ ?xR ?xT ?xU ?oV ?oW ?oX ?oY ?oZ ?Cq ?Cr ?Cu ?Cv ?Cw ?xV ?xW ?xX ?xY ?xZ ?yc ?yd ?yg ?yh ?yj ?Cy ?Cz ?CG ?CJ ?CK ?Fj ?Fl ?Fo ?Fp ?Ac ?uZ ?u0 ?u5 ?u6 ?p8 ?u9 ?u_ ?vd ?vf ?qe ?Fq ?Ft ?Fv ?Fw ?Ad ?Ae ?Af ?Ag ?Ah ?uw ?OJ ?O1 ?jj ?CN ?CP ?gD ?gF ?CQ ?CT ?iQ ?O2 ?O4 ?lA ?Jk ?Jl ?iR ?iT ?iu
    case Ue | oJ | Il | wO | Bw | Im | t_ | qX | wQ | oK | Bx | wR | wU | BJ | Ow | BK | BL | Ox | Io | a1 | a2 | a3 | a4 | a5 | i5 | a6 | i6 | a7 | i7 | a8 | i8 | a9 | i9 | a10 | a11 | a12 | a13 | a14 | a15 | a16 | i16 | a17 | i17 | a18 | i18 | a19 | i19 | a20 | a21 | a22 | a23 | a24 | a25 | a26 | a27 | a28 | a29 | a30 | a31 | a32 | a33 | a34 | a35 | a36 | a37 | a38 | a39 | l39 | c39 | k39 | jN | dN | fC | gQ | Ug | Uh | Ui | Uj | Uk | Ul | Ip | Ir | qbh | qbi | qbj | qbk | Iu | Oz | qbl | Um | OD | qbm | qbn | qbo | qbp | qY | uc | qbq | Uo | Iv | Uq | Ur | qbr | fD | oM | Iw | IK | wV | wX | BP | BX | IV | I_ | ud | ug | qZ | rm | wY | w5 | oN | oR | BZ | Ca | w6 | xq | xr | xG | Cd | Cg | E_ | Fd | uT | uV | uW | uY | Fe | Fi | z_ | Ab | oU | qfG | qfH | qfI | Lg | Lh | Jb | Jc | Jd | Je | xJ | xK | xM | xO | Cj | Ck | Cm | Cp | Jg | Jh | Ji | Jj | um | uo | uq | ur | rB | rC | rD | rE | xQ | xR | xT | xU | oW | oX | oY | oZ | Cr | Cu | Cv | Cw | xW | xX | xY | xZ | yd | yg | yh | yj | Cz | CG | CJ | CK | Fl | Fo | Fp | Ac | u0 | u5 | u6 | p8 | u_ | vd | vf | qe | Ft | Fv | Fw | Ad | Af | Ag | Ah | uw | OJ | O1 | jj | CN | CP | gD | gF | CQ | CT | iQ | O2 | O4 | lA | Jk | Jl | iR | iT | iu=>k_is
    case fG | Iz | wW | BW | IW | uf | q_ | wZ | oO | B_ | xg | xu | Ce | Fb | uU | uX | Fg | Aa | Ja | xH | Ci | Jf | uh | rA | xP | oV | Cq | xV | yc | Cy | Fj | uZ | u9 | Fq | Ae=>rfl
    case F1 | F2 | F3 | F4 | F5 | F6 | F7 | F8 | F9 | F10 | F11 | F12 | F13 | F14 | F15 | F16 | F17 | F18 | F19 | F20 | F21 | F22 | F23 | F24 | F25 | F26 | F27 | F28 | F29 | F30 | F31 | F32 | F33 | F34 | F35 | F36 | F37 | F38=>refine' L2.Y_ ?l ?c ?k;(case l=>k_is);(case c=>k_is);(case k=>k_is)
    case cQ | zJ | eG | tQ | zK | mU | lu | pQ | jy | tU | pR | pU | tV=>k_exc
    case Us=>decide+kernel


