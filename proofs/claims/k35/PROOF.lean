import PyProof.Rows.All
import Wide.All
import OpenK.AllK
import Wide.FinOn
import Lean
import PyProof.EqAt
import PyProof.EqKinds
import PyProof.TupleCall
import PyProof.NeData
import PyProof.AttrMissHeap
import PyProof.FactsAll.enumerate_1
import KE.KDictOf
import PyProof.EnumMake
import PyProof.Rows.SumAny
import PyProof.Rows.StrJoin2
import PyProof.Rows.CountFlat
import PyProof.Rows.FoldWordsD
import PyProof.Rows.SeqMore2
import PyProof.Rows.MinMaxN
import PyProof.Rows.StrInSeq3
import PyProof.Rows.ReprR
import PyProof.StrLawsRepr
import PyProof.StrOps2
import PyProof.Rows.SeqMore
import PyProof.DictItems
import KE.KPairComp
import PySem.Challenge.RW_pointways_k35_whole_pointed_or_barred
set_option genSizeOfSpec false
noncomputable section
set_option Elab.async false
set_option linter.all false
set_option maxRecDepth 100000
namespace L2
open PySem PySem.Spec PyProof.Rows
abbrev Key:=Sum Int Str
def tE:Key→Value→Bool
  | .inl k,v=>Value.isInt k v
  | .inr x,v=>Value.isStrOf x v
def qld (w:World):Key→Int
  | .inl k=>hashInt k
  | .inr x=>hashStr w x
theorem fK:∀{k:Key} {v:Value},tE k v=true→(∃i t,k=Sum.inl i∧v=Value.int i t)∨(∃x t,k=Sum.inr x∧v=Value.str x t)
  | .inl i,v,h=>by
    obtain⟨t,e⟩:=Value.isInt_shape (k:=i) (v:=v) h;exact .inl ⟨i,t,rfl,e⟩
  | .inr x,v,h=>by
    obtain⟨t,e⟩:=Value.isStrOf_shape (x:=x) (v:=v) h;exact .inr ⟨x,t,rfl,e⟩
theorem G8 (i:Int) (t:Tok):tE (.inl i) (.int i t)=true:=by simp[tE,Value.isInt]
theorem G9 (x:Str) (t:Tok):tE (.inr x) (.str x t)=true:=by simp[tE,Value.isStrOf]
theorem qcj (a b:Int):decide ((Sum.inl a:Key)=Sum.inl b)=(a == b):=by
  by_cases e:a=b
  ·subst e;simp
  ·have h:¬(Sum.inl a:Key)=Sum.inl b:=fun q=>e (Sum.inl.inj q);rw[decide_eq_false h];exact(beq_eq_false_iff_ne.mpr e).symm
theorem qck (a b:Str):decide ((Sum.inr a:Key)=Sum.inr b)=decide (a=b):=by
  by_cases e:a=b
  ·subst e;simp
  ·have h:¬(Sum.inr a:Key)=Sum.inr b:=fun q=>e (Sum.inr.inj q);rw[decide_eq_false h,decide_eq_false e]
theorem qcl (a:Int) (b:Str):decide ((Sum.inl a:Key)=Sum.inr b)=false:=decide_eq_false (fun q=>nomatch q)
theorem qcm (a:Str) (b:Int):decide ((Sum.inr a:Key)=Sum.inl b)=false:=decide_eq_false (fun q=>nomatch q)
def cT (prog:Program) (w:World):PySem.KeyKind prog w Key where
  is:=tE
  hash:=qld w
  inj:=fun v a b ha hb=>by
    rcases fK ha with⟨i,t,rfl,rfl⟩ | ⟨x,t,rfl,rfl⟩
    · rcases fK hb with⟨j,u,rfl,e⟩ | ⟨y,u,rfl,e⟩
      ·injection e with e1 _;rw[e1]
      ·exact nomatch e
    · rcases fK hb with⟨j,u,rfl,e⟩ | ⟨y,u,rfl,e⟩
      ·exact nomatch e
      ·injection e with e1 _;rw[e1]
  byValue:=fun k v h=>by
    rcases fK h with⟨i,t,rfl,rfl⟩ | ⟨x,t,rfl,rfl⟩ <;> rfl
  pyHash:=fun hv h=>by
    rcases fK hv with⟨i,t,rfl,rfl⟩ | ⟨x,t,rfl,rfl⟩
    ·exact wpAny_pyHash_int h
    ·exact wpAny_pyHash_str h
  eqBool:=fun hu hv h=>by
    rcases fK hu with⟨i,t,rfl,rfl⟩ | ⟨x,t,rfl,rfl⟩
    · rcases fK hv with⟨j,u,rfl,rfl⟩ | ⟨y,u,rfl,rfl⟩
      ·rw[qcj] at h;exact wpAny_eqBool_int h
      ·rw[qcl] at h;exact SeqAt.EqAt.int_str i t y u _ _ _ _ h
    · rcases fK hv with⟨j,u,rfl,rfl⟩ | ⟨y,u,rfl,rfl⟩
      ·rw[qcm] at h;exact SeqAt.EqAt.str_int x t j u _ _ _ _ h
      ·rw[qck] at h;exact wpAny_eqBool_str h
  «strs»:=fun k x t v h=>by
    rcases fK h with⟨i,u,rfl,e⟩ | ⟨y,u,rfl,e⟩
    ·exact nomatch e
    ·injection e with e1 _;subst e1;cases v <;> rfl
theorem K6 (prog:Program) (w:World) (i:Int) (t:Tok):(cT prog w).is (.inl i) (.int i t)=true:=G8 i t
theorem K7 (prog:Program) (w:World) (x:Str) (t:Tok):(cT prog w).is (.inr x) (.str x t)=true:=G9 x t
inductive V where
  | non | bl (b:Bool) | int (i:Int) | str (x:Str) | V2 (b:Array UInt8) | flt (b:UInt64) | ref (a:Addr) | ty (n:String)
  deriving DecidableEq
def RelV:V→Value→Prop
  | .non,u=>u=Value.none
  | .bl b,u=>u=Value.bool b
  | .int i,u=>∃t,u=Value.int i t
  | .str x,u=>∃t,u=Value.str x t
  | .V2 b,u=>∃t,u=Value.bytes b t
  | .flt b,u=>∃t,u=Value.float b t
  | .ref a,u=>u=Value.ref a
  | .ty n,u=>u=Value.type n
abbrev Vals:List V→List Value→Prop:=Paired RelV
theorem Vals.length {xs:List V} {us:List Value} (r:Vals xs us):xs.length=us.length:=Paired.length r
theorem Vals.get:∀{xs:List V} {us:List Value} {i:Nat} {x:V},Vals xs us→xs[i]? = some x→∃u,us[i]? = some u∧RelV x u
  | _,_,_,_,.nil,e=>by simp at e
  | _,_,0,_,.cons r _,e=>by simp at e;subst e;exact⟨_,rfl,r⟩
  | _,_,i+1,x,.cons _ t,e=>by
    obtain⟨u,h1,h2⟩:=Vals.get (i:=i) (x:=x) t (by simpa using e);exact⟨u,by simpa using h1,h2⟩
theorem Vals.set {x:V} {u:Value} (r:RelV x u):∀{xs:List V} {us:List Value} (i:Nat),Vals xs us→Vals (xs.set i x) (us.set i u)
  | _,_,_,.nil=>.nil
  | _,_,0,.cons _ t=>.cons r t
  | _,_,i+1,.cons q t=>.cons q (Vals.set r i t)
theorem Vals.append:∀{xs ys:List V} {us ws:List Value},Vals xs us→Vals ys ws→Vals (xs++ys) (us++ws)
  | _,_,_,_,.nil,s=>s
  | _,_,_,_,.cons r t,s=>.cons r (Vals.append t s)
theorem Vals.take:∀{xs:List V} {us:List Value} (n:Nat),Vals xs us→Vals (xs.take n) (us.take n)
  | _,_,0,_=>.nil
  | _,_,_+1,.nil=>.nil
  | _,_,n+1,.cons r t=>.cons r (Vals.take n t)
theorem Vals.drop:∀{xs:List V} {us:List Value} (n:Nat),Vals xs us→Vals (xs.drop n) (us.drop n)
  | _,_,0,r=>r
  | _,_,_+1,.nil=>.nil
  | _,_,n+1,.cons _ t=>Vals.drop n t
def nG:Option V→Option Value→Prop
  | some v,some u=>RelV v u
  | none,none=>True
  | _,_=>False
def KV {κ:Type}:List (κ×V)→List (κ×Value)→Prop:=Paired fun(p:κ×V) (q:κ×Value)=>p.1=q.1∧RelV p.2 q.2
def kV:Key→V
  | .inl i=>.int i
  | .inr x=>.str x
inductive HO where
  | lst (xs:List V)
  | tup (xs:List V)
  | dK (kvs:List (Key×V)) | dT (kvs:List (List Key×V))
  | set (S:Int→Bool) (n:Nat)
  | ins (C dx:Addr) (fs:List (Str×V))
  | own (x:Addr)
  | xd (fs:List (Str×V))
  | met (f x:Addr)
  | rng (lo hi:Int)
  | K8 (o:Obj) (u:HO)
  | tbl (ps:Array Value)
  | ext (φ:Heap→Prop)
abbrev Hp:=Addr→Option HO
def upd (H:Hp) (a:Addr) (o:HO):Hp:=fun b=>if b=a then some o else H b
theorem ak {H:Hp} {a:Addr} {o:HO}:upd H a o a=some o:=by unfold upd;rw[if_pos rfl]
theorem aC {H:Hp} {a b:Addr} {o:HO} (h:b≠a):upd H a o b=H b:=by unfold upd;rw[if_neg h]
theorem BZ {H:Hp} {a b:Addr} {o u:HO} (h:H a=some o) (h':H b=some u) (d:o≠u):a≠b:=by
  intro e;subst e;rw[h] at h';exact d (Option.some.inj h')
theorem aQ {H:Hp} {a b:Addr} {o:HO} (h:H a=some o) (h':H b=none):a≠b:=by
  intro e;subst e;rw[h] at h';cases h'
section
variable (P:Program) (w:World)
def cA (H:Hp) (h:Heap) (a:Addr):HO→Prop
  | .lst xs=>xs.length≤sizeLine∧∃(its:List Value) (n:Nat),Vals xs its∧h.get? a=some {cls:=.type "list",data:=.seq its.toArray n}
  | .tup xs=>xs.length≤sizeLine∧∃its:List Value,Vals xs its∧IsTup h a its.toArray
  | .dK kvs=>kvs.length≤sizeLine∧(a == sysModules)=false∧∃vs,KV kvs vs∧h.DictOf (cT P w) a vs
  | .dT kvs=>kvs.length≤sizeLine∧(a == sysModules)=false∧∃xs:List (List Key×Addr×Value),
      Paired (fun(p:List Key×V) (q:List Key×Addr×Value)=>p.1=q.1∧H q.2.1=some (.tup (p.1.map kV))∧RelV p.2 q.2.2) kvs xs∧
      ∃o es ep,h.get? a=some o∧o.ExactDict∧o.data = .dict es ep∧es.toList=xs.map (entryOfKey (tupleKind (cT P w)))∧(xs.map (·.1)).Nodup
  | .set S n=>h.SetOf (intKind P w) a S n
  | .ins C dx fs=>H dx=some (.own a)∧fs.length≤1000∧dx≠a∧h.get? a=some (W.instObj C dx)∧
      ∃mA,h.Ns1 dx mA∧(∀f,nG (fs.lookup f) (mA f))∧PySem.Within mA (fs.map (·.1))
  | .own _=>∃o,h.get? a=some o
  | .xd fs=>∃mA,h.Ns1 a mA∧∀f,nG (fs.lookup f) (mA f)
  | .rng lo hi=>∃t u v,h.get? a=some {cls:=.type "range",data:=.fields #[.int lo t,.int hi u,.int 1 v]}
  | .K8 o u=>h.get? a=some o∧cA H h a u
  | .tbl ps=>h.get? a=some {cls:=.none,data:=.fields ps}
  | .met f x=>h.get? a=some (W.methodObj (.ref f) (.ref x))
  | .ext φ=>φ h∧(∃o,h.get? a=some o)∧∀h1 h2:Heap,φ h1→(∀o,h1.get? a=some o→h2.get? a=some o)→φ h2
def tG (H:Hp) (h:Heap):Prop:=∀a o,H a=some o→cA P w H h a o
end
section
variable {P:Program} {w:World} {H H':Hp} {h h':Heap} {a:Addr} {o:HO}
theorem cA.lt (x:cA P w H h a o):a<h.objs.size:=by
  cases o with
  | lst xs=>obtain⟨_,_,_,_,e⟩:=x;exact Heap.lt_size e
  | tup xs=>obtain⟨_,_,_,p⟩:=x;exact p.lt
  | dK kvs=>obtain⟨_,_,_,_,o,_,_,e,_⟩:=x;exact Heap.lt_size e
  | dT kvs=>obtain⟨_,_,_,_,o,_,_,e,_⟩:=x;exact Heap.lt_size e
  | set S n=>obtain⟨o,_,_,_,e,_⟩:=x;exact Heap.lt_size e
  | ins C dx fs=>obtain⟨_,_,_,e,_⟩:=x;exact Heap.lt_size e
  | own y=>obtain⟨_,e⟩:=x;exact Heap.lt_size e
  | xd fs=>obtain⟨_,⟨_,_,_,e,_⟩,_⟩:=x;exact Heap.lt_size e
  | rng lo hi=>obtain⟨_,_,_,e⟩:=x;exact Heap.lt_size e
  | K8 ob u=>obtain⟨e,_⟩:=x;exact Heap.lt_size e
  | tbl ps=>exact Heap.lt_size (show h.get? a=some _ from x)
  | met f y=>exact Heap.lt_size (show h.get? a=some _ from x)
  | ext φ=>obtain⟨_,⟨_,e⟩,_⟩:=x;exact Heap.lt_size e
theorem Paired.qcn {α β:Type} {F G:α→β→Prop}:∀{l₁:List α} {l₂:List β},Paired F l₁ l₂→(∀a b,F a b→G a b)→Paired G l₁ l₂
  | _,_,.nil,_=>.nil
  | _,_,.cons r t,f=>.cons (f _ _ r) (Paired.qcn t f)
theorem cA.stay (x:cA P w H h a o) (k:∀b u,(b=a∨H b=some (.own a))→h.get? b=some u→h'.get? b=some u)
    (ho:∀b,H b=some (.own a)→H' b=some (.own a)) (ht:∀b xs,H b=some (.tup xs)→H' b=some (.tup xs)):cA P w H' h' a o:=by
  induction o with
  | lst xs=>obtain⟨z,its,n,r,e⟩:=x;exact⟨z,its,n,r,k _ _ (.inl rfl) e⟩
  | tup xs=>obtain⟨z,its,r,ob,e,c⟩:=x;exact⟨z,its,r,ob,k _ _ (.inl rfl) e,c⟩
  | dK kvs=>obtain⟨z,y,vs,r,ob,es,ep,e,c⟩:=x;exact⟨z,y,vs,r,ob,es,ep,k _ _ (.inl rfl) e,c⟩
  | dT kvs=>
    obtain⟨z,y,xs,r,ob,es,ep,e,c⟩:=x;exact⟨z,y,xs,Paired.qcn r fun p q z=>⟨z.1,ht _ _ z.2.1,z.2.2⟩,ob,es,ep,k _ _ (.inl rfl) e,c⟩
  | set S n=>obtain⟨ob,es,ep,t,e,c⟩:=x;exact⟨ob,es,ep,t,k _ _ (.inl rfl) e,c⟩
  | ins C dx fs=>
    obtain⟨d,z,ne,e,mA,⟨od,es,ep,e2,c⟩,r⟩:=x;exact⟨ho _ d,z,ne,k _ _ (.inl rfl) e,mA,⟨od,es,ep,k _ _ (.inr d) e2,c⟩,r⟩
  | own y=>obtain⟨ob,e⟩:=x;exact⟨ob,k _ _ (.inl rfl) e⟩
  | xd fs=>obtain⟨mA,⟨od,es,ep,e,c⟩,r⟩:=x;exact⟨mA,⟨od,es,ep,k _ _ (.inl rfl) e,c⟩,r⟩
  | rng lo hi=>obtain⟨t,u,v,e⟩:=x;exact⟨t,u,v,k _ _ (.inl rfl) e⟩
  | K8 ob u ih=>obtain⟨e,q⟩:=x;exact⟨k _ _ (.inl rfl) e,ih q⟩
  | tbl ps=>
    have e:h.get? a=some {cls:=.none,data:=.fields ps}:=x;show h'.get? a=some {cls:=.none,data:=.fields ps};exact k a _ (.inl rfl) e
  | met f y=>
    have e:h.get? a=some (W.methodObj (.ref f) (.ref y)):=x;show h'.get? a=some (W.methodObj (.ref f) (.ref y));exact k a _ (.inl rfl) e
  | ext φ=>obtain⟨p,⟨o,e⟩,st⟩:=x;exact⟨st _ _ p fun o q=>k _ _ (.inl rfl) q,⟨o,k _ _ (.inl rfl) e⟩,st⟩
theorem tG.lt (x:tG P w H h) (e:H a=some o):a<h.objs.size:=(x a o e).lt
theorem tG.fresh (x:tG P w H h) (e:h.objs.size≤a):H a=none:=by
  cases q:H a with
  | none=>rfl
  | some u=>exact absurd (Nat.lt_of_lt_of_le (x.lt q) e) (Nat.lt_irrefl _)
theorem tG.kept (x:tG P w H h) (k:∀b u,h.get? b=some u→h'.get? b=some u):tG P w H h':=fun a o e=>
  (x a o e).stay (fun b u _ q=>k b u q) (fun _ q=>q) fun _ _ q=>q
theorem tG.laid (x:tG P w H h) (k:∀b u,h.get? b=some u→h'.get? b=some u) (hp:h.objs.size≤a) (new:cA P w (upd H a o) h' a o):tG P w (upd H a o) h':=fun b u e=>by
  have hn:=x.fresh hp
  by_cases hb:b=a
  ·subst hb;rw[ak] at e;cases e;exact new
  ·rw[aC hb] at e;exact(x b u e).stay (fun c v _ q=>k c v q) (fun c q=>by rw[aC (aQ q hn)];exact q) fun c xs q=>by rw[aC (aQ q hn)];exact q
end
def Rd (H:Hp) (a:Addr) (u:HO):Prop:=H a=some u∨∃o,H a=some (.K8 o u)
theorem Rd.ok {P:Program} {w:World} {H:Hp} {h:Heap} {a:Addr} {u:HO} (r:Rd H a u) (x:tG P w H h):cA P w H h a u:=by
  rcases r with r | ⟨o,r⟩
  ·exact x a u r
  ·obtain⟨_,q⟩:=x a _ r;exact q
def Mut:Option HO→Prop
  | some (.lst _)=>True
  | some (.dK _)=>True
  | some (.dT _)=>True
  | some (.set _ _)=>True
  | some (.ins _ _ _)=>True
  | some (.ext _)=>True
  | _=>False
section
variable {P:Program} {w:World} {H:Hp} {h h':Heap} {x e:Addr} {o':HO}
theorem tG.write (ok:tG P w H h) (mu:Mut (H x)) (he:e=x∨H e=some (.own x)) (k:∀b u,b≠e→h.get? b=some u→h'.get? b=some u) (heo:∃u,h'.get? e=some u)
    (new:cA P w (upd H x o') h' x o'):tG P w (upd H x o') h':=fun b u q=>by
  have qfb:∀c y,H c=some (.own y)→c≠x:=fun c y r z=>by subst z;rw[r] at mu;exact mu
  have qle:∀c xs,H c=some (.tup xs)→c≠x:=fun c xs r z=>by subst z;rw[r] at mu;exact mu
  by_cases hb:b=x
  ·subst hb;rw[ak] at q;cases q;exact new
  · rw[aC hb] at q
    by_cases hbe:b=e
    · have q':H b=some (.own x):=by
        rcases he with z | z
        ·exact absurd (hbe.trans z) hb
        ·rw[hbe];exact z
      rw[q] at q';cases q';obtain⟨v,hv⟩:=heo;exact⟨v,by rw[hbe];exact hv⟩
    · refine(ok b u q).stay (fun c v hc r=>k c v ?_ r) (fun c r=>by rw[aC (qfb c b r)];exact r) fun c xs r=>by rw[aC (qle c xs r)];exact r
      rcases hc with rfl | hc
      ·exact hbe
      · rintro rfl
        rcases he with z | z
        ·exact qfb c b hc z
        ·rw[hc] at z;cases z;exact hb rfl
end
structure Un (fs ex:List Addr) (H H':Hp) (h h':Heap):Prop where
  keep:∀b o,h.get? b=some o→H b=none→b∉fs→b∉ex→h'.get? b=some o
  slot:∀b o,h.get? b=some o→H b=none→b∈fs→b∉ex→∃sl,h'.get? b=some {o with slots:=sl}
  free:∀b o,h.get? b=some o→H b=none→b∉ex→H' b=none
  there:∀b o,h.get? b=some o→b∉ex→∃o',h'.get? b=some o'
  tups:∀b xs,H b=some (.tup xs)→H' b=some (.tup xs)
  sY:∀b o u,H b=some (.K8 o u)→H' b=some (.K8 o u)
  tH:∀b ps,H b=some (.tbl ps)→∃more,H' b=some (.tbl (ps++more))
section
variable {fs fs' ex ex':List Addr} {H H1 H2:Hp} {h h1 h2 h':Heap} {a x e:Addr} {o:HO}
theorem Un.any (u:Un fs ex H H1 h h1) {b:Addr} {ob:Obj} (q:h.get? b=some ob) (n:H b=none) (hx:b∉ex):∃sl,h1.get? b=some {ob with slots:=sl}:=by
  by_cases hb:b∈fs
  ·exact u.slot b ob q n hb hx
  ·exact⟨ob.slots,u.keep b ob q n hb hx⟩
theorem Un.kept (k:∀b u,h.get? b=some u→h'.get? b=some u):Un fs ex H H h h':=
  ⟨fun b ob q _ _ _=>k b ob q,fun b ob q _ _ _=>⟨ob.slots,k b ob q⟩,fun _ _ _ n _=>n,fun b ob q _=>⟨ob,k b ob q⟩,fun _ _ q=>q,fun _ _ _ q=>q,fun _ ps q=>⟨#[],by rw[q];simp⟩⟩
theorem Un.refl:Un fs ex H H h h:=Un.kept fun _ _ q=>q
theorem Un.laid (k:∀b u,h.get? b=some u→h'.get? b=some u) (hp:h.objs.size≤a) (hn:H a=none):Un fs ex H (upd H a o) h h' where
  keep:=fun b u q _ _ _=>k b u q
  slot:=fun b u q _ _ _=>⟨u.slots,k b u q⟩
  free:=fun b u q n _=>by rw[aC (Nat.ne_of_lt (Nat.lt_of_lt_of_le (Heap.lt_size q) hp))];exact n
  there:=fun b u q _=>⟨u,k b u q⟩
  tups:=fun b xs q=>by rw[aC (aQ q hn)];exact q
  sY:=fun b u xs q=>by rw[aC (aQ q hn)];exact q
  tH:=fun b ps q=>⟨#[],by rw[aC (aQ q hn),q];simp⟩
theorem Un.write (mu:Mut (H x)) (he:e=x∨H e=some (.own x)) (k:∀b u,b≠e→h.get? b=some u→h'.get? b=some u) (heo:∃u,h'.get? e=some u):Un fs ex H (upd H x o) h h':=by
  have hx:∀b,H b=none→b≠x:=fun b n z=>by subst z;rw[n] at mu;exact mu
  have hb:∀b,H b=none→b≠e:=fun b n z=>by
    subst z
    rcases he with r | r
    ·exact hx b n r
    ·rw[n] at r;cases r
  have hm:∀b u,H b=some u→¬Mut (some u)→b≠x:=fun b u q nm z=>by subst z;rw[q] at mu;exact nm mu
  refine⟨fun b u q n _ _=>k b u (hb b n) q,fun b u q n _ _=>⟨u.slots,k b u (hb b n) q⟩,fun b u q n _=>by rw[aC (hx b n)];exact n,fun b u q _=>?_,
    fun b xs q=>by rw[aC (hm b _ q fun z=>z)];exact q,fun b u xs q=>by rw[aC (hm b _ q fun z=>z)];exact q,fun b ps q=>⟨#[],by rw[aC (hm b _ q fun z=>z),q];simp⟩⟩
  by_cases hbe:b=e
  ·subst hbe;exact heo
  ·exact⟨u,k b u hbe q⟩
end
def trk (h:Heap) (H:Hp):List Addr:=(List.range h.objs.size).filter fun a=>(H a).isSome
def Jd (h:Heap) (H:Hp):Heap:=W.hideAll h (trk h H)
theorem SQ (h:Heap) (H:Hp):(Jd h H).objs.size=h.objs.size:=W.hideAll_size _ _
theorem Wc {h:Heap} {H:Hp} {b:Addr} {o:Obj} (e:h.get? b=some o) (n:H b=none):(Jd h H).get? b=some o:=
  W.hideAll_get _ e fun hm=>by
    have q:(H b).isSome=true:=(List.mem_filter.mp hm).2;rw[n] at q;simp at q
theorem qaa {h:Heap} {H:Hp} {b:Addr} {o:Obj} (e:(Jd h H).get? b=some o):h.get? b=some o∧H b=none:=by
  have e':h.get? b=some o:=W.of_hideAll (trk h H) e;refine⟨e',?_⟩;cases q:H b with
  | none=>rfl
  | some x=>
    have hm:b∈trk h H:=List.mem_filter.mpr ⟨List.mem_range.mpr (Heap.lt_size e'),by simp[q]⟩;have z:(Jd h H).get? b=none:=W.hideAll_none (trk h H) hm;rw[z] at e;cases e
def qab (g h:Heap) (L:Addr):List (Addr×Obj):=(List.range h.objs.size).filterMap fun a=>if a=L∨(g.get? a).isSome=true then none else (h.get? a).map fun o=>(a,o)
def rest (g h:Heap) (L d:Addr):List (Addr×Obj):=(qab g h L).filter fun p=>decide (p.1≠d)
structure Mod (K:W.Frag) (mg:Str→Option Value) (base:Heap):Prop where
  K9:K.In base
  glob:base.Ns mainGlobals mg
  blt:∃mb,base.Ns builtinsNs mb∧∀x:Str,x≠ "__name__" →mb x=bootBuiltins x
  nolimit:base.NoLimit
set_option genInjectivity false in
structure Cx where
  prog:Program
  w:World
  K:W.Frag
  mg:Str→Option Value
  base:Heap
  A:Around
  N:List Str
  s₀:Shared
  H₀:Hp
  env:Env
  outer:List Env
  stack:List Env
  ex:List Addr
  fn:Str→Bool
  calm:Bool
  pn:List (Addr×Obj)
  xe:Value→Shared→Prop
def frs (l:List Env):List Addr:=l.filterMap (·.frame)
abbrev Cx.fs (X:Cx):List Addr:=frs X.outer
def Vis (sc:Scope) (x:Str):Prop:=sc.names.lookup x=some .local∨sc.names.lookup x=some .cell∨sc.names.lookup x=some .free
def Loc (sc:Scope) (x:Str):Prop:=sc.names.lookup x=some .local∨sc.names.lookup x=some .cell
def Look (env:Env) (h:Heap) (m:Str→Option Value) (x:Str) (u:Value):Prop:=
  (env.kindOf x=some .local∧m x=some u)∨((env.kindOf x=some .cell∨env.kindOf x=some .free)∧∃c,env.cells.lookup x=some c∧h.IsCell c (some u))
structure Cx.Ok (X:Cx):Prop where
  mod:Mod X.K X.mg X.base
  kind:X.env.scope.kind = .function
  glob:X.env.globals=mainGlobals
  blt:X.env.builtins=builtinsNs
  above:X.s₀.heap.objs.size≤X.env.locals
  inj:∀x y c,X.env.cells.lookup x=some c→X.env.cells.lookup y=some c→x=y
  has:∀x,(X.env.kindOf x=some .cell∨X.env.kindOf x=some .free)→∃c,X.env.cells.lookup x=some c
  cab:∀x c,X.fn x=true→X.env.cells.lookup x=some c→X.s₀.heap.objs.size≤c
  hd:X.calm=true→X.A.handled=none
  frames:X.A.frames=some X.stack
  stk:X.stack=X.outer∨(X.stack=X.env::X.outer∧X.env.frame=some X.env.locals)
  exf:∀b∈X.ex,b≠X.env.locals∧∀x c,X.env.cells.lookup x=some c→c≠b
  bs:∀b o,X.base.get? b=some o→X.s₀.heap.get? b=some o∧X.H₀ b=none
  V3:X.base.objs.size≤X.s₀.heap.objs.size
  K_:∀b o,X.base.get? b=some o→b∉X.ex
  La:∀b∈X.ex,b∉X.fs
  vD:X.s₀.heap.FunFrames X.base X.outer
  ZW:∀b∈X.fs,X.H₀ b=none
structure Inv (X:Cx) (p_:List (Addr×Obj)) (σ:List (Option V)) (H:Hp) (s:Shared):Prop where
  ok:X.Ok
  os:s.os=X.s₀.os
  bare:AllBare s.gens
  base:Un X.fs X.ex X.H₀ H X.s₀.heap s.heap
  loc:∃m,s.heap.Ns X.env.locals m∧∀(i:Nat) (x:Str) (v:V),X.N[i]? = some x→σ[i]? = some (some v)→Vis X.env.scope x→∃u,RelV v u∧Look X.env s.heap m x u
  cell:∀x c,X.env.cells.lookup x=some c→∃v,s.heap.IsCell c v
  free:H X.env.locals=none
  jF:∀x c,X.env.cells.lookup x=some c→H c=none
  pin:∀p∈X.pn++p_,s.heap.get? p.1=some p.2∧H p.1=none∧p.1≠X.env.locals∧p.1∉X.fs∧∀v,p.2.data≠.cell v
  hok:tG X.prog X.w H s.heap
  len:σ.length=X.N.length
section
variable {X:Cx} {p_:List (Addr×Obj)} {σ:List (Option V)} {H H':Hp} {s:Shared} {h':Heap}
theorem Cx.Ok.qlf (ok:X.Ok) {b:Addr} {o:Obj} (e:X.base.get? b=some o):b∉X.fs:=fun hb=>by
  have:=(ok.vD.mem hb).1;rw[e] at this;cases this
theorem Inv.bs (I:Inv X p_ σ H s):∀b o,X.base.get? b=some o→s.heap.get? b=some o∧H b=none:=fun b o e=>
  ⟨I.base.keep b o (I.ok.bs b o e).1 (I.ok.bs b o e).2 (I.ok.qlf e) (I.ok.K_ b o e),I.base.free b o (I.ok.bs b o e).1 (I.ok.bs b o e).2 (I.ok.K_ b o e)⟩
theorem Inv.bk (I:Inv X p_ σ H s):∀b o,X.base.get? b=some o→s.heap.get? b=some o:=fun b o e=>(I.bs b o e).1
theorem Inv.mod (I:Inv X p_ σ H s):Mod X.K X.mg X.base:=I.ok.mod
theorem Inv.pZ (I:Inv X p_ σ H s):X.K.In s.heap:=I.ok.mod.K9.keeps I.bk
theorem Inv.lt (I:Inv X p_ σ H s):X.env.locals<s.heap.objs.size:=let ⟨_,hn,_⟩:=I.loc;hn.lt
theorem Inv.sz (I:Inv X p_ σ H s):X.s₀.heap.objs.size≤s.heap.objs.size:=Nat.le_trans I.ok.above (Nat.le_of_lt I.lt)
theorem Inv.qlg (I:Inv X p_ σ H s) {a:Addr} (h:s.heap.objs.size≤a):a∉X.fs:=fun hb=>by
  obtain⟨_,o,ho,_⟩:=I.ok.vD.mem hb;exact absurd (Nat.lt_of_lt_of_le (Heap.lt_size ho) (Nat.le_trans I.sz h)) (Nat.lt_irrefl _)
theorem Inv.cne (I:Inv X p_ σ H s):∀x c,X.env.cells.lookup x=some c→c≠X.env.locals:=fun x c e z=>by
  obtain⟨v,o,ho,hd⟩:=I.cell x c e;obtain⟨m,⟨o',es,ep,ho',hd',_⟩,_⟩:=I.loc;rw[z,ho'] at ho;cases ho;rw[hd'] at hd;cases hd
theorem Inv.vD (I:Inv X p_ σ H s):s.heap.FunFrames X.base X.outer:=by
  have all:∀(l:List Env),(∀b∈frs l,b∈X.fs)→X.s₀.heap.FunFrames X.base l→s.heap.FunFrames X.base l:=by
    intro l
    induction l with
    | nil=>intro _ _;trivial
    | cons env r ih=>
      intro hs hl;obtain⟨hk,⟨L,o,hf,hn,ho,hd⟩,hr⟩:=hl;have hL:L∈X.fs:=hs L (by unfold frs;rw[List.filterMap_cons,hf];exact List.mem_cons_self);obtain⟨sl,e⟩:=I.base.slot L o ho (I.ok.ZW L hL) hL fun z=>I.ok.La L z hL;exact⟨hk,⟨L,_,hf,hn,e,hd⟩,ih (fun b hb=>hs b (by unfold frs;rw[List.filterMap_cons,hf];exact List.mem_cons_of_mem _ hb)) hr⟩
  exact all X.outer (fun _ hb=>hb) I.ok.vD
theorem Inv.stack (I:Inv X p_ σ H s):s.heap.FunFrames X.base X.stack:=by
  rcases I.ok.stk with e | ⟨e,hf⟩
  ·rw[e];exact I.vD
  ·rw[e];obtain⟨m,hn,_⟩:=I.loc;refine .cons (by rw[I.ok.kind];decide) hf hn ?_ I.vD;exact Heap.get?_none_of_le (Nat.le_trans I.ok.V3 I.ok.above)
theorem Inv.wu (I:Inv X p_ σ H s):∀b∈frs X.stack,b∈X.env.locals::X.fs:=fun b hb=>by
  rcases I.ok.stk with e | ⟨e,hf⟩
  ·rw[e] at hb;exact List.mem_cons_of_mem _ hb
  ·rw[e] at hb;unfold frs at hb;rw[List.filterMap_cons,hf] at hb;exact hb
theorem Inv.Bl (I:Inv X p_ σ H s):∀b∈frs X.stack,H b=none:=fun b hb=>by
  rcases List.mem_cons.mp (I.wu b hb) with e | hb
  ·rw[e];exact I.free
  ·obtain⟨_,o,ho,_⟩:=I.ok.vD.mem hb;exact I.base.free b o ho (I.ok.ZW b hb) fun z=>I.ok.La b z hb
theorem Inv.step {g':Array GenState} {t':Nat} {d':Drawn} {ch:List Addr} (I:Inv X p_ σ H s)
    (hch:∀b∈ch,(b∈X.ex∨X.s₀.heap.objs.size≤b)∧b≠X.env.locals∧(∀x c,X.env.cells.lookup x=some c→c≠b)∧∀p∈X.pn++p_,p.1≠b)
    (keep:∀b o,b≠X.env.locals→b∉X.fs→b∉ch→s.heap.get? b=some o→H b=none→h'.get? b=some o)
    (slot:∀b o,b≠X.env.locals→b∈X.fs→b∉ch→s.heap.get? b=some o→H b=none→∃sl,h'.get? b=some {o with slots:=sl}) (free:∀b o,b∉ch→s.heap.get? b=some o→H b=none→H' b=none)
    (there:∀b o,b∉ch→s.heap.get? b=some o→∃o',h'.get? b=some o')
    (tups:∀b xs,H b=some (.tup xs)→H' b=some (.tup xs)) (sY:∀b o u,H b=some (.K8 o u)→H' b=some (.K8 o u)) (tH:∀b ps,H b=some (.tbl ps)→∃more,H' b=some (.tbl (ps++more)))
    (ns:∀m,s.heap.Ns X.env.locals m→h'.Ns X.env.locals m) (hok:tG X.prog X.w H' h') (hg:AllBare g') :
    Inv X p_ σ H' {s with heap:=h',gens:=g',drawn:=d',toks:=t'}:=by
  have neL:∀b o,X.s₀.heap.get? b=some o→b≠X.env.locals:=fun b o e=>Nat.ne_of_lt (Nat.lt_of_lt_of_le (Heap.lt_size e) I.ok.above);have neC:∀b o,X.s₀.heap.get? b=some o→b∉X.ex→b∉ch:=fun b o e hx hb=>by
    rcases(hch b hb).1 with z | z
    ·exact hx z
    ·exact absurd (Nat.lt_of_lt_of_le (Heap.lt_size e) z) (Nat.lt_irrefl _)
  have cellK:∀x c,X.env.cells.lookup x=some c→∀v,s.heap.IsCell c v→h'.IsCell c v:=fun x c e v ⟨o,ho,hd⟩=>by
    have nch:c∉ch:=fun z=>(hch c z).2.2.1 x c e rfl
    by_cases hc:c∈X.fs
    ·obtain⟨sl,q⟩:=slot c o (I.cne x c e) hc nch ho (I.jF x c e);exact⟨_,q,hd⟩
    ·exact⟨o,keep c o (I.cne x c e) hc nch ho (I.jF x c e),hd⟩
  refine⟨I.ok,I.os,hg,⟨fun b o e n hb hx=>?_,fun b o e n hb hx=>?_,fun b o e n hx=>?_,fun b o e hx=>?_,fun b xs e=>tups b xs (I.base.tups b xs e),fun b o xs e=>sY b o xs (I.base.sY b o xs e),fun b ps e=>?_⟩,?_,fun x c e=>?_,?_,fun x c e=>?_,fun p hp=>?_,hok,I.len⟩
  ·exact keep b o (neL b o e) hb (neC b o e hx) (I.base.keep b o e n hb hx) (I.base.free b o e n hx)
  ·obtain⟨sl,e1⟩:=I.base.slot b o e n hb hx;obtain⟨sl',e2⟩:=slot b _ (neL b o e) hb (neC b o e hx) e1 (I.base.free b o e n hx);exact⟨sl',e2⟩
  ·obtain⟨o',e1⟩:=I.base.there b o e hx;exact free b o' (neC b o e hx) e1 (I.base.free b o e n hx)
  ·obtain⟨o',e1⟩:=I.base.there b o e hx;exact there b o' (neC b o e hx) e1
  ·obtain⟨m1,e1⟩:=I.base.tH b ps e;obtain⟨m2,e2⟩:=tH b _ e1;exact⟨m1++m2,by rw[e2,Array.append_assoc]⟩
  · obtain⟨m,hn,hl⟩:=I.loc;refine⟨m,ns m hn,fun i x v e1 e2 e3=>?_⟩;obtain⟨u,r,l⟩:=hl i x v e1 e2 e3;refine⟨u,r,?_⟩
    rcases l with l | ⟨k,c,e,z⟩
    ·exact .inl l
    ·exact .inr ⟨k,c,e,cellK x c e _ z⟩
  ·obtain⟨v,z⟩:=I.cell x c e;exact⟨v,cellK x c e v z⟩
  ·obtain⟨m,⟨o,_,_,ho,_⟩,_⟩:=I.loc;exact free _ o (fun z=>(hch _ z).2.1 rfl) ho I.free
  ·obtain⟨v,o,ho,hd⟩:=I.cell x c e;exact free c o (fun z=>(hch c z).2.2.1 x c e rfl) ho (I.jF x c e)
  ·obtain⟨e,n,ne,nf,d⟩:=I.pin p hp;have nch:p.1∉ch:=fun z=>(hch p.1 z).2.2.2 p hp rfl;exact⟨keep p.1 p.2 ne nf nch e n,free p.1 p.2 nch e n,ne,nf,d⟩
theorem Inv.un {t':Nat} (I:Inv X p_ σ H s) (u:Un X.fs [] H H' s.heap h') (hok:tG X.prog X.w H' h'):Inv X p_ σ H' {s with heap:=h',toks:=t'}:=by
  obtain⟨m,⟨o,es,ep,ho,r⟩,_⟩:=id I.loc;obtain⟨sl,hL⟩:=u.any ho I.free (by simp);exact I.step (g':=s.gens) (d':=s.drawn) (ch:=[]) (fun _ z=>nomatch z) (fun b o _ hb _ e n=>u.keep b o e n hb (by simp)) (fun b o _ hb _ e n=>u.slot b o e n hb (by simp)) (fun b o _ e n=>u.free b o e n (by simp)) (fun b o _ e=>u.there b o e (by simp)) u.tups u.sY u.tH (fun m' hm=>by
    obtain⟨o',es',ep',ho',r'⟩:=hm;rw[ho] at ho';cases ho';exact⟨_,es',ep',hL,r'⟩) hok I.bare
theorem Inv.call {g':Array GenState} {t':Nat} {d':Drawn} {ch:List Addr} (I:Inv X p_ σ H s) (u:Un (frs X.stack) ch H H' s.heap h') (hok:tG X.prog X.w H' h') (hg:AllBare g')
    (hch:∀b∈ch,(b∈X.ex∨X.s₀.heap.objs.size≤b)∧b≠X.env.locals∧(∀x c,X.env.cells.lookup x=some c→c≠b)∧∀p∈X.pn++p_,p.1≠b) :
    Inv X p_ σ H' {s with heap:=h',gens:=g',drawn:=d',toks:=t'}:=by
  obtain⟨m,⟨o,es,ep,ho,r⟩,_⟩:=id I.loc;obtain⟨sl,hL⟩:=u.any ho I.free fun z=>(hch _ z).2.1 rfl;exact I.step (ch:=ch) hch (fun b o hL hb hc e n=>u.keep b o e n (fun z=>(List.mem_cons.mp (I.wu b z)).elim hL hb) hc) (fun b o _ _ hc e n=>u.any e n hc) (fun b o hc e n=>u.free b o e n hc) (fun b o hc e=>u.there b o e hc) u.tups u.sY u.tH (fun m' hm=>by
    obtain⟨o',es',ep',ho',r'⟩:=hm;rw[ho] at ho';cases ho';exact⟨_,es',ep',hL,r'⟩) hok hg
theorem Inv.turned {t':Nat} {it:Addr} (I:Inv X p_ σ H s) (k:∀b o,b≠it→s.heap.get? b=some o→h'.get? b=some o) (hn:H it=none) (hL:it≠X.env.locals)
    (h1:it∈X.ex∨X.s₀.heap.objs.size≤it) (h2:∀x c,X.env.cells.lookup x=some c→c≠it) (h3:∀p∈X.pn++p_,p.1≠it):Inv X p_ σ H {s with heap:=h',toks:=t'}:=by
  have nit:∀b u,H b=some u→b≠it:=fun b u e z=>by rw[z,hn] at e;cases e
  refine I.step (g':=s.gens) (d':=s.drawn) (ch:=[it]) (fun b hb=>?_) (fun b o _ _ hc e _=>k b o (fun z=>hc (by simp[z])) e) (fun b o _ _ hc e _=>⟨o.slots,k b o (fun z=>hc (by simp[z])) e⟩) (fun _ _ _ _ n=>n)
    (fun b o hc e=>⟨o,k b o (fun z=>hc (by simp[z])) e⟩) (fun _ _ e=>e) (fun _ _ _ e=>e) (fun b ps e=>⟨#[],by rw[e];simp⟩) (fun m hm=>?_) (fun b u e=>?_) I.bare
  · have e:b=it:=by simpa using hb
    subst e;exact⟨h1,hL,h2,h3⟩
  ·obtain⟨o,es,ep,ho,r⟩:=hm;exact⟨o,es,ep,k _ o (Ne.symm hL) ho,r⟩
  · refine(I.hok b u e).stay (fun c v hc q=>k c v ?_ q) (fun _ q=>q) fun _ _ q=>q
    rcases hc with z | z
    ·rw[z];exact nit b u e
    ·exact nit c _ z
theorem Inv.tok (I:Inv X p_ σ H s) (t:Nat):Inv X p_ σ H {s with toks:=t}:=I.un (h':=s.heap) (t':=t) Un.refl I.hok
theorem Inv.kept {t':Nat} (I:Inv X p_ σ H s) (k:∀b u,s.heap.get? b=some u→h'.get? b=some u):Inv X p_ σ H {s with heap:=h',toks:=t'}:=I.un (Un.kept k) (I.hok.kept k)
theorem Inv.laid {a:Addr} {o:HO} {t':Nat} (I:Inv X p_ σ H s) (k:∀b u,s.heap.get? b=some u→h'.get? b=some u) (hp:s.heap.objs.size≤a) (new:cA X.prog X.w (upd H a o) h' a o) :
    Inv X p_ σ (upd H a o) {s with heap:=h',toks:=t'}:=I.un (Un.laid k hp (I.hok.fresh hp)) (I.hok.laid k hp new)
theorem Inv.write {x e:Addr} {o:HO} {t':Nat} (I:Inv X p_ σ H s) (mu:Mut (H x)) (he:e=x∨H e=some (.own x)) (k:∀b u,b≠e→s.heap.get? b=some u→h'.get? b=some u) (heo:∃u,h'.get? e=some u)
    (new:cA X.prog X.w (upd H x o) h' x o):Inv X p_ σ (upd H x o) {s with heap:=h',toks:=t'}:=I.un (Un.write mu he k heo) (I.hok.write mu he k heo new)
theorem Inv.Q_ {B_:List (Addr×Obj)} (I:Inv X p_ σ H s) (h:∀p∈B_,s.heap.get? p.1=some p.2∧H p.1=none∧p.1≠X.env.locals∧p.1∉X.fs∧∀v,p.2.data≠.cell v):Inv X B_ σ H s:=
  ⟨I.ok,I.os,I.bare,I.base,I.loc,I.cell,I.free,I.jF,fun p hp=>(List.mem_append.mp hp).elim (fun z=>I.pin p (List.mem_append_left _ z)) (h p),I.hok,I.len⟩
theorem Ca {N:List Str} (hN:N.Nodup) {i j:Nat} {x:Str} (a:N[i]? = some x) (b:N[j]? = some x):i=j:=by
  obtain⟨h1,e1⟩:=List.getElem?_eq_some_iff.mp a;obtain⟨h2,e2⟩:=List.getElem?_eq_some_iff.mp b;exact(List.getElem_inj hN).mp (e1.trans e2.symm)
theorem uH {M:Model} {A:Around} {E:Value→Shared→Prop} {i:Nat} {x:Str} {v:V} {u:Value} {Q:Unit→Shared→Prop} (I:Inv X p_ σ H s) (hN:X.N.Nodup) (hi:X.N[i]? = some x) (hx:Loc X.env.scope x) (r:RelV v u)
    (h:∀s',Inv X p_ (σ.set i (some v)) H s'→(∃a,Heap.SameBut a s.heap s'.heap∧(a=X.env.locals∨X.env.cells.lookup x=some a))→Q () s') (hf:X.fn x=true∨X.env.scope.names.lookup x=some .local:=by first | exact .inl rfl | exact .inr rfl | assumption):wpAny M A (storeName X.env x u) Q E s:=by
  obtain⟨m,hn,hl⟩:=id I.loc;have hcls:(X.env.scope.kind == .class || (X.env.scope.kind == .module && X.env.locals != X.env.globals))=false:=by rw[I.ok.kind];rfl
  have hiσ:i<σ.length:=by rw[I.len];exact(List.getElem?_eq_some_iff.mp hi).1
  have cne:=I.cne;have tracked:∀{a:Addr} {h':Heap},(∃o,s.heap.get? a=some o∧H a=none)→Heap.SameBut a s.heap h'→tG X.prog X.w H h':=fun {a h'} ha hs b ob e=>by
    obtain⟨_,_,hfree⟩:=ha;refine(I.hok b ob e).stay (fun c w' hc q=>(hs.2 c ?_).trans q) (fun _ q=>q) fun _ _ q=>q;rintro rfl
    rcases hc with rfl | hc
    ·rw[hfree] at e;cases e
    ·rw[hfree] at hc;cases hc
  rcases hx with hk | hk
  · refine wpAny_storeName_local hk hn (fun h' hn' hs=>?_) hcls;obtain⟨oL,_,_,hoL,_⟩:=id hn;refine h _ ⟨I.ok,I.os,I.bare,⟨fun b o e n hb hx=>?_,fun b o e n hb hx=>?_,I.base.free,fun b o e hx=>?_,I.base.tups,I.base.sY,I.base.tH⟩,⟨_,hn',fun j y v' e1 e2 e3=>?_⟩,fun y c e=>?_,I.free,I.jF,fun p hp=>?_,tracked ⟨oL,hoL,I.free⟩ hs,by simpa using I.len⟩ ⟨_,hs,.inl rfl⟩
    ·exact(hs.2 b (Nat.ne_of_lt (Nat.lt_of_lt_of_le (Heap.lt_size e) I.ok.above))).trans (I.base.keep b o e n hb hx)
    ·obtain⟨sl,e1⟩:=I.base.slot b o e n hb hx;exact⟨sl,(hs.2 b (Nat.ne_of_lt (Nat.lt_of_lt_of_le (Heap.lt_size e) I.ok.above))).trans e1⟩
    ·obtain⟨o',e1⟩:=I.base.there b o e hx;exact⟨o',(hs.2 b (Nat.ne_of_lt (Nat.lt_of_lt_of_le (Heap.lt_size e) I.ok.above))).trans e1⟩
    · by_cases hj:j=i
      ·subst hj;rw[hi] at e1;cases e1;rw[List.getElem?_set_self hiσ] at e2;cases e2;exact⟨u,r,.inl ⟨hk,by simp⟩⟩
      · rw[List.getElem?_set_ne (Ne.symm hj)] at e2;obtain⟨u',r',q⟩:=hl j y v' e1 e2 e3;refine⟨u',r',?_⟩
        rcases q with⟨k,e⟩ | ⟨k,c,e,z⟩
        ·refine .inl ⟨k,?_⟩;have:y≠x:=fun e=>hj (Ca hN e1 (e▸hi));simp[this,e]
        ·exact .inr ⟨k,c,e,z.sameBut hs (cne y c e)⟩
    ·obtain⟨w',z⟩:=I.cell y c e;exact⟨w',z.sameBut hs (cne y c e)⟩
    ·obtain⟨e,n,ne,nf,d⟩:=I.pin p hp;exact⟨(hs.2 p.1 ne).trans e,n,ne,nf,d⟩
  · have hfn:X.fn x=true:=by
      rcases hf with z | z
      ·exact z
      ·rw[z] at hk;cases hk
    obtain⟨c,hc⟩:=I.ok.has x (.inl hk);obtain⟨w',z⟩:=I.cell x c hc;refine wpAny_storeName_cell I.ok.kind hk hc z (fun h' hc' hs=>?_);obtain⟨oc,hoc,qlh⟩:=id z;refine h {s with heap:=h'} ⟨I.ok,I.os,I.bare,⟨fun b o e n hb hx=>?_,fun b o e n hb hx=>?_,I.base.free,fun b o e hx=>?_,I.base.tups,I.base.sY,I.base.tH⟩,⟨m,hn.sameBut hs (Ne.symm (cne x c hc)),fun j y v' e1 e2 e3=>?_⟩,fun y c' e=>?_,I.free,I.jF,fun p hp=>?_,tracked ⟨oc,hoc,I.jF x c hc⟩ hs,by simpa using I.len⟩ ⟨c,hs,.inr hc⟩
    ·exact(hs.2 b (Nat.ne_of_lt (Nat.lt_of_lt_of_le (Heap.lt_size e) (I.ok.cab x c hfn hc)))).trans (I.base.keep b o e n hb hx)
    ·obtain⟨sl,e1⟩:=I.base.slot b o e n hb hx;exact⟨sl,(hs.2 b (Nat.ne_of_lt (Nat.lt_of_lt_of_le (Heap.lt_size e) (I.ok.cab x c hfn hc)))).trans e1⟩
    ·obtain⟨o',e1⟩:=I.base.there b o e hx;exact⟨o',(hs.2 b (Nat.ne_of_lt (Nat.lt_of_lt_of_le (Heap.lt_size e) (I.ok.cab x c hfn hc)))).trans e1⟩
    · by_cases hj:j=i
      ·subst hj;rw[hi] at e1;cases e1;rw[List.getElem?_set_self hiσ] at e2;cases e2;exact⟨u,r,.inr ⟨.inl hk,c,hc,hc'⟩⟩
      · rw[List.getElem?_set_ne (Ne.symm hj)] at e2;obtain⟨u',r',q⟩:=hl j y v' e1 e2 e3;refine⟨u',r',?_⟩
        rcases q with q | ⟨k,c',e,z'⟩
        ·exact .inl q
        ·refine .inr ⟨k,c',e,z'.sameBut hs ?_⟩;rintro rfl;exact hj (Ca hN e1 (I.ok.inj _ _ _ e hc▸hi))
    · by_cases hcc:c'=c
      ·subst hcc;exact⟨_,hc'⟩
      ·obtain⟨w2,z2⟩:=I.cell y c' e;exact⟨w2,z2.sameBut hs hcc⟩
    ·obtain⟨e,n,ne,nf,d⟩:=I.pin p hp;refine⟨(hs.2 p.1 ?_).trans e,n,ne,nf,d⟩;intro q;rw[q,hoc] at e;have q':oc=p.2:=Option.some.inj e;exact d w' (by rw[← q'];exact qlh)
theorem Cd {M:Model} {A:Around} {E:Value→Shared→Prop} {i:Nat} {x:Str} {v:V} {u:Value} {Q:Unit→Shared→Prop} (I:Inv X p_ σ H s) (hN:X.N.Nodup) (hi:X.N[i]? = some x) (hx:Loc X.env.scope x) (r:RelV v u)
    (h:∀s',Inv X p_ (σ.set i (some v)) H s'→Q () s') (hf:X.fn x=true∨X.env.scope.names.lookup x=some .local:=by first | exact .inl rfl | exact .inr rfl | assumption):wpAny M A (storeName X.env x u) Q E s:=
  uH I hN hi hx r (fun s' I' _=>h s' I') hf
theorem Inv.call' {s':Shared} {ch:List Addr} (I:Inv X p_ σ H s) (ho:s'.os=s.os) (u:Un (frs X.stack) ch H H' s.heap s'.heap) (hok:tG X.prog X.w H' s'.heap) (hg:AllBare s'.gens)
    (hch:∀b∈ch,(b∈X.ex∨X.s₀.heap.objs.size≤b)∧b≠X.env.locals∧(∀x c,X.env.cells.lookup x=some c→c≠b)∧∀p∈X.pn++p_,p.1≠b):Inv X p_ σ H' s':=by
  obtain⟨h',g',d',t',o'⟩:=s';have e:o'=s.os:=ho;subst e;exact I.call (g':=g') (t':=t') (d':=d') u hok hg hch
end
abbrev XK:=Value→Option Addr→Hp→Prop
abbrev St:=List (Option V)
abbrev VK:=V→Hp→Prop
abbrev TE:=St→Hp→VK→Prop
abbrev TT:=St→Hp→(Bool→Hp→Prop)→Prop
abbrev TA:=St→Hp→(List V→Hp→Prop)→Prop
structure Ends where
  nx:St→Hp→Prop
  rt:VK
  bk:St→Hp→Prop:=fun _ _=>False
  ct:St→Hp→Prop:=fun _ _=>False
abbrev TS:=Ends→St→Hp→Prop
def EP (X:Cx) (p_:List (Addr×Obj)) (σ:St) (Q:VK) (u:Value) (s':Shared):Prop:=∃v H',Inv X p_ σ H' s'∧RelV v u∧Q v H'
def TP (X:Cx) (p_:List (Addr×Obj)) (σ:St) (Q:Bool→Hp→Prop) (b:Bool) (s':Shared):Prop:=∃H',Inv X p_ σ H' s'∧Q b H'
def AP (X:Cx) (p_:List (Addr×Obj)) (σ:St) (Q:List V→Hp→Prop) (us:List Value) (s':Shared):Prop:=∃vs H',Inv X p_ σ H' s'∧Vals vs us∧Q vs H'
def SP (X:Cx) (p_:List (Addr×Obj)) (D:Ends) (f:Flow) (s':Shared):Prop:=
  match f with
  | .next=>∃σ' H',Inv X p_ σ' H' s'∧D.nx σ' H'
  | .brk=>∃σ' H',Inv X p_ σ' H' s'∧D.bk σ' H'
  | .cont=>∃σ' H',Inv X p_ σ' H' s'∧D.ct σ' H'
  | .ret u=>∃v σ' H',Inv X p_ σ' H' s'∧RelV v u∧D.rt v H'
def PE (X:Cx) (e:Expr) (t:TE):Prop:=
  ∀(p_:List (Addr×Obj)) (s:Shared) (σ:St) (H:Hp) (Q:VK),Inv X p_ σ H s→t σ H Q→wpAny (model X.prog X.w) X.A (eval e X.env) (EP X p_ σ Q) X.xe s
def PT (X:Cx) (e:Expr) (t:TT):Prop:=
  ∀(p_:List (Addr×Obj)) (s:Shared) (σ:St) (H:Hp) (Q:Bool→Hp→Prop),Inv X p_ σ H s→t σ H Q→wpAny (model X.prog X.w) X.A (isTrue e X.env (eval e X.env)) (TP X p_ σ Q) X.xe s
def PW (X:Cx) (e:Expr) (t:TT):Prop:=
  ∀(whole:Sem Value) (p_:List (Addr×Obj)) (s:Shared) (σ:St) (H:Hp) (Q:Bool→Hp→Prop),Inv X p_ σ H s→t σ H Q→wpAny (model X.prog X.w) X.A (isTrue e X.env whole) (TP X p_ σ Q) X.xe s
theorem PW.pt {X:Cx} {e:Expr} {t:TT} (h:PW X e t):PT X e t:=h _
def PA (X:Cx) (es:List Expr) (t:TA):Prop:=
  ∀(pos:Pos) (p_:List (Addr×Obj)) (s:Shared) (σ:St) (H:Hp) (Q:List V→Hp→Prop),Inv X p_ σ H s→t σ H Q→wpAny (model X.prog X.w) X.A (spliced (backTo pos (starEach es X.env))) (AP X p_ σ Q) X.xe s
def PS (X:Cx) (st:Stmt) (t:TS):Prop:=
  ∀(p_:List (Addr×Obj)) (s:Shared) (σ:St) (H:Hp) (D:Ends),Inv X p_ σ H s→t D σ H→wpAny (model X.prog X.w) X.A (exec st X.env) (SP X p_ D) X.xe s
def G_ (X:Cx) (st:List Stmt) (t:TS):Prop:=
  ∀(p_:List (Addr×Obj)) (s:Shared) (σ:St) (H:Hp) (D:Ends),Inv X p_ σ H s→t D σ H→wpAny (model X.prog X.w) X.A (execs st X.env) (SP X p_ D) X.xe s
theorem dD {α:Type} {t:Sem α} {Q Q':α→Shared→Prop} {M:Model} {A:Around} {E:Value→Shared→Prop} {s:Shared} (h:wpAny M A t Q E s) (hQ:∀a s,Q a s→Q' a s):wpAny M A t Q' E s:=wpAny_mono h hQ fun _ _ x=>x
section
variable {X:Cx}
def qco (i:Nat):TE:=fun σ H Q=>∃v,σ[i]? = some (some v)∧Q v H
def tC (v:V):TE:=fun _ H Q=>Q v H
theorem qcp {i:Nat} {x:Str} {pos:Pos} (hN:X.N[i]? = some x) (hv:Vis X.env.scope x) (hd:(x == ("__debug__" : Str))=false:=by decide) (hcd:(x == ("__classdict__" : Str))=false:=by decide):PE X (.Name x pos) (qco i):=by
  intro p_ s σ H Q I h;obtain⟨v,e,h⟩:=h;obtain⟨m,hn,hl⟩:=I.loc;obtain⟨u,r,l⟩:=hl i x v hN e hv;have fin:EP X p_ σ Q u s:=⟨v,H,I,r,h⟩
  rcases l with⟨hk,hm⟩ | ⟨hk,c,hc,hcell⟩
  ·exact wpAny_Name (wpAny_loadName_local I.ok.kind hk hn hm fin) hd
  · rcases hk with hk | hk
    ·exact wpAny_Name (wpAny_loadName_cell I.ok.kind hk hc hcell fin) hd
    ·exact wpAny_Name (wpAny_loadName_free I.ok.kind hk hc hcell fin hcd) hd
theorem aD {i j pos}:PE X (.Constant (.int i) j pos) (tC (.int i)):=fun _ _ _ H _ I h=>wpAny_Constant_int ⟨.int i,H,I.tok _,⟨_,rfl⟩,h⟩
theorem j9 {b j pos}:PE X (.Constant (.bool b) j pos) (tC (.bl b)):=fun _ _ _ H _ I h=>Constant_bool ⟨.bl b,H,I,rfl,h⟩
theorem nj {x j pos}:PE X (.Constant (.str x) j pos) (tC (.str x)):=fun _ _ _ H _ I h=>Calls.Constant_str ⟨.str x,H,I.tok _,⟨_,rfl⟩,h⟩
def Gl (X:Cx) (x:Str):Prop:=X.env.kindOf x=some .globalImplicit
theorem nH {E:Value→Shared→Prop} {p_:List (Addr×Obj)} {s:Shared} {σ:St} {H:Hp} {x:Str} {u:Value} {pos:Pos} {Q:Value→Shared→Prop} (I:Inv X p_ σ H s) (hg:Gl X x) (hm:X.mg x=some u) (h:Q u s)
    (hd:(x == ("__debug__" : Str))=false:=by decide):wpAny (model X.prog X.w) X.A (eval (.Name x pos) X.env) Q E s:=
  Calls.Name_function_global I.ok.kind hg (Calls.loadGlobal_global (by rw[I.ok.glob];exact I.mod.glob.keeps I.bk) hm h) hd
theorem oM {E:Value→Shared→Prop} {p_:List (Addr×Obj)} {s:Shared} {σ:St} {H:Hp} {x:Str} {u:Value} {pos:Pos} {Q:Value→Shared→Prop} (I:Inv X p_ σ H s) (hg:Gl X x) (hm:X.mg x=none) (hv:bootBuiltins x=some u) (h:Q u s)
    (hn:x≠ "__name__" :=by decide) (hd:(x == ("__debug__" : Str))=false:=by decide):wpAny (model X.prog X.w) X.A (eval (.Name x pos) X.env) Q E s:=by
  obtain⟨mb,h1,h2⟩:=I.mod.blt;exact Calls.Name_function_global I.ok.kind hg (Calls.loadGlobal_builtin (by rw[I.ok.glob];exact I.mod.glob.keeps I.bk) hm (by rw[I.ok.blt];exact h1.keeps I.bk) ((h2 x hn).trans hv) h) hd
theorem Bm {x:Str} {v:V} {u:Value} {pos:Pos} (hg:Gl X x) (hm:X.mg x=some u) (r:RelV v u) (hd:(x == ("__debug__" : Str))=false:=by decide):PE X (.Name x pos) (tC v):=
  fun _ _ _ H _ I h=>nH I hg hm ⟨v,H,I,r,h⟩ hd
theorem j_ {x:Str} {v:V} {u:Value} {pos:Pos} (hg:Gl X x) (hm:X.mg x=none) (hv:bootBuiltins x=some u) (r:RelV v u) (hn:x≠ "__name__" :=by decide) (hd:(x == ("__debug__" : Str))=false:=by decide):PE X (.Name x pos) (tC v):=
  fun _ _ _ H _ I h=>oM I hg hm hv ⟨v,H,I,r,h⟩ hn hd
variable {a b:Expr} {ta tb:TE} {pos:Pos}
def PC (X:Cx) (op:CmpOp) (a b:Expr) (t:TE):Prop:=
  ∀(p_:List (Addr×Obj)) (s:Shared) (σ:St) (H:Hp) (Q:VK),Inv X p_ σ H s→t σ H Q→
    wpAny (model X.prog X.w) X.A (eval a X.env) (fun v s₁=>wpAny (model X.prog X.w) X.A (eval b X.env) (fun u s₂=>wpAny (model X.prog X.w) X.A (compareOp op v u) (EP X p_ σ Q) X.xe s₂) X.xe s₁) X.xe s
theorem Lb (b:Expr) {op:CmpOp} (h:op≠.In) (h2:op≠.NotIn):behindInMarks op b=false:=by
  have e1:(op == CmpOp.In)=false:=by cases op <;> first | rfl | exact absurd rfl h
  have e2:(op == CmpOp.NotIn)=false:=by cases op <;> first | rfl | exact absurd rfl h2
  cases b <;> simp[behindInMarks,e1,e2]
def tB (t:TE):TT:=fun σ H Q=>t σ H fun x H1=>∃c,x = .bl c∧Q c H1
theorem qcq {op:CmpOp} {t:TE} (h:PC X op a b t) (h1:behindInMarks op b=false:=by first | exact Lb _ (by decide) (by decide) | rfl):PT X (.Compare a [op] [b] pos) (tB t):=by
  intro p_ s σ H Q I hw;refine wpAny_isTrue_Compare1 (dD (h p_ s σ H _ I hw) fun v s1 h1=>dD h1 fun u s2 h2=>dD h2 fun c s3 zz=>?_) h1;obtain⟨x,H1,I1,r1,q1⟩:=zz;obtain⟨d,rfl,q⟩:=q1;cases r1;exact wpAny_truthy_bool ⟨H1,I1,q⟩
theorem qcr {e:Expr} {t:TE} (h:PE X e t) (he:∀whole,isTrue e X.env whole=(do let v ← whole;standAt e.pos;holding [v] (truthy v)):=by intro _;rfl):PT X e (tB t):=by
  intro p_ s σ H Q I hw;refine isTrue_plain (dD (h p_ s σ H _ I hw) fun v s1 zz=>?_) (he _);obtain⟨x,H1,I1,r1,q1⟩:=zz;obtain⟨d,rfl,q⟩:=q1;cases r1;exact wpAny_truthy_bool ⟨H1,I1,q⟩
variable {tA tB':TT} {rest:List Expr}
def qfc (t u:TT):TT:=fun σ H Q=>t σ H fun c H1=>if c=true then u σ H1 Q else Q false H1
def tOr (t u:TT):TT:=fun σ H Q=>t σ H fun c H1=>if c=true then Q true H1 else u σ H1 Q
def qfd (t:TT):TT:=fun σ H Q=>t σ H fun c H1=>Q (!c) H1
theorem uI (ha:PT X a tA):PW X (.BoolOp .And [a] pos) tA:=by
  intro wh p_ s σ H Q I h;refine isTrue_and (dD (ha p_ s σ H Q I h) fun c s1 e=>?_);cases c with
  | true=>exact isTrue_and_nil e
  | false=>exact e
theorem jG (ha:PT X a tA):PW X (.BoolOp .Or [a] pos) tA:=by
  intro wh p_ s σ H Q I h;refine isTrue_or (dD (ha p_ s σ H Q I h) fun c s1 e=>?_);cases c with
  | false=>exact isTrue_or_nil e
  | true=>exact e
theorem tK (ha:PT X a tA) (hb:PW X (.BoolOp .And (b::rest) pos) tB'):PW X (.BoolOp .And (a::b::rest) pos) (qfc tA tB'):=by
  intro wh p_ s σ H Q I h;refine isTrue_and (dD (ha p_ s σ H _ I h) fun c s1 zz=>?_);obtain⟨H1,I1,q1⟩:=zz;cases c with
  | true=>exact hb wh p_ s1 σ H1 Q I1 q1
  | false=>exact⟨H1,I1,q1⟩
theorem lK (ha:PT X a tA) (hb:PW X (.BoolOp .Or (b::rest) pos) tB'):PW X (.BoolOp .Or (a::b::rest) pos) (tOr tA tB'):=by
  intro wh p_ s σ H Q I h;refine isTrue_or (dD (ha p_ s σ H _ I h) fun c s1 zz=>?_);obtain⟨H1,I1,q1⟩:=zz;cases c with
  | true=>exact⟨H1,I1,q1⟩
  | false=>exact hb wh p_ s1 σ H1 Q I1 q1
theorem eV (ha:PT X a tA):PT X (.UnaryOp .Not a pos) (qfd tA):=by
  intro p_ s σ H Q I h;exact isTrue_not (ha p_ s σ H (fun c H1=>Q (!c) H1) I h)
def Wd (ta tb:TE):TE:=fun σ H Q=>ta σ H fun x H1=>∃c,x = .bl c∧if c=true then tb σ H1 Q else Q (.bl false) H1
def Wf (ta:TE):TE:=fun σ H Q=>ta σ H fun x H1=>∃c,x = .bl c∧Q (.bl (!c)) H1
theorem lN {op} {t:TE} (h:PE X a t):PE X (.BoolOp op [a] pos) t:=fun p_ s σ H Q I hw=>BoolOp_one (h p_ s σ H Q I hw)
theorem qcs (ha:PE X a ta) (hb:PE X (.BoolOp .And (b::rest) pos) tb):PE X (.BoolOp .And (a::b::rest) pos) (Wd ta tb):=by
  intro p_ s σ H Q I h;refine BoolOp_and (dD (ha p_ s σ H _ I h) fun v s1 zz=>?_);obtain⟨x,H1,I1,r1,q1⟩:=zz;obtain⟨c,rfl,q1⟩:=q1;cases r1;refine wpAny_truthy_bool ?_;cases c with
  | true=>exact hb p_ s1 σ H1 Q I1 q1
  | false=>exact⟨.bl false,H1,I1,rfl,q1⟩
theorem qct (ha:PE X a ta):PE X (.UnaryOp .Not a pos) (Wf ta):=by
  intro p_ s σ H Q I h;refine UnaryOp_ (dD (ha p_ s σ H _ I h) fun v s1 zz=>?_);obtain⟨x,H1,I1,r1,q1⟩:=zz;obtain⟨c,rfl,q1⟩:=q1;cases r1;exact not_of (wpAny_truthy_bool ⟨.bl (!c),H1,I1,rfl,q1⟩)
def tIf (t:TT) (ta tb:TE):TE:=fun σ H Q=>t σ H fun c H1=>if c=true then ta σ H1 Q else tb σ H1 Q
theorem xg {c:Expr} (hc:PT X c tA) (ha:PE X a ta) (hb:PE X b tb):PE X (.IfExp c a b pos) (tIf tA ta tb):=by
  intro p_ s σ H Q I h;refine wpAny_IfExp (dD (hc p_ s σ H _ I h) fun d s1 zz=>?_);obtain⟨H1,I1,q1⟩:=zz;cases d with
  | true=>exact ha p_ s1 σ H1 Q I1 q1
  | false=>exact hb p_ s1 σ H1 Q I1 q1
end
def aY (K:W.Frag) (H:Hp) (a:Addr) (xs:List V):Prop:=
  Rd H a (.lst xs)∨
    ∃(o:Obj) (its:Array Value) (n:Nat),K.lookup a=some o∧o.cls = .type "list" ∧o.dict=none∧o.data = .seq its n∧its.size≤sizeLine∧Vals xs its.toList
def cM (K:W.Frag) (H:Hp) (a:Addr) (xs:List V):Prop:=
  Rd H a (.tup xs)∨
    ∃(o:Obj) (its:Array Value) (n:Nat),K.lookup a=some o∧o.cls = .type "tuple" ∧o.data = .seq its n∧its.size≤sizeLine∧Vals xs its.toList
def qli:Value→Option V
  | .none=>some .non
  | .bool b=>some (.bl b)
  | .int i _=>some (.int i)
  | .str x _=>some (.str x)
  | .bytes b _=>some (.V2 b)
  | .float b _=>some (.flt b)
  | .ref a=>some (.ref a)
  | .type n=>some (.ty n)
  | _=>none
theorem RelV.abs {x:V} {u:Value} (r:RelV x u):qli u=some x:=by
  cases x with
  | non=>cases r;rfl
  | bl _=>cases r;rfl
  | int _=>obtain⟨t,rfl⟩:=r;rfl
  | str _=>obtain⟨t,rfl⟩:=r;rfl
  | V2 _=>obtain⟨t,rfl⟩:=r;rfl
  | flt _=>obtain⟨t,rfl⟩:=r;rfl
  | ref _=>cases r;rfl
  | ty _=>cases r;rfl
theorem RelV.inj {x y:V} {u:Value} (r:RelV x u) (q:RelV y u):x=y:=Option.some.inj (r.abs.symm.trans q.abs)
theorem Vals.inj:∀{xs ys:List V} {us:List Value},Vals xs us→Vals ys us→xs=ys
  | _,_,_,.nil,.nil=>rfl
  | _,_,_,.cons r t,.cons r' t'=>by rw[r.inj r',Vals.inj t t']
section
variable {X:Cx} {p_:List (Addr×Obj)} {σ:St} {H:Hp} {s:Shared} {a:Addr} {xs ys:List V}
theorem aY.of {K:W.Frag} (h:H a=some (.lst xs)):aY K H a xs:=.inl (.inl h)
theorem cM.of {K:W.Frag} (h:H a=some (.tup xs)):cM K H a xs:=.inl (.inl h)
theorem Inv.list (I:Inv X p_ σ H s) (h:aY X.K H a xs):∃its:List Value,Vals xs its∧PlainL s.heap a its.toArray∧xs.length≤sizeLine:=by
  rcases h with h | ⟨o,its,n,hk,hc,hd,hs,hz,r⟩
  ·obtain⟨z,its,n,r,e⟩:=h.ok I.hok;exact⟨its,r,⟨_,n,e,rfl,rfl,rfl⟩,z⟩
  ·refine⟨its.toList,r,⟨o,n,I.pZ a o hk,hc,hd,by simpa using hs⟩,?_⟩;have e:=r.length;simp only[Array.length_toList] at e;omega
theorem Inv.tuple (I:Inv X p_ σ H s) (h:cM X.K H a xs):∃its:List Value,Vals xs its∧IsTup s.heap a its.toArray∧xs.length≤sizeLine:=by
  rcases h with h | ⟨o,its,n,hk,hc,hs,hz,r⟩
  ·obtain⟨z,its,r,p⟩:=h.ok I.hok;exact⟨its,r,p,z⟩
  ·refine⟨its.toList,r,⟨o,I.pZ a o hk,hc,n,by simpa using hs⟩,?_⟩;have e:=r.length;simp only[Array.length_toList] at e;omega
theorem Inv.xq (I:Inv X p_ σ H s) (h:aY X.K H a xs) (h':aY X.K H a ys):xs=ys:=by
  obtain⟨its,r,⟨o,n,e,_,_,d⟩,_⟩:=I.list h;obtain⟨its',r',⟨o',n',e',_,_,d'⟩,_⟩:=I.list h';rw[e] at e';cases e';rw[d] at d';injection d' with d1 _;have:its=its':=by simpa using congrArg Array.toList d1
  subst this;exact r.inj r'
theorem Inv.SX (I:Inv X p_ σ H s) (h:cM X.K H a xs) (h':cM X.K H a ys):xs=ys:=by
  obtain⟨its,r,⟨o,e,_,n,d⟩,_⟩:=I.tuple h;obtain⟨its',r',⟨o',e',_,n',d'⟩,_⟩:=I.tuple h';rw[e] at e';cases e';rw[d] at d';injection d' with d1 _;have:its=its':=by simpa using congrArg Array.toList d1
  subst this;exact r.inj r'
end
abbrev Cx.wish (X:Cx) (E:Value→Shared→Prop):Cx:={X with xe:=E}
abbrev Cx.V4 (X:Cx):Cx:=X.wish fun _ _=>False
theorem Cx.Ok.wish {X:Cx} (ok:X.Ok) (E:Value→Shared→Prop):(X.wish E).Ok:=
  ⟨ok.mod,ok.kind,ok.glob,ok.blt,ok.above,ok.inj,ok.has,ok.cab,ok.hd,ok.frames,ok.stk,ok.exf,ok.bs,ok.V3,ok.K_,ok.La,ok.vD,ok.ZW⟩
theorem Cx.Ok.tM {X:Cx} {E:Value→Shared→Prop} (ok:(X.wish E).Ok):X.Ok:=
  ⟨ok.mod,ok.kind,ok.glob,ok.blt,ok.above,ok.inj,ok.has,ok.cab,ok.hd,ok.frames,ok.stk,ok.exf,ok.bs,ok.V3,ok.K_,ok.La,ok.vD,ok.ZW⟩
section
variable {X:Cx} {p_:List (Addr×Obj)} {σ:St} {H:Hp} {s:Shared} {E:Value→Shared→Prop}
theorem Inv.wish (I:Inv X p_ σ H s) (E:Value→Shared→Prop):Inv (X.wish E) p_ σ H s:=⟨I.ok.wish E,I.os,I.bare,I.base,I.loc,I.cell,I.free,I.jF,I.pin,I.hok,I.len⟩
theorem Inv.tM (I:Inv (X.wish E) p_ σ H s):Inv X p_ σ H s:=⟨I.ok.tM,I.os,I.bare,I.base,I.loc,I.cell,I.free,I.jF,I.pin,I.hok,I.len⟩
theorem SP.tM {D:Ends} {f:Flow} {s':Shared} (h:SP (X.wish E) p_ D f s'):SP X p_ D f s':=by
  cases f with
  | next=>obtain⟨σ',H',I,q⟩:=h;exact⟨σ',H',I.tM,q⟩
  | brk=>obtain⟨σ',H',I,q⟩:=h;exact⟨σ',H',I.tM,q⟩
  | cont=>obtain⟨σ',H',I,q⟩:=h;exact⟨σ',H',I.tM,q⟩
  | ret u=>obtain⟨v,σ',H',I,r,q⟩:=h;exact⟨v,σ',H',I.tM,r,q⟩
theorem G_.V4 {st:List Stmt} {t:TS} (h:G_ X.V4 st t):G_ X st t:=fun p_ s σ H D I hw=>
  wpAny_mono (h p_ s σ H D (I.wish _) hw) (fun _ _ q=>q.tM) fun _ _ z=>False.elim z
end
section
variable {X:Cx} {st:Stmt} {rest:List Stmt} {t u:TS} {e:Expr} {te:TE} {pos:Pos}
def qbA:TS:=fun D σ H=>D.nx σ H
def qfe (t u:TS):TS:=fun D σ H=>t {D with nx:=u D} σ H
theorem bQ:G_ X [] qbA:=fun _ _ σ H _ I h=>wpAny_execs_nil ⟨σ,H,I,h⟩
theorem aB (h1:PS X st t) (h2:G_ X rest u):G_ X (st::rest) (qfe t u):=by
  intro p_ s σ H D I h;refine wpAny_execs_cons (dD (h1 p_ s σ H {D with nx:=u D} I h) fun f s1 q=>?_);cases f with
  | next=>
    obtain⟨σ',H',I',q⟩:=q;exact h2 p_ s1 σ' H' D I' q
  | ret v=>exact q
  | brk=>exact q
  | cont=>exact q
theorem aF (h1:PS X st t):G_ X [st] t:=by
  intro p_ s σ H D I h;refine wpAny_execs_cons (dD (h1 p_ s σ H D I h) fun f s1 q=>?_);cases f with
  | next=>exact wpAny_execs_nil q
  | ret v=>exact q
  | brk=>exact q
  | cont=>exact q
theorem Inv.quiet {p_:List (Addr×Obj)} {σ:St} {H:Hp} {s:Shared} (I:Inv X p_ σ H s):interactive X.env=false:=by simp[interactive,I.ok.kind]
def qbB (te:TE):TS:=fun D σ H=>te σ H fun _ H1=>D.nx σ H1
theorem cB (he:PE X e te) (hs:swapsWith e none pos.line X.env=pure false:=by rfl):PS X (.Expr e pos) (qbB te):=by
  intro p_ s σ H D I h;refine wpAny_Expr_any (dD (he p_ s σ H _ I h) fun v s1 zz=>?_) I.quiet hs;obtain⟨x,H1,I1,r1,q1⟩:=zz;exact⟨σ,H1,I1,q1⟩
def qff (te:TE):TS:=fun D σ H=>te σ H D.rt
theorem bB (he:PE X e te):PS X (.Return (some e) pos) (qff te):=by
  intro p_ s σ H D I h;refine wpAny_Return_some (dD (he p_ s σ H _ I h) fun v s1 zz=>?_);obtain⟨x,H1,I1,r1,q1⟩:=zz;exact⟨x,σ,H1,I1,r1,q1⟩
def qfg (c:TT) (t u:TS):TS:=fun D σ H=>c σ H fun b H1=>if b=true then t D σ H1 else u D σ H1
theorem cU {c:Expr} {a b:List Stmt} {tc:TT} (hc:PT X c tc) (ha:G_ X a t) (hb:G_ X b u):PS X (.If c a b pos) (qfg tc t u):=by
  intro p_ s σ H D I h;refine wpAny_If (dD (hc p_ s σ H _ I h) fun d s1 zz=>?_);obtain⟨H1,I1,q1⟩:=zz;cases d with
  | true=>exact ha p_ s1 σ H1 D I1 q1
  | false=>exact hb p_ s1 σ H1 D I1 q1
def Wg:TS:=fun _ _ _=>False
theorem Ce:PS X st Wg:=fun _ _ _ _ _ _ h=>h.elim
end
abbrev TG:=V→St→Hp→(St→Hp→Prop)→Prop
abbrev Gs:=List V→St→Hp→(St→Hp→Prop)→Prop
def PG (X:Cx) (target:Expr) (t:TG):Prop:=
  ∀(p_:List (Addr×Obj)) (s:Shared) (σ:St) (H:Hp) (v:V) (u:Value) (Q:St→Hp→Prop),Inv X p_ σ H s→RelV v u→t v σ H Q→
    wpAny (model X.prog X.w) X.A (assign target X.env u) (fun _ s'=>∃σ' H',Inv X p_ σ' H' s'∧Q σ' H') X.xe s
def eX (X:Cx) (ts:List Expr) (t:Gs):Prop:=
  ∀(p_:List (Addr×Obj)) (s:Shared) (σ:St) (H:Hp) (vs:List V) (us:List Value) (Q:St→Hp→Prop),Inv X p_ σ H s→Vals vs us→t vs σ H Q→
    wpAny (model X.prog X.w) X.A (assignInOrder ((assignEach ts X.env).map (·.2)) us) (fun _ s'=>∃σ' H',Inv X p_ σ' H' s'∧Q σ' H') X.xe s
abbrev S_:=V→V→V→Hp→(Hp→Prop)→Prop
def Tc (X:Cx) (t:S_):Prop:=
  ∀(p_:List (Addr×Obj)) (s:Shared) (σ:St) (H:Hp) (o i v:V) (ov iv u:Value) (Q:Hp→Prop),Inv X p_ σ H s→RelV o ov→RelV i iv→RelV v u→t o i v H Q→
    wpAny (model X.prog X.w) X.A (setItem ov iv u) (fun _ s'=>∃H',Inv X p_ σ H' s'∧Q H') X.xe s
abbrev TIp:=V→V→Hp→VK→Prop
def PIp (X:Cx) (op:Operator) (t:TIp):Prop:=
  ∀(p_:List (Addr×Obj)) (s:Shared) (σ:St) (H:Hp) (x y:V) (v u:Value) (Q:VK),Inv X p_ σ H s→RelV x v→RelV y u→t x y H Q→
    wpAny (model X.prog X.w) X.A (inplaceOp op v u) (EP X p_ σ Q) X.xe s
section
variable {X:Cx} {pos:Pos}
def Ra (i:Nat):TG:=fun v σ H Q=>Q (σ.set i (some v)) H
theorem aN {i:Nat} {x:Str} (hN:X.N.Nodup) (hi:X.N[i]? = some x) (hx:Loc X.env.scope x) (hf:X.fn x=true∨X.env.scope.names.lookup x=some .local:=by first | exact .inl rfl | exact .inr rfl | assumption):PG X (.Name x pos) (Ra i):=by
  intro p_ s σ H v u Q I r h;exact wpAny_assign_Name (Cd I hN hi hx r (fun s' I'=>⟨_,H,I',h⟩) hf)
def qcu:Gs:=fun vs σ H Q=>vs=[]∧Q σ H
def Wh (t:TG) (u:Gs):Gs:=fun vs σ H Q=>∃v r,vs=v::r∧t v σ H fun σ' H'=>u r σ' H' Q
theorem bZ:eX X [] qcu:=by
  intro p_ s σ H vs us Q I r h;obtain⟨e,h⟩:=h;subst e;cases r;exact assignInOrder_nil ⟨σ,H,I,h⟩
theorem aR {e:Expr} {es:List Expr} {t:TG} {u:Gs} (h1:PG X e t) (h2:eX X es u)
    (hs:(assignEach (e::es) X.env).map (·.2)=assign e X.env::(assignEach es X.env).map (·.2):=by rfl):eX X (e::es) (Wh t u):=by
  intro p_ s σ H vs us Q I r h;obtain⟨v,vr,e1,h⟩:=h;subst e1;cases r with
  | cons r rr=>
    rw[hs];refine assignInOrder_cons (dD (h1 p_ s σ H _ _ _ I r h) fun _ s1 zz=>?_);obtain⟨σ1,H1,I1,q1⟩:=zz;exact h2 p_ s1 σ1 H1 _ _ Q I1 rr q1
def qac (K:W.Frag) (n:Nat) (t:Gs):TG:=fun v σ H Q=>∃a xs,v = .ref a∧cM K H a xs∧xs.length=n∧t xs σ H Q
theorem qcv {es:List Expr} {k:Nat} {t:Gs} {n:Nat} (hc:X.calm=true) (h:eX X es t)
    (hn:(assignEach es X.env).length=n:=by rfl) (hst:(assignEach es X.env).findIdx? (·.1)=none:=by rfl):PG X (.Tuple es k pos) (qac X.K n t):=by
  intro p_ s σ H v u Q I r hw;obtain⟨a,xs,e1,hq,hl,hw⟩:=hw;subst e1;cases r;obtain⟨its,rv,ht,hz⟩:=I.tuple hq;refine assign_Tuple_tuple (I.ok.hd hc) ht (by simp[hn,← hl,rv.length]) hst fun h' hx=>?_;have I1:Inv X p_ σ H {s with heap:=h'}:=I.kept (t':=s.toks) fun b o e=>hx b o (Nat.ne_of_lt (Heap.lt_size e)) e;exact h p_ _ σ H xs _ Q I1 (by simpa using rv) hw
def qfh (to ti:TE) (t:S_):TG:=fun v σ H Q=>to σ H fun o H1=>ti σ H1 fun i H2=>t o i v H2 fun H3=>Q σ H3
theorem Wi {o i:Expr} {to ti:TE} {t:S_} (ho:PE X o to) (hi:PE X i ti) (hs:Tc X t)
    (ha:∀v,assign (.Subscript o i pos) X.env v=(do
      let ov ← holding [v] (eval o X.env)
      let iv ← holding [v,ov] (eval i X.env)
      standAt pos
      holding [v,ov,iv] (setItem ov iv v)
      release [v,ov,iv] []):=by intro _;rfl):PG X (.Subscript o i pos) (qfh to ti t):=by
  intro p_ s σ H v u Q I r h;rw[ha];refine wpAny_bind (wpAny_holding (dD (ho p_ s σ H _ I h) fun ov s1 zz=>?_));obtain⟨x,H1,I1,r1,q1⟩:=zz;refine wpAny_bind (wpAny_holding (dD (hi p_ s1 σ H1 _ I1 q1) fun iv s2 zz=>?_));obtain⟨y,H2,I2,r2,q2⟩:=zz;refine wpAny_bind (wpAny_standAt (wpAny_bind (wpAny_holding (dD (hs p_ s2 σ H2 x y v ov iv u _ I2 r1 r2 r q2) fun _ s3 zz=>?_))));obtain⟨H3,I3,q3⟩:=zz;exact wpAny_release ⟨σ,H3,I3,q3⟩
def qad (te:TE) (g:TG):TS:=fun D σ H=>te σ H fun x H1=>g x σ H1 D.nx
theorem kh {tg e:Expr} {te:TE} {g:TG} (he:PE X e te) (hg:PG X tg g) (hs:swapsWithSole [tg] e pos.line X.env=pure false:=by rfl) (hw:swappedStores [tg] e X.env=pure none:=by rfl)
    (h1:(assignEach [tg] X.env).map (·.2)=[assign tg X.env]:=by rfl):PS X (.Assign [tg] e pos) (qad te g):=by
  intro p_ s σ H D I h;refine wpAny_Assign_stores (dD (he p_ s σ H _ I h) fun v s1 zz=>?_) hs hw;obtain⟨x,H1,I1,r1,q1⟩:=zz;rw[h1];exact dD (hg p_ s1 σ H1 x v _ I1 r1 q1) fun _ s2 q=>q
theorem bw {i:Nat} {x:Str} {e:Expr} {te:TE} {pos':Pos} (hN:X.N.Nodup) (hi:X.N[i]? = some x) (hx:Loc X.env.scope x) (he:PE X e te) (hs:swapsWith e (some (.Name x pos')) pos.line X.env=pure false:=by rfl) (hf:X.fn x=true∨X.env.scope.names.lookup x=some .local:=by first | exact .inl rfl | exact .inr rfl | assumption) :
    PS X (.Assign [.Name x pos'] e pos) (qad te (Ra i)):=by
  intro p_ s σ H D I h;refine wpAny_Assign_Name (dD (he p_ s σ H _ I h) fun v s1 zz=>?_) hs;obtain⟨y,H1,I1,r1,q1⟩:=zz;exact Cd I1 hN hi hx r1 (fun s2 I2=>⟨_,H1,I2,q1⟩) hf
def qcw (i:Nat) (te:TE) (ti:TIp):TS:=fun D σ H=>∃x,σ[i]? = some (some x)∧te σ H fun y H1=>ti x y H1 fun z H2=>D.nx (σ.set i (some z)) H2
theorem qcx {i:Nat} {x:Str} {e:Expr} {te:TE} {op:Operator} {ti:TIp} {pos':Pos} (hN:X.N.Nodup) (hi:X.N[i]? = some x) (hx:Loc X.env.scope x) (he:PE X e te) (ho:PIp X op ti) (hf:X.fn x=true∨X.env.scope.names.lookup x=some .local:=by first | exact .inl rfl | exact .inr rfl | assumption) :
    PS X (.AugAssign (.Name x pos') op e pos) (qcw i te ti):=by
  intro p_ s σ H D I h;obtain⟨v,e1,h⟩:=h;obtain⟨m,hn,hl⟩:=I.loc;have vis:Vis X.env.scope x:=by rcases hx with k | k;exact .inl k;exact .inr (.inl k)
  obtain⟨u,r,l⟩:=hl i x v hi e1 vis;refine wpAny_AugAssign_Name ?_;have go:wpAny (model X.prog X.w) X.A (eval e X.env) (fun w s₂=>wpAny (model X.prog X.w) X.A (inplaceOp op u w) (fun r s₃=>wpAny (model X.prog X.w) X.A (storeName X.env x r) (fun _=>SP X p_ D .next) X.xe s₃) X.xe s₂) X.xe s:=by
    refine dD (he p_ s σ H _ I h) fun w s1 zz=>?_;obtain⟨y,H1,I1,r1,q1⟩:=zz;refine dD (ho p_ s1 σ H1 v y u w _ I1 r r1 q1) fun z s2 zz=>?_;obtain⟨zv,H2,I2,r2,q2⟩:=zz;exact Cd I2 hN hi hx r2 (fun s3 I3=>⟨_,H2,I3,q2⟩) hf
  rcases l with⟨hk,hm⟩ | ⟨hk,c,hc,hcell⟩
  ·exact wpAny_loadName_local I.ok.kind hk hn hm go
  · rcases hk with hk | hk
    ·exact wpAny_loadName_cell I.ok.kind hk hc hcell go
    · rcases hx with k | k
      ·have:X.env.scope.names.lookup x=some .free:=hk;rw[k] at this;cases this
      ·have:X.env.scope.names.lookup x=some .free:=hk;rw[k] at this;cases this
def ipI (f:Int→Int→Int):TIp:=fun x y H Q=>∃i j,x = .int i∧y = .int j∧Q (.int (f i j)) H
theorem qcy:PIp X .Add (ipI fun i j=>i+j):=by
  intro p_ s σ H x y v u Q I r1 r2 h;obtain⟨i,j,e1,e2,q⟩:=h;subst e1;subst e2;obtain⟨t,rfl⟩:=r1;obtain⟨t',rfl⟩:=r2;exact iadd_int ⟨.int _,H,I.tok _,⟨_,rfl⟩,q⟩
end
section
variable {X:Cx} {pos:Pos}
def Je (c:TT) (tb:TS):TS:=fun D σ H=>∃oZ:Nat→St→Hp→Prop,(∃m,oZ m σ H)∧∀m σ H,oZ m σ H→
  c σ H fun b H1=>if b=true then ∃N:St→Hp→Prop,(∀σ' H',N σ' H'→∃m',m'<m∧oZ m' σ' H')∧tb {D with nx:=N,ct:=N,bk:=D.nx} σ H1 else D.nx σ H1
theorem Ld {c:Expr} {body:List Stmt} {tc:TT} {tb:TS} (hp:PassesOwn (model X.prog X.w) X.A X.env X.xe) (hc:PT X c tc) (hb:G_ X body tb):PS X (.While c body [] pos) (Je tc tb):=by
  intro p_ s σ H D I h;obtain⟨oZ,⟨m0,w0⟩,turn⟩:=h;refine wpAny_While (codeAny_whileLoop (fun n s'=>∃σ' H',Inv X p_ σ' H' s'∧oZ n σ' H') ?_ m0 ⟨σ,H,I,w0⟩);rintro n s1 ⟨σ1,H1,I1,w1⟩;refine wpAny_passesOwn hp (dD (hc p_ s1 σ1 H1 _ I1 (turn n σ1 H1 w1)) fun b s2 zz=>?_);obtain⟨H2,I2,q2⟩:=zz;cases b with
  | true=>
    obtain⟨N,hN,q2⟩:=q2;rw[if_pos rfl];refine wpAny_passesOwn hp (dD (hb p_ s2 σ1 H2 _ I2 q2) fun f s3 q3=>?_);cases f with
    | next=>
      obtain⟨σ3,H3,I3,n3⟩:=q3;obtain⟨m',hm,w3⟩:=hN σ3 H3 n3;exact⟨m',hm,σ3,H3,I3,w3⟩
    | cont=>
      obtain⟨σ3,H3,I3,n3⟩:=q3;obtain⟨m',hm,w3⟩:=hN σ3 H3 n3;exact⟨m',hm,σ3,H3,I3,w3⟩
    | brk=>exact q3
    | ret v=>exact q3
  | false=>
    rw[if_neg Bool.false_ne_true];exact wpAny_execs_nil ⟨σ1,H2,I2,q2⟩
end
structure It where
  go:Nat→Hp→Prop
  ZX:Nat→Hp→V→Hp→Prop
  stop:Nat→Hp→Prop
def vG (X:Cx) (p_:List (Addr×Obj)) (H:Hp) (b:Addr):Prop:=
  H b=none∧b≠X.env.locals∧b∉X.fs∧(b∈X.ex∨X.s₀.heap.objs.size≤b)∧(∀x c,X.env.cells.lookup x=some c→c≠b)∧∀p∈X.pn++p_,p.1≠b
theorem Inv.Jf {X:Cx} {p_:List (Addr×Obj)} {σ:St} {H H':Hp} {s:Shared} {b:Addr} (I:Inv X p_ σ H s) (hb:s.heap.objs.size≤b) (hn:H' b=none):vG X p_ H' b:=by
  refine⟨hn,Nat.ne_of_gt (Nat.lt_of_lt_of_le I.lt hb),I.qlg hb,.inr (Nat.le_trans I.sz hb),fun x c e z=>?_,fun p hp z=>?_⟩
  ·obtain⟨v,q⟩:=I.cell x c e;exact absurd (Nat.lt_of_lt_of_le q.lt (by rw[z];exact hb)) (Nat.lt_irrefl _)
  ·exact absurd (Nat.lt_of_lt_of_le (Heap.lt_size (I.pin p hp).1) (by rw[z];exact hb)) (Nat.lt_irrefl _)
structure Turn (P:Program) (w:World) (K:W.Frag) (tg:Expr) (J:It) (fp:List Addr) (it:Addr) (tn:Nat→Heap→Prop):Prop where
  mem:it∈fp
  obj:∀i h,tn i h→∀b∈fp,∃o,h.get? b=some o∧∀v,o.data≠.cell v
  keep:∀i h h',tn i h→(∀b∈fp,∀o,h.get? b=some o→h'.get? b=some o)→tn i h'
  item:∀(X:Cx),X.prog=P→X.w=w→X.K=K→X.calm=true→∀(i:Nat) (p_:List (Addr×Obj)) (s:Shared) (σ:St) (H:Hp) (E:Value→Shared→Prop),Inv X p_ σ H s→(∀b∈fp,vG X p_ H b)→tn i s.heap→J.go i H→
    wpAny (model P w) X.A (pyNext (.ref it)) (fun r s1=>∃u,r=some u∧
      wpAny (model P w) X.A (letOwnedTupleGo tg (.ref it) u) (fun _ s2=>∃x H',Inv X p_ σ H' s2∧RelV x u∧J.ZX i H x H'∧tn (i+1) s2.heap∧∀b∈fp,H' b=none) E s1) E s
  done:∀(X:Cx),X.prog=P→X.w=w→X.K=K→X.calm=true→∀(i:Nat) (p_:List (Addr×Obj)) (s:Shared) (σ:St) (H:Hp) (E:Value→Shared→Prop),Inv X p_ σ H s→(∀b∈fp,vG X p_ H b)→tn i s.heap→J.stop i H→
    wpAny (model P w) X.A (pyNext (.ref it)) (fun r s1=>r=none∧Inv X p_ σ H s1) E s
  self:∀(A:Around) (i:Nat) (s:Shared) (Q:Value→Shared→Prop) (E:Value→Shared→Prop),tn i s.heap→Q (.ref it) s→wpAny (model P w) A (pyIter (.ref it)) Q E s
abbrev TI:=St→Hp→(It→Hp→Prop)→Prop
def PIE (X:Cx) (p_:List (Addr×Obj)) (σ:St) (tg:Expr) (R:It→Hp→Prop) (itv:Value) (s2:Shared):Prop:=
  ∃(it:Addr) (fp:List Addr) (tn:Nat→Heap→Prop) (J:It) (H':Hp),itv = .ref it∧Inv X p_ σ H' s2∧Turn X.prog X.w X.K tg J fp it tn∧tn 0 s2.heap∧(∀b∈fp,vG X p_ H' b)∧R J H'
def PI (X:Cx) (tg iter:Expr) (wi:TI):Prop:=
  ∀(p_:List (Addr×Obj)) (s:Shared) (σ:St) (H:Hp) (R:It→Hp→Prop),Inv X p_ σ H s→wi σ H R→
    wpAny (model X.prog X.w) X.A (eval iter X.env) (fun v s1=>wpAny (model X.prog X.w) X.A (pyIter v) (PIE X p_ σ tg R) X.xe s1) X.xe s
theorem Wj {M:Model} {A:Around} {E:Value→Shared→Prop} {s:Shared} {tg:Expr} {it:Addr} {u:Value} {o:Obj} {n:String} {vs:Array Value} {Q:Unit→Shared→Prop} (ho:s.heap.get? it=some o) (hc:o.cls = .type n) (hd:o.data = .fields vs)
    (hn : ["enumerate", "zip", "dict_itemiterator", "dict_reverseitemiterator", "odict_iterator", "itertools.zip_longest", "itertools.pairwise"].contains n=false) (hQ:Q () s):wpAny M A (letOwnedTupleGo tg (.ref it) u) Q E s:=by
  unfold letOwnedTupleGo;cases tg <;> first
    | exact wpAny_pure hQ
    | (cases u <;> first
        | exact wpAny_pure hQ
        | (refine wpAny_bind (wpAny_load ho ?_)
           rw[hc,hd];show wpAny M A (if (["enumerate", "zip", "dict_itemiterator", "dict_reverseitemiterator", "odict_iterator", "itertools.zip_longest", "itertools.pairwise"].contains n && vs[0]? == some (rawInt _))=true then _ else _) Q E s
           rw[if_neg (by intro h;rw[hn,Bool.false_and] at h;cases h)];exact wpAny_pure hQ))
def V5 (K:W.Frag) (a:Addr):It:=
  ⟨fun i H=>∃xs x,aY K H a xs∧xs[i]? = some x,fun i H x H'=>H'=H∧∀xs,aY K H a xs→xs[i]? = some x,fun i H=>∃xs,aY K H a xs∧xs.length≤i⟩
def Itt (K:W.Frag) (a:Addr):It:=
  ⟨fun i H=>∃xs x,cM K H a xs∧xs[i]? = some x,fun i H x H'=>H'=H∧∀xs,cM K H a xs→xs[i]? = some x,fun i H=>∃xs,cM K H a xs∧xs.length≤i⟩
def Ou (lo:Int) (n:Nat):It:=⟨fun i _=>i<n,fun i H x H'=>H'=H∧x = .int (lo+i),fun i _=>n≤i⟩
theorem Hi {P:Program} {w:World} {K:W.Frag} {tg:Expr} (a it:Addr):Turn P w K tg (V5 K a) [it] it (fun i h=>h.IsListIter it a i) where
  mem:=by simp
  obj:=fun i h st b hb=>by
    have e:b=it:=by simpa using hb
    subst e;obtain⟨o,e,c,d⟩:=st;exact⟨o,e,fun v z=>by rw[d] at z;cases z⟩
  keep:=fun i h h' st k=>st.at fun o e=>k it (by simp) o e
  item:=by
    intro X hP hw hK hc i p_ s σ H E I hf st hg;subst hP hw hK;obtain⟨xs,x,hq,hx⟩:=hg;obtain⟨its,rv,p,hz⟩:=I.list hq;obtain⟨u,hu,ru⟩:=rv.get hx;obtain⟨f0,f1,f2,f3,f4,f5⟩:=hf it (by simp);refine wpAny_pyNext_list_item st p.isList (x:=u) (by simpa using hu) fun h' st' sb=>?_;have I1:Inv X p_ σ H {s with heap:=h'}:=I.turned (t':=s.toks) (fun b o hb e=>(sb.2 b hb).trans e) f0 f1 f3 f4 f5;obtain⟨o,e,c,d⟩:=id st';exact⟨u,rfl,Wj (s:={s with heap:=h'}) e c d (by decide) ⟨x,H,I1,ru,⟨rfl,fun ys hy=>by rw[I.xq hy hq];exact hx⟩,st',fun b hb=>(hf b hb).1⟩⟩
  done:=by
    intro X hP hw hK hc i p_ s σ H E I hf st hg;subst hP hw hK;obtain⟨xs,hq,hx⟩:=hg;obtain⟨its,rv,p,hz⟩:=I.list hq;obtain⟨f0,f1,f2,f3,f4,f5⟩:=hf it (by simp);have hl:=rv.length;exact wpAny_pyNext_list_end (I.ok.hd hc) st p.isList (by simp;omega) fun h' eb=>⟨rfl,I.turned (t':=s.toks) (fun b o hb e=>eb b o hb e) f0 f1 f3 f4 f5⟩
  self:=fun _ _ _ _ _ st h=>wpAny_pyIter_listiter st h
theorem OD {P:Program} {w:World} {K:W.Frag} {tg:Expr} (a it:Addr):Turn P w K tg (Itt K a) [it] it (fun i h=>h.IsTupleIter it a i) where
  mem:=by simp
  obj:=fun i h st b hb=>by
    have e:b=it:=by simpa using hb
    subst e;obtain⟨o,e,c,d⟩:=st;exact⟨o,e,fun v z=>by rw[d] at z;cases z⟩
  keep:=fun i h h' st k=>st.at fun o e=>k it (by simp) o e
  item:=by
    intro X hP hw hK hc i p_ s σ H E I hf st hg;subst hP hw hK;obtain⟨xs,x,hq,hx⟩:=hg;obtain⟨its,rv,p,hz⟩:=I.tuple hq;obtain⟨u,hu,ru⟩:=rv.get hx;obtain⟨f0,f1,f2,f3,f4,f5⟩:=hf it (by simp);refine wpAny_pyNext_tuple_item st (show s.heap.IsTuple a its.toArray from p) (x:=u) (by simpa using hu) fun h' st' sb=>?_;have I1:Inv X p_ σ H {s with heap:=h'}:=I.turned (t':=s.toks) (fun b o hb e=>(sb.2 b hb).trans e) f0 f1 f3 f4 f5;obtain⟨o,e,c,d⟩:=id st';exact⟨u,rfl,Wj (s:={s with heap:=h'}) e c d (by decide) ⟨x,H,I1,ru,⟨rfl,fun ys hy=>by rw[I.SX hy hq];exact hx⟩,st',fun b hb=>(hf b hb).1⟩⟩
  done:=by
    intro X hP hw hK hc i p_ s σ H E I hf st hg;subst hP hw hK;obtain⟨xs,hq,hx⟩:=hg;obtain⟨its,rv,p,hz⟩:=I.tuple hq;obtain⟨f0,f1,f2,f3,f4,f5⟩:=hf it (by simp);have hl:=rv.length;exact wpAny_pyNext_tuple_end (I.ok.hd hc) st (show s.heap.IsTuple a its.toArray from p) (by simp;omega) fun h' eb=>⟨rfl,I.turned (t':=s.toks) (fun b o hb e=>eb b o hb e) f0 f1 f3 f4 f5⟩
  self:=fun _ _ _ _ _ st h=>wpAny_pyIter_tupleiter st h
theorem OJ {P:Program} {w:World} {K:W.Frag} {tg:Expr} (it:Addr) (lo:Int) (n:Nat):Turn P w K tg (Ou lo n) [it] it (fun i h=>IsRangeIter h it (lo+(i:Nat) * 1) ((n:Int) - (i:Nat)) 1) where
  mem:=by simp
  obj:=fun i h st b hb=>by
    have e:b=it:=by simpa using hb
    subst e;exact⟨_,st,fun v z=>by
      have z':Data.fields _=Data.cell v:=z;cases z'⟩
  keep:=fun i h h' st k=>k it (by simp) _ st
  item:=by
    intro X hP hw hK hc i p_ s σ H E I hf st hg;subst hP hw hK;obtain⟨f0,f1,f2,f3,f4,f5⟩:=hf it (by simp);have oZ:=Walks.range (prog:=X.prog) (w:=X.w) (I.ok.hd hc) it lo 1 n;refine oZ.item i s _ _ hg st fun v h' tk hv st' kk=>?_;obtain⟨t,rfl⟩:=hv;have I1:Inv X p_ σ H {s with heap:=h',toks:=tk}:=I.turned (fun b o hb e=>kk b o (by simpa using hb) e) f0 f1 f3 f4 f5;refine⟨_,rfl,Wj (s:={s with heap:=h',toks:=tk}) (n:= "range_iterator") st' rfl rfl (by decide) ⟨.int (lo+i),H,I1,⟨t,?_⟩,⟨rfl,rfl⟩,st',fun b hb=>(hf b hb).1⟩⟩;rw[Int.mul_one]
  done:=by
    intro X hP hw hK hc i p_ s σ H E I hf st hg;subst hP hw hK;obtain⟨f0,f1,f2,f3,f4,f5⟩:=hf it (by simp);exact wpAny_pyNext_range_end (I.ok.hd hc) st (by have:n≤i:=hg;omega) fun h' eb=>⟨rfl,I.turned (t':=s.toks) (fun b o hb e=>eb b o hb e) f0 f1 f3 f4 f5⟩
  self:=fun _ _ _ _ _ st h=>wpAny_pyIter_rangeiter st h
section
variable {X:Cx} {tg:Expr}
def Rb (K:W.Frag) (tl:TE):TI:=fun σ H R=>tl σ H fun x H1=>∃a,x = .ref a∧(∃xs,aY K H1 a xs)∧R (V5 K a) H1
theorem qae {l:Expr} {tl:TE} (hl:PE X l tl):PI X tg l (Rb X.K tl):=by
  intro p_ s σ H R I h;refine dD (hl p_ s σ H _ I h) fun v s1 zz=>?_;obtain⟨x,H1,I1,r1,q1⟩:=zz;obtain⟨a,e,⟨xs,hq⟩,q⟩:=q1;subst e;cases r1;obtain⟨its,rv,p,hz⟩:=I1.list hq;refine wpAny_pyIter_list p.isList ?_;refine⟨s1.heap.objs.size,[s1.heap.objs.size],_,_,H1,rfl,I1.kept (t':=s1.toks) fun b o e=>Heap.get?_push_of_some _ e,Hi a _,⟨_,Heap.get?_push_size _ rfl,rfl,rfl⟩,fun b hb=>?_,q⟩;have e:b=s1.heap.objs.size:=by simpa using hb
  subst e;exact I1.Jf (Nat.le_refl _) (I1.hok.fresh (Nat.le_refl _))
theorem Le {p_:List (Addr×Obj)} {σ:St} {H:Hp} {s:Shared} {R:It→Hp→Prop} {E:Value→Shared→Prop} {lo hi:Int} {t u v:Tok} {tk:Nat} (I:Inv X p_ σ H s) (h1 : -(2 ^ 62)≤lo) (h2:lo<2 ^ 62) (h3 : -(2 ^ 62)≤hi) (h4:hi<2 ^ 62)
    (q:R (Ou lo (hi - lo).toNat) H):wpAny (model X.prog X.w) X.A (pyIter (.ref s.heap.objs.size)) (PIE X p_ σ tg R) E {s with heap:=s.heap.push {cls:=.type "range",data:=.fields #[.int lo t,.int hi u,.int 1 v]},toks:=tk}:=by
  refine wpAny_pyIter_range (IsRange.new ..) (small_one h1 h2 h3 h4) ?_;have I1:Inv X p_ σ H {s with heap:=s.heap.push {cls:=.type "range",data:=.fields #[.int lo t,.int hi u,.int 1 v]},toks:=tk}:=I.kept fun b o e=>Heap.get?_push_of_some _ e;refine⟨(s.heap.push {cls:=.type "range",data:=.fields #[.int lo t,.int hi u,.int 1 v]}).objs.size,[(s.heap.push {cls:=.type "range",data:=.fields #[.int lo t,.int hi u,.int 1 v]}).objs.size],_,_,H,rfl,
    I1.kept (t':=tk) fun b o e=>Heap.get?_push_of_some _ e,OJ _ lo (hi - lo).toNat,?_,fun b hb=>?_,q⟩
  · have e1:lo+((0:Nat):Int) * 1=lo:=by simp
    have e2:(((hi - lo).toNat:Nat):Int) - ((0:Nat):Int)=Builtin.Range.rangeSize lo hi 1:=by rw[rangeSize_one];split <;> omega
    show IsRangeIter _ _ (lo+((0:Nat):Int) * 1) ((((hi - lo).toNat:Nat):Int) - ((0:Nat):Int)) 1;rw[e1,e2];exact Heap.get?_push_size _ rfl
  · have e:b=(s.heap.push {cls:=.type "range",data:=.fields #[.int lo t,.int hi u,.int 1 v]}).objs.size:=by simpa using hb
    subst e;exact I1.Jf (Nat.le_refl _) (I1.hok.fresh (Nat.le_refl _))
def Wk (ta:TA):TI:=fun σ H R=>ta σ H fun vs H1=>∃j:Int,vs=[.int j]∧-(2 ^ 62)≤j∧j<2 ^ 62∧R (Ou 0 j.toNat) H1
def Wm (ta:TA):TI:=fun σ H R=>ta σ H fun vs H1=>∃i j:Int,vs=[.int i,.int j]∧(-(2 ^ 62)≤i∧i<2 ^ 62∧-(2 ^ 62)≤j∧j<2 ^ 62)∧R (Ou i (j - i).toNat) H1
theorem lO {a:Expr} {ta:TA} {p pos:Pos} (hg:Gl X "range") (hm:X.mg "range" = none) (ha:PA X [a] ta) (hs:starEach [a] X.env=[(false,eval a X.env)]:=by rfl):PI X tg (.Call (.Name "range" p) [a] [] pos) (Wk ta):=by
  intro p_ s σ H R I h;refine Call_ (oM I hg hm boot_range (PyProof.Rows.callWith_type1 (dD (ha pos p_ s σ H _ I h) fun us s1 zz=>?_) hs rfl));obtain⟨vs,H1,I1,r1,q1⟩:=zz;obtain⟨j,e,q1,q2,q⟩:=q1;subst e;cases r1 with
  | cons r rr=>
    cases rr;obtain⟨t,rfl⟩:=r;exact call_range_1 (Le I1 (by omega) (by omega) q1 q2 (by simpa using q))
theorem Td {a b:Expr} {ta:TA} {p pos:Pos} (hg:Gl X "range") (hm:X.mg "range" = none) (ha:PA X [a,b] ta) (hs:starEach [a,b] X.env=[(false,eval a X.env),(false,eval b X.env)]:=by rfl) (hs2:starEach [b] X.env=[(false,eval b X.env)]:=by rfl) :
    PI X tg (.Call (.Name "range" p) [a,b] [] pos) (Wm ta):=by
  intro p_ s σ H R I h;refine Call_ (oM I hg hm boot_range (PyProof.Rows.callWith_type1 (dD (ha pos p_ s σ H _ I h) fun us s1 zz=>?_) (by rw[hs,hs2]) (by rw[hs2];rfl)));obtain⟨vs,H1,I1,r1,q1⟩:=zz;obtain⟨i,j,e,⟨q1,q2,q3,q4⟩,q⟩:=q1;subst e;cases r1 with
  | cons r rr=>
    cases rr with
    | cons r' rr=>
      cases rr;obtain⟨t,rfl⟩:=r;obtain⟨t',rfl⟩:=r';exact call_range_2 (Le I1 q1 q2 q3 q4 q)
def qfi (wi:TI) (g:TG) (tb:TS):TS:=fun D σ H=>wi σ H fun J H1=>∃oZ:Nat→Nat→St→Hp→Prop,(∃m,oZ 0 m σ H1)∧∀i m σ H,oZ i m σ H→
  (J.stop i H∧D.nx σ H)∨(J.go i H∧∃N:St→Hp→Prop,(∀σ' H',N σ' H'→∃m',m'<m∧oZ (i+1) m' σ' H')∧∀x H',J.ZX i H x H'→g x σ H' fun σ2 H2=>tb {D with nx:=N,ct:=N,bk:=D.nx} σ2 H2)
def Cg (fp:List Addr) (h:Heap):List (Addr×Obj):=fp.filterMap fun b=>(h.get? b).map fun o=>(b,o)
theorem qZ {fp:List Addr} {h:Heap} {b:Addr} {o:Obj} (hb:b∈fp) (e:h.get? b=some o):(b,o)∈Cg fp h:=List.mem_filterMap.mpr ⟨b,hb,by rw[e];rfl⟩
theorem Tf {fp:List Addr} {h:Heap} {p:Addr×Obj} (hp:p∈Cg fp h):p.1∈fp∧h.get? p.1=some p.2:=by
  obtain⟨b,hb,e⟩:=List.mem_filterMap.mp hp;cases q:h.get? b with
  | none=>rw[q] at e;cases e
  | some o=>
    rw[q] at e;have e':(b,o)=p:=Option.some.inj e;subst e';exact⟨hb,q⟩
theorem Inv.pinned {p_:List (Addr×Obj)} {σ:St} {H:Hp} {s:Shared} {fp:List Addr} (I:Inv X p_ σ H s) (hf:∀b∈fp,vG X p_ H b) (ho:∀b∈fp,∃o,s.heap.get? b=some o∧∀v,o.data≠.cell v):Inv X (p_++Cg fp s.heap) σ H s:=
  I.Q_ fun p hp=>(List.mem_append.mp hp).elim (fun z=>I.pin p (List.mem_append_right _ z)) fun z=>by
    obtain⟨hb,e⟩:=Tf z;obtain⟨f0,f1,f2,_⟩:=hf p.1 hb;obtain⟨o,e',d⟩:=ho p.1 hb;rw[e] at e';cases e';exact⟨e,f0,f1,f2,d⟩
theorem Inv.xr {p_ pl:List (Addr×Obj)} {σ:St} {H:Hp} {s:Shared} (I:Inv X (p_++pl) σ H s):Inv X p_ σ H s:=I.Q_ fun p hp=>I.pin p (List.mem_append_right _ (List.mem_append_left _ hp))
theorem jf {iter:Expr} {body:List Stmt} {wi:TI} {g:TG} {tb:TS} {pos:Pos} (hp:PassesOwn (model X.prog X.w) X.A X.env X.xe) (hc:X.calm=true) (hi:PI X tg iter wi) (hg:PG X tg g) (hb:G_ X body tb)
    (hs:∀x,foldedSetIterable iter X.env x=pure x:=by intro _;rfl):PS X (.For tg iter body [] pos) (qfi wi g tb):=by
  intro p_ s σ H D I h;refine wpAny_For (dD (hi p_ s σ H _ I h) fun v s1 h1=>dD h1 fun itv s2 h2=>?_) hs;obtain⟨it,fp,tn,J,H2,e,I2,T,st2,f2,oZ,⟨m0,w0⟩,turn⟩:=h2;subst e;have stat:∀{H':Hp},(∀b∈fp,H' b=none)→∀b∈fp,vG X p_ H' b:=fun hn b hb=>⟨hn b hb,(f2 b hb).2⟩;refine codeAny_forLoop_any (fun n s'=>∃i σ' H',Inv X p_ σ' H' s'∧tn i s'.heap∧(∀b∈fp,H' b=none)∧oZ i n σ' H') ?_ m0 ⟨0,σ,H2,I2,st2,fun b hb=>(f2 b hb).1,w0⟩;rintro n s3 ⟨i,σ3,H3,I3,st3,fr3,w3⟩
  rcases turn i n σ3 H3 w3 with⟨stop,qn⟩ | ⟨go,N,hN,step⟩
  ·refine wpAny_passesOwn hp (dD (T.done X rfl rfl rfl hc i p_ s3 σ3 H3 X.xe I3 (stat fr3) st3 stop) fun r s4 zz=>?_);obtain⟨hr,I4⟩:=zz;subst hr;exact wpAny_execs_nil ⟨σ3,H3,I4,qn⟩
  · refine wpAny_passesOwn hp (dD (T.item X rfl rfl rfl hc i p_ s3 σ3 H3 X.xe I3 (stat fr3) st3 go) fun r s4 zz=>?_);obtain⟨u,hr,h4⟩:=zz;subst hr;refine wpAny_passesOwn hp (dD h4 fun _ s5 zz=>?_);obtain⟨x,H5,I5,r5,y5,st5,fr5⟩:=zz;have I5':=I5.pinned (stat fr5) (T.obj _ _ st5);refine wpAny_passesOwn hp (dD (hg _ s5 σ3 H5 x u _ I5' r5 (step x H5 y5)) fun _ s6 zz=>?_);obtain⟨σ6,H6,I6,q6⟩:=zz;refine wpAny_passesOwn hp (dD (hb _ s6 σ6 H6 _ I6 q6) fun f s7 q7=>?_);have again:∀{σ7:St} {H7:Hp},Inv X (p_++Cg fp s5.heap) σ7 H7 s7→N σ7 H7→∃m,m<n∧∃i σ' H',Inv X p_ σ' H' s7∧tn i s7.heap∧(∀b∈fp,H' b=none)∧oZ i m σ' H':=fun {σ7 H7} I7 n7=>by
      obtain⟨m',hm,w7⟩:=hN σ7 H7 n7;refine⟨m',hm,i+1,σ7,H7,I7.xr,T.keep _ _ _ st5 fun b hb o e=>(I7.pin (b,o) (List.mem_append_right _ (List.mem_append_right _ (qZ hb e)))).1,fun b hb=>?_,w7⟩;obtain⟨o,e,d⟩:=T.obj _ _ st5 b hb;exact(I7.pin (b,o) (List.mem_append_right _ (List.mem_append_right _ (qZ hb e)))).2.1
    cases f with
    | next=>obtain⟨σ7,H7,I7,n7⟩:=q7;exact again I7 n7
    | cont=>obtain⟨σ7,H7,I7,n7⟩:=q7;exact again I7 n7
    | brk=>obtain⟨σ7,H7,I7,q7⟩:=q7;exact⟨σ7,H7,I7.xr,q7⟩
    | ret v=>obtain⟨x7,σ7,H7,I7,r7,q7⟩:=q7;exact⟨x7,σ7,H7,I7.xr,r7,q7⟩
end
theorem Lg {K:W.Frag} {a:Addr} {xs:List V} {g:TG} {tb:TS} {D:Ends} {σ:St} {H:Hp} (Pv:Nat→St→Hp→Prop) (h0:Pv 0 σ H) (hl:∀i σ H,i≤xs.length→Pv i σ H→aY K H a xs)
    (hs:∀i x σ H,xs[i]? = some x→Pv i σ H→g x σ H fun σ2 H2=>tb {D with nx:=Pv (i+1),ct:=Pv (i+1),bk:=D.nx} σ2 H2) (hd:∀σ H,Pv xs.length σ H→D.nx σ H) :
    ∃oZ:Nat→Nat→St→Hp→Prop,(∃m,oZ 0 m σ H)∧∀i m σ H,oZ i m σ H→
      ((V5 K a).stop i H∧D.nx σ H)∨((V5 K a).go i H∧∃N:St→Hp→Prop,(∀σ' H',N σ' H'→∃m',m'<m∧oZ (i+1) m' σ' H')∧∀x H',(V5 K a).ZX i H x H'→g x σ H' fun σ2 H2=>tb {D with nx:=N,ct:=N,bk:=D.nx} σ2 H2):=by
  refine⟨fun i m σ H=>m=xs.length - i∧i≤xs.length∧Pv i σ H,⟨xs.length,by simp,Nat.zero_le _,h0⟩,?_⟩;rintro i m σ H ⟨rfl,hi,p⟩;have q:=hl i σ H hi p
  by_cases hlt:i<xs.length
  ·refine .inr ⟨⟨xs,xs[i],q,by simp[hlt]⟩,Pv (i+1),fun σ' H' p'=>⟨xs.length - (i+1),by omega,rfl,hlt,p'⟩,fun x H' y=>?_⟩;obtain⟨e,y⟩:=y;subst e;exact hs i x σ _ (y xs q) p
  · have e:i=xs.length:=by omega
    subst e;exact .inl ⟨⟨xs,q,Nat.le_refl _⟩,hd σ H p⟩
theorem qaf {K:W.Frag} {a:Addr} {xs:List V} {g:TG} {tb:TS} {D:Ends} {σ:St} {H:Hp} (Pv:Nat→St→Hp→Prop) (h0:Pv 0 σ H) (hl:∀i σ H,i≤xs.length→Pv i σ H→cM K H a xs)
    (hs:∀i x σ H,xs[i]? = some x→Pv i σ H→g x σ H fun σ2 H2=>tb {D with nx:=Pv (i+1),ct:=Pv (i+1),bk:=D.nx} σ2 H2) (hd:∀σ H,Pv xs.length σ H→D.nx σ H) :
    ∃oZ:Nat→Nat→St→Hp→Prop,(∃m,oZ 0 m σ H)∧∀i m σ H,oZ i m σ H→
      ((Itt K a).stop i H∧D.nx σ H)∨((Itt K a).go i H∧∃N:St→Hp→Prop,(∀σ' H',N σ' H'→∃m',m'<m∧oZ (i+1) m' σ' H')∧∀x H',(Itt K a).ZX i H x H'→g x σ H' fun σ2 H2=>tb {D with nx:=N,ct:=N,bk:=D.nx} σ2 H2):=by
  refine⟨fun i m σ H=>m=xs.length - i∧i≤xs.length∧Pv i σ H,⟨xs.length,by simp,Nat.zero_le _,h0⟩,?_⟩;rintro i m σ H ⟨rfl,hi,p⟩;have q:=hl i σ H hi p
  by_cases hlt:i<xs.length
  ·refine .inr ⟨⟨xs,xs[i],q,by simp[hlt]⟩,Pv (i+1),fun σ' H' p'=>⟨xs.length - (i+1),by omega,rfl,hlt,p'⟩,fun x H' y=>?_⟩;obtain⟨e,y⟩:=y;subst e;exact hs i x σ _ (y xs q) p
  · have e:i=xs.length:=by omega
    subst e;exact .inl ⟨⟨xs,q,Nat.le_refl _⟩,hd σ H p⟩
theorem Tg {lo:Int} {n:Nat} {g:TG} {tb:TS} {D:Ends} {σ:St} {H:Hp} (Pv:Nat→St→Hp→Prop) (h0:Pv 0 σ H)
    (hs:∀i σ H,i<n→Pv i σ H→g (.int (lo+i)) σ H fun σ2 H2=>tb {D with nx:=Pv (i+1),ct:=Pv (i+1),bk:=D.nx} σ2 H2) (hd:∀σ H,Pv n σ H→D.nx σ H) :
    ∃oZ:Nat→Nat→St→Hp→Prop,(∃m,oZ 0 m σ H)∧∀i m σ H,oZ i m σ H→
      ((Ou lo n).stop i H∧D.nx σ H)∨((Ou lo n).go i H∧∃N:St→Hp→Prop,(∀σ' H',N σ' H'→∃m',m'<m∧oZ (i+1) m' σ' H')∧∀x H',(Ou lo n).ZX i H x H'→g x σ H' fun σ2 H2=>tb {D with nx:=N,ct:=N,bk:=D.nx} σ2 H2):=by
  refine⟨fun i m σ H=>m=n - i∧i≤n∧Pv i σ H,⟨n,by simp,Nat.zero_le _,h0⟩,?_⟩;rintro i m σ H ⟨rfl,hi,p⟩
  by_cases hlt:i<n
  ·refine .inr ⟨hlt,Pv (i+1),fun σ' H' p'=>⟨n - (i+1),by omega,rfl,hlt,p'⟩,fun x H' y=>?_⟩;obtain⟨e,y⟩:=y;subst e y;exact hs i σ _ hlt p
  · have e:i=n:=by omega
    subst e;exact .inl ⟨Nat.le_refl _,hd σ H p⟩
theorem Wn {c:TT} {tb:TS} {D:Ends} {σ:St} {H:Hp} (Pv:St→Hp→Prop) (μ:St→Hp→Nat) (h0:Pv σ H)
    (hs:∀σ H,Pv σ H→c σ H fun b H1=>if b=true then tb {D with nx:=fun σ' H'=>Pv σ' H'∧μ σ' H'<μ σ H,ct:=fun σ' H'=>Pv σ' H'∧μ σ' H'<μ σ H,bk:=D.nx} σ H1 else D.nx σ H1)
    (mono:∀σ H Q Q',(∀b H1,Q b H1→Q' b H1)→c σ H Q→c σ H Q'):Je c tb D σ H:=by
  refine⟨fun m σ H=>m=μ σ H∧Pv σ H,⟨_,rfl,h0⟩,?_⟩;rintro m σ H ⟨rfl,p⟩;refine mono σ H _ _ (fun b H1 q=>?_) (hs σ H p);cases b with
  | true=>exact⟨_,fun σ' H' ⟨p',l⟩=>⟨_,l,rfl,p'⟩,q⟩
  | false=>exact q
abbrev R2:=V→V→Hp→VK→Prop
def jP (X:Cx) (f:Value→Value→Sem Value) (r:R2):Prop:=
  ∀(p_:List (Addr×Obj)) (s:Shared) (σ:St) (H:Hp) (x y:V) (v u:Value) (Q:VK),Inv X p_ σ H s→RelV x v→RelV y u→r x y H Q→
    wpAny (model X.prog X.w) X.A (f v u) (EP X p_ σ Q) X.xe s
def UnR (X:Cx) (f:Value→Sem Value) (r:V→Hp→VK→Prop):Prop:=
  ∀(p_:List (Addr×Obj)) (s:Shared) (σ:St) (H:Hp) (x:V) (v:Value) (Q:VK),Inv X p_ σ H s→RelV x v→r x H Q→
    wpAny (model X.prog X.w) X.A (f v) (EP X p_ σ Q) X.xe s
def cJ (X:Cx) (f:Value) (r:List V→Hp→VK→Prop):Prop:=
  ∀(p_:List (Addr×Obj)) (s:Shared) (σ:St) (H:Hp) (xs:List V) (us:List Value) (Q:VK),Inv X p_ σ H s→Vals xs us→r xs H Q→
    wpAny (model X.prog X.w) X.A (call f us) (EP X p_ σ Q) X.xe s
def V6 (r:R2) (ta tb:TE):TE:=fun σ H Q=>ta σ H fun x H1=>tb σ H1 fun y H2=>r x y H2 Q
def tUn (r:V→Hp→VK→Prop) (ta:TE):TE:=fun σ H Q=>ta σ H fun x H1=>r x H1 Q
def rI (C:Int→Int→Prop) (g:Int→Int→V):R2:=fun x y H Q=>∃i j,x = .int i∧y = .int j∧C i j∧Q (g i j) H
def rI0 (g:Int→Int→V):R2:=fun x y H Q=>∃i j,x = .int i∧y = .int j∧Q (g i j) H
def rU (g:Int→V):V→Hp→VK→Prop:=fun x H Q=>∃i,x = .int i∧Q (g i) H
section
variable {X:Cx} {a b c:Expr} {ta tb tc:TE} {pos:Pos}
theorem qcz (ha:PE X a ta) (hb:PE X b tb) {p_:List (Addr×Obj)} {s:Shared} {σ:St} {H:Hp} {R:V→V→Hp→Prop} (I:Inv X p_ σ H s)
    (h:ta σ H fun x H1=>tb σ H1 fun y H2=>R x y H2) {Q:Value→Shared→Prop} {f:Value→Value→Sem Value}
    (hf:∀v u s2 x y H2,Inv X p_ σ H2 s2→RelV x v→RelV y u→R x y H2→wpAny (model X.prog X.w) X.A (f v u) Q X.xe s2) :
    wpAny (model X.prog X.w) X.A (eval a X.env) (fun v s₁=>wpAny (model X.prog X.w) X.A (eval b X.env) (fun u s₂=>wpAny (model X.prog X.w) X.A (f v u) Q X.xe s₂) X.xe s₁) X.xe s:=by
  refine dD (ha p_ s σ H _ I h) fun v s1 zz=>?_;obtain⟨x,H1,I1,r1,q1⟩:=zz;refine dD (hb p_ s1 σ H1 _ I1 q1) fun u s2 zz=>?_;obtain⟨y,H2,I2,r2,q2⟩:=zz;exact hf v u s2 x y H2 I2 r1 r2 q2
theorem b_ {op:Operator} {r:R2} (ho:jP X (binaryOp op) r) (ha:PE X a ta) (hb:PE X b tb):PE X (.BinOp a op b pos) (V6 r ta tb):=by
  intro p_ s σ H Q I h;exact wpAny_BinOp (qcz ha hb I h fun v u s2 x y H2 I2 rx ry q=>ho p_ s2 σ H2 x y v u Q I2 rx ry q)
theorem Rf {op:UnaryOp} {r:V→Hp→VK→Prop} (ho:UnR X (unaryOp op) r) (ha:PE X a ta):PE X (.UnaryOp op a pos) (tUn r ta):=by
  intro p_ s σ H Q I h;refine UnaryOp_ (dD (ha p_ s σ H _ I h) fun v s1 zz=>?_);obtain⟨x,H1,I1,r1,q1⟩:=zz;exact ho p_ s1 σ H1 x v Q I1 r1 q1
theorem opI {f:Value→Value→Sem Value} {C:Int→Int→Prop} {g:Int→Int→Int}
    (rule:∀(i j:Int) (t u:Tok) (s:Shared) (Q:Value→Shared→Prop) (E:Value→Shared→Prop),C i j→Q (.int (g i j) s.toks) {s with toks:=s.toks+1}→wpAny (model X.prog X.w) X.A (f (.int i t) (.int j u)) Q E s) :
    jP X f (rI C fun i j=>.int (g i j)):=by
  intro p_ s σ H x y v u Q I rx ry h;obtain⟨i,j,rfl,rfl,hc,q⟩:=h;obtain⟨t,rfl⟩:=rx;obtain⟨t',rfl⟩:=ry;exact rule i j t t' s _ _ hc ⟨.int (g i j),H,I.tok _,⟨_,rfl⟩,q⟩
theorem qfj {f:Value→Value→Sem Value} {g:Int→Int→Int}
    (rule:∀(i j:Int) (t u:Tok) (s:Shared) (Q:Value→Shared→Prop) (E:Value→Shared→Prop),Q (.int (g i j) s.toks) {s with toks:=s.toks+1}→wpAny (model X.prog X.w) X.A (f (.int i t) (.int j u)) Q E s) :
    jP X f (rI0 fun i j=>.int (g i j)):=by
  intro p_ s σ H x y v u Q I rx ry h;obtain⟨i,j,rfl,rfl,q⟩:=h;obtain⟨t,rfl⟩:=rx;obtain⟨t',rfl⟩:=ry;exact rule i j t t' s _ _ ⟨.int (g i j),H,I.tok _,⟨_,rfl⟩,q⟩
theorem qcA {f:Value→Value→Sem Value} {g:Int→Int→Bool}
    (rule:∀(i j:Int) (t u:Tok) (s:Shared) (Q:Value→Shared→Prop) (E:Value→Shared→Prop),Q (.bool (g i j)) s→wpAny (model X.prog X.w) X.A (f (.int i t) (.int j u)) Q E s) :
    jP X f (rI0 fun i j=>.bl (g i j)):=by
  intro p_ s σ H x y v u Q I rx ry h;obtain⟨i,j,rfl,rfl,q⟩:=h;obtain⟨t,rfl⟩:=rx;obtain⟨t',rfl⟩:=ry;exact rule i j t t' s _ _ ⟨.bl (g i j),H,I,rfl,q⟩
@[simp] def Ti (i j:Int):Prop:=0<j∧j<1073741824
@[simp] def qfk (i j:Int):Prop:=0≤j∧j≤1000000∧i.natAbs<2 ^ 64
@[simp] def qag (i j:Int):Prop:=(-(2 ^ 64)<i∧i<2 ^ 64)∨(-(2 ^ 64)<j∧j<2 ^ 64)
theorem qag.ok {i j:Int} (h:qag i j):IntMulOk i j:=by
  rcases h with⟨h1,h2⟩ | ⟨h1,h2⟩
  ·exact .of_left (intBits_le_64 h1 h2)
  ·exact .of_right (intBits_le_64 h1 h2)
theorem qcB:jP X (binaryOp .Add) (rI0 fun i j=>.int (i+j)):=qfj fun _ _ _ _ _ _ _ q=>add_int q
theorem qcC:jP X (binaryOp .Sub) (rI0 fun i j=>.int (i - j)):=qfj fun _ _ _ _ _ _ _ q=>sub_int q
theorem qcD:jP X (binaryOp .Mult) (rI qag fun i j=>.int (i * j)):=opI fun _ _ _ _ _ _ _ hc q=>mul_int q hc.ok
theorem qah:jP X (binaryOp .FloorDiv) (rI Ti fun i j=>.int (i / j)):=opI fun i j _ _ _ _ _ hc q=>by
  have h1:(0:Int)<j:=hc.1;have h2:j<1073741824:=hc.2;exact floordiv_int (by omega) (by rw[Int.fdiv_eq_ediv_of_nonneg i (by omega)];exact q) (.inl (PyProof.noPylong_small (by omega)))
theorem qcE:jP X (binaryOp .Mod) (rI (fun _ j=>0<j) fun i j=>.int (i % j)):=opI fun i j _ _ _ _ _ hc q=>by
  have h1:(0:Int)<j:=hc;exact mod_int' (by omega) (by rw[Int.fmod_eq_emod_of_nonneg i (by omega)];exact q)
theorem qcF:jP X (binaryOp .Pow) (rI qfk fun i j=>.int (i ^ j.toNat)):=opI fun _ _ _ _ _ _ _ hc q=>pow_int_small hc.1 hc.2.1 hc.2.2 q
theorem unI {f:Value→Sem Value} {g:Int→Int}
    (rule:∀(i:Int) (t:Tok) (s:Shared) (Q:Value→Shared→Prop) (E:Value→Shared→Prop),Q (.int (g i) s.toks) {s with toks:=s.toks+1}→wpAny (model X.prog X.w) X.A (f (.int i t)) Q E s) :
    UnR X f (rU fun i=>.int (g i)):=by
  intro p_ s σ H x v Q I rx h;obtain⟨i,rfl,q⟩:=h;obtain⟨t,rfl⟩:=rx;exact rule i t s _ _ ⟨.int (g i),H,I.tok _,⟨_,rfl⟩,q⟩
theorem qcG:UnR X (unaryOp .USub) (rU fun i=>.int (-i)):=unI fun _ _ _ _ _ q=>neg_int q
end
def Az:V→V→Bool
  | .non,.non=>true | .non,.int _=>true | .int _,.non=>true | .non,.bl _=>true | .bl _,.non=>true | .non,.str _=>true | .str _,.non=>true
  | .int _,.int _=>true | .bl _,.bl _=>true | .str _,.str _=>true | .V2 _,.V2 _=>true
  | .int _,.str _=>true | .str _,.int _=>true | .bl _,.str _=>true | .str _,.bl _=>true
  | _,_=>false
def rEq:R2:=fun x y H Q=>Az x y=true∧Q (.bl (decide (x=y))) H
def rNe:R2:=fun x y H Q=>Az x y=true∧Q (.bl (!decide (x=y))) H
theorem Rg {i j:Int}:decide (V.int i=V.int j)=(i == j):=by
  rw[Bool.eq_iff_iff];simp
theorem Wo {i j:Bool}:decide (V.bl i=V.bl j)=(i == j):=by
  rw[Bool.eq_iff_iff];simp
theorem Rh {i j:Str}:decide (V.str i=V.str j)=(i == j):=by
  rw[Bool.eq_iff_iff];simp
theorem Ri {i j:Array UInt8}:decide (V.V2 i=V.V2 j)=(i.toList == j.toList):=by
  rw[Bool.eq_iff_iff];cases i;cases j;simp
section
variable {X:Cx} {a b c:Expr} {ta tb tc:TE} {pos:Pos}
theorem cL {p_:List (Addr×Obj)} {σ:St} {H:Hp} {s:Shared} {Q:VK} {k k':Bool} (I:Inv X p_ σ H s) (q:Q (.bl k) H) (e:k=k'):EP X p_ σ Q (.bool k') s:=by
  subst e;exact⟨.bl k,H,I,rfl,q⟩
theorem qfl:jP X (compareOp .Eq) rEq:=by
  intro p_ s σ H x y v u Q I rx ry h;obtain⟨hs,q⟩:=h;cases x with
  | non=>
    cases rx;cases y with
    | non=>cases ry;exact PySem.EqNone.eq_none_none (cL I q (by simp))
    | bl j=>cases ry;exact PySem.EqNone.eq_none_bool (cL I q (by simp))
    | int j=>obtain⟨t',rfl⟩:=ry;exact PySem.EqNone.eq_none_int (cL I q (by simp))
    | str j=>obtain⟨t',rfl⟩:=ry;exact PySem.EqNone.eq_none_str (cL I q (by simp))
    | _=>exact absurd (show false=true from hs) Bool.false_ne_true
  | bl i=>
    cases rx;cases y with
    | non=>cases ry;exact PySem.EqNone.eq_bool_none (cL I q (by simp))
    | bl j=>cases ry;exact eq_bool (cL I q Wo)
    | str j=>obtain⟨t',rfl⟩:=ry;exact PySem.EqMixed.eq_bool_str (cL I q (by simp))
    | _=>exact absurd (show false=true from hs) Bool.false_ne_true
  | int i=>
    obtain⟨t,rfl⟩:=rx;cases y with
    | non=>cases ry;exact PySem.EqNone.eq_int_none (cL I q (by simp))
    | int j=>obtain⟨t',rfl⟩:=ry;exact eq_int (cL I q Rg)
    | str j=>obtain⟨t',rfl⟩:=ry;exact PySem.EqMixed.eq_int_str (cL I q (by simp))
    | _=>exact absurd (show false=true from hs) Bool.false_ne_true
  | str i=>
    obtain⟨t,rfl⟩:=rx;cases y with
    | non=>cases ry;exact PySem.EqNone.eq_str_none (cL I q (by simp))
    | bl j=>cases ry;exact PySem.EqMixed.eq_str_bool (cL I q (by simp))
    | int j=>obtain⟨t',rfl⟩:=ry;exact PySem.EqMixed.eq_str_int (cL I q (by simp))
    | str j=>obtain⟨t',rfl⟩:=ry;exact eq_str (cL I q Rh)
    | _=>exact absurd (show false=true from hs) Bool.false_ne_true
  | V2 i=>
    obtain⟨t,rfl⟩:=rx;cases y with
    | V2 j=>obtain⟨t',rfl⟩:=ry;exact W.eq_bytes (cL I q Ri)
    | _=>exact absurd (show false=true from hs) Bool.false_ne_true
  | _=>cases y <;> exact absurd (show false=true from hs) Bool.false_ne_true
theorem qfm:jP X (compareOp .NotEq) rNe:=by
  intro p_ s σ H x y v u Q I rx ry h;obtain⟨hs,q⟩:=h;cases x with
  | non=>
    cases rx;cases y with
    | non=>cases ry;exact PySem.EqNone.ne_none_none (cL I q (by simp))
    | bl j=>cases ry;exact PySem.EqNone.ne_none_bool (cL I q (by simp))
    | int j=>obtain⟨t',rfl⟩:=ry;exact PySem.EqNone.ne_none_int (cL I q (by simp))
    | str j=>obtain⟨t',rfl⟩:=ry;exact PySem.EqNone.ne_none_str (cL I q (by simp))
    | _=>exact absurd (show false=true from hs) Bool.false_ne_true
  | bl i=>
    cases rx;cases y with
    | non=>cases ry;exact PySem.EqNone.ne_bool_none (cL I q (by simp))
    | bl j=>cases ry;exact ne_bool (cL I q (congrArg not Wo))
    | str j=>obtain⟨t',rfl⟩:=ry;exact PySem.EqMixed.ne_bool_str (cL I q (by simp))
    | _=>exact absurd (show false=true from hs) Bool.false_ne_true
  | int i=>
    obtain⟨t,rfl⟩:=rx;cases y with
    | non=>cases ry;exact PySem.EqNone.ne_int_none (cL I q (by simp))
    | int j=>obtain⟨t',rfl⟩:=ry;exact ne_int (cL I q (congrArg not Rg))
    | str j=>obtain⟨t',rfl⟩:=ry;exact PySem.EqMixed.ne_int_str (cL I q (by simp))
    | _=>exact absurd (show false=true from hs) Bool.false_ne_true
  | str i=>
    obtain⟨t,rfl⟩:=rx;cases y with
    | non=>cases ry;exact PySem.EqNone.ne_str_none (cL I q (by simp))
    | bl j=>cases ry;exact PySem.EqMixed.ne_str_bool (cL I q (by simp))
    | int j=>obtain⟨t',rfl⟩:=ry;exact PySem.EqMixed.ne_str_int (cL I q (by simp))
    | str j=>obtain⟨t',rfl⟩:=ry;exact ne_str (cL I q (congrArg not Rh))
    | _=>exact absurd (show false=true from hs) Bool.false_ne_true
  | V2 i=>
    obtain⟨t,rfl⟩:=rx;cases y with
    | V2 j=>obtain⟨t',rfl⟩:=ry;exact W.ne_bytes (cL I q (congrArg not Ri))
    | _=>exact absurd (show false=true from hs) Bool.false_ne_true
  | _=>cases y <;> exact absurd (show false=true from hs) Bool.false_ne_true
theorem qfn:jP X (compareOp .Lt) (rI0 fun i j=>.bl (decide (i<j))):=qcA fun _ _ _ _ _ _ _ q=>lt_int q
theorem qfo:jP X (compareOp .LtE) (rI0 fun i j=>.bl (decide (i≤j))):=qcA fun _ _ _ _ _ _ _ q=>le_int q
theorem qfp:jP X (compareOp .Gt) (rI0 fun i j=>.bl (decide (j<i))):=qcA fun _ _ _ _ _ _ _ q=>gt_int q
theorem Tj:jP X (compareOp .In) (fun x y H Q=>∃i j,x = .str i∧y = .str j∧Q (.bl (!(Builtin.Str.occurrences j i 0 j.length 1).isEmpty)) H):=by
  intro p_ s σ H x y v u Q I rx ry h;obtain⟨i,j,rfl,rfl,q⟩:=h;obtain⟨t,rfl⟩:=rx;obtain⟨t',rfl⟩:=ry;exact in_str (cL I q rfl)
theorem jP.or {f:Value→Value→Sem Value} {r r':R2} (h:jP X f r) (h':jP X f r'):jP X f (fun x y H Q=>r x y H Q∨r' x y H Q):=by
  intro p_ s σ H x y v u Q I rx ry q
  rcases q with q | q
  ·exact h p_ s σ H x y v u Q I rx ry q
  ·exact h' p_ s σ H x y v u Q I rx ry q
theorem bM (b:Expr) {op:CmpOp} (h:op≠.In:=by decide) (h2:op≠.NotIn:=by decide):behindInMarks op b=false:=by
  have e1:(op == CmpOp.In)=false:=by cases op <;> first | rfl | exact absurd rfl h
  have e2:(op == CmpOp.NotIn)=false:=by cases op <;> first | rfl | exact absurd rfl h2
  cases b <;> simp[behindInMarks,e1,e2]
theorem cC {op:CmpOp} {r:R2} (ho:jP X (compareOp op) r) (ha:PE X a ta) (hb:PE X b tb) (hm:behindInMarks op b=false):PE X (.Compare a [op] [b] pos) (V6 r ta tb):=by
  intro p_ s σ H Q I h;exact wpAny_Compare1 (qcz ha hb I h fun v u s2 x y H2 I2 rx ry q=>ho p_ s2 σ H2 x y v u Q I2 rx ry q) hm
def Rj (t:TE):TT:=fun σ H Q=>t σ H fun x H'=>∃k,x = .bl k∧Q k H'
theorem qai {op:CmpOp} {r:R2} (ho:jP X (compareOp op) r) (ha:PE X a ta) (hb:PE X b tb) (hm:behindInMarks op b=false):PT X (.Compare a [op] [b] pos) (Rj (V6 r ta tb)):=by
  intro p_ s σ H Q I h;refine wpAny_isTrue_Compare1 (dD (ha p_ s σ H _ I h) fun v s1 ⟨x,H1,I1,r1,q1⟩=>dD (hb p_ s1 σ H1 _ I1 q1) fun u s2 ⟨y,H2,I2,r2,q2⟩=>
    dD (ho p_ s2 σ H2 x y v u _ I2 r1 r2 q2) fun c s3 ⟨z,H3,I3,r3,k,e,q3⟩=>?_) hm
  subst e;cases r3;exact wpAny_truthy_bool ⟨H3,I3,q3⟩
def Jg (r r':R2) (ta tb tc:TE):TE:=fun σ H Q=>ta σ H fun x H1=>tb σ H1 fun y H2=>r x y H2 fun z H3=>∃k,z = .bl k∧
  (if k=true then tc σ H3 fun w' H4=>r' y w' H4 Q else Q (.bl false) H3)
theorem Wq {op op':CmpOp} {r r':R2} (ho:jP X (compareOp op) r) (ho':jP X (compareOp op') r') (ha:PE X a ta) (hb:PE X b tb) (hc:PE X c tc)
    (hm:lastMarks [op,op'] [b,c]=false:=by with_unfolding_all rfl):PE X (.Compare a [op,op'] [b,c] pos) (Jg r r' ta tb tc):=by
  intro p_ s σ H Q I h;refine Compare_chain (dD (ha p_ s σ H _ I h) fun v s1 ⟨x,H1,I1,r1,q1⟩=>chain_link (dD (hb p_ s1 σ H1 _ I1 q1) fun u s2 ⟨y,H2,I2,r2,q2⟩=>
    dD (ho p_ s2 σ H2 x y v u _ I2 r1 r2 q2) fun d s3 ⟨z,H3,I3,r3,k,e,q3⟩=>?_)) hm
  subst e;cases r3;refine wpAny_truthy_bool ?_;cases k with
  | false=>exact ite_ff ⟨.bl false,H3,I3,rfl,q3⟩
  | true=>exact ite_tt (chain_last (dD (hc p_ s3 σ H3 _ I3 q3) fun w' s4 ⟨z',H4,I4,r4,q4⟩=>ho' p_ s4 σ H4 y z' u w' Q I4 r2 r4 q4))
theorem Wr {op op':CmpOp} {r r':R2} (ho:jP X (compareOp op) r) (ho':jP X (compareOp op') r') (ha:PE X a ta) (hb:PE X b tb) (hc:PE X c tc)
    (hm:lastMarks [op,op'] [b,c]=false:=by with_unfolding_all rfl):PT X (.Compare a [op,op'] [b,c] pos) (Rj (Jg r r' ta tb tc)):=by
  intro p_ s σ H Q I h;refine isTrue_chain (dD (ha p_ s σ H _ I h) fun v s1 ⟨x,H1,I1,r1,q1⟩=>test_link (dD (hb p_ s1 σ H1 _ I1 q1) fun u s2 ⟨y,H2,I2,r2,q2⟩=>
    dD (ho p_ s2 σ H2 x y v u _ I2 r1 r2 q2) fun d s3 ⟨z,H3,I3,r3,k,e,q3⟩=>?_)) hm
  subst e;cases r3;refine wpAny_truthy_bool ?_;cases k with
  | false=>
    obtain⟨k',e',q'⟩:=q3;cases e';exact ite_ff ⟨H3,I3,q'⟩
  | true=>
    refine ite_tt (test_last (dD (hc p_ s3 σ H3 _ I3 q3) fun w' s4 ⟨z',H4,I4,r4,q4⟩=>dD (ho' p_ s4 σ H4 y z' u w' _ I4 r2 r4 q4) fun d' s5 ⟨z2,H5,I5,r5,k2,e2,q5⟩=>?_));subst e2;cases r5;exact wpAny_truthy_bool ⟨H5,I5,q5⟩
theorem wz:(sizeLine:Nat)<2 ^ 63:=by rw[sizeLine_eq];decide
theorem O1:jP X (binaryOp .Add) (fun x y H Q=>∃i j,x = .str i∧y = .str j∧i.length+j.length≤sizeLine∧Q (.str (i++j)) H):=by
  intro p_ s σ H x y v u Q I rx ry h;obtain⟨i,j,rfl,rfl,hz,q⟩:=h;obtain⟨t,rfl⟩:=rx;obtain⟨t',rfl⟩:=ry;exact add_str (fun t' tk=>⟨.str (i++j),H,I.tok _,⟨_,rfl⟩,q⟩) hz
theorem vals1 {x:V} {us:List Value} (r:Vals [x] us):∃u,us=[u]∧RelV x u:=by
  cases r with
  | cons r1 r2=>cases r2;exact⟨_,rfl,r1⟩
theorem vals2 {x y:V} {us:List Value} (r:Vals [x,y] us):∃u w',us=[u,w']∧RelV x u∧RelV y w':=by
  cases r with
  | cons r1 r2=>
    cases r2 with
    | cons r3 r4=>cases r4;exact⟨_,_,rfl,r1,r3⟩
theorem Ws:cJ X (.builtin "abs") (fun xs H Q=>∃i,xs=[.int i]∧Q (.int (if i<0 then -i else i)) H):=by
  intro p_ s σ H xs us Q I r h;obtain⟨i,rfl,q⟩:=h;obtain⟨u,rfl,t,rfl⟩:=vals1 r;exact call_abs_int fun u tk=>⟨.int (if i<0 then -i else i),H,I.tok _,⟨_,rfl⟩,q⟩
theorem Tn (hc:X.calm=true):cJ X (.builtin "max") (fun xs H Q=>∃i j,xs=[.int i,.int j]∧Q (.int (if j > i then j else i)) H):=by
  intro p_ s σ H xs us Q I r h;obtain⟨i,j,rfl,q⟩:=h;obtain⟨u,w',rfl,⟨t,rfl⟩,⟨t',rfl⟩⟩:=vals2 r;refine max_two_ints (I.ok.hd hc) fun h' tk k=>⟨_,H,I.kept k,?_,q⟩
  by_cases hj:j > i
  ·rw[if_pos hj,if_pos hj];exact⟨_,rfl⟩
  ·rw[if_neg hj,if_neg hj];exact⟨_,rfl⟩
theorem Tp (hc:X.calm=true):cJ X (.builtin "min") (fun xs H Q=>∃i j,xs=[.int i,.int j]∧Q (.int (if j<i then j else i)) H):=by
  intro p_ s σ H xs us Q I r h;obtain⟨i,j,rfl,q⟩:=h;obtain⟨u,w',rfl,⟨t,rfl⟩,⟨t',rfl⟩⟩:=vals2 r;refine min_two_ints (I.ok.hd hc) fun h' tk k=>⟨_,H,I.kept k,?_,q⟩
  by_cases hj:j<i
  ·rw[if_pos hj,if_pos hj];exact⟨_,rfl⟩
  ·rw[if_neg hj,if_neg hj];exact⟨_,rfl⟩
theorem Tq:cJ X (.type "int") (fun xs H Q=>(∃i,xs=[.int i]∧Q (.int i) H)∨∃k,xs=[.bl k]∧Q (.int (if k then 1 else 0)) H):=by
  intro p_ s σ H xs us Q I r h
  rcases h with⟨i,rfl,q⟩ | ⟨k,rfl,q⟩
  ·obtain⟨u,rfl,t,rfl⟩:=vals1 r;exact call_int_int ⟨.int i,H,I,⟨_,rfl⟩,q⟩
  ·obtain⟨u,rfl,r1⟩:=vals1 r;cases r1;exact call_int_bool ⟨.int (if k then 1 else 0),H,I.tok _,⟨_,rfl⟩,q⟩
theorem Lh:cJ X (.builtin "divmod") (fun xs H Q=>∃i j,xs=[.int i,.int j]∧Ti i j∧∀p,H p=none→Q (.ref p) (upd H p (.tup [.int (i / j),.int (i % j)]))):=by
  intro p_ s σ H xs us Q I r h;obtain⟨i,j,rfl,⟨h1,h2⟩,q⟩:=h;obtain⟨u,w',rfl,⟨t,rfl⟩,⟨t',rfl⟩⟩:=vals2 r;refine divmod_int (by omega) ?_ (.inl (PyProof.noPylong_small (by omega)));rw[Int.fdiv_eq_ediv_of_nonneg i (by omega),Int.fmod_eq_emod_of_nonneg i (by omega)];have hn:H s.heap.objs.size=none:=I.hok.fresh (Nat.le_refl _);refine⟨.ref s.heap.objs.size,_,?_,rfl,q _ hn⟩;refine I.laid (fun b o e=>Heap.get?_push_of_some _ e) (Nat.le_refl _) ⟨by simp only[List.length_cons,List.length_nil];rw[sizeLine_eq];decide,[.int (i / j) s.toks,.int (i % j) (s.toks+1)],.cons ⟨_,rfl⟩ (.cons ⟨_,rfl⟩ .nil),?_⟩;exact⟨_,Heap.get?_push_size s.heap rfl,rfl,0,rfl⟩
end
structure O2 (h:Heap) (x dx C:Addr) (mA:Str→Option Value):Prop where
  obj:h.get? x=some (W.instObj C dx)
  ns:h.Ns1 dx mA
  ne:dx≠x
theorem Hj {h:Heap} {dx:Addr} {mA:Str→Option Value} (n:h.Ns1 dx mA):∃od,h.get? dx=some od∧∀name,W.lookIn name od=some (mA name):=by
  obtain⟨o,es,ep,ho,hd,hk,_,hm⟩:=n;refine⟨o,ho,fun name=>?_⟩;have e:=hm name;unfold nsFind findBy at e;rw[← Array.find?_toList] at e;unfold W.lookIn;rw[hd];dsimp only;split
  ·rename_i y q;rw[q] at e;exact congrArg some e
  · rename_i q;rw[q] at e;have a:es.toList.any (·.refKey)=false:=by
      rw[List.any_eq_false];intro y hy;obtain⟨z,t,hkey⟩:=hk y (Array.mem_toList_iff.mp hy);simp[DictEntry.refKey,hkey]
    have a':¬es.toList.any (·.refKey)=true:=by rw[a];exact Bool.false_ne_true
    rw[if_neg a'];exact congrArg some e
theorem O2.look {h:Heap} {x dx C:Addr} {mA:Str→Option Value} (I:O2 h x dx C mA):∃od,W.InstAt h x (W.instObj C dx) C (some od)∧∀name,W.lookIn name od=some (mA name):=
  let ⟨od,ho,hl⟩:=Hj I.ns
  ⟨od,⟨I.obj,rfl,rfl,ho⟩,hl⟩
section
variable {prog:Program} {w:World} {A:Around} {E:Value→Shared→Prop} {s:Shared} {K:W.Frag} {x dx C f:Addr} {mA:Str→Option Value} {name:Str} {v:Value}
theorem get_map {expr:Bool} {Q:Value→Shared→Prop} (X:K.In s.heap) (I:O2 s.heap x dx C mA) (hg:W.plainGet K C name=true) (hh:W.hasDictIn K C=true)
    (ha:W.findIn K (.ref C) name=some none) (hv:mA name=some v) (hv':W.handedIn v=true) (h:Q v {s with toks:=s.toks+1}) :
    wpAny (model prog w) A (getAttr (.ref x) name expr) Q E s:=by
  obtain⟨od,J,hl⟩:=I.look;exact W.get_value X J (W.plainGet_of hg).1 (W.findObj_own hh ha rfl (by rw[hl,hv])) hv' h
theorem Wt {pl:Sem Bool} {Q:Value×List Value→Shared→Prop} (X:K.In s.heap) (I:O2 s.heap x dx C mA) (hg:W.plainGet K C name=true)
    (hf:W.findIn K (.ref C) name=some (some (.ref f))) (ht:W.isFn K (.ref f)=true) (hv:mA name=none) (h:Q (.ref f,[.ref x]) s) :
    wpAny (model prog w) A (getMethod (.ref x) name pl) Q E s:=by
  obtain⟨od,J,hl⟩:=I.look;exact W.method_fn X J (W.plainGet_of hg).1 (W.plainGet_of hg).2 hf (beq_iff_eq.mp ht) (by show(W.lookIn name od).map (·.isSome)=some false;rw[hl,hv];rfl) h
theorem qaj {ns:List Str} {Q:Unit→Shared→Prop} (X:K.In s.heap) (I:O2 s.heap x dx C mA)
    (hs:W.findIn K (.ref C) "__setattr__" = some (some (.builtin "object.__setattr__"))) (hp:W.plainOver K C=true) (ht:W.takerIn K C name=some none) (hh:W.hasDictIn K C=true)
    (hw:PySem.Within mA ns) (hsz:ns.length≤sizeLine)
    (h:∀h',O2 h' x dx C (fun y=>if y=name then some v else mA y)→Heap.SameBut dx s.heap h'→Q () {s with heap:=h',toks:=s.toks+2}) :
    wpAny (model prog w) A (setAttr (.ref x) name v) Q E s:=by
  obtain⟨od,J,hl⟩:=I.look;refine W.set_plain X J hs (W.osa_open (s:={s with toks:=s.toks+1}) (r:=none) X J hp ht fun b=>?_);obtain⟨cd,hc,hd'⟩:=W.any_some hh;have hx:s.heap.get? x=some ⟨.ref C,some dx,.plain,#[]⟩:=I.obj;refine wpAny_bind (wpAny_pure (wpAny_bind (wpAny_bind (wpAny_loadPart hx (wpAny_bind (W.Looks.here (s:={s with toks:=s.toks+1}) (W.looks_clsIn X hc) ?_))))));rw[hd'];refine wpAny_pure (a:=some dx) (wpAny_bind (wpAny_pure (wpAny_bind ?_)));refine wpAny_nsSet1 (s:={s with toks:=s.toks+1}) I.ns fun h' hn2 hs2=>?_;obtain⟨oD,esD,epD,hoD,hdD,hcD⟩:=hn2.count (PySem.Within.cons name v hw);refine wpAny_bind (wpAny_lookBehind hoD (by rw[hdD];exact pastItsLine_dict (Nat.le_trans hcD (by rw[List.length_cons];omega))) ?_);exact wpAny_pure (h _ ⟨(hs2.2 _ (Ne.symm I.ne)).trans I.obj,hn2,I.ne⟩ hs2)
theorem Wu {R:Result→Shared→Prop} {vs:List Value} {kw:List (Str×Value)} (X:K.In s.heap) (hm:W.makesIn K C=true)
    (hi:W.findIn K (.ref C) "__init__" = some (some (.ref f))) (hf:W.typeIn K (.ref f)=some (.type "function"))
    (h:codeAny (model prog w) (A.under (.builtin "type.__call__" ⟨.ref C::vs,kw⟩)) (.call (.ref f) ⟨.ref (s.heap.objs.size+1)::vs,kw⟩) (W.InitBack (s.heap.objs.size+1) R)
      {s with heap:=(s.heap.push W.emptyDict).push (W.instObj C s.heap.objs.size)}) :
    codeAny (model prog w) A (.call (.ref C) ⟨vs,kw⟩) R s:=by
  obtain⟨hh,g,d,t,os⟩:=s;exact W.make_core (W.makes_of X hm) (W.looks_findIn X hi) (fun self=>W.bind_fn X self hf) (.inl rfl) h
end
def lQ (f:Str) (v:V):List (Str×V)→List (Str×V)
  | []=>[(f,v)]
  | (g,x)::r=>if g=f then (g,v)::r else (g,x)::lQ f v r
theorem pq (f g:Str) (v:V):∀fs:List (Str×V),(lQ f v fs).lookup g=if g=f then some v else fs.lookup g
  | []=>by
    show List.lookup g [(f,v)]=_
    by_cases h:g=f
    ·have hb:(g == f)=true:=beq_iff_eq.mpr h;simp only[List.lookup,hb,if_pos h]
    ·have hb:(g == f)=false:=beq_eq_false_iff_ne.mpr h;simp only[List.lookup,hb,if_neg h]
  | (k,x)::r=>by
    have ih:=pq f g v r;rw[show lQ f v ((k,x)::r)=(if k=f then (k,v)::r else (k,x)::lQ f v r) from rfl]
    by_cases hk:k=f
    · rw[if_pos hk]
      by_cases h:g=k
      ·have hb:(g == k)=true:=beq_iff_eq.mpr h;simp only[List.lookup,hb,if_pos (h.trans hk)]
      ·have hb:(g == k)=false:=beq_eq_false_iff_ne.mpr h;simp only[List.lookup,hb,if_neg (fun e:g=f=>h (e.trans hk.symm))]
    · rw[if_neg hk]
      by_cases h:g=k
      ·have hb:(g == k)=true:=beq_iff_eq.mpr h;simp only[List.lookup,hb,if_neg (fun e:g=f=>hk (h.symm.trans e))]
      ·have hb:(g == k)=false:=beq_eq_false_iff_ne.mpr h;simp only[List.lookup,hb];exact ih
theorem qD (f:Str) (v:V):∀fs:List (Str×V),f∈(lQ f v fs).map (·.1)∧∀g,g∈fs.map (·.1)→g∈(lQ f v fs).map (·.1)
  | []=>⟨by simp[lQ],fun g h=>by simp at h⟩
  | (k,x)::r=>by
    obtain⟨i1,i2⟩:=qD f v r;rw[show lQ f v ((k,x)::r)=(if k=f then (k,v)::r else (k,x)::lQ f v r) from rfl]
    by_cases hk:k=f
    ·rw[if_pos hk];subst hk;exact⟨by simp,fun g h=>by simpa using h⟩
    · rw[if_neg hk];refine⟨?_,fun g h=>?_⟩
      ·rw[List.map_cons];exact List.mem_cons_of_mem _ i1
      · rw[List.map_cons] at h ⊢
        rcases List.mem_cons.mp h with e | e
        ·exact List.mem_cons.mpr (.inl e)
        ·exact List.mem_cons_of_mem _ (i2 g e)
theorem tO (f:Str) (v:V):∀fs:List (Str×V),(lQ f v fs).length≤fs.length+1
  | []=>by simp[lQ]
  | (k,x)::r=>by
    have ih:=tO f v r;rw[show lQ f v ((k,x)::r)=(if k=f then (k,v)::r else (k,x)::lQ f v r) from rfl]
    by_cases hk:k=f
    ·rw[if_pos hk,List.length_cons,List.length_cons];omega
    ·rw[if_neg hk,List.length_cons,List.length_cons];omega
theorem nG.some_of {v:V} {o:Option Value} (r:nG (some v) o):∃u,o=some u∧RelV v u:=by
  cases o with
  | none=>exact(show False from r).elim
  | some u=>exact⟨u,rfl,r⟩
theorem nG.none_of {o:Option Value} (r:nG none o):o=none:=by
  cases o with
  | none=>rfl
  | some u=>exact(show False from r).elim
theorem Hl {v:V} {u:Value} (r:RelV v u):W.handedIn u=true:=by
  cases v with
  | non=>cases (show u=Value.none from r);rfl
  | bl b=>cases (show u=Value.bool b from r);rfl
  | int i=>obtain⟨t,e⟩:=(show ∃t,u=Value.int i t from r);cases e;rfl
  | str x=>obtain⟨t,e⟩:=(show ∃t,u=Value.str x t from r);cases e;rfl
  | V2 b=>obtain⟨t,e⟩:=(show ∃t,u=Value.bytes b t from r);cases e;rfl
  | flt b=>obtain⟨t,e⟩:=(show ∃t,u=Value.float b t from r);cases e;rfl
  | ref a=>cases (show u=Value.ref a from r);rfl
  | ty n=>cases (show u=Value.type n from r);rfl
section
variable {P:Program} {w:World} {H H':Hp} {h h':Heap} {a C dx:Addr} {fs fs':List (Str×V)}
theorem xu (hok:tG P w H h) (e:H a=some (.ins C dx fs)):∃mA,O2 h a dx C mA∧(∀f,nG (fs.lookup f) (mA f))∧PySem.Within mA (fs.map (·.1))∧fs.length≤1000∧H dx=some (.own a):=by
  obtain⟨d,z,ne,ob,mA,n,r,q⟩:=(show cA P w H h a (.ins C dx fs) from hok a _ e);exact⟨mA,⟨ob,n,ne⟩,r,q,z,d⟩
end
structure Cls (K:W.Frag) (C:Addr):Prop where
  pg:W.plainGet K C Str.empty=true
  hd:W.hasDictIn K C=true
  po:W.plainOver K C=true
  sa:W.findIn K (.ref C) "__setattr__" = some (some (.builtin "object.__setattr__"))
theorem Cls.get {K:W.Frag} {C:Addr} (c:Cls K C) (f:Str):W.plainGet K C f=true:=c.pg
def nq (K:W.Frag) (C:Addr) (f:Str):Prop:=W.findIn K (.ref C) f=some none
theorem nq.taker {K:W.Frag} {C:Addr} {f:Str} (n:nq K C f):W.takerIn K C f=some none:=by
  unfold W.takerIn;rw[show W.findIn K (.ref C) f=some none from n];rfl
structure Meth (K:W.Frag) (C:Addr) (m:Str) (f:Addr):Prop where
  at_:W.findIn K (.ref C) m=some (some (.ref f))
  fn:W.isFn K (.ref f)=true
  kp:W.keepIn K (.ref f)=true
section
variable {X:Cx} {p_:List (Addr×Obj)} {σ:St} {H:Hp} {s:Shared} {a C dx:Addr} {fs:List (Str×V)} {f:Str} {v:V} {A:Around} {E:Value→Shared→Prop}
theorem O4 {b:Bool} {Q:Value→Shared→Prop} (I:Inv X p_ σ H s) (e:H a=some (.ins C dx fs)) (c:Cls X.K C) (n:nq X.K C f) (l:fs.lookup f=some v)
    (h:∀u s',Inv X p_ σ H s'→RelV v u→Q u s'):wpAny (model X.prog X.w) A (getAttr (.ref a) f b) Q E s:=by
  obtain⟨mA,O,r,_,_,_⟩:=xu I.hok e;obtain⟨u,hu,ru⟩:=nG.some_of (v:=v) (o:=mA f) (by rw[← l];exact r f);exact get_map I.pZ O (c.get f) c.hd n hu (Hl ru) (h u _ (I.tok _) ru)
theorem O5 {m:Str} {g:Addr} {pl:Sem Bool} {Q:Value×List Value→Shared→Prop} (I:Inv X p_ σ H s) (e:H a=some (.ins C dx fs)) (c:Cls X.K C) (k:Meth X.K C m g) (l:fs.lookup m=none)
    (h:Q (.ref g,[.ref a]) s):wpAny (model X.prog X.w) A (getMethod (.ref a) m pl) Q E s:=by
  obtain⟨mA,O,r,_,_,_⟩:=xu I.hok e;have hn:mA m=none:=nG.none_of (by rw[← l];exact r m);exact Wt I.pZ O (c.get m) k.at_ k.fn hn h
theorem O6 {y:V} {u:Value} {Q:Unit→Shared→Prop} (I:Inv X p_ σ H s) (e:H a=some (.ins C dx fs)) (c:Cls X.K C) (n:nq X.K C f) (hl:fs.length<1000) (ry:RelV y u)
    (h:∀s',Inv X p_ σ (upd H a (.ins C dx (lQ f y fs))) s'→Q () s'):wpAny (model X.prog X.w) A (setAttr (.ref a) f u) Q E s:=by
  obtain⟨mA,O,r,wi,_,ho⟩:=xu I.hok e;have hz:(fs.map (·.1)).length≤sizeLine:=by rw[List.length_map,sizeLine_eq];omega
  refine qaj I.pZ O c.sa c.po n.taker c.hd wi hz fun h' O' sb=>h _ ?_;have hd:∃o,h'.get? dx=some o:=let ⟨o,_,_,e',_⟩:=O'.ns;⟨o,e'⟩;refine I.write (x:=a) (e:=dx) (by rw[e];exact True.intro) (.inr ho) (fun b q hb z=>(sb.2 b hb).trans z) hd ?_;refine⟨by rw[aC O.ne];exact ho,?_,O.ne,O'.obj,_,O'.ns,fun g=>?_,fun g hg=>?_⟩
  ·have:=tO f y fs;omega
  · show nG ((lQ f y fs).lookup g) (if g=f then some u else mA g)
    rw[pq]
    by_cases q:g=f
    ·rw[if_pos q,if_pos q];exact ry
    ·rw[if_neg q,if_neg q];exact r g
  · by_cases q:g=f
    ·rw[q];exact(qD f y fs).1
    · refine(qD f y fs).2 g (wi g fun z=>hg ?_);show(if g=f then some u else mA g)=none
      rw[if_neg q];exact z
theorem Inv.made (I:Inv X p_ σ H s):Inv X p_ σ (upd (upd H s.heap.objs.size (.own (s.heap.objs.size+1))) (s.heap.objs.size+1) (.ins C s.heap.objs.size []))
    {s with heap:=(s.heap.push W.emptyDict).push (W.instObj C s.heap.objs.size)}:=by
  have e1:(s.heap.push W.emptyDict).get? s.heap.objs.size=some W.emptyDict:=Heap.get?_push_size s.heap rfl;have e2:((s.heap.push W.emptyDict).push (W.instObj C s.heap.objs.size)).get? (s.heap.objs.size+1)=some (W.instObj C s.heap.objs.size):=by
    have:=Heap.get?_push_size (s.heap.push W.emptyDict) (o:=W.instObj C s.heap.objs.size) rfl
    rwa [Heap.size_push] at this
  have e3:(s.heap.push W.emptyDict).Ns s.heap.objs.size (fun _=>none):=⟨W.emptyDict,#[],_,e1,rfl,(fun e he=>absurd he (by simp)),fun _=>rfl⟩;have I1:=I.laid (a:=s.heap.objs.size) (o:=.own (s.heap.objs.size+1)) (h':=s.heap.push W.emptyDict) (t':=s.toks) (fun b u q=>Heap.get?_push_of_some _ q) (Nat.le_refl _) ⟨_,e1⟩;refine I1.laid (a:=s.heap.objs.size+1) (o:=.ins C s.heap.objs.size []) (t':=s.toks) (fun b u q=>Heap.get?_push_of_some _ q) (Nat.le_of_eq (Heap.size_push _ _)) ?_;have ne:s.heap.objs.size≠s.heap.objs.size+1:=Nat.ne_of_lt (Nat.lt_succ_self _);refine⟨by rw[aC ne,ak],Nat.zero_le _,ne,e2,fun _=>none,(Heap.Ns1.of_empty e3).at fun o q=>Heap.get?_push_of_some _ q,fun _=>True.intro,fun y hy=>absurd rfl hy⟩
theorem Rk {prog:Program} {w:World} {env:Env} {e:Expr} {f:Str} {pos:Pos} {s:Shared} {Q:Value→Shared→Prop} (hb:attributeBase e f env (eval e env)=eval e env)
    (h:wpAny (model prog w) A (eval e env) (fun o s₁=>wpAny (model prog w) A (getAttr o f true) Q E s₁) E s):wpAny (model prog w) A (eval (.Attribute e f pos) env) Q E s:=
  Attribute_any_ h (by rw[arm_eval_Attribute,hb])
end
def qak (K:W.Frag) (ta:TE) (f:Str):TE:=fun σ H Q=>ta σ H fun x H1=>∃a C dx fs v,x = .ref a∧H1 a=some (.ins C dx fs)∧Cls K C∧nq K C f∧fs.lookup f=some v∧Q v H1
def qcH (K:W.Frag) (ta tv:TE) (f:Str):TS:=fun D σ H=>tv σ H fun y H1=>ta σ H1 fun x H2=>∃a C dx fs,x = .ref a∧H2 a=some (.ins C dx fs)∧Cls K C∧nq K C f∧fs.length<1000∧
  D.nx σ (upd H2 a (.ins C dx (lQ f y fs)))
section
variable {X:Cx} {o e value:Expr} {f:Str} {pos pos' tpos:Pos} {ta tv:TE}
theorem qcI (he:PE X e ta) (hb:attributeBase e f X.env (eval e X.env)=eval e X.env):PE X (.Attribute e f pos) (qak X.K ta f):=by
  intro p_ s σ H Q I h;refine Rk hb (dD (he p_ s σ H _ I h) fun u s1 zz=>?_);obtain⟨x,H1,I1,rx,a,C,dx,fs,v,ex,ea,c,n,l,q⟩:=zz;subst ex;obtain rfl:u=Value.ref a:=rx;exact O4 I1 ea c n l fun u' s2 I2 ru=>⟨v,H1,I2,ru,q⟩
theorem qcJ (ha:PE X o ta) (hv:PE X value tv) (hs:swapsWith value (some (.Attribute o f pos')) pos.line X.env=pure false):PS X (.Assign [.Attribute o f pos'] value pos) (qcH X.K ta tv f):=by
  intro p_ s σ H D I h;refine plainObj_wpAny_Assign_Attribute (dD (hv p_ s σ H _ I h) fun u s1 ⟨y,H1,I1,ry,q⟩=>dD (ha p_ s1 σ H1 _ I1 q) fun ov s2 ⟨x,H2,I2,rx,a,C,dx,fs,ex,ea,c,n,l,q2⟩=>?_) hs;subst ex;obtain rfl:ov=Value.ref a:=rx;exact O6 I2 ea c n l ry fun s3 I3=>⟨σ,_,I3,q2⟩
end
section
variable {X:Cx} {p_:List (Addr×Obj)} {σ:St} {H:Hp} {s:Shared} {A:Around} {E:Value→Shared→Prop} {Q:Value→Shared→Prop} {c:Value} {b:Bool}
inductive nJ (K:W.Frag) (H:Hp):V→Value→Prop where
  | non:nJ K H .non (.type "NoneType")
  | bl (x:Bool):nJ K H (.bl x) (.type "bool")
  | int (i:Int):nJ K H (.int i) (.type "int")
  | str (x:Str):nJ K H (.str x) (.type "str")
  | flt (x:UInt64):nJ K H (.flt x) (.type "float")
  | lst {a:Addr} {xs:List V} (e:H a=some (.lst xs)):nJ K H (.ref a) (.type "list")
  | K8 {a:Addr} {o:Obj} {xs:List V} (e:H a=some (.K8 o (.lst xs))):nJ K H (.ref a) (.type "list")
  | tup {a:Addr} {xs:List V} (e:H a=some (.tup xs)):nJ K H (.ref a) (.type "tuple")
  | dK {a:Addr} {kvs:List (Key×V)} (e:H a=some (.dK kvs)):nJ K H (.ref a) (.type "dict")
  | dT {a:Addr} {kvs:List (List Key×V)} (e:H a=some (.dT kvs)):nJ K H (.ref a) (.type "dict")
  | ins {a C dx:Addr} {fs:List (Str×V)} (e:H a=some (.ins C dx fs)) (cl:Cls K C) (ha:W.findIn K (.ref C) "__class__" = some (some (.builtin "object.__class__")))
      (hn:W.specialIn K (.builtin "object.__class__") "__get__" = some (some (.builtin "getset_descriptor.__get__"))) (htk:W.takesIn K (.builtin "object.__class__")=some true)
      (hm:W.mroIn K C (.type "object")=some true):nJ K H (.ref a) (.ref C)
theorem Tr {x:V} {u t:Value} (I:Inv X p_ σ H s) (rx:RelV x u) (ty:nJ X.K H x t) (e:W.kitOne X.K t c=some b) (h:∀tk,Q (.bool b) {s with toks:=tk}) :
    wpAny (model X.prog X.w) A (call (.builtin "isinstance") [u,c]) Q E s:=by
  cases ty with
  | non=>cases (show u=Value.none from rx);exact W.kia_one W.kitx_none I.pZ True.intro e (fun z=>nomatch z) h
  | bl y=>cases (show u=Value.bool y from rx);exact W.kia_one W.kitx_bool I.pZ True.intro e (fun z=>nomatch z) h
  | int i=>obtain⟨t,q⟩:=(show ∃t,u=Value.int i t from rx);cases q;exact W.kia_one W.kitx_int I.pZ True.intro e (fun z=>nomatch z) h
  | str y=>obtain⟨t,q⟩:=(show ∃t,u=Value.str y t from rx);cases q;exact W.kia_one W.kitx_str I.pZ True.intro e (fun z=>nomatch z) h
  | flt y=>obtain⟨t,q⟩:=(show ∃t,u=Value.float y t from rx);cases q;exact W.kia_one W.kitx_float I.pZ True.intro e (fun z=>nomatch z) h
  | @lst a xs ea=>
    cases (show u=Value.ref a from rx);obtain⟨_,_,n,_,h1⟩:=(show cA X.prog X.w H s.heap a (.lst xs) from I.hok a _ ea);exact W.kia_one W.kitx_list I.pZ ⟨_,h1,rfl⟩ e (fun z=>nomatch z) h
  | @K8 a ob xs ea=>
    cases (show u=Value.ref a from rx);obtain⟨_,_,_,n,_,h1⟩:=(show cA X.prog X.w H s.heap a (.K8 ob (.lst xs)) from I.hok a _ ea);exact W.kia_one W.kitx_list I.pZ ⟨_,h1,rfl⟩ e (fun z=>nomatch z) h
  | @tup a xs ea=>
    cases (show u=Value.ref a from rx);obtain⟨_,_,_,p⟩:=(show cA X.prog X.w H s.heap a (.tup xs) from I.hok a _ ea);obtain⟨o,h1,h2,_⟩:=p;exact W.kia_one W.kitx_tuple I.pZ ⟨o,h1,h2⟩ e (fun z=>nomatch z) h
  | @dK a kvs ea=>
    cases (show u=Value.ref a from rx);obtain⟨_,_,vs,_,p⟩:=(show cA X.prog X.w H s.heap a (.dK kvs) from I.hok a _ ea);obtain⟨o,es,ep,h1,h2,_⟩:=p;exact W.kia_one W.kitx_dict I.pZ ⟨o,h1,h2.1⟩ e (fun z=>nomatch z) h
  | @dT a kvs ea=>
    cases (show u=Value.ref a from rx);obtain⟨_,_,xs,_,o,es,ep,h1,h2,_⟩:=(show cA X.prog X.w H s.heap a (.dT kvs) from I.hok a _ ea);exact W.kia_one W.kitx_dict I.pZ ⟨o,h1,h2.1⟩ e (fun z=>nomatch z) h
  | @ins a C dx fs ea cl ha hn htk hm=>
    cases (show u=Value.ref a from rx);obtain⟨mA,O,_⟩:=xu I.hok ea;obtain⟨od,J,_⟩:=O.look;exact W.kia_one (W.kitx_own (cl.get _) cl.hd ha hn htk hm) I.pZ J e (fun z=>nomatch z) h
end
structure jJ (k:Nat) (A:Around):Prop where
  hd:A.handled=none
  dp:A.depth+3 * k+5<recursionLimit
  un:A.units+16 * k+200<cLine
  gd:A.guards=some []
theorem jJ.mono {j k:Nat} {A:Around} (r:jJ k A) (h:j≤k):jJ j A:=⟨r.hd,by have:=r.dp;omega,by have:=r.un;omega,r.gd⟩
theorem jJ.d {j k:Nat} {A:Around} (r:jJ k A) (h:j≤k:=by decide):jJ j A:=r.mono h
theorem jJ.deeper {k:Nat} {A:Around} (r:jJ (k+1) A) (env:Env):jJ k (A.deeper env):=
  ⟨r.hd,by have:=r.dp;show A.depth+1+3 * k+5<_;omega,by have:=r.un;show A.units+3+16 * k+200<_;omega,r.gd⟩
theorem O7 {A:Around} {C:Addr} {us:List Value} {kw:List (Str×Value)}:(A.under (.builtin "type.__call__" ⟨.ref C::us,kw⟩)).depth=A.depth+1:=by
  first | rfl | simp[Around.under,Code.weight,Code.isCreation,Code.isGuard,Code.isCaller,Code.frames,Code.isFrame,guardIds]
theorem O8 {A:Around} {C:Addr} {us:List Value} {kw:List (Str×Value)}:(A.under (.builtin "type.__call__" ⟨.ref C::us,kw⟩)).units=A.units+1:=by
  first | rfl | simp[Around.under,Code.cUnits,Code.frames,Code.isFrame]
theorem Li {A:Around} {C:Addr} {us:List Value} {kw:List (Str×Value)}:(A.under (.builtin "type.__call__" ⟨.ref C::us,kw⟩)).guards=A.guards:=by
  first | rfl | simp[Around.under,Code.isGuard,guardIds]
theorem jJ.make {k:Nat} {A:Around} (r:jJ (k+1) A) (C:Addr) (us:List Value) (kw:List (Str×Value)):jJ k (A.under (.builtin "type.__call__" ⟨.ref C::us,kw⟩)):=
  ⟨r.hd,by have:=r.dp;rw[O7];omega,by have:=r.un;rw[O8];omega,by rw[Li];exact r.gd⟩
theorem jJ.depth {k:Nat} {A:Around} (r:jJ k A):A.depth<recursionLimit:=by have:=r.dp;omega
theorem jJ.units {k:Nat} {A:Around} (r:jJ k A):A.units+64<cLine:=by have:=r.un;omega
def O9:TA:=fun _ H Q=>Q [] H
def Ho (ta:TE) (tr:TA):TA:=fun σ H Q=>ta σ H fun x H1=>tr σ H1 fun xs H2=>Q (x::xs) H2
section
variable {X:Cx} {e:Expr} {es:List Expr} {te:TE} {t:TA} {pos:Pos}
theorem aq:PA X [] O9:=fun _ _ _ _ H Q I h=>Calls.spliced_nil ⟨[],H,I,.nil,h⟩
theorem aj (ha:PE X e te) (hr:PA X es t) (hs:starEach (e::es) X.env=(false,eval e X.env)::starEach es X.env:=by rfl):PA X (e::es) (Ho te t):=by
  intro pos p_ s σ H Q I h;rw[hs];show wpAny _ _ (spliced ((false,eval e X.env)::backTo pos (starEach es X.env))) _ _ s;refine Calls.spliced_cons (dD (ha p_ s σ H _ I h) fun u s1 zz=>?_);obtain⟨x,H1,I1,r1,q1⟩:=zz;refine dD (hr pos p_ s1 σ H1 _ I1 q1) fun us s2 zz=>?_;obtain⟨xs,H2,I2,r2,q2⟩:=zz;exact⟨x::xs,H2,I2,.cons r1 r2,q2⟩
def qfq (t:TA):TE:=fun σ H Q=>t σ H fun xs H1=>xs.length≤sizeLine∧∀p,H1 p=none→Q (.ref p) (upd H1 p (.tup xs))
def qfr (t:TA):TE:=fun σ H Q=>t σ H fun xs H1=>xs.length≤sizeLine∧∀p,H1 p=none→Q (.ref p) (upd H1 p (.lst xs))
theorem dH {x1} (h:PA X es t):PE X (.Tuple es x1 pos) (qfq t):=by
  intro p_ s σ H Q I hq;refine wpAny_Tuple_spliced (dD (h pos p_ s σ H _ I hq) fun us s1 zz=>?_);obtain⟨xs,H1,I1,r,z,q⟩:=zz;refine⟨by rw[← r.length];exact z,?_⟩;have hf:H1 s1.heap.objs.size=none:=I1.hok.fresh (Nat.le_refl _);refine⟨.ref s1.heap.objs.size,upd H1 s1.heap.objs.size (.tup xs),I1.laid (t':=s1.toks) (fun b u e=>Heap.get?_push_of_some _ e) (Nat.le_refl _) ?_,rfl,q _ hf⟩;exact⟨z,us,r,⟨_,Heap.get?_push_size _ rfl,rfl,_,rfl⟩⟩
theorem cV (h:PA X es t):PE X (.List es pos) (qfr t):=by
  intro p_ s σ H Q I hq;refine wpAny_List_spliced (dD (h pos p_ s σ H _ I hq) fun us s1 zz=>?_);obtain⟨xs,H1,I1,r,z,q⟩:=zz;refine⟨by rw[← r.length];exact z,?_⟩;have hf:H1 s1.heap.objs.size=none:=I1.hok.fresh (Nat.le_refl _);refine⟨.ref s1.heap.objs.size,upd H1 s1.heap.objs.size (.lst xs),I1.laid (t':=s1.toks) (fun b u e=>Heap.get?_push_of_some _ e) (Nat.le_refl _) ?_,rfl,q _ hf⟩;exact⟨z,us,0,r,Heap.get?_push_size _ rfl⟩
end
abbrev Sp:=List V→Hp→VK→XK→Prop
abbrev Wv:=List Env→Hp→Shared→XK→Value→Shared→Prop
structure O_ (P:Program) (w:World) (K:W.Frag) (mg:Str→Option Value) (base:Heap) (A:Around) (outer:List Env) (s:Shared) (H:Hp):Prop where
  frames:A.frames=some outer
  mod:Mod K mg base
  bs:∀b o,base.get? b=some o→s.heap.get? b=some o∧H b=none
  V3:base.objs.size≤s.heap.objs.size
  vD:s.heap.FunFrames base outer
  ZW:∀b∈frs outer,H b=none
  hok:tG P w H s.heap
  bare:AllBare s.gens
def CE (outer:List Env) (P:Program) (w:World) (H:Hp) (s:Shared) (Q:VK) (u:Value) (s':Shared):Prop:=
  ∃v H',s'.os=s.os∧AllBare s'.gens∧Un (frs outer) [] H H' s.heap s'.heap∧tG P w H' s'.heap∧RelV v u∧Q v H'
def CR (CX:Wv) (outer:List Env) (P:Program) (w:World) (H:Hp) (s:Shared) (Q:VK) (E:XK) (r:Result) (s':Shared):Prop:=
  match r with
  | .ok (.ret u)=>CE outer P w H s Q u s'
  | .ok _=>False
  | .error e=>CX outer H s E e s'
structure cD (P:Program) (w:World) (K:W.Frag) (mg:Str→Option Value) (base:Heap) (CX:Wv) (k:Nat) (f:Addr) (fd:FuncData) (ps:List Str) (sp:Sp):Prop where
  len:∀vs H Q E,sp vs H Q E→vs.length=ps.length
  run:∀(A:Around) (outer:List Env) (s:Shared) (H:Hp) (args:Args) (us:List Value) (vs:List V) (Q:VK) (E:XK),jJ k A→O_ P w K mg base A outer s H→BindsTo s fd args (ps.zip us)→Vals vs us→sp vs H Q E→
    codeAny (model P w) A (.call (.ref f) args) (CR CX outer P w H s Q E) s
theorem O_.make {P:Program} {w:World} {K:W.Frag} {mg:Str→Option Value} {base:Heap} {A:Around} {outer:List Env} {s:Shared} {H:Hp} (e:O_ P w K mg base A outer s H) (C:Addr) (us:List Value) (kw:List (Str×Value)) :
    O_ P w K mg base (A.under (.builtin "type.__call__" ⟨.ref C::us,kw⟩)) outer s H:=⟨by first | exact e.frames | (simpa [Around.under,Code.envs,Code.isFrame,pushEnvs] using e.frames),e.mod,e.bs,e.V3,e.vD,e.ZW,e.hok,e.bare⟩
section
variable {X:Cx} {p_:List (Addr×Obj)} {σ:St} {H:Hp} {s s':Shared}
theorem Inv.env0 (I:Inv X p_ σ H s):O_ X.prog X.w X.K X.mg X.base X.A X.stack s H:=
  ⟨I.ok.frames,I.ok.mod,I.bs,Nat.le_trans I.ok.V3 I.sz,I.stack,I.Bl,I.hok,I.bare⟩
theorem Inv.after {Q:VK} {u:Value} (I:Inv X p_ σ H s) (h:CE X.stack X.prog X.w H s Q u s'):EP X p_ σ Q u s':=by
  obtain⟨v,H',os,bare,un,hok,r,q⟩:=h;obtain⟨hh,g,d,t,os'⟩:=s';obtain rfl:os'=s.os:=os;exact⟨v,H',I.call (h':=hh) (g':=g) (d':=d) (t':=t) (ch:=[]) un hok bare (fun b z=>absurd z (by simp)),r,q⟩
end
def Ww (sp:Sp) (yU:List V) (E:XK) (t:TA):TE:=fun σ H Q=>t σ H fun vs H1=>sp (vs++yU) H1 Q E
def Wx (C:Addr) (m:Str) (sp:Sp) (yU:List V) (E:XK) (ta:TE) (t:TA):TE:=fun σ H Q=>ta σ H fun x H1=>∃a dx fs,x = .ref a∧H1 a=some (.ins C dx fs)∧fs.lookup m=none∧
  t σ H1 fun vs H2=>sp (x::(vs++yU)) H2 Q E
def Wy (C:Addr) (sp:Sp) (yU:List V) (E:XK) (t:TA):TE:=fun σ H Q=>t σ H fun vs H1=>∀x dx,H1 x=none→H1 dx=none→dx≠x→
  sp (.ref x::(vs++yU)) (upd (upd H1 dx (.own x)) x (.ins C dx [])) (fun v H2=>v = .non∧Q (.ref x) H2) E
def Binds (K:W.Frag) (fd:FuncData) (ps:List Str) (ds:List Value):Prop:=
  ∀(s:Shared) (us:List Value),K.In s.heap→(us++ds).length=ps.length→BindsTo s fd ⟨us,[]⟩ (ps.zip (us++ds))
theorem Binds.all {K:W.Frag} {fd:FuncData} {ps:List Str} (h:∀us:List Value,us.length=ps.length→bindArgs fd ⟨us,[]⟩=pure (ps.zip us)):Binds K fd ps []:=fun s us _ hl=>by
  rw[List.append_nil] at hl ⊢;exact .of_eq (h us hl)
def Passes (CX:Wv) (X:Cx) (E:XK):Prop:=∀(p_:List (Addr×Obj)) (σ:St) (H:Hp) (s:Shared) (e:Value) (s':Shared),Inv X p_ σ H s→CX X.stack H s E e s'→X.xe e s'
section
variable {X:Cx} {CX:Wv} {k:Nat} {f C:Addr} {fd:FuncData} {ps:List Str} {sp:Sp} {yU:List V} {ds:List Value} {E:XK} {x m:Str} {p pos apos:Pos} {e o:Expr} {es:List Expr} {ta:TE} {t:TA}
theorem Wz {p_:List (Addr×Obj)} {σ:St} {H:Hp} {s:Shared} {Q:VK} {us:List Value} {vs:List V} (F:cD X.prog X.w X.K X.mg X.base CX k f fd ps sp) (hr:jJ k X.A) (hb:Binds X.K fd ps ds) (hd:Vals yU ds) (hx:Passes CX X E)
    (I:Inv X p_ σ H s) (r:Vals vs us) (h:sp (vs++yU) H Q E):wpAny (model X.prog X.w) X.A (call (.ref f) us) (EP X p_ σ Q) X.xe s:=by
  have r2:Vals (vs++yU) (us++ds):=r.append hd;have hl:(us++ds).length=ps.length:=by rw[← r2.length];exact F.len _ _ _ _ h
  refine wpAny_call (codeAny_mono (F.run X.A X.stack s H ⟨us,[]⟩ (us++ds) (vs++yU) Q E hr I.env0 (hb s us I.pZ hl) r2 h) fun r s' hq=>?_);cases r with
  | error e=>exact hx p_ σ H s e s' I hq
  | ok fl=>
    cases fl with
    | ret u=>exact I.after hq
    | next=>exact False.elim hq
    | brk=>exact False.elim hq
    | cont=>exact False.elim hq
theorem aO (F:cD X.prog X.w X.K X.mg X.base CX k f fd ps sp) (hr:jJ k X.A) (hg:Gl X x) (hm:X.mg x=some (.ref f)) (hk:W.keepIn X.K (.ref f)=true) (hb:Binds X.K fd ps ds) (hd:Vals yU ds) (hx:Passes CX X E)
    (ha:PA X (e::es) t) (hdb:(x == ("__debug__" : Str))=false:=by decide) (he:starEach (e::es) X.env=(false,eval e X.env)::starEach es X.env:=by rfl) (hpl:(backTo pos (starEach es X.env)).any (·.1)=false:=by rfl) :
    PE X (.Call (.Name x p) (e::es) [] pos) (Ww sp yU E t):=by
  intro p_ s σ H Q I h;refine wpAny_Call_Name_kw (nH I hg hm ?_ hdb);refine W.callWith_K (h₀:=X.base) I.ok.mod.K9 hk (dD (ha pos p_ s σ H _ I h) fun us s1 zz=>?_) he hpl;obtain⟨vs,H1,I1,r,q⟩:=zz;refine⟨I1.pZ,?_⟩;exact Wz F hr hb hd hx I1 r q
theorem fZ {pl:Sem Bool} (he:PE X o ta) (c:Cls X.K C) (hm:Meth X.K C m f) (F:cD X.prog X.w X.K X.mg X.base CX k f fd ps sp) (hr:jJ k X.A) (hb:Binds X.K fd ps ds) (hd:Vals yU ds) (hx:Passes CX X E)
    (ht:eval (.Call (.Attribute o m apos) [] [] pos) X.env=(do
      let ov ← eval o X.env
      standAt apos.atName
      let (f,first) ← holding [ov] (getMethod ov m pl)
      callWith pos f first (backTo pos (starEach [] X.env)) (backToKw pos (keywordEach [] X.env))):=by rfl) :
    PE X (.Call (.Attribute o m apos) [] [] pos) (Wx C m sp yU E ta O9):=by
  intro p_ s σ H Q I h;refine W.methodCall_KW (pl:=pl) (dD (he p_ s σ H _ I h) fun u s1 zz=>?_) ht;obtain⟨x,H1,I1,rx,a,dx,fs,ex,ea,l,q⟩:=zz;subst ex;obtain rfl:u=Value.ref a:=rx;refine O5 I1 ea c hm l ?_;exact W.callWith_K0 (first:=[.ref a]) I1.pZ hm.kp (Wz (us:=[.ref a]) (vs:=[.ref a]) F hr hb hd hx I1 (.cons rfl .nil) q)
structure Mk (K:W.Frag) (C f:Addr):Prop where
  makes:W.makesIn K C=true
  init:W.findIn K (.ref C) "__init__" = some (some (.ref f))
  fn:W.isFn K (.ref f)=true
  kp:W.keepIn K (.ref C)=true
theorem WD {p_:List (Addr×Obj)} {σ:St} {H:Hp} {s:Shared} {Q:VK} {us:List Value} {vs:List V} (M:Mk X.K C f) (F:cD X.prog X.w X.K X.mg X.base CX k f fd ps sp) (hr:jJ (k+1) X.A) (hb:Binds X.K fd ps ds) (hd:Vals yU ds)
    (hx:Passes CX X E) (I:Inv X p_ σ H s) (r:Vals vs us)
    (h:∀x dx,H x=none→H dx=none→dx≠x→sp (.ref x::(vs++yU)) (upd (upd H dx (.own x)) x (.ins C dx [])) (fun v H2=>v = .non∧Q (.ref x) H2) E) :
    wpAny (model X.prog X.w) X.A (call (.ref C) us) (EP X p_ σ Q) X.xe s:=by
  have hq:=h (s.heap.objs.size+1) s.heap.objs.size (I.hok.fresh (Nat.le_succ _)) (I.hok.fresh (Nat.le_refl _)) (Nat.ne_of_lt (Nat.lt_succ_self _));have I2:=Inv.made (C:=C) I;have r2:Vals (V.ref (s.heap.objs.size+1)::(vs++yU)) (Value.ref (s.heap.objs.size+1)::(us++ds)):=.cons rfl (r.append hd);have hl:(Value.ref (s.heap.objs.size+1)::us++ds).length=ps.length:=by
    have e:=r2.length;rw[F.len _ _ _ _ hq] at e;exact e.symm
  refine wpAny_call (Wu (f:=f) I.pZ M.makes M.init (beq_iff_eq.mp M.fn) (codeAny_mono (F.run _ X.stack _ _ ⟨Value.ref (s.heap.objs.size+1)::us,[]⟩ (Value.ref (s.heap.objs.size+1)::(us++ds)) _ _ E (hr.make C us [])
    (I2.env0.make C us []) (hb _ (Value.ref (s.heap.objs.size+1)::us) I2.pZ hl) r2 hq) fun r s' hq'=>?_))
  cases r with
  | error e=>exact hx p_ σ _ _ e s' I2 hq'
  | ok fl=>
    cases fl with
    | ret u=>
      obtain⟨v,H',I3,rv,ev,q3⟩:=I2.after hq';subst ev;exact⟨rv,⟨V.ref (s.heap.objs.size+1),H',I3,rfl,q3⟩⟩
    | next=>exact False.elim hq'
    | brk=>exact False.elim hq'
    | cont=>exact False.elim hq'
theorem Rm (M:Mk X.K C f) (F:cD X.prog X.w X.K X.mg X.base CX k f fd ps sp) (hr:jJ (k+1) X.A) (hg:Gl X x) (hm:X.mg x=some (.ref C)) (hb:Binds X.K fd ps ds) (hd:Vals yU ds) (hx:Passes CX X E)
    (ha:PA X (e::es) t) (hdb:(x == ("__debug__" : Str))=false:=by decide) (he:starEach (e::es) X.env=(false,eval e X.env)::starEach es X.env:=by rfl) (hpl:(backTo pos (starEach es X.env)).any (·.1)=false:=by rfl) :
    PE X (.Call (.Name x p) (e::es) [] pos) (Wy C sp yU E t):=by
  intro p_ s σ H Q I h;refine wpAny_Call_Name_kw (nH I hg hm ?_ hdb);refine W.callWith_K (h₀:=X.base) I.ok.mod.K9 M.kp (dD (ha pos p_ s σ H _ I h) fun us s1 zz=>?_) he hpl;obtain⟨vs,H1,I1,r,q⟩:=zz;refine⟨I1.pZ,?_⟩;exact WD M F hr hb hd hx I1 r q
end
structure bA (N P:List Str) (sc:Scope):Prop where
  kind:sc.kind = .function
  co:sc.isCoroutine=false
  gen:sc.isGenerator=false
  nd:N.Nodup
  pre:N.take P.length=P
  par:∀x∈P,sc.names.lookup x=some .local∨sc.names.lookup x=some .cell
  qcK:∀y∈sc.names,y.2≠.free
theorem Hq {kindOf:Str→Option NameKind} {x:Str}:∀{binds:List (Str×Value)} {m:Str→Option Value},(∀v,(x,v)∉binds)→bindL kindOf binds m x=m x
  | [],_,_=>rfl
  | (n,v)::r,m,h=>by
    unfold bindL;rw[Hq fun w hw=>h w (List.mem_cons_of_mem _ hw)];split
    · have:x≠n:=by rintro rfl;exact h v List.mem_cons_self
      simp[this]
    ·rfl
theorem Hr {kindOf:Str→Option NameKind} {x:Str}:∀{binds:List (Str×Value)} {m:Str→Option Value},(∀v,(x,v)∉binds)→bindC kindOf binds m x=m x
  | [],_,_=>rfl
  | (n,v)::r,m,h=>by
    unfold bindC;rw[Hr fun w hw=>h w (List.mem_cons_of_mem _ hw)];split
    ·rfl
    · have:x≠n:=by rintro rfl;exact h v List.mem_cons_self
      simp[this]
theorem Hs {kindOf:Str→Option NameKind} {x:Str} {v:Value}:∀{P:List Str} {vs:List Value} {i:Nat} {m:Str→Option Value},P.Nodup→P[i]? = some x→vs[i]? = some v→kindOf x=some .local→
    bindL kindOf (P.zip vs) m x=some v
  | [],_,_,_,_,h,_,_=>by simp at h
  | _::_,[],_,_,_,_,h,_=>by simp at h
  | p::P,w::vs,0,m,nd,h1,h2,hk=>by
    simp at h1 h2;subst h1;subst h2;show bindL kindOf ((p,w)::P.zip vs) m p=_;unfold bindL;rw[Hq fun v hv=>(List.nodup_cons.mp nd).1 (List.of_mem_zip hv).1,if_pos hk];simp
  | p::P,w::vs,i+1,m,nd,h1,h2,hk=>by
    show bindL kindOf ((p,w)::P.zip vs) m x=_;unfold bindL;exact Hs (i:=i) (List.nodup_cons.mp nd).2 (by simpa using h1) (by simpa using h2) hk
theorem Ht {kindOf:Str→Option NameKind} {x:Str} {v:Value}:∀{P:List Str} {vs:List Value} {i:Nat} {m:Str→Option Value},P.Nodup→P[i]? = some x→vs[i]? = some v→kindOf x≠some .local→
    bindC kindOf (P.zip vs) m x=some v
  | [],_,_,_,_,h,_,_=>by simp at h
  | _::_,[],_,_,_,_,h,_=>by simp at h
  | p::P,w::vs,0,m,nd,h1,h2,hk=>by
    simp at h1 h2;subst h1;subst h2;show bindC kindOf ((p,w)::P.zip vs) m p=_;unfold bindC;rw[Hr fun v hv=>(List.nodup_cons.mp nd).1 (List.of_mem_zip hv).1,if_neg hk];simp
  | p::P,w::vs,i+1,m,nd,h1,h2,hk=>by
    show bindC kindOf ((p,w)::P.zip vs) m x=_;unfold bindC;exact Ht (i:=i) (List.nodup_cons.mp nd).2 (by simpa using h1) (by simpa using h2) hk
def start (N:List Str) (vs:List V):St:=vs.map some++List.replicate (N.length - vs.length) none
def aA (CX:Wv) (P:Program) (w:World) (K:W.Frag) (mg:Str→Option Value) (base:Heap) (N:List Str) (qual:Str) (scope:Scope) (f:Addr) (cd:Value) (A:Around) (outer:List Env) (s:Shared) (H:Hp) (E:XK):Cx where
  prog:=P
  w:=w
  K:=K
  mg:=mg
  base:=base
  A:=A.deeper (envOfC qual scope s.heap.objs.size f cd)
  N:=N
  s₀:=s
  H₀:=H
  env:=envOfC qual scope s.heap.objs.size f cd
  outer:=outer
  stack:=envOfC qual scope s.heap.objs.size f cd::outer
  ex:=[]
  calm:=true
  fn:=fun _=>true
  pn:=[]
  xe:=fun e s'=>wpAny (model P w) (A.deeper (envOfC qual scope s.heap.objs.size f cd)) (leaving (envOfC qual scope s.heap.objs.size f cd) e) (fun _ s''=>CX outer H s E e s'') (fun e' s''=>CX outer H s E e' s'') s'
theorem Lj {sc:Scope} {n:Nat} {x:Str} (h:sc.names.lookup x=some .cell):∃c,(cellsFrom n sc.names []).lookup x=some c:=by
  have q:=W.cellsFrom_some sc.names n [] (.inl h);exact Option.isSome_iff_exists.mp q
theorem Tt {CX:Wv} {P:Program} {w:World} {K:W.Frag} {mg:Str→Option Value} {base:Heap} {N ps:List Str} {qual:Str} {scope:Scope} {f:Addr} {cd:Value} {A:Around} {outer:List Env} {s s1:Shared} {H:Hp} {E:XK} {us:List Value} {vs:List V}
    (S:bA N ps scope) (hd:A.handled=none) (e0:O_ P w K mg base A outer s H) (hl:vs.length=ps.length) (r:Vals vs us)
    (x:InCallC s s.heap.objs.size (bindL (envOfC qual scope s.heap.objs.size f cd).kindOf (ps.zip us) fun _=>none) (cellsFrom (s.heap.objs.size+1) scope.names []) (bindC (envOfC qual scope s.heap.objs.size f cd).kindOf (ps.zip us) fun _=>none) s1) :
    Inv (aA CX P w K mg base N qual scope f cd A outer s H E) [] (start N vs) H s1:=by
  have hpl:ps.length≤N.length:=by have:=congrArg List.length S.pre;rw[List.length_take] at this;omega
  obtain⟨h1,tk,rfl,hk⟩:=x.done;have noA:∀b:Addr,b∉(aA CX P w K mg base N qual scope f cd A outer s H E).ex:=fun b z=>absurd (show b∈([]:List Addr) from z) (by simp);refine⟨⟨e0.mod,S.kind,rfl,rfl,Nat.le_refl _,fun y z c h1 h2=>?_,fun y hy=>?_,fun y c _ h=>?_,fun _=>hd,Around.frames_deeper e0.frames,.inr ⟨rfl,rfl⟩,fun b z=>absurd z (noA b),e0.bs,e0.V3,fun b _ _=>noA b,fun b z=>absurd z (noA b),e0.vD,e0.ZW⟩,
    rfl,e0.bare,Un.kept hk,⟨_,x.toInCall.ns,fun i y v h1 h2 h3=>?_⟩,fun y c h=>⟨_,x.cell y c h⟩,e0.hok.fresh (Nat.le_refl _),fun y c h=>?_,fun p hp=>absurd (show p∈([]:List (Addr×Obj)) from hp) (by simp),e0.hok.kept hk,?_⟩
  ·exact name_of_addr x.apart (PySem.mem_of_lookup h1) (PySem.mem_of_lookup h2)
  · have hy:scope.names.lookup y=some .cell∨scope.names.lookup y=some .free:=hy
    rcases hy with hy | hy
    ·exact Lj hy
    ·exact absurd rfl (S.qcK _ (PySem.mem_of_lookup hy))
  ·exact Nat.le_of_lt (x.above y c (PySem.mem_of_lookup h))
  · have hi:i<vs.length:=by
      unfold start at h2
      by_cases hi:i<vs.length
      ·exact hi
      ·rw[List.getElem?_append_right (by simpa using hi)] at h2;rw[List.getElem?_replicate] at h2;split at h2 <;> cases h2
    have ha:vs[i]? = some v:=by
      unfold start at h2;rw[List.getElem?_append_left (by simpa using hi),List.getElem?_map] at h2;cases e:vs[i]? with
      | none=>rw[e] at h2;cases h2
      | some a=>rw[e] at h2;cases h2;rfl
    obtain⟨u,hu,rv⟩:=r.get ha;have hp:ps[i]? = some y:=by
      rw[← S.pre,List.getElem?_take_of_lt (by omega)];exact h1
    have ndP:ps.Nodup:=by rw[← S.pre];exact S.nd.sublist (List.take_sublist _ _)
    refine⟨u,rv,?_⟩
    rcases S.par y (List.mem_of_getElem? hp) with k | k
    ·exact .inl ⟨k,Hs ndP hp hu k⟩
    ·obtain⟨c,e⟩:=Lj (n:=s.heap.objs.size+1) k;refine .inr ⟨.inl k,c,e,?_⟩;have q:=x.cell y c e;rw[Ht ndP hp hu (by show scope.names.lookup y≠_;rw[k];decide)] at q;exact q
  ·exact e0.hok.fresh (Nat.le_of_lt (x.above y c (PySem.mem_of_lookup h)))
  ·unfold start;show _=N.length;rw[List.length_append,List.length_map,List.length_replicate];omega
theorem qbC {CX:Wv} {P:Program} {w:World} {K:W.Frag} {mg:Str→Option Value} {base:Heap} {k:Nat} {f:Addr} {name qual:Str} {params:Arguments} {body:List Stmt} {scope:Scope} {dV kV doc pm cdv ct oc:Value} {an od:Option Addr}
    {osl:Array (Option Value)} {N ps:List Str} {sp:Sp} (lk:K.lookup f=some ⟨oc,od,.func (W.fnOf name qual params body scope dV kV doc pm an cdv ct),osl⟩) (hcd:W.codeIn K cdv qual=true) (S:bA N ps scope)
    (len:∀vs H Q E,sp vs H Q E→vs.length=ps.length)
    (hbody:∀(A:Around) (outer:List Env) (s:Shared) (H:Hp) (vs:List V) (Q:VK) (E:XK),jJ k (A.deeper (envOfC qual scope s.heap.objs.size f cdv))→sp vs H Q E→
      ∃t,G_ (aA CX P w K mg base N qual scope f cdv A outer s H E) body t∧t {nx:=fun _ H'=>Q .non H',rt:=Q} (start N vs) H) :
    cD P w K mg base CX (k+1) f (W.fnOf name qual params body scope dV kV doc pm an cdv ct) ps sp:=by
  refine⟨len,fun A outer s H args us vs Q E hr e0 hb r hsp=>?_⟩;have hl:=len _ _ _ _ hsp;have KX:K.In s.heap:=e0.mod.K9.keeps fun b o e=>(e0.bs b o e).1;have lim:s.heap.NoLimit:=e0.mod.nolimit.keeps fun b o e=>(e0.bs b o e).1;have hkind:∀y∈ps.zip us,scope.names.lookup y.1=some .local∨(scope.names.lookup y.1=some .cell∧((cellsFrom (s.heap.objs.size+1) scope.names []).lookup y.1).isSome=true):=fun⟨n,v⟩ hy=>by
    rcases S.par n (List.of_mem_zip hy).1 with q | q
    ·exact .inl q
    ·exact .inr ⟨q,W.cellsFrom_some _ _ _ (.inl q)⟩
  refine codeAny_call_function hr.depth (KX _ _ lk) rfl S.co S.gen rfl (W.codeRec_of KX hcd) (hb _ _ _ _ ?_);refine wpAny_newFunctionEnv_cells S.kind hkind fun env he s1 x=>?_;subst he;refine⟨lim.keeps x.toInCall.keep,codeAny_func ?_⟩;obtain⟨t,ht,hq⟩:=hbody A outer s H vs Q E (hr.deeper _) hsp;have I:Inv (aA CX P w K mg base N qual scope f cdv A outer s H E) [] (start N vs) H s1:=Tt S hr.hd e0 hl r x;refine wpAny_mono (ht [] s1 (start N vs) H _ I hq) (fun fl s' hs=>?_) fun e s' hs=>hs;have fin:∀{σ':St} {H':Hp} {v:V} {u:Value},Inv (aA CX P w K mg base N qual scope f cdv A outer s H E) [] σ' H' s'→RelV v u→Q v H'→CE outer P w H s Q u s':=
    fun {σ' H' v u} J rv q=>⟨v,H',J.os,J.bare,J.base,J.hok,rv,q⟩
  cases fl with
  | ret u=>
    obtain⟨v,σ',H',J,rv,q⟩:=hs;exact fin J rv q
  | next=>
    obtain⟨σ',H',J,q⟩:=hs;exact fin (v:=V.non) (u:=Value.none) J rfl q
  | brk=>
    obtain⟨_,_,_,q⟩:=hs;exact False.elim q
  | cont=>
    obtain⟨_,_,_,q⟩:=hs;exact False.elim q
section
variable {X:Cx} {x:Str} {p pos:Pos} {e:Expr} {es:List Expr} {t:TA} {id T:String} {r:List V→Hp→VK→Prop}
def tCB (r:List V→Hp→VK→Prop) (t:TA):TE:=fun σ H Q=>t σ H fun vs H1=>r vs H1 Q
theorem aM (hc:cJ X (.builtin id) r) (hg:Gl X x) (hm:X.mg x=none) (hv:bootBuiltins x=some (.builtin id)) (ha:PA X (e::es) t) (hn:x≠ "__name__" :=by decide) (hdb:(x == ("__debug__" : Str))=false:=by decide)
    (he:starEach (e::es) X.env=(false,eval e X.env)::starEach es X.env:=by rfl) (hpl:(backTo pos (starEach es X.env)).any (·.1)=false:=by rfl):PE X (.Call (.Name x p) (e::es) [] pos) (tCB r t):=by
  intro p_ s σ H Q I h;refine wpAny_Call_Name_kw (oM I hg hm hv ?_ hn hdb);refine PyProof.Rows.callWith_builtin1 (dD (ha pos p_ s σ H _ I h) fun us s1 zz=>?_) he hpl;obtain⟨vs,H1,I1,r1,q1⟩:=zz;exact hc p_ s1 σ H1 vs us Q I1 r1 q1
theorem fQ (hc:cJ X (.type T) r) (hg:Gl X x) (hm:X.mg x=none) (hv:bootBuiltins x=some (.type T)) (ha:PA X (e::es) t) (hn:x≠ "__name__" :=by decide) (hdb:(x == ("__debug__" : Str))=false:=by decide)
    (he:starEach (e::es) X.env=(false,eval e X.env)::starEach es X.env:=by rfl) (hpl:(backTo pos (starEach es X.env)).any (·.1)=false:=by rfl):PE X (.Call (.Name x p) (e::es) [] pos) (tCB r t):=by
  intro p_ s σ H Q I h;refine wpAny_Call_Name_kw (oM I hg hm hv ?_ hn hdb);refine PyProof.Rows.callWith_type1 (dD (ha pos p_ s σ H _ I h) fun us s1 zz=>?_) he hpl;obtain⟨vs,H1,I1,r1,q1⟩:=zz;exact hc p_ s1 σ H1 vs us Q I1 r1 q1
end
end L2
namespace HT
open PySem PyProof.Rows
section
variable {prog:Program} {w:World} {A:Around} {E:Value→Shared→Prop} {s:Shared}
def Ab (n d:Nat):Option Int→Nat
  | none=>d
  | some v=>if v<0 then (v+(n:Int)).toNat else min v.toNat n
end
end HT
namespace L2
open PySem PySem.Spec PyProof.Rows
abbrev TO:=St→Hp→(Option Int→Hp→Prop)→Prop
def PO (X:Cx) (e:Option Expr) (t:TO):Prop:=
  ∀(p_:List (Addr×Obj)) (s:Shared) (σ:St) (H:Hp) (Q:Option Int→Hp→Prop),Inv X p_ σ H s→t σ H Q→
    wpAny (model X.prog X.w) X.A (evalPart e X.env) (fun u s'=>∃o H',Inv X p_ σ H' s'∧IsPart u o∧Q o H') X.xe s
def Rn:TO:=fun _ H Q=>Q none H
def WK (t:TE):TO:=fun σ H Q=>t σ H fun x H1=>∃i,x = .int i∧Q (some i) H1
theorem intsAre_of {ns:List Int}:∀{us:List Value},Vals (ns.map V.int) us→IntsAre us ns:=by
  induction ns with
  | nil=>intro us r;rw[List.map_nil] at r;cases r;exact .nil
  | cons n ns ih=>
    intro us r;rw[List.map_cons] at r;cases r with
    | cons r1 r2=>
      obtain⟨t,e⟩:=r1;subst e;exact .cons n t (ih r2)
section
variable {X:Cx} {e:Expr} {te:TE} {lo hi:Option Expr} {tl th:TO} {pos p2:Pos}
theorem mK:PO X none Rn:=by
  intro p_ s σ H Q I h;rw[evalPart_none];exact wpAny_pure ⟨none,H,I,.none,h⟩
theorem jQ (h:PE X e te):PO X (some e) (WK te):=by
  intro p_ s σ H Q I hw;rw[evalPart_some];refine dD (h p_ s σ H _ I hw) fun u s1 zz=>?_;obtain⟨x,H1,I1,r1,q1⟩:=zz;obtain⟨i,rfl,q⟩:=q1;obtain⟨t,rfl⟩:=r1;exact⟨some i,H1,I1,.int i t,q⟩
def SlR (X:Cx) (r:V→Option Int→Option Int→Hp→VK→Prop):Prop:=
  ∀(p_:List (Addr×Obj)) (s:Shared) (σ:St) (H:Hp) (x:V) (v vl vu:Value) (lo hi:Option Int) (sl:Addr) (Q:VK),Inv X p_ σ H s→RelV x v→s.heap.IsSliceOf sl vl vu .none→IsPart vl lo→IsPart vu hi→r x lo hi H Q→
    ∃T id,typeLookup (.type T) "__getitem__" = pure (some (.builtin id))∧s.TypeIs v T∧wpAny (model X.prog X.w) X.A (getItem v (.ref sl)) (EP X p_ σ Q) X.xe s
def tSl (r:V→Option Int→Option Int→Hp→VK→Prop) (te:TE) (tl th:TO):TE:=fun σ H Q=>te σ H fun x H1=>tl σ H1 fun l H2=>th σ H2 fun u H3=>r x l u H3 Q
theorem jg {r:V→Option Int→Option Int→Hp→VK→Prop} (hr:SlR X r) (he:PE X e te) (hl:PO X lo tl) (hu:PO X hi th):PE X (.Subscript e (.Slice lo hi none p2) pos) (tSl r te tl th):=by
  intro p_ s σ H Q I h;refine Subscript_ (dD (he p_ s σ H _ I h) fun v s1 zz=>?_);obtain⟨x,H1,I1,r1,q1⟩:=zz;refine wpAny_Slice (dD (hl p_ s1 σ H1 _ I1 q1) fun vl s2 ⟨l,H2,I2,pl,q2⟩=>dD (hu p_ s2 σ H2 _ I2 q2) fun vu s3 ⟨u,H3,I3,pu,q3⟩=>?_);rw[evalPart_none];refine wpAny_pure ?_;have I4:Inv X p_ σ H3 {s3 with heap:=s3.heap.push {cls:=.type "slice",data:=.fields #[vl,vu,.none]}}:=I3.kept (t':=s3.toks) fun b ob q=>Heap.get?_push_of_some _ q;obtain⟨T,id,hT,ht,hg⟩:=hr p_ {s3 with heap:=s3.heap.push {cls:=.type "slice",data:=.fields #[vl,vu,.none]}} σ H3 x v vl vu l u s3.heap.objs.size Q I4 r1 (Heap.IsSliceOf.new ..) pl pu q3;show wpAny (model X.prog X.w) X.A (subscriptTail e (.Slice lo hi none p2) v (.ref s3.heap.objs.size)) (EP X p_ σ Q) X.xe {s3 with heap:=s3.heap.push {cls:=.type "slice",data:=.fields #[vl,vu,.none]}};exact tail_any (ops:=[.ref s3.heap.objs.size,v]) ht hT hg (by with_unfolding_all rfl)
def qF (xs:List V) (lo hi:Option Int):List V:=(xs.drop (HT.Ab xs.length 0 lo)).take (HT.Ab xs.length xs.length hi - HT.Ab xs.length 0 lo)
theorem Lk (xs:List V) (lo hi:Option Int):(qF xs lo hi).length≤xs.length:=by
  unfold qF;rw[List.length_take,List.length_drop];omega
end
def Tv (n:Nat) (i:Int):Option Nat:=if 0≤i then (if i<n then some i.toNat else none) else if -(n:Int)≤i then some (i+n).toNat else none
def xG {α:Type} (xs:List α) (i:Int):Option α:=(Tv xs.length i).bind fun j=>xs[j]?
theorem Ro {n:Nat} {i:Int} {j:Nat} (h:Tv n i=some j):seqIndex? i n=some j∧j<n∧-(n:Int)≤i∧i<n:=by
  unfold Tv at h
  by_cases h0:0≤i
  · rw[if_pos h0] at h
    by_cases h1:i<n
    ·rw[if_pos h1] at h;have e:i.toNat=j:=Option.some.inj h;exact⟨by rw[seqIndex_of h0 h1,e],by omega,by omega,h1⟩
    ·rw[if_neg h1] at h;cases h
  · rw[if_neg h0] at h
    by_cases h1 : -(n:Int)≤i
    ·rw[if_pos h1] at h;have e:(i+n).toNat=j:=Option.some.inj h;exact⟨by rw[seqIndex_neg (by omega) h1,e],by omega,h1,by omega⟩
    ·rw[if_neg h1] at h;cases h
theorem Jh {α:Type} {xs:List α} {i:Int} {v:α} (h:xG xs i=some v):∃j,seqIndex? i xs.length=some j∧xs[j]? = some v∧j<xs.length∧-(xs.length:Int)≤i∧i<xs.length:=by
  unfold xG at h;cases e:Tv xs.length i with
  | none=>rw[e] at h;cases h
  | some j=>
    rw[e] at h;obtain⟨h1,h2,h3,h4⟩:=Ro e;exact⟨j,h1,h,h2,h3,h4⟩
theorem aP {α:Type} {xs:List α} {j:Nat} {v:α} (h:xs[j]? = some v):xG xs (j:Int)=some v:=by
  have hj:j<xs.length:=(List.getElem?_eq_some_iff.mp h).1;have e:Tv xs.length (j:Int)=some j:=by
    unfold Tv;rw[if_pos (by omega),if_pos (by omega)];simp
  unfold xG;rw[e];exact h
theorem Ln {α:Type} (xs:List α) (v:α):xG (xs++[v]) (-1)=some v:=by
  have hl:(xs++[v]).length=xs.length+1:=by simp
  have e:Tv (xs++[v]).length (-1)=some xs.length:=by
    unfold Tv;rw[hl,if_neg (by decide),if_pos (by omega)];congr 1;omega
  unfold xG;rw[e];show(xs++[v])[xs.length]? = some v;simp
def qal (b:Expr):Prop:=∀o i,subscripted b false o i=operate [o,i] (getItem o i)
def WL (X:Cx) (r:R2):Prop:=
  ∀(value slice:Expr) (p_:List (Addr×Obj)) (s:Shared) (σ:St) (H:Hp) (x y:V) (v u:Value) (Q:VK),Inv X p_ σ H s→RelV x v→RelV y u→r x y H Q→
    subscripted slice false v u=operate [v,u] (getItem v u)→wpAny (model X.prog X.w) X.A (subscriptTail value slice v u) (EP X p_ σ Q) X.xe s
def K4 (X:Cx) (id:String) (r:V→List V→Hp→VK→Prop):Prop:=
  ∀(p_:List (Addr×Obj)) (s:Shared) (σ:St) (H:Hp) (x:V) (xs:List V) (v:Value) (us:List Value) (Q:VK),Inv X p_ σ H s→RelV x v→Vals xs us→r x xs H Q→
    wpAny (model X.prog X.w) X.A (call (.builtin id) (v::us)) (EP X p_ σ Q) X.xe s
section
variable {X:Cx} {a b:Expr} {ta tb:TE} {pos:Pos}
theorem bC {r:R2} (hr:WL X r) (ha:PE X a ta) (hb:PE X b tb) (hs:qal b):PE X (.Subscript a b pos) (V6 r ta tb):=by
  intro p_ s σ H Q I h;exact Subscript_ (qcz ha hb I h fun v u s2 x y H2 I2 rx ry q=>hr a b p_ s2 σ H2 x y v u Q I2 rx ry q (hs _ _))
def qlj (K:W.Frag):R2:=fun x y H Q=>∃p xs i v,x = .ref p∧y = .int i∧aY K H p xs∧xG xs i=some v∧Q v H
def qlk (K:W.Frag):R2:=fun x y H Q=>∃p xs i v,x = .ref p∧y = .int i∧cM K H p xs∧xG xs i=some v∧Q v H
def qfs:R2:=fun x y H Q=>∃z i c,x = .str z∧y = .int i∧z.length≤sizeLine∧xG z.cps.toList i=some c∧Q (.str ⟨#[c]⟩) H
theorem qam:WL X (qlj X.K):=by
  intro value slice p_ s σ H x y v u Q I rx ry h hs;obtain⟨p,xs,i,z,rfl,rfl,hq,he,q⟩:=h;cases rx;obtain⟨t,rfl⟩:=ry;obtain⟨its,r,pl,hz⟩:=I.list hq;obtain⟨j,h1,h2,h3,h4,h5⟩:=Jh he;obtain⟨w,ew,WM⟩:=r.get h2;have hl:=r.length;have hn:=wz;have fin:EP X p_ σ Q w s:=⟨z,H,I,WM,q⟩
  by_cases h0:0≤i
  · have hj:i.toNat=j:=by
      rw[seqIndex_of h0 h5] at h1;exact Option.some.inj h1
    exact item_listR pl.isList h0 (by omega) (by rw[hj];simpa using ew) fin hs
  · have hj:(i+(its.toArray.size:Int)).toNat=j:=by
      rw[seqIndex_neg (by omega) h4] at h1;rw[List.size_toArray,← hl];exact Option.some.inj h1
    exact subscriptTail_builtinR (x:=w) pl.isList.typeIs slot_list_getitem.lookup
      (wpAny_getItem_list_neg (Q:=fun r s'=>r=w∧EP X p_ σ Q r s') pl.isList (by omega) (by rw[List.size_toArray] <;> omega) (by omega) (by rw[hj];simpa using ew) ⟨rfl,fin⟩) hs
theorem qcL:WL X (qlk X.K):=by
  intro value slice p_ s σ H x y v u Q I rx ry h hs;obtain⟨p,xs,i,z,rfl,rfl,hq,he,q⟩:=h;cases rx;obtain⟨t,rfl⟩:=ry;obtain⟨its,r,pl,hz⟩:=I.tuple hq;obtain⟨j,h1,h2,h3,h4,h5⟩:=Jh he;obtain⟨w,ew,WM⟩:=r.get h2;have hl:=r.length;have hn:=wz;have fin:EP X p_ σ Q w s:=⟨z,H,I,WM,q⟩;exact subscriptTail_builtinR (x:=w) pl.typeIs slot_tuple_getitem.lookup
    (getItem_tuple (j:=j) (Q:=fun r s'=>r=w∧EP X p_ σ Q r s') pl (by omega) (by omega) (by rw[List.size_toArray,← hl];exact h1) (by simpa using ew) ⟨rfl,fin⟩) hs
theorem qcM:WL X qfs:=by
  intro value slice p_ s σ H x y v u Q I rx ry h hs;obtain⟨z,i,c,rfl,rfl,hz,he,q⟩:=h;obtain⟨t,rfl⟩:=rx;obtain⟨t',rfl⟩:=ry;obtain⟨j,h1,h2,h3,h4,h5⟩:=Jh he;have hl:z.cps.toList.length=z.length:=by simp[Str.length]
  rw[hl] at h1 h4 h5;have hn:=wz;exact tail_any (typeIs_str s z t) slot_str_getitem.lookup (getItem_str (c:=c) (by
    have e1:decide (i < -(2 ^ 63:Int))=false:=decide_eq_false (by omega);have e2:decide (i≥2 ^ 63)=false:=decide_eq_false (by omega);rw[e1,e2,Bool.or_false]) (by rw[h1];simpa using h2) ⟨.str ⟨#[c]⟩,H,I.tok _,⟨_,rfl⟩,q⟩) hs
theorem Pb (its:List Value) (n j:Nat) (u:Value):Obj.mapSeq (·.setIfInBounds j u) {cls:=.type "list",data:=.seq its.toArray n}={cls:=.type "list",data:=.seq (its.set j u).toArray n}:=by
  simp[Obj.mapSeq]
theorem Inv.lst {p_:List (Addr×Obj)} {σ:St} {H:Hp} {s:Shared} {p:Addr} {xs:List V} (I:Inv X p_ σ H s) (h:H p=some (.lst xs)) :
    ∃(its:List Value) (n:Nat),Vals xs its∧s.heap.get? p=some {cls:=.type "list",data:=.seq its.toArray n}∧xs.length≤sizeLine:=by
  obtain⟨z,its,n,r,e⟩:=I.hok p _ h;exact⟨its,n,r,e,z⟩
theorem Inv.qcN {p_:List (Addr×Obj)} {σ:St} {H:Hp} {s:Shared} {p:Addr} {xs ys:List V} {its its':List Value} {n n':Nat} {f:Obj→Obj} (I:Inv X p_ σ H s) (h:H p=some (.lst xs))
    (ho:s.heap.get? p=some {cls:=.type "list",data:=.seq its.toArray n}) (hf:f {cls:=.type "list",data:=.seq its.toArray n}={cls:=.type "list",data:=.seq its'.toArray n'}) (r:Vals ys its') (hz:ys.length≤sizeLine) (t:Nat) :
    Inv X p_ σ (upd H p (.lst ys)) {s with heap:=s.heap.update p f,toks:=t}:=by
  have e:(s.heap.update p f).get? p=some {cls:=.type "list",data:=.seq its'.toArray n'}:=by
    rw[Heap.get?_update_self f ho (by rw[hf] <;> rfl),hf]
  refine I.write (x:=p) (e:=p) (by rw[h];trivial) (.inl rfl) (fun b u hb q=>(Heap.get?_update_other _ _ (Ne.symm hb)).trans q) ⟨_,e⟩ ?_;exact⟨hz,its',n',r,e⟩
def qbD:V→V→V→Hp→(Hp→Prop)→Prop:=fun o i v H Q=>∃p xs k j,o = .ref p∧i = .int k∧H p=some (.lst xs)∧Tv xs.length k=some j∧Q (upd H p (.lst (xs.set j v)))
theorem set_list:Tc X qbD:=by
  intro p_ s σ H o i v ov iv u Q I ro ri rv h;obtain⟨p,xs,k,j,rfl,rfl,hp,hj,q⟩:=h;cases ro;obtain⟨t,rfl⟩:=ri;obtain⟨its,n,r,ho,hz⟩:=I.lst hp;obtain⟨h1,h2,h3,h4⟩:=Ro hj;have hl:=r.length;have hn:=wz;have I':Inv X p_ σ (upd H p (.lst (xs.set j v))) {s with heap:=s.heap.update p (Obj.mapSeq (·.setIfInBounds j u))}:=
    I.qcN hp ho (Pb its n j u) (r.set rv j) (by rw[List.length_set];exact hz) s.toks
  by_cases h0:0≤k
  · have hk:k.toNat=j:=by
      rw[seqIndex_of h0 h4] at h1;exact Option.some.inj h1
    exact W.ki_setAt ho h0 (by omega) (by rw[List.size_toArray,← hl];exact h4) (by rw[hk];exact⟨_,I',q⟩)
  · have hk:(k+(its.toArray.size:Int)).toNat=j:=by
      rw[seqIndex_neg (by omega) h3] at h1;rw[List.size_toArray,← hl];exact Option.some.inj h1
    exact W.ki_setBack ho (by omega) (by rw[List.size_toArray,← hl];exact h3) (by omega) (by rw[hk];exact⟨_,I',q⟩)
theorem Ji (lo hi:Option Int) (n:Nat):(sliceBounds lo hi none n).1=((HT.Ab n 0 lo:Nat):Int)∧(sliceBounds lo hi none n).2.1=((HT.Ab n n hi:Nat):Int)∧(sliceBounds lo hi none n).2.2=1:=by
  refine⟨?_,?_,rfl⟩
  · cases lo with
    | none=>simp[sliceBounds,HT.Ab]
    | some i=>
      simp only[sliceBounds,HT.Ab,Option.getD_none,show(1:Int) > 0 by decide,if_true]
      by_cases h:i<0
      ·simp only[h,if_true] <;> omega
      ·simp only[h,if_false] <;> omega
  · cases hi with
    | none=>simp[sliceBounds,HT.Ab]
    | some i=>
      simp only[sliceBounds,HT.Ab,Option.getD_none,show(1:Int) > 0 by decide,if_true]
      by_cases h:i<0
      ·simp only[h,if_true] <;> omega
      ·simp only[h,if_false] <;> omega
theorem Gu (its:List Value) (lo hi:Option Int):slicePick its.toArray lo hi none=((its.drop (HT.Ab its.length 0 lo)).take (HT.Ab its.length its.length hi - HT.Ab its.length 0 lo)).toArray:=by
  obtain⟨h1,h2,h3⟩:=Ji lo hi its.toArray.size;unfold slicePick;rw[h1,h2,h3];simp only[sliceRange_one,pick_run,List.size_toArray] <;> rfl
def qan (K:W.Frag):V→Option Int→Option Int→Hp→VK→Prop:=fun x lo hi H Q=>∃a xs,x = .ref a∧aY K H a xs∧∀p,H p=none→Q (.ref p) (upd H p (.lst (qF xs lo hi)))
theorem qao:SlR X (qan X.K):=by
  intro p_ s σ H x v vl vu lo hi sl Q I rx hs pl pu h;obtain⟨a,xs,rfl,hx,q⟩:=h;cases rx;obtain⟨its,r,ht,hz⟩:=I.list hx;have hlen:=r.length;refine⟨"list",_,slot_list_getitem.lookup,ht.isList.typeIs,?_⟩;refine wpAny_getItem_list_slice ht.isList hs pl pu .none (by simp) ?_ (by rw[List.size_toArray] <;> omega);rw[Gu,← hlen];refine⟨.ref s.heap.objs.size,_,I.laid (t':=s.toks) (o:=.lst (qF xs lo hi)) (fun b ob q=>Heap.get?_push_of_some _ q) (Nat.le_refl _) ?_,rfl,q _ (I.hok.fresh (Nat.le_refl _))⟩;exact⟨Nat.le_trans (Lk xs lo hi) hz,_,0,(r.drop (HT.Ab xs.length 0 lo)).take (HT.Ab xs.length xs.length hi - HT.Ab xs.length 0 lo),Heap.get?_push_size _ rfl⟩
def jZ:V→Bool
  | .non=>true
  | .bl _=>true
  | .int _=>true
  | .str _=>true
  | _=>false
def Tw:V→V→Bool
  | .non,.non=>true
  | .bl a,.bl b=>a == b
  | .bl a,.int b=>(if a then 1 else 0) == b
  | .int a,.bl b=>a == (if b then 1 else 0)
  | .int a,.int b=>a == b
  | .str a,.str b=>a == b
  | _,_=>false
theorem qcO {A:Around} {s:Shared} {y x:V} {u v:Value} (ry:RelV y u) (rx:RelV x v) (fy:jZ y=true) (fx:jZ x=true):SeqAt.EqAt A s u v (Tw y x):=by
  cases y with
  | non=>
    cases ry;cases x with
    | non=>cases rx;exact SeqAt.EqAt.same _
    | bl b=>cases rx;exact SeqAt.EqAt.none_bool b
    | int b=>obtain⟨t,rfl⟩:=rx;exact SeqAt.EqAt.none_int b t
    | str b=>obtain⟨t,rfl⟩:=rx;exact SeqAt.EqAt.none_str b t
    | _=>exact absurd (show false=true from fx) Bool.false_ne_true
  | bl a=>
    cases ry;cases x with
    | non=>cases rx;exact SeqAt.EqAt.bool_none a
    | bl b=>cases rx;exact SeqAt.EqAt.bool_bool a b
    | int b=>obtain⟨t,rfl⟩:=rx;exact SeqAt.EqAt.bool_int a b t
    | str b=>obtain⟨t,rfl⟩:=rx;exact SeqAt.EqAt.bool_str a b t
    | _=>exact absurd (show false=true from fx) Bool.false_ne_true
  | int a=>
    obtain⟨t',rfl⟩:=ry;cases x with
    | non=>cases rx;exact SeqAt.EqAt.int_none a t'
    | bl b=>cases rx;exact SeqAt.EqAt.int_bool a t' b
    | int b=>obtain⟨t,rfl⟩:=rx;exact SeqAt.EqAt.int_int a t' b t
    | str b=>obtain⟨t,rfl⟩:=rx;exact SeqAt.EqAt.int_str a t' b t
    | _=>exact absurd (show false=true from fx) Bool.false_ne_true
  | str a=>
    obtain⟨t',rfl⟩:=ry;cases x with
    | non=>cases rx;exact SeqAt.EqAt.str_none a t'
    | bl b=>cases rx;exact SeqAt.EqAt.str_bool a t' b
    | int b=>obtain⟨t,rfl⟩:=rx;exact SeqAt.EqAt.str_int a t' b t
    | str b=>obtain⟨t,rfl⟩:=rx;exact SeqAt.EqAt.str_str a t' b t
    | _=>exact absurd (show false=true from fx) Bool.false_ne_true
  | _=>exact absurd (show false=true from fy) Bool.false_ne_true
def Pg (x:V) (u:Value):Bool:=match u with
  | .none=>Tw .non x
  | .bool b=>Tw (.bl b) x
  | .int i _=>Tw (.int i) x
  | .str z _=>Tw (.str z) x
  | _=>false
theorem WQ {x y:V} {u:Value} (r:RelV y u) (f:jZ y=true):Pg x u=Tw y x:=by
  cases y with
  | non=>cases r;rfl
  | bl b=>cases r;rfl
  | int i=>obtain⟨t,rfl⟩:=r;rfl
  | str z=>obtain⟨t,rfl⟩:=r;rfl
  | _=>exact absurd (show false=true from f) Bool.false_ne_true
theorem xH {x:V}:∀{xs:List V} {us:List Value},Vals xs us→xs.all jZ=true→us.any (Pg x)=xs.any fun y=>Tw y x
  | _,_,.nil,_=>rfl
  | y::xs,u::us,.cons r t,f=>by
    rw[List.all_cons,Bool.and_eq_true] at f;rw[List.any_cons,List.any_cons,WQ r f.1,xH t f.2]
theorem tQ {A:Around} {s:Shared} {x:V} {v:Value} (rx:RelV x v) (fx:jZ x=true):∀{xs:List V} {us:List Value},Vals xs us→xs.all jZ=true→∀u∈us,SeqAt.EqAt A s u v (Pg x u)
  | _,_,.nil,_=>fun u hu=>by cases hu
  | y::xs,u::us,.cons r t,f=>fun u' hu=>by
    rw[List.all_cons,Bool.and_eq_true] at f
    rcases List.mem_cons.mp hu with rfl | hu
    ·rw[WQ r f.1];exact qcO r rx f.1 fx
    ·exact tQ rx fx t f.2 u' hu
def inV (x:V) (xs:List V):Bool:=xs.any fun y=>Tw y x
def rIn (K:W.Frag) (neg:Bool):R2:=fun x y H Q=>∃p xs,y = .ref p∧(aY K H p xs∨cM K H p xs)∧jZ x=true∧xs.all jZ=true∧Q (.bl (if neg then !inV x xs else inV x xs)) H
theorem Tz:jP X (compareOp .In) (rIn X.K false):=by
  intro p_ s σ H x y v u Q I rx ry h;obtain⟨p,xs,rfl,hq,fx,fs,q⟩:=h;cases ry
  rcases hq with hq | hq
  ·obtain⟨its,r,pl,hz⟩:=I.list hq;refine SeqAt.in_listAt (Pg x) pl.isList (fun w hw=>tQ rx fx r fs w (by simpa using hw)) ⟨.bl _,H,I,rfl,?_⟩;rw[show its.toArray.any (Pg x)=its.any (Pg x) by simp,xH r fs];exact q
  ·obtain⟨its,r,pl,hz⟩:=I.tuple hq;refine SeqAt.in_tupleAt (Pg x) pl (fun w hw=>tQ rx fx r fs w (by simpa using hw)) ⟨.bl _,H,I,rfl,?_⟩;rw[show its.toArray.any (Pg x)=its.any (Pg x) by simp,xH r fs];exact q
theorem Jj:jP X (compareOp .NotIn) (rIn X.K true):=by
  intro p_ s σ H x y v u Q I rx ry h;obtain⟨p,xs,rfl,hq,fx,fs,q⟩:=h;cases ry
  rcases hq with hq | hq
  ·obtain⟨its,r,pl,hz⟩:=I.list hq;refine SeqAt.notIn_listAt (Pg x) pl.isList (fun w hw=>tQ rx fx r fs w (by simpa using hw)) ⟨.bl _,H,I,rfl,?_⟩;rw[show its.toArray.any (Pg x)=its.any (Pg x) by simp,xH r fs];exact q
  ·obtain⟨its,r,pl,hz⟩:=I.tuple hq;refine SeqAt.notIn_tupleAt (Pg x) pl (fun w hw=>tQ rx fx r fs w (by simpa using hw)) ⟨.bl _,H,I,rfl,?_⟩;rw[show its.toArray.any (Pg x)=its.any (Pg x) by simp,xH r fs];exact q
theorem Jk:jP X (compareOp .NotIn) (fun x y H Q=>∃i j,x = .str i∧y = .str j∧Q (.bl (!(!(Builtin.Str.occurrences j i 0 j.length 1).isEmpty))) H):=by
  intro p_ s σ H x y v u Q I rx ry h;obtain⟨i,j,rfl,rfl,q⟩:=h;obtain⟨t,rfl⟩:=rx;obtain⟨t',rfl⟩:=ry;exact notIn_str ⟨.bl _,H,I,rfl,q⟩
theorem Jl:cJ X (.builtin "len") (fun xs H Q=>∃p ys,xs=[.ref p]∧(aY X.K H p ys∨cM X.K H p ys)∧Q (.int ys.length) H):=by
  intro p_ s σ H xs us Q I r h;obtain⟨p,ys,rfl,hq,q⟩:=h;obtain⟨u,rfl,rx⟩:=vals1 r;cases rx;have hn:=wz
  rcases hq with hq | hq
  ·obtain⟨its,r',pl,hz⟩:=I.list hq;have hlen:=r'.length;exact Calls.call_len_list pl.isList (by simp only[List.size_toArray] <;> omega) ⟨.int ys.length,H,I.tok _,⟨s.toks+1,by rw[List.size_toArray,hlen]⟩,q⟩
  ·obtain⟨its,r',pl,hz⟩:=I.tuple hq;have hlen:=r'.length;exact len_tuple pl (by simp only[List.size_toArray] <;> omega) ⟨.int ys.length,H,I.tok _,⟨s.toks+1,by rw[List.size_toArray,hlen]⟩,q⟩
theorem Jm:cJ X (.builtin "len") (fun xs H Q=>∃z,xs=[.str z]∧z.length≤sizeLine∧Q (.int z.length) H):=by
  intro p_ s σ H xs us Q I r h;obtain⟨z,rfl,hz,q⟩:=h;obtain⟨u,rfl,t,rfl⟩:=vals1 r;have hn:=wz;exact len_str (by omega) ⟨.int z.length,H,I.tok _,⟨_,rfl⟩,q⟩
theorem Jo:cJ X (.type "list") (fun xs H Q=>∃p ys,xs=[.ref p]∧(aY X.K H p ys∨cM X.K H p ys)∧∀l,H l=none→Q (.ref l) (upd H l (.lst ys))):=by
  intro p_ s σ H xs us Q I r h;obtain⟨p,ys,rfl,hq,q⟩:=h;obtain⟨u,rfl,rx⟩:=vals1 r;cases rx;have fin:∀(its:List Value),Vals ys its→ys.length≤sizeLine→∀(h':Heap) (c':Nat),(∀b o',s.heap.get? b=some o'→h'.get? b=some o')→
      h'.get? s.heap.objs.size=some {cls:=.type "list",dict:=none,data:=.seq its.toArray c',slots:=#[]}→EP X p_ σ Q (.ref s.heap.objs.size) {s with heap:=h'}:=fun its r' hz h' c' kp e=>
    ⟨.ref s.heap.objs.size,_,I.laid (t':=s.toks) kp (Nat.le_refl _) (show cA X.prog X.w _ h' _ (.lst ys) from⟨hz,its,c',r',e⟩),rfl,q _ (I.hok.fresh (Nat.le_refl _))⟩
  rcases hq with hq | hq
  ·obtain⟨its,r',pl,hz⟩:=I.list hq;have hlen:=r'.length;obtain⟨o,ho,hc,n,hd⟩:=pl.isList;exact call_list_seq p (.inl rfl) ho hc hd (fun h' c' kp e=>fin its r' hz h' c' kp e) (by simp only[List.size_toArray] <;> omega)
  ·obtain⟨its,r',pl,hz⟩:=I.tuple hq;have hlen:=r'.length;obtain⟨o,ho,hc,n,hd⟩:=pl;exact call_list_seq p (.inr rfl) ho hc hd (fun h' c' kp e=>fin its r' hz h' c' kp e) (by simp only[List.size_toArray] <;> omega)
theorem Gv:cJ X (.type "tuple") (fun xs H Q=>∃p ys,xs=[.ref p]∧((aY X.K H p ys∧∀l,H l=none→Q (.ref l) (upd H l (.tup ys)))∨(cM X.K H p ys∧Q (.ref p) H))):=by
  intro p_ s σ H xs us Q I r h;obtain⟨p,ys,rfl,h⟩:=h;obtain⟨u,rfl,rx⟩:=vals1 r;cases rx
  rcases h with⟨hq,q⟩ | ⟨hq,q⟩
  · obtain⟨its,r',pl,hz⟩:=I.list hq;have hlen:=r'.length;refine call_tuple_list pl.isList (fun h' kp=>?_) (by simp only[List.size_toArray] <;> omega);have I1:Inv X p_ σ H {s with heap:=h'}:=I.kept (t':=s.toks) kp;have I2:Inv X p_ σ (upd H h'.objs.size (.tup ys)) {s with heap:=h'.push {cls:=.type "tuple",data:=.seq its.toArray}}:=
      I1.laid (t':=s.toks) (fun b o e=>Heap.get?_push_of_some _ e) (Nat.le_refl _) (show cA X.prog X.w _ _ _ (.tup ys) from⟨hz,its,r',IsTup.new _ _⟩)
    exact⟨.ref h'.objs.size,_,I2,rfl,q _ (I1.hok.fresh (Nat.le_refl _))⟩
  ·obtain⟨its,r',pl,hz⟩:=I.tuple hq;exact call_tuple_same pl ⟨.ref p,H,I,rfl,q⟩
def tyV (K:W.Frag) (T:String) (x:V) (H:Hp):Prop:=match x with
  | .str _=>T = "str"
  | .int _=>T = "int"
  | .ref p=>(T = "list" ∧∃xs,aY K H p xs)∨(T = "tuple" ∧∃o,K.lookup p=some o∧o.cls = .type "tuple" ∧o.dict=none)∨
      (T = "dict" ∧((∃kvs,H p=some (.dK kvs))∨∃kvs,H p=some (.dT kvs)))∨(T = "set" ∧∃S n,H p=some (.set S n))
  | _=>False
theorem WR {p_:List (Addr×Obj)} {σ:St} {H:Hp} {s:Shared} {T:String} {x:V} {v:Value} (I:Inv X p_ σ H s) (r:RelV x v) (ty:tyV X.K T x H) :
    s.TypeIs v T∧∀a,v = .ref a→∃ob,s.heap.get? a=some ob∧ob.dict=none:=by
  cases x with
  | str z=>
    obtain⟨t,rfl⟩:=r;cases (show T = "str" from ty);exact⟨typeIs_str s z t,fun _ e=>nomatch e⟩
  | int i=>
    obtain⟨t,rfl⟩:=r;cases (show T = "int" from ty);exact⟨typeIs_int s i t,fun _ e=>nomatch e⟩
  | ref p=>
    cases r
    rcases ty with⟨rfl,xs,hq⟩ | ⟨rfl,o,hk,hc,hd⟩ | ⟨rfl,hk⟩ | ⟨rfl,S,n,hk⟩
    ·obtain⟨its,_,pl,_⟩:=I.list hq;refine⟨pl.isList.typeIs,fun a e=>?_⟩;cases e;obtain⟨o,n,e,c,hd,_⟩:=pl;exact⟨o,e,hd⟩
    ·refine⟨⟨o,I.pZ p o hk,hc⟩,fun a e=>?_⟩;cases e;exact⟨o,I.pZ _ o hk,hd⟩
    · have z:∃o,s.heap.get? p=some o∧o.ExactDict:=by
        rcases hk with⟨kvs,hk⟩ | ⟨kvs,hk⟩
        ·obtain⟨_,_,_,_,o,_,_,e,ex,_⟩:=I.hok p _ hk;exact⟨o,e,ex⟩
        ·obtain⟨_,_,_,_,o,_,_,e,ex,_⟩:=I.hok p _ hk;exact⟨o,e,ex⟩
      obtain⟨o,e,ex⟩:=z;refine⟨⟨o,e,ex.1⟩,fun a e2=>?_⟩;cases e2;exact⟨o,e,ex.2.1⟩
    ·obtain⟨o,_,_,_,e,ex,_⟩:=I.hok p _ hk;refine⟨⟨o,e,ex.1⟩,fun a e2=>?_⟩;cases e2;exact⟨o,e,ex.2.1⟩
  | _=>exact False.elim ty
def qcP (K:W.Frag) (T:String) (r:V→List V→Hp→VK→Prop) (to:TE):TE:=fun σ H Q=>to σ H fun x H1=>tyV K T x H1∧r x [] H1 Q
def tBM (K:W.Frag) (T:String) (r:V→List V→Hp→VK→Prop) (to:TE) (t:TA):TE:=fun σ H Q=>to σ H fun x H1=>tyV K T x H1∧t σ H1 fun xs H2=>r x xs H2 Q
variable {o e:Expr} {es:List Expr} {to:TE} {t:TA} {name:Str} {apos cpos:Pos} {T id:String} {r:V→List V→Hp→VK→Prop}
theorem qcQ (pa:PlainAttrs T) (slot:Slot T name id) (hty:typeOf (.builtin id)=pure (.type "method_descriptor")) (hm:K4 X id r) (ho:PE X o to)
    (hbase:attributeBase o name X.env (eval o X.env)=eval o X.env:=by rfl) (hline:(apos.endLine == cpos.line)=true:=by rfl):PE X (.Call (.Attribute o name apos) [] [] cpos) (qcP X.K T r to):=by
  intro p_ s σ H Q I h;refine wpAny_Call_method0_late hbase hline (dD (ho p_ s σ H _ I h) fun v s1 zz=>?_);obtain⟨x,H1,I1,r1,ty,q1⟩:=zz;obtain⟨h1,h2⟩:=WR I1 r1 ty;exact⟨T,id,pa,slot,hty,h1,h2,Calls.callWith_builtin rfl (PySem.evalArgs_none (hm p_ s1 σ H1 x [] v [] Q I1 r1 .nil q1))⟩
theorem qft (pa:PlainAttrs T) (slot:Slot T name id) (hty:typeOf (.builtin id)=pure (.type "method_descriptor")) (hm:K4 X id r) (ho:PE X o to) (ha:PA X (e::es) t)
    (hbase:attributeBase o name X.env (eval o X.env)=eval o X.env:=by rfl)
    (hfew:((backTo cpos (starEach (e::es) X.env)).all (fun x=>!x.1) && (backToKw cpos (keywordEach [] X.env)).all (fun x=>x.1.isSome)
      && decide ((e::es).length+([]:List Keyword).length+(if ([]:List Keyword).isEmpty then 0 else 1)<30))=true:=by rfl)
    (hline:(apos.endLine == cpos.line)=true:=by rfl) (hs:starEach (e::es) X.env=(false,eval e X.env)::starEach es X.env:=by rfl) (hplain:(backTo cpos (starEach es X.env)).any (·.1)=false:=by rfl) :
    PE X (.Call (.Attribute o name apos) (e::es) [] cpos) (tBM X.K T r to t):=by
  intro p_ s σ H Q I h;refine wpAny_Call_method_late hbase hfew hline rfl (dD (ho p_ s σ H _ I h) fun v s1 zz=>?_);obtain⟨x,H1,I1,r1,ty,q1⟩:=zz;obtain⟨h1,h2⟩:=WR I1 r1 ty;refine⟨T,id,pa,slot,hty,h1,h2,?_⟩;have hA:=ha cpos p_ s1 σ H1 _ I1 q1;rw[hs] at hA ⊢;refine Calls.callWith_builtin (by show(false || (backTo cpos (starEach es X.env)).any (·.1))=false;rw[hplain] <;> rfl) (Calls.evalArgs_plain ?_)
  refine dD hA fun us s2 zz=>?_;obtain⟨vs,H2,I2,r2,q2⟩:=zz;exact hm p_ s2 σ H2 x vs v us Q I2 r1 r2 q2
end
def MtM (X:Cx) (id:String) (r:V→List V→Hp→VK→Prop):Prop:=
  ∀(p_:List (Addr×Obj)) (s:Shared) (σ:St) (H:Hp) (x:V) (xs:List V) (v:Value) (us:List Value) (Q:VK),Inv X p_ σ H s→RelV x v→Vals xs us→r x xs H Q→
    wpAny (model X.prog X.w) X.A (call (.builtin id) (v::us)) (EP X p_ σ Q) X.xe s
theorem Vals.one {x:V} {us:List Value} (h:Vals [x] us):∃u,us=[u]∧RelV x u:=vals1 h
theorem Vals.two {x y:V} {us:List Value} (h:Vals [x,y] us):∃u v,us=[u,v]∧RelV x u∧RelV y v:=vals2 h
theorem Vals.zero:∀{us:List Value},Vals [] us→us=[]
  | _,.nil=>rfl
theorem Vals.rep {xs:List V} {us:List Value} (h:Vals xs us):∀k:Nat,Vals (List.replicate k xs).flatten (List.replicate k us).flatten
  | 0=>.nil
  | k+1=>by
    rw[List.replicate_succ,List.replicate_succ,List.flatten_cons,List.flatten_cons];exact Vals.append h (Vals.rep h k)
theorem foldl_rep (its:List Value):∀(k:Nat) (acc:List Value),
    List.foldl (fun x1 x2=>x1++x2) acc.toArray (List.replicate k its.toArray)=(acc++(List.replicate k its).flatten).toArray
  | 0,acc=>by simp
  | k+1,acc=>by
    have e:acc.toArray++its.toArray=(acc++its).toArray:=by simp
    have e2:(acc++its)++(List.replicate k its).flatten=acc++(List.replicate (k+1) its).flatten:=by
      rw[List.replicate_succ,List.flatten_cons,List.append_assoc]
    rw[← e2,← foldl_rep its k (acc++its),← e,List.replicate_succ,List.foldl_cons]
section
variable {X:Cx} {p_:List (Addr×Obj)} {σ:St} {H:Hp} {s:Shared} {l b:Addr} {xs ys zs:List V}
theorem Inv.qap {its its':List Value} {n:Nat} {f:Array Value→Array Value} {t':Nat} (I:Inv X p_ σ H s) (hH:H l=some (.lst xs))
    (e:s.heap.get? l=some {cls:=.type "list",data:=.seq its.toArray n}) (hf:f its.toArray=its'.toArray) (hv:Vals ys its') (hz:ys.length≤sizeLine) :
    Inv X p_ σ (upd H l (.lst ys)) {s with heap:=s.heap.update l (Obj.mapSeq f),toks:=t'}:=by
  have q:=PySem.IsL.update e f;rw[hf] at q;refine I.write (x:=l) (e:=l) (by rw[hH];exact trivial) (.inl rfl) (fun b' u hb hu=>(Heap.get?_update_other s.heap (Obj.mapSeq f) (Ne.symm hb)).trans hu) ⟨_,q⟩ ?_;exact⟨hz,its',_,hv,q⟩
theorem Inv.qaq {its:List Value} {t':Nat} (I:Inv X p_ σ H s) (hv:Vals ys its) (hz:ys.length≤sizeLine) :
    Inv X p_ σ (upd H s.heap.objs.size (.lst ys)) {s with heap:=s.heap.push {cls:=.type "list",data:=.seq its.toArray},toks:=t'}:=
  I.laid (fun _ _ q=>Heap.get?_push_of_some _ q) (Nat.le_refl _) ⟨hz,its,0,hv,Heap.get?_push_size _ rfl⟩
theorem Inv.fresh (I:Inv X p_ σ H s):H s.heap.objs.size=none:=I.hok.fresh (Nat.le_refl _)
theorem Inv.Gw (I:Inv X p_ σ H s) (hH:H l=some (.lst xs)):xs.length≤sizeLine∧∃(its:List Value) (n:Nat),Vals xs its∧xs.length=its.length∧s.heap.get? l=some {cls:=.type "list",data:=.seq its.toArray n}:=by
  obtain⟨z,its,n,r,e⟩:=I.hok l _ hH;exact⟨z,its,n,r,r.length,e⟩
theorem Lq {n:Nat} (h:n≤sizeLine):Builtin.List.listTooLong n=false:=by
  unfold Builtin.List.listTooLong;exact decide_eq_false (by omega)
end
section
variable {X:Cx}
def Jp:V→List V→Hp→VK→Prop:=fun x vs H Q=>∃l xs y,x = .ref l∧vs=[y]∧H l=some (.lst xs)∧xs.length<sizeLine∧Q .non (upd H l (.lst (xs++[y])))
theorem Hu:MtM X "list.append" Jp:=by
  intro p_ s σ H x vs v us Q I rx rv h;obtain⟨l,xs,y,rfl,rfl,hH,hz,q⟩:=h;cases rx;obtain⟨u,rfl,ru⟩:=rv.one;obtain⟨z,its,n,r,hl,e⟩:=I.Gw hH;refine call_meets F.slot_list_append ⟨_,e,rfl⟩ F.entry_list_append (F.args_list_append_2 _ _) (PySem.list_append l its.toArray n u (by rw[List.size_toArray];omega)) ⟨e,?_⟩;refine⟨.non,_,I.qap (its':=its++[u]) hH e (by simp) (r.append (.cons ru .nil)) ?_,rfl,q⟩;rw[List.length_append,List.length_singleton];omega
def Jq:V→List V→Hp→VK→Prop:=fun x vs H Q=>∃l b xs zs,x = .ref l∧vs=[.ref b]∧H l=some (.lst xs)∧H b=some (.lst zs)∧xs.length+zs.length≤sizeLine∧Q .non (upd H l (.lst (xs++zs)))
theorem TF:MtM X "list.extend" Jq:=by
  intro p_ s σ H x vs v us Q I rx rv h;obtain⟨l,b,xs,zs,rfl,rfl,hH,hB,hz,q⟩:=h;cases rx;obtain⟨u,rfl,ru⟩:=rv.one;cases ru;obtain⟨z,its,n,r,hl,e⟩:=I.Gw hH;obtain⟨z2,its2,n2,r2,hl2,e2⟩:=I.Gw hB;have hsz:its.toArray.size+its2.toArray.size≤sizeLine:=by rw[List.size_toArray,List.size_toArray];omega
  have WT:¬(!its.toArray.isEmpty && Builtin.List.listTooLong (its.toArray.size+its2.toArray.size))=true:=by
    rw[Lq hsz,Bool.and_false];exact Bool.false_ne_true
  refine call_meets F.slot_list_extend ⟨_,e,rfl⟩ F.entry_list_extend (F.args_list_extend_2 _ _)
    (AutoSeq1.list_extend_list_list_0 l its.toArray n b its2.toArray n2 WT (by rw[List.size_toArray];omega) (by omega)) ⟨e,e2,?_⟩
  refine⟨.non,_,I.qap (its':=its++its2) hH e (by simp) (r.append r2) ?_,rfl,q⟩;rw[List.length_append];omega
def Ph:V→List V→Hp→VK→Prop:=fun x vs H Q=>∃l xs,x = .ref l∧vs=[]∧H l=some (.lst xs)∧Q .non (upd H l (.lst []))
theorem WW:MtM X "list.clear" Ph:=by
  intro p_ s σ H x vs v us Q I rx rv h;obtain⟨l,xs,rfl,rfl,hH,q⟩:=h;cases rx;have hus:=rv.zero;subst hus;obtain⟨z,its,n,r,hl,e⟩:=I.Gw hH;refine call_meets F.slot_list_clear ⟨_,e,rfl⟩ F.entry_list_clear (F.args_list_clear_1 _) (AutoSeq1.list_clear_list_0 l its.toArray n (by rw[List.size_toArray];omega)) ⟨e,?_⟩;exact⟨.non,_,I.qap (its':=[]) (ys:=[]) hH e rfl .nil (Nat.zero_le _),rfl,q⟩
def qfu:R2:=fun x y H Q=>∃l b xs zs,x = .ref l∧y = .ref b∧H l=some (.lst xs)∧H b=some (.lst zs)∧xs.length+zs.length≤sizeLine∧∀p,H p=none→Q (.ref p) (upd H p (.lst (xs++zs)))
theorem qcR:jP X (binaryOp .Add) qfu:=by
  intro p_ s σ H x y v u Q I rx ry h;obtain⟨l,b,xs,zs,rfl,rfl,hH,hB,hz,q⟩:=h;cases rx;cases ry;obtain⟨z,its,n,r,hl,e⟩:=I.Gw hH;obtain⟨z2,its2,n2,r2,hl2,e2⟩:=I.Gw hB;refine PySem.P.add_list e e2 ?_ (by rw[List.size_toArray,List.size_toArray];omega);have ea:its.toArray++its2.toArray=(its++its2).toArray:=by simp
  rw[ea];exact⟨.ref _,_,I.qaq (t':=s.toks) (r.append r2) (by rw[List.length_append];omega),rfl,q _ I.fresh⟩
def qll:R2:=fun x y H Q=>∃l k xs,x = .ref l∧y = .int k∧H l=some (.lst xs)∧-(2 ^ 63)≤k∧k<2 ^ 63∧xs.length * k.toNat≤sizeLine∧
  ∀p,H p=none→Q (.ref p) (upd H p (.lst (List.replicate k.toNat xs).flatten))
theorem len_rep {α:Type} (xs:List α) (k:Nat):(List.replicate k xs).flatten.length=k * xs.length:=by
  induction k with
  | zero=>simp
  | succ k ih=>rw[List.replicate_succ,List.flatten_cons,List.length_append,ih,Nat.succ_mul,Nat.add_comm]
theorem qcS:jP X (binaryOp .Mult) qll:=by
  intro p_ s σ H x y v u Q I rx ry h;obtain⟨l,k,xs,rfl,rfl,hH,h1,h2,hz,q⟩:=h;cases rx;obtain⟨t,rfl⟩:=ry;obtain⟨z,its,n,r,hl,e⟩:=I.Gw hH;have hlen:its.toArray.size * k.toNat≤sizeLine:=by rw[List.size_toArray,← hl];exact hz
  have hcap:¬its.toArray.size * k.toNat > (2 ^ 63 - 1) / 8:=by
    have:(sizeLine:Nat)≤(2 ^ 63 - 1) / 8:=by decide
    omega
  have hfit:¬(!Builtin.List.listFitsIndex k)=true:=by
    rw[fitsIndex_both h1 h2];exact Bool.false_ne_true
  have WT:¬Builtin.List.listTooLong (its.toArray.size * k.toNat)=true:=by
    rw[Lq hlen];exact Bool.false_ne_true
  have hnew:List.foldl (fun x1 x2=>x1++x2) #[] (List.replicate (if its.toArray.isEmpty=true then 0 else k.toNat) its.toArray)=(List.replicate k.toNat its).flatten.toArray:=by
    have f0:∀m:Nat,List.foldl (fun x1 x2=>x1++x2) #[] (List.replicate m its.toArray)=(List.replicate m its).flatten.toArray:=fun m=>by
      have:=foldl_rep its m [];rw[List.nil_append] at this;exact this
    rw[f0];cases its with
    | nil=>simp
    | cons a r'=>rw[if_neg (by simp)]
  refine wpAny_binaryOp_repeat_ref (T:= "list") (U:= "int") (by decide) ⟨_,e,rfl⟩ (fun s'=>typeIs_int s' k t) noFill_list_mul F.fills_int_mul F.slot_int_rmul repeat_list F.slot_int_index.lookup
    (call_meets F.slot_int_rmul (typeIs_int s k t) F.entry_int_rmul (F.args_int_rmul_2 _ _) (int___rmul___int_list k t l its.toArray n)
      ⟨e,rfl,⟨_,e,rfl⟩,call_meets F.slot_list_mul ⟨_,e,rfl⟩ F.entry_list_mul (F.args_list_mul_2 _ _) (AutoListH.list___mul___list_int_3 l its.toArray n k t hfit hcap WT) ⟨e,?_⟩⟩)
  rw[hnew];exact⟨.ref _,_,I.qaq (t':=s.toks) (r.rep k.toNat) (by rw[len_rep,Nat.mul_comm];exact hz),rfl,q _ I.fresh⟩
end
end L2
namespace Att
open PySem PySem.W PySem.Calls PyProof.Rows
theorem A_ {P:Params} {h:Heap}:∀(ns:List Int) (vs:List Value),WellAll P h vs (ns.map WData.int)→IntsAre vs ns:=by
  intro ns
  induction ns with
  | nil=>
    intro vs w;rw[List.map_nil] at w;cases w;exact .nil
  | cons n ns ih=>
    intro vs w;rw[List.map_cons] at w;cases w with
    | cons a b=>
      cases a;exact .cons _ _ (ih _ b)
theorem TJ {l:OpenLaw} {n:Nat} (hn:l.most=some n) {P:Params} {h:Heap} {args:List WData} {vals:List Value}
    (hpre:l.row.toRowW.claim.pre args=true) (hwl:WellAll P h vals args) :
    ∃a vs ns,vals=[Value.ref a]∧args=[WData.list (ns.map WData.int)]∧h.get? a=some {cls:=.type "list",data:=.seq vs.toArray}∧IntsAre vs ns∧ns.length≤n:=by
  have hsh:WShape.hasAll [] args [.list .int]=true:=(pre_splitW hpre).1;have hc:l.pre.holds [] {args:=args}=true:=(pre_splitW hpre).2;obtain⟨d,r,rfl,h1,h2⟩:=hasAllW_cons hsh;obtain rfl:=hasAllW_nil h2;obtain⟨xs,rfl,h3⟩:=hasW_list h1;obtain⟨ns,rfl⟩:=items_int h3;have hlen:ns.length≤n:=by
    unfold OpenLaw.pre at hc;have h4:(WTm.not (.lt (.lit (.int (n:Int))) (.len (.arg 0)))).holds [] {args:=[.list (ns.map .int)]}=true:=by
      have h4:=(holds_andW hc).1;rw[hn] at h4;exact h4
    have h5:=condW_of h4 (w_not (w_lt w_lit (w_len_list (w_arg rfl))));rw[List.length_map] at h5;refine Nat.le_of_not_lt fun q=>?_;have q':(n:Int)<((ns.length:Nat):Int):=by omega
    first
      | (rw[decide_eq_true q'] at h5;exact absurd h5 (by decide))
      | (simp at h5;omega)
  cases hwl with
  | cons w1 w2=>
    cases w2;cases w1 with
    | list ho hall=>exact⟨_,_,ns,rfl,rfl,ho,A_ ns _ hall,hlen⟩
theorem TQ (l:OpenLaw) (args:List WData):l.row.toRowW.claim.post args (.bool true) args=true:=
  postW_of (r:=l.row.toRowW) (X:=(true == true))
    (show WShape.has [] (.bool true) .bool=true by first | rfl | decide | simp[WShape.has,WShape.arms,WShape.armsAll])
    (show(WTm.eq .res (.lit (.bool true))).value [] {args:=args,res:=some (.bool true),after:=args}=some (.bool (true == true)) from w_eq_bool (w_res rfl) w_lit) rfl
theorem Lr {l:OpenLaw} {n:Nat} {q:Program} {loose:List Str} {XP:(Str→Option Value)→Heap→Prop} {YP:World→Heap→Prop} {d:DefRec}
    (hn:l.most=some n) (hdf:d.params.defaults=[])
    (call:∀(w:World) (s₀ s₁:Shared) (mg mb:Str→Option Value) (fa:Addr) (o:Obj) (pm cd doc:Value) (a:Addr) (vs:List Value) (ns:List Int),
      Ground q loose [] XP w s₀ mg mb s₁.heap→YP w s₁.heap→
      s₁.heap.get? fa=some o→o.data = .func (docDef d.name d.params d.body d.scope pm cd doc)→s₁.heap.CodeRec cd d.name→mg d.name=some (.ref fa)→
      s₁.heap.get? a=some {cls:=.type "list",data:=.seq vs.toArray}→IntsAre vs ns→ns.length≤n→s₁.gens = #[]→
      codeAny (model l.prog w) callerA (.call (.ref fa) ⟨[.ref a],[]⟩) (fun r s'=>r = .ok (.ret (.bool true))∧OldK s₁.heap s'.heap∧s'.os=s₁.os∧AllBare s'.gens) s₁) :
    WalkO q loose XP YP l.row.toRowW d [] (fun f vs=>PySem.call f vs):=by
  intro w s₀ s₁ mg mb G Y fa o pm cd doc dV kV ho hd hcd hD hmg hg args vals as hpre hlay hrd hwl hlo;obtain rfl:dV = .none:=Dflts.none hD hdf;obtain rfl:kV = .none:=Dflts.noKw hD;obtain⟨a,vs,ns,rfl,rfl,hobj,hints,hlen⟩:=TJ hn hpre hwl;refine enter_call (codeAny_mono (call w s₀ s₁ mg mb fa o pm cd doc a vs ns G Y ho (fd_plain hd) hcd hmg hobj hints hlen hg) fun r s' hq=>?_);obtain⟨rfl,h2,h3,h4⟩:=hq;exact⟨.inl ⟨.bool true,.bool true,[],rfl,fun _=>rfl,.bool true,TQ l _,fun _=>⟨List.Pairwise.nil,fun _ hm=>(nomatch hm)⟩⟩,h2,h3,h4⟩
end Att
namespace L2
open PySem PySem.Spec PyProof.Rows
theorem Hv:∀{vs:List Value} {ns:List Int},IntsAre vs ns→Vals (ns.map V.int) vs
  | _,_,.nil=>.nil
  | _,_,.cons n t h=>.cons ⟨t,rfl⟩ (Hv h)
def Only (H:Hp):Prop:=∀b,H b=none∨∃o xs,H b=some (.K8 o (.lst xs))
theorem WX {P:Program} {w:World} {K:W.Frag} {mg mb:Str→Option Value} {CX:Wv} {k:Nat} {fa a:Addr} {fd:FuncData} {x:Str} {sp:Sp} {s₁:Shared} {vs:List Value} {ns:List Int}
    (KX:K.In s₁.heap) (hns:s₁.heap.Ns mainGlobals mg) (hb:s₁.heap.Ns builtinsNs mb) (hbb:∀x:Str,x≠ "__name__" →mb x=bootBuiltins x) (hlim:s₁.heap.NoLimit) (hg:s₁.gens = #[])
    (ha:s₁.heap.get? a=some {cls:=.type "list",data:=.seq vs.toArray}) (hi:IntsAre vs ns) (hl:ns.length≤sizeLine) (hr:jJ k callerA)
    (F:∀base:Heap,K.In base→base.Ns mainGlobals mg→cD P w K mg base CX k fa fd [x] sp) (hbind:∀(s:Shared) (u:Value),BindsTo s fd ⟨[u],[]⟩ [(x,u)])
    (hsp:∀H:Hp,Only H→aY K H a (ns.map V.int)→sp [.ref a] H (fun v _=>v = .bl true) fun _ _ _=>False)
    (hCX:∀H e s',CX [] H s₁ (fun _ _ _=>False) e s'→False) :
    codeAny (model P w) callerA (.call (.ref fa) ⟨[.ref a],[]⟩) (fun r s'=>r = .ok (.ret (.bool true))∧OldK s₁.heap s'.heap∧s'.os=s₁.os∧AllBare s'.gens) s₁:=by
  have rv:=Hv hi;have lenV:=hi.length;have core:∀H:Hp,Only H→aY K H a (ns.map V.int)→tG P w H s₁.heap→(∀b,H b≠none→b=a)→(H a≠none→K.lookup a=none)→
      codeAny (model P w) callerA (.call (.ref fa) ⟨[.ref a],[]⟩) (fun r s'=>r = .ok (.ret (.bool true))∧OldK s₁.heap s'.heap∧s'.os=s₁.os∧AllBare s'.gens) s₁:=by
    intro H hO hS hok hA hK;have Rp:∀{b:Addr} {o:Obj},s₁.heap.get? b=some o→H b=none→(Jd s₁.heap H).get? b=some o:=fun e n=>Wc e n;have noA:∀{b:Addr} {o:Obj} {es:Array DictEntry} {ep:Nat},s₁.heap.get? b=some o→o.data = .dict es ep→H b=none:=fun {b o es ep} e d=>by
      cases q:H b with
      | none=>rfl
      | some u=>
        have e':b=a:=hA b (by rw[q];simp);subst e';rw[ha] at e;cases e;have d':Data.seq vs.toArray _=Data.dict es ep:=d;cases d'
    have nsK:∀{b:Addr} {m:Str→Option Value},s₁.heap.Ns b m→(Jd s₁.heap H).Ns b m:=fun {b m} ⟨o,es,ep,e,d,r⟩=>⟨o,es,ep,Rp e (noA e d),d,r⟩;have hKb:K.In (Jd s₁.heap H):=fun b o e=>Rp (KX b o e) (by
      cases q:H b with
      | none=>rfl
      | some u=>
        have e':b=a:=hA b (by rw[q];simp);subst e';rw[hK (by rw[q];simp)] at e;cases e)
    have hM:Mod K mg (Jd s₁.heap H):=⟨hKb,nsK hns,⟨mb,nsK hb,hbb⟩,let ⟨mc,h1,h2⟩:=hlim;⟨mc,nsK h1,h2⟩⟩;have e0:O_ P w K mg (Jd s₁.heap H) callerA [] s₁ H:=⟨rfl,hM,fun b o e=>qaa e,Nat.le_of_eq (SQ _ _),trivial,fun b hb=>absurd (show b∈([]:List Addr) from hb) (by simp),hok,.of_eq hg⟩;refine codeAny_mono ((F _ hKb (nsK hns)).run callerA [] s₁ H ⟨[.ref a],[]⟩ [.ref a] [.ref a] _ _ hr e0 (hbind s₁ (.ref a)) (.cons rfl .nil) (hsp H hO hS)) fun r s' h=>?_;cases r with
    | error e=>exact(hCX H e s' h).elim
    | ok fl=>
      cases fl with
      | next=>exact False.elim h
      | brk=>exact False.elim h
      | cont=>exact False.elim h
      | ret u=>
        obtain⟨v,H',os,bare,un,hok',r',q⟩:=h;have q':v = .bl true:=q;subst q';obtain rfl:u=Value.bool true:=r';refine⟨rfl,OldK.of_keep fun b o e=>?_,os,bare⟩;cases q:H b with
        | none=>exact un.keep b o e q (by intro z;exact absurd (show b∈([]:List Addr) from z) (by simp)) (by simp)
        | some u=>
          rcases hO b with z | ⟨ob,xs,z⟩
          ·rw[q] at z;cases z
          ·have z2:=un.sY b ob _ z;obtain⟨e1,_⟩:=hok b _ z;obtain⟨e2,_⟩:=hok' b _ z2;rw[e] at e1;cases e1;exact e2
  cases hk:K.lookup a with
  | some o=>
    have e:=KX a o hk;rw[ha] at e;cases e;refine core (fun _=>none) (fun _=>.inl rfl) (.inr ⟨_,vs.toArray,_,hk,rfl,rfl,rfl,by rw[List.size_toArray,lenV];exact hl,by simpa using rv⟩) (fun b u z=>by have z':(none:Option HO)=some u:=z;cases z') (fun b z=>absurd rfl z) fun z=>absurd rfl z
  | none=>
    refine core (fun b=>if b=a then some (.K8 {cls:=.type "list",data:=.seq vs.toArray} (.lst (ns.map V.int))) else none) (fun b=>?_) (.inl (.inr ⟨{cls:=.type "list",data:=.seq vs.toArray},if_pos rfl⟩)) (fun b u z=>?_) (fun b z=>?_) fun _=>hk
    · by_cases hb:b=a
      ·exact .inr ⟨_,_,if_pos hb⟩
      ·exact .inl (if_neg hb)
    · by_cases hb:b=a
      ·have z':=(if_pos hb).symm.trans z;cases z';subst hb;exact⟨ha,by rw[List.length_map];exact hl,vs,_,rv,ha⟩
      ·have z':=(if_neg hb).symm.trans z;cases z'
    · by_cases hb:b=a
      ·exact hb
      ·exact absurd (if_neg hb) z
theorem qar {l:W.OpenLaw} {n k:Nat} {q:Program} {loose:List Str} {XP:(Str→Option Value)→Heap→Prop} {YP:World→Heap→Prop} {d:DefRec} {K:Params→W.Frag} {CX:World→Wv} {sp:World→Sp} {x:Str}
    (hn:l.most=some n) (hn2:n≤sizeLine) (hdf:d.params.defaults=[]) (hr:jJ k callerA)
    (hY:∀(w:World) (h:Heap),YP w h→(K w.params).In h)
    (F:∀(w:World) (mg:Str→Option Value) (fa:Addr) (h:Heap),(K w.params).In h→h.Ns mainGlobals mg→mg d.name=some (.ref fa)→
      ∃fd:FuncData,(∀(s:Shared) (u:Value),BindsTo s fd ⟨[u],[]⟩ [(x,u)])∧
        ∀base:Heap,(K w.params).In base→base.Ns mainGlobals mg→cD l.prog w (K w.params) mg base (CX w) k fa fd [x] (sp w))
    (hsp:∀(w:World) (H:Hp) (a:Addr) (ns:List Int),ns.length≤n→Only H→aY (K w.params) H a (ns.map V.int)→sp w [.ref a] H (fun v _=>v = .bl true) fun _ _ _=>False)
    (hCX:∀(w:World) (H:Hp) (s:Shared) (e:Value) (s':Shared),CX w [] H s (fun _ _ _=>False) e s'→False) :
    W.WalkO q loose XP YP l.row.toRowW d [] (fun f vs=>PySem.call f vs):=by
  refine Att.Lr hn hdf fun w s₀ s₁ mg mb fa o pm cd doc a vs ns G Y ho hd hcd hmg hobj hints hlen hg=>?_;have KX:=hY w _ Y;obtain⟨fd,hb,hF⟩:=F w mg fa _ KX G.T.g hmg;exact WX KX G.T.g G.T.b G.T.builtins G.T.nolimit hg hobj hints (Nat.le_trans hlen hn2) hr hF hb (fun H hO hS=>hsp w H a ns hlen hO hS) fun H e s'=>hCX w H s₁ e s'
def inClass (s:Stmt) (j:Nat):Stmt:=match s with
  | .ClassDef _ _ _ body _ _ _ _ _ _ _=>body.getD j (.Pass ⟨0,0,0,0⟩)
  | _=>.Pass ⟨0,0,0,0⟩
def aL (s:Stmt):Arguments:=match s with
  | .FunctionDef _ a _ _ _ _ _ _ _ _=>a
  | _=>{posonlyargs:=[],args:=[],vararg:=none,kwonlyargs:=[],kw_defaults:=[],kwarg:=none,defaults:=[]}
def aJ (s:Stmt):List Stmt:=match s with
  | .FunctionDef _ _ b _ _ _ _ _ _ _=>b
  | _=>[]
def ao (s:Stmt):Scope:=match s with
  | .FunctionDef _ _ _ _ _ _ sc _ _ _=>sc
  | _=>{kind:=.function,names:=[],isGenerator:=false,isCoroutine:=false}
abbrev mL:Wv:=fun _ _ _ _ _ _=>False
abbrev E0:XK:=fun _ _ _=>False
theorem bh {X:Cx}:Passes mL X E0:=fun _ _ _ _ _ _ _ h=>h.elim
structure kj (K:W.Frag) (x qual:Str) (st:Stmt) (f:Addr) (fd:FuncData):Prop where
  ex:∃(oc:Value) (od:Option Addr) (kV doc pm:Value) (an:Option Addr) (cdv ct:Value) (osl:Array (Option Value)),
    fd=W.fnOf x qual (aL st) (aJ st) (ao st) .none kV doc pm an cdv ct∧K.lookup f=some ⟨oc,od,.func fd,osl⟩∧W.codeIn K cdv qual=true
  kp:W.keepIn K (.ref f)=true
section
variable {P:Program} {w:World} {K:W.Frag} {mg:Str→Option Value} {base:Heap}
theorem kj.ok {x qual:Str} {st:Stmt} {f:Addr} {fd:FuncData} {N ps:List Str} {k:Nat} {sp:Sp} (F:kj K x qual st f fd) (S:bA N ps (ao st)) (len:∀vs H Q E,sp vs H Q E→vs.length=ps.length)
    (hbody:∀(cdv:Value) (A:Around) (outer:List Env) (s:Shared) (H:Hp) (vs:List V) (Q:VK) (E:XK),jJ k (A.deeper (envOfC qual (ao st) s.heap.objs.size f cdv))→sp vs H Q E→
      ∃t,G_ (aA mL P w K mg base N qual (ao st) f cdv A outer s H E).V4 (aJ st) t∧t {nx:=fun _ H'=>Q .non H',rt:=Q} (start N vs) H):cD P w K mg base mL (k+1) f fd ps sp:=by
  obtain⟨oc,od,kV,doc,pm,an,cdv,ct,osl,rfl,lk,hcd⟩:=F.ex;refine qbC lk hcd S len fun A outer s H vs Q E hr hsp=>?_;obtain⟨t,h,q⟩:=hbody cdv A outer s H vs Q E hr hsp;exact⟨t,h.V4,q⟩
theorem kj.binds {x qual:Str} {st:Stmt} {f:Addr} {fd:FuncData} {ps:List Str} (F:kj K x qual st f fd)
    (h:∀(kV doc pm:Value) (an:Option Addr) (cdv ct:Value) (us:List Value),us.length=ps.length→bindArgs (W.fnOf x qual (aL st) (aJ st) (ao st) .none kV doc pm an cdv ct) ⟨us,[]⟩=pure (ps.zip us)):Binds K fd ps []:=by
  obtain⟨oc,od,kV,doc,pm,an,cdv,ct,osl,rfl,lk,hcd⟩:=F.ex;exact .all (h kV doc pm an cdv ct)
theorem bO {x qual:Str} {st:Stmt} {f:Addr} {oc:Value} {od an:Option Addr} {osl:Array (Option Value)} {kV doc pm cdv ct:Value} (l:K.lookup f=some ⟨oc,od,.func (W.fnOf x qual (aL st) (aJ st) (ao st) .none kV doc pm an cdv ct),osl⟩)
    (c:W.codeIn K cdv qual=true) (k:W.keepIn K (.ref f)=true):kj K x qual st f (W.fnOf x qual (aL st) (aJ st) (ao st) .none kV doc pm an cdv ct):=⟨⟨oc,od,kV,doc,pm,an,cdv,ct,osl,rfl,l,c⟩,k⟩
end
theorem vI {A:Around} {k:Nat} (hr:jJ k A):A.units+1<cLine:=Nat.lt_of_le_of_lt (Nat.add_le_add_left (by decide:1≤64) _) hr.units
def Same (H H':Hp):Prop:=∀b o,H b=some o→H' b=some o
theorem Same.refl (H:Hp):Same H H:=fun _ _ h=>h
theorem Same.trans {H H1 H2:Hp} (a:Same H H1) (b:Same H1 H2):Same H H2:=fun c o h=>b c o (a c o h)
theorem Same.seq {K:W.Frag} {H H':Hp} {a:Addr} {xs:List V} (e:Same H H') (h:aY K H a xs):aY K H' a xs:=by
  rcases h with(h | ⟨o,h⟩) | h
  ·exact .inl (.inl (e _ _ h))
  ·exact .inl (.inr ⟨o,e _ _ h⟩)
  ·exact .inr h
def qe (env:Env) (cs:List (Str×Addr)) (p:Str×NameKind):List (Str×Addr):=if p.2 == .free then (p.1,(env.cells.lookup p.1).getD 0)::cs else cs
def Ls (env:Env) (names:List (Str×NameKind)):List (Str×Addr):=names.foldl (qe env) []
theorem Ac {α β:Type} (f:α→β→Sem (ForInStep β)) (g:β→α→β):∀(l:List α) (b:β),(∀x∈l,∀b,f x b=pure (.yield (g b x)))→forIn l b f=pure (l.foldl g b)
  | [],_,_=>rfl
  | x::l,b,h=>by
    rw[List.forIn_cons,h x List.mem_cons_self,pure_bind];exact Ac f g l (g b x) fun y hy=>h y (List.mem_cons_of_mem _ hy)
theorem sU {sc:Scope} {env:Env} (h:∀x,(x,NameKind.free)∈sc.names→∃c,env.cells.lookup x=some c):closureFor sc env=pure (Ls env sc.names):=by
  simp only[closureFor];rw[Ac _ (qe env) sc.names [] (fun p hp cs=>by
    obtain⟨n,k⟩:=p;cases k with
    | free=>
      obtain⟨c,hc⟩:=h n hp;simp only[qe,cellOf,hc,beq_self_eq_true,if_true,Option.getD_some,pure_bind]
    | _=>simp only[qe];rfl)]
  rfl
theorem xJ {env:Env}:∀(names:List (Str×NameKind)) (acc:List (Str×Addr)) (x:Str) (c:Addr),(∀x,(x,NameKind.free)∈names→∃c,env.cells.lookup x=some c)→(∀x c,(x,c)∈acc→env.cells.lookup x=some c)→
    (x,c)∈names.foldl (qe env) acc→env.cells.lookup x=some c
  | [],_,x,c,_,h,m=>h x c m
  | (n,k)::r,acc,x,c,hf,h,m=>by
    refine xJ r (qe env acc (n,k)) x c (fun y hy=>hf y (List.mem_cons_of_mem _ hy)) (fun y d hy=>?_) m;unfold qe at hy;split at hy
    · rename_i hk;have hk':k = .free:=by simpa using hk
      subst hk';obtain⟨e,he⟩:=hf n List.mem_cons_self
      rcases List.mem_cons.mp hy with z | z
      ·cases z;show env.cells.lookup n=some _;rw[he];rfl
      ·exact h y d z
    ·exact h y d hy
theorem yV {env:Env} {x:Str}:∀(names:List (Str×NameKind)) (acc:List (Str×Addr)),((x,NameKind.free)∈names∨(acc.lookup x).isSome=true)→((names.foldl (qe env) acc).lookup x).isSome=true
  | [],_,h=>h.elim (fun z=>nomatch z) id
  | (n,k)::r,acc,h=>by
    refine yV r (qe env acc (n,k)) ?_
    by_cases hm:(x,NameKind.free)∈r
    ·exact .inl hm
    · refine .inr ?_;unfold qe
      rcases h with h | h
      · rcases List.mem_cons.mp h with z | z
        ·cases z;simp[List.lookup_cons]
        ·exact absurd z hm
      · split
        ·simp only[List.lookup_cons];cases x == n <;> simp[h]
        ·exact h
def Ci (env:Env) (sc:Scope) (C:Addr):List (Str×Addr):=cellsFrom (C+1) sc.names (Ls env sc.names)
theorem jK {x:Str}:∀(names:List (Str×NameKind)) (n:Nat) (acc:List (Str×Addr)),(x,NameKind.cell)∈names∨(acc.lookup x).isSome=true→((cellsFrom n names acc).lookup x).isSome=true
  | [],_,_,h=>h.elim (fun z=>nomatch z) id
  | (y,k)::r,n,acc,h=>by
    unfold cellsFrom;split
    · refine jK r (n+1) ((y,n)::acc) ?_
      by_cases hm:(x,NameKind.cell)∈r
      ·exact .inl hm
      · refine .inr ?_
        rcases h with h | h
        · rcases List.mem_cons.mp h with z | z
          ·cases z;simp[List.lookup_cons]
          ·exact absurd z hm
        ·simp only[List.lookup_cons];cases x == y <;> simp[h]
    · rename_i hk;refine jK r n acc ?_
      rcases h with h | h
      · rcases List.mem_cons.mp h with z | z
        ·cases z;exact absurd rfl hk
        ·exact .inl z
      ·exact .inr h
theorem Pj:∀(names:List (Str×NameKind)) (h:Heap) (acc:List (Str×Addr)) (x:Str) (c:Addr),(x,c)∈cellsFrom h.objs.size names acc→(x,c)∈acc∨(h.objs.size≤c∧(pushCells h names).IsCell c none)
  | [],_,_,_,_,m=>.inl m
  | (n,k)::r,h,acc,x,c,m=>by
    unfold cellsFrom at m;unfold pushCells;split at m
    · rename_i hk;rw[if_pos hk];have m':(x,c)∈cellsFrom (h.push {cls:=.type "cell",data:=.cell none}).objs.size r ((n,h.objs.size)::acc):=by rw[Heap.size_push];exact m
      rcases Pj r (h.push {cls:=.type "cell",data:=.cell none}) _ x c m' with z | ⟨z1,z2⟩
      · rcases List.mem_cons.mp z with e | e
        ·cases e;exact .inr ⟨Nat.le_refl _,⟨_,pushCells_keeps _ _ _ _ (Heap.get?_push_size _ rfl),rfl⟩⟩
        ·exact .inl e
      ·rw[Heap.size_push] at z1;exact .inr ⟨by omega,z2⟩
    ·rename_i hk;rw[if_neg hk];exact Pj r h acc x c m
theorem Pk {n0:Nat} {x:Str}:∀(names:List (Str×NameKind)) (n:Nat) (acc:List (Str×Addr)) (c:Addr),((x,NameKind.cell)∈names∨∀d,acc.lookup x=some d→n0≤d)→n0≤n→(cellsFrom n names acc).lookup x=some c→n0≤c
  | [],_,_,c,h,_,e=>h.elim (fun z=>nomatch z) fun z=>z c e
  | (y,k)::r,n,acc,c,h,hn,e=>by
    unfold cellsFrom at e;split at e
    · refine Pk r (n+1) ((y,n)::acc) c ?_ (by omega) e
      by_cases hm:(x,NameKind.cell)∈r
      ·exact .inl hm
      · refine .inr fun d hd=>?_
        by_cases hxy:x=y
        · subst hxy;have hnd:n=d:=by simpa [List.lookup_cons] using hd
          rw[← hnd];exact hn
        · have hb:(x == y)=false:=by simpa using hxy
          simp only[List.lookup_cons,hb] at hd
          rcases h with h | h
          · rcases List.mem_cons.mp h with z | z
            ·cases z;exact absurd rfl hxy
            ·exact absurd z hm
          ·exact h d hd
    · rename_i hk;refine Pk r n acc c ?_ hn e
      rcases h with h | h
      · rcases List.mem_cons.mp h with z | z
        ·cases z;exact absurd rfl hk
        ·exact .inl z
      ·exact .inr h
theorem Pn:∀(names:List (Str×NameKind)) (n:Nat) (acc:List (Str×Addr)),(∀y d,(y,d)∈acc→d<n)→(∀y z d,(y,d)∈acc→(z,d)∈acc→y=z)→
    ∀y z d,(y,d)∈cellsFrom n names acc→(z,d)∈cellsFrom n names acc→y=z
  | [],_,_,_,h=>h
  | (x,k)::r,n,acc,hl,h=>by
    unfold cellsFrom;split
    · refine Pn r (n+1) ((x,n)::acc) (fun y d hm=>?_) fun y z d h1 h2=>?_
      · rcases List.mem_cons.mp hm with e | e
        ·cases e;exact Nat.lt_succ_self _
        ·exact Nat.lt_succ_of_lt (hl y d e)
      · rcases List.mem_cons.mp h1 with e1 | e1 <;> rcases List.mem_cons.mp h2 with e2 | e2
        ·cases e1;cases e2;rfl
        ·cases e1;exact absurd (hl z n e2) (Nat.lt_irrefl _)
        ·cases e2;exact absurd (hl y n e1) (Nat.lt_irrefl _)
        ·exact h y z d e1 e2
    ·exact Pn r n acc hl h
abbrev NoE:Value→Shared→Prop:=fun _ _=>False
theorem Lw {prog:Program} {w:World} {A:Around} {R:Result→Shared→Prop} {s:Shared} {elt target iter:Expr} {ifs:List Expr} {scope:Scope} {pos:Pos} {it acc:Value} {env:Env} (I:Nat→Shared→Prop)
    (turn:∀n s,I n s→wpAny (model prog w) A (pyNext it) (fun r s₁=>match r with
      | none=>R (.ok .next) s₁
      | some v=>wpAny (model prog w) A (letOwnedTupleGo target it v) (fun _ s₂=>wpAny (model prog w) A (assign target env v) (fun _ s₃=>
          wpAny (model prog w) A (forIn ifs true fun c r=>if r=true then do let ok ← isTrue c env (eval c env);pure (ForInStep.yield ok) else pure (ForInStep.yield r)) (fun ok s₄=>
            if ok=true then wpAny (model prog w) A (eval elt env) (fun x s₅=>
              wpAny (model prog w) A (call (.builtin "list.append") [acc,x]) (fun _ s₆=>∃m,m<n∧I m s₆) NoE s₅) NoE s₄
            else ∃m,m<n∧I m s₄) NoE s₃) NoE s₂) NoE s₁) NoE s)
    (n:Nat) (h:I n s):codeAny (model prog w) A (.compLoop (.ListComp elt [⟨target,iter,ifs,0⟩] scope pos) 0 it acc env) R s:=by
  refine codeAny_loop rfl I (fun n s hI=>?_) n h;show wpAny _ A ((compTurn (.ListComp elt [⟨target,iter,ifs,0⟩] scope pos) 0 it acc env).onRaise (fun x=>do noteFrame x env;theTreesLotGoes x)) _ _ s
  refine wpAny_noted ?_;rw[compTurn_list];refine wpAny_bind (wpAny_standAt (wpAny_bind (wpAny_mono (turn n s hI) (fun r s₁ h₁=>?_) fun _ _ h'=>h'.elim)));cases r with
  | none=>exact wpAny_pure h₁
  | some v=>
    refine wpAny_bind (wpAny_mono h₁ (fun _ s₂ h₂=>?_) fun _ _ h'=>h'.elim);refine wpAny_bind (wpAny_mono h₂ (fun _ s₃ h₃=>wpAny_bind (wpAny_mono h₃ (fun ok s₄ h₄=>?_) fun _ _ h'=>h'.elim)) fun _ _ h'=>h'.elim);cases ok with
    | false=>exact wpAny_pure ⟨rfl,h₄⟩
    | true=>
      exact wpAny_bind (wpAny_bind (wpAny_mono h₄ (fun x s₅ h₅=>wpAny_bind (wpAny_mono h₅ (fun _ s₆ h₆=>wpAny_pure (wpAny_pure ⟨rfl,h₆⟩)) fun _ _ h'=>h'.elim)) fun _ _ h'=>h'.elim))
def gY (X:Cx) (sc:Scope) (N:List Str) (C:Addr) (s:Shared) (H:Hp) (fp:List Addr) (pn:List (Addr×Obj)):Cx:=
  {X with env:=compEnvC sc (Ci X.env sc C) C X.env,N:=N,s₀:=s,H₀:=H,outer:=X.stack,ex:=fp,fn:=fun x=>sc.names.any fun p=>p.1 == x && p.2 == .cell,pn:=pn,xe:=NoE}
theorem tU {sc:Scope} {env:Env} (x:Str):(relabel sc env).names.lookup x=(sc.names.lookup x).map fun k=>if (k == NameKind.free && env.scope.kind == .function && env.kindOf x == some .cell)=true then NameKind.cell else k:=by
  unfold relabel;show List.lookup x (sc.names.map _)=_
  induction sc.names with
  | nil=>rfl
  | cons p r ih=>
    obtain⟨n,k⟩:=p;rw[List.map_cons];have e1:(if (k == NameKind.free && env.scope.kind == .function && env.kindOf n == some .cell)=true then (n,NameKind.cell) else (n,k))=(n,if (k == NameKind.free && env.scope.kind == .function && env.kindOf n == some .cell)=true then NameKind.cell else k):=by split <;> rfl
    show List.lookup x ((if (k == NameKind.free && env.scope.kind == .function && env.kindOf n == some .cell)=true then (n,NameKind.cell) else (n,k))::_)=_
    rw[e1]
    by_cases hx:x=n
    ·subst hx;simp only[List.lookup_cons,beq_self_eq_true,Option.map_some]
    · have hb:(x == n)=false:=by simpa using hx
      simp only[List.lookup_cons,hb];exact ih
structure bx (ps sc:Scope) (pN own:List Str) (caps:List Nat) (N:List Str):Prop where
  kind:sc.kind = .function
  uniq:∀p∈sc.names,sc.names.lookup p.1=some p.2
  nd:N.Nodup
  names:N=own++caps.map fun j=>pN.getD j ""
  free:∀p∈sc.names,p.2 = .free→ps.names.lookup p.1=some .cell∨ps.names.lookup p.1=some .free
  qlm:∀j∈caps,j<pN.length∧sc.names.lookup (pN.getD j "")=some .free
def stC (own:List Str) (caps:List Nat) (σ:St):St:=own.map (fun _=>none)++caps.map fun j=>(σ[j]?).getD none
section
variable {X:Cx} {p_:List (Addr×Obj)} {σ:St} {H:Hp} {s:Shared} {ps sc:Scope} {own pN:List Str} {caps:List Nat} {N:List Str} {fp:List Addr}
theorem bx.cells (S:bx ps sc pN own caps N) (hps:X.env.scope=ps) (ok:X.Ok):∀x,(x,NameKind.free)∈sc.names→∃c,X.env.cells.lookup x=some c:=fun x hx=>by
  refine ok.has x ?_;show X.env.scope.names.lookup x=_∨X.env.scope.names.lookup x=_;rw[hps];exact S.free (x,.free) hx rfl
theorem Cj (hfr:∀x,(x,NameKind.free)∈sc.names→∃c,X.env.cells.lookup x=some c) {C:Addr} {x:Str} {c:Addr} {h:Heap} (hC:C+1=h.objs.size) (m:(x,c)∈Ci X.env sc C):X.env.cells.lookup x=some c∨(h.objs.size≤c∧(pushCells h sc.names).IsCell c none):=by
  unfold Ci at m;rw[hC] at m
  rcases Pj sc.names h _ x c m with z | z
  ·exact .inl (xJ sc.names [] x c hfr (fun _ _ z=>nomatch z) z)
  ·exact .inr z
theorem Rq (I:Inv X p_ σ H s) (hps:X.env.scope=ps) (S:bx ps sc pN own caps N) (hf:∀b∈fp,vG X p_ H b) (ho:∀b∈fp,∃o,s.heap.get? b=some o∧∀v,o.data≠.cell v) :
    (gY X sc N s.heap.objs.size s H fp (X.pn++p_)).Ok where
  mod:=I.ok.mod
  kind:=S.kind
  glob:=I.ok.glob
  blt:=I.ok.blt
  above:=Nat.le_refl _
  inj:=fun x y c h1 h2=>by
    have cl:∀y d,(y,d)∈Ls X.env sc.names→X.env.cells.lookup y=some d:=fun y d m=>xJ sc.names [] y d (S.cells hps I.ok) (fun _ _ z=>nomatch z) m;refine Pn sc.names (s.heap.objs.size+1) (Ls X.env sc.names) (fun y d m=>?_) (fun y z d m1 m2=>I.ok.inj y z d (cl y d m1) (cl z d m2)) x y c (PySem.mem_of_lookup h1) (PySem.mem_of_lookup h2);obtain⟨v,q⟩:=I.cell y d (cl y d m);exact Nat.lt_succ_of_lt q.lt
  has:=fun x hx=>by
    have hx1:(relabel sc X.env).names.lookup x=some .cell∨(relabel sc X.env).names.lookup x=some .free:=hx;have hx':(x,NameKind.cell)∈sc.names∨(x,NameKind.free)∈sc.names:=by
      rw[tU] at hx1;cases e:sc.names.lookup x with
      | none=>rw[e] at hx1;simp at hx1
      | some k=>
        rw[e] at hx1;have hm:=PySem.mem_of_lookup e;cases k with
        | free=>exact .inr hm
        | cell=>exact .inl hm
        | _=>simp at hx1
    have q:((cellsFrom (s.heap.objs.size+1) sc.names (Ls X.env sc.names)).lookup x).isSome=true:=by
      rcases hx' with z | z
      ·exact jK sc.names _ _ (.inl z)
      ·exact jK sc.names _ _ (.inr (yV sc.names [] (.inl z)))
    exact Option.isSome_iff_exists.mp q
  cab:=fun x c hx h=>by
    have hx':(x,NameKind.cell)∈sc.names:=by
      have hx:(sc.names.any fun p=>p.1 == x && p.2 == .cell)=true:=hx;obtain⟨⟨a,b⟩,hm,he⟩:=List.any_eq_true.mp hx;simp at he;obtain⟨rfl,rfl⟩:=he;exact hm
    exact Pk (n0:=s.heap.objs.size) sc.names (s.heap.objs.size+1) (Ls X.env sc.names) c (.inl hx') (Nat.le_succ _) h
  hd:=I.ok.hd
  frames:=I.ok.frames
  stk:=.inl rfl
  exf:=fun b hb=>by
    obtain⟨o,e,_⟩:=ho b hb;refine⟨Nat.ne_of_lt (Heap.lt_size e),fun x c h z=>?_⟩;subst z
    rcases Cj (S.cells hps I.ok) (h:=s.heap.push {cls:=.type "dict",data:=.dict #[]}) (by rw[Heap.size_push]) (PySem.mem_of_lookup h) with q | ⟨q,_⟩
    ·exact(hf c hb).2.2.2.2.1 x c q rfl
    ·rw[Heap.size_push] at q;exact absurd (Nat.lt_of_lt_of_le (Nat.lt_of_lt_of_le (Heap.lt_size e) (Nat.le_succ _)) q) (Nat.lt_irrefl _)
  bs:=I.bs
  V3:=Nat.le_trans I.ok.V3 I.sz
  K_:=fun b o e hb=>by
    rcases(hf b hb).2.2.2.1 with z | z
    ·exact I.ok.K_ b o e z
    ·exact absurd (Nat.lt_of_lt_of_le (Heap.lt_size e) (Nat.le_trans I.ok.V3 z)) (Nat.lt_irrefl _)
  La:=fun b hb z=>by
    rcases List.mem_cons.mp (I.wu b z) with q | q
    ·exact(hf b hb).2.1 q
    ·exact(hf b hb).2.2.1 q
  vD:=I.stack
  ZW:=I.Bl
def blockAt (sc:Scope) (s:Shared):Shared:={s with heap:=pushCells (s.heap.push {cls:=.type "dict",data:=.dict #[]}) sc.names}
theorem WY (I:Inv X p_ σ H s) (hps:X.env.scope=ps) (hpN:X.N=pN) (S:bx ps sc pN own caps N) (hf:∀b∈fp,vG X p_ H b) (ho:∀b∈fp,∃o,s.heap.get? b=some o∧∀v,o.data≠.cell v) :
    Inv (gY X sc N s.heap.objs.size s H fp (X.pn++p_)) [] (stC own caps σ) H (blockAt sc s):=by
  have hk:∀b o,s.heap.get? b=some o→(blockAt sc s).heap.get? b=some o:=fun b o e=>pushCells_keeps _ _ b o (Heap.get?_push_of_some _ e);have hns:(blockAt sc s).heap.Ns s.heap.objs.size fun _=>none:=(Heap.Ns.new s.heap (.type "dict")).keeps (pushCells_keeps _ _);have hcl:∀x c,(Ci X.env sc s.heap.objs.size).lookup x=some c→X.env.cells.lookup x=some c∨(s.heap.objs.size+1≤c∧(blockAt sc s).heap.IsCell c none):=fun x c e=>by
    rcases Cj (S.cells hps I.ok) (h:=s.heap.push {cls:=.type "dict",data:=.dict #[]}) (by rw[Heap.size_push]) (PySem.mem_of_lookup e) with q | ⟨q,r⟩
    ·exact .inl q
    ·rw[Heap.size_push] at q;exact .inr ⟨q,r⟩
  refine⟨Rq I hps S hf ho,rfl,I.bare,Un.kept hk,⟨_,hns,fun i x v e1 e2 e3=>?_⟩,fun x c e=>?_,I.hok.fresh (Nat.le_refl _),fun x c e=>?_,fun p hp=>?_,I.hok.kept hk,?_⟩
  · have e1':N[i]? = some x:=e1;rw[S.names] at e1';unfold stC at e2
    by_cases hi:i<own.length
    · rw[List.getElem?_append_left (by simpa using hi),List.getElem?_map] at e2;cases q:own[i]? with
      | none=>rw[q] at e2;cases e2
      | some y=>rw[q] at e2;cases e2
    · rw[List.getElem?_append_right (by omega),List.getElem?_map] at e1';rw[List.getElem?_append_right (by simp;omega),List.getElem?_map] at e2;simp only[List.length_map] at e2;cases q:caps[i - own.length]? with
      | none=>rw[q] at e2;cases e2
      | some j=>
        rw[q] at e1' e2;have qfv:pN.getD j "" = x:=Option.some.inj e1';have e2':(σ[j]?).getD none=some v:=Option.some.inj e2;have hj:σ[j]? = some (some v):=by
          cases z:σ[j]? with
          | none=>rw[z] at e2';cases e2'
          | some o=>rw[z] at e2';exact congrArg some e2'
        obtain⟨hlt,hfree⟩:=S.qlm j (List.mem_of_getElem? q);rw[qfv] at hfree;have hNj:X.N[j]? = some x:=by
          rw[hpN,← qfv];simp[List.getD,List.getElem?_eq_getElem hlt]
        have qfw:=S.free (x,.free) (PySem.mem_of_lookup hfree) rfl;have vis:Vis X.env.scope x:=by rw[hps];exact .inr qfw
        obtain⟨m,hn,hl⟩:=I.loc;obtain⟨u,r,l⟩:=hl j x v hNj hj vis;refine⟨u,r,.inr ?_⟩;have hkind:(relabel sc X.env).names.lookup x=some .cell∨(relabel sc X.env).names.lookup x=some .free:=by
          rw[tU,hfree];show some (if _ then _ else _)=_∨some (if _ then _ else _)=_
          split
          ·exact .inl rfl
          ·exact .inr rfl
        refine⟨hkind,?_⟩;have hcell:X.env.kindOf x=some .cell∨X.env.kindOf x=some .free:=by
          show X.env.scope.names.lookup x=_∨X.env.scope.names.lookup x=_;rw[hps];exact qfw
        rcases l with⟨hloc,_⟩ | ⟨_,c,hc,hcv⟩
        ·rcases hcell with z | z <;> (rw[hloc] at z;cases z)
        · have q2:((Ci X.env sc s.heap.objs.size).lookup x).isSome=true:=jK sc.names _ _ (.inr (yV sc.names [] (.inl (PySem.mem_of_lookup hfree))));obtain⟨d,hd⟩:=Option.isSome_iff_exists.mp q2;refine⟨d,hd,?_⟩
          rcases hcl x d hd with z | ⟨z,_⟩
          ·rw[hc] at z;cases z;exact hcv.keeps hk
          ·
            exfalso;have hnc:(x,NameKind.cell)∉sc.names:=fun hm=>by
              have:=S.uniq _ hm;rw[hfree] at this;cases this
            have hmem:=PySem.mem_of_lookup hd;have qcT:∀(names:List (Str×NameKind)) (n:Nat) (acc:List (Str×Addr)),(x,NameKind.cell)∉names→(cellsFrom n names acc).lookup x=acc.lookup x:=by
              intro names
              induction names with
              | nil=>intro _ _ _;rfl
              | cons p r ih=>
                intro n acc hm;obtain⟨y,k⟩:=p;unfold cellsFrom;split
                · rename_i hkk;have hkk':k = .cell:=by simpa using hkk
                  subst hkk';rw[ih _ _ fun z=>hm (List.mem_cons_of_mem _ z)];have hxy:(x == y)=false:=by
                    cases hb:x == y with
                    | false=>rfl
                    | true=>exact absurd (by rw[beq_iff_eq.mp hb];exact List.mem_cons_self) hm
                  simp only[List.lookup_cons,hxy]
                ·exact ih _ _ fun z=>hm (List.mem_cons_of_mem _ z)
            have e5:(Ls X.env sc.names).lookup x=some d:=(qcT sc.names _ _ hnc).symm.trans hd;have e6:=xJ sc.names [] x d (S.cells hps I.ok) (fun _ _ z=>nomatch z) (PySem.mem_of_lookup e5);rw[hc] at e6;cases e6;exact absurd (Nat.lt_of_lt_of_le (Nat.lt_of_lt_of_le hcv.lt (Nat.le_succ _)) z) (Nat.lt_irrefl _)
  · rcases hcl x c e with z | ⟨_,z⟩
    ·obtain⟨v,q⟩:=I.cell x c z;exact⟨v,q.keeps hk⟩
    ·exact⟨_,z⟩
  · rcases hcl x c e with z | ⟨z,_⟩
    ·exact I.jF x c z
    ·exact I.hok.fresh (by omega)
  · rw[List.append_nil] at hp;obtain⟨e,n,ne,nf,d⟩:=I.pin p hp;refine⟨hk _ _ e,n,Nat.ne_of_lt (Heap.lt_size e),fun z=>?_,d⟩
    rcases List.mem_cons.mp (I.wu p.1 z) with q | q
    ·exact ne q
    ·exact nf q
  ·show(stC own caps σ).length=N.length;rw[S.names];simp[stC]
theorem TV (I:Inv X p_ σ H s) (hf:∀b∈fp,vG X p_ H b) {C:Addr} {pn:List (Addr×Obj)} {B_:List (Addr×Obj)} {σ':St} {H':Hp} {s':Shared} (I':Inv (gY X sc N C s H fp pn) B_ σ' H' s'):Inv X p_ σ H' s':=
  I.call' (ch:=fp) I'.os I'.base I'.hok I'.bare fun b hb=>⟨(hf b hb).2.2.2.1,(hf b hb).2.1,(hf b hb).2.2.2.2.1,(hf b hb).2.2.2.2.2⟩
end
def PTs (X:Cx) (ifs:List Expr) (t:TT):Prop:=
  ∀(p_:List (Addr×Obj)) (s:Shared) (σ:St) (H:Hp) (Q:Bool→Hp→Prop),Inv X p_ σ H s→t σ H Q→
    wpAny (model X.prog X.w) X.A (forIn ifs true fun c r=>if r=true then do let ok ← isTrue c X.env (eval c X.env);pure (ForInStep.yield ok) else pure (ForInStep.yield r)) (TP X p_ σ Q) X.xe s
def qfx:TT:=fun _ H Q=>Q true H
theorem dF {X:Cx}:PTs X [] qfx:=fun _ _ _ H _ I h=>wpAny_tests_nil ⟨H,I,h⟩
theorem nM {X:Cx} {c:Expr} {t:TT} (h:PT X c t):PTs X [c] t:=fun p_ s σ H Q I hw=>wpAny_tests_one (h p_ s σ H Q I hw)
def nO (own:List Str) (caps:List Nat) (J:It) (g:TG) (tt:TT) (te:TE) (D:Addr) (σ:St) (H:Hp) (Q:Hp→Prop):Prop:=
  ∃oZ:Nat→Nat→St→Hp→Prop,(∃m,oZ 0 m (stC own caps σ) H)∧∀i m σ' H',oZ i m σ' H'→
    (J.stop i H'∧Q H')∨(J.go i H'∧∃N:St→Hp→Prop,(∀σ2 H2,N σ2 H2→∃m',m'<m∧oZ (i+1) m' σ2 H2)∧∀x H2,J.ZX i H' x H2→g x σ' H2 fun σ2 H3=>tt σ2 H3 fun b H4=>
      if b=true then te σ2 H4 fun y H5=>∃ys,H5 D=some (.lst ys)∧ys.length<sizeLine∧N σ2 (upd H5 D (.lst (ys++[y]))) else N σ2 H4)
def W0 (own:List Str) (caps:List Nat) (wi:TI) (g:TG) (tt:TT) (te:TE):TE:=fun σ H Q=>wi σ H fun J H1=>∀D,H1 D=none→nO own caps J g tt te D σ (upd H1 D (.lst [])) (Q (.ref D))
theorem Jr {M:Model} {A:Around} {E:Value→Shared→Prop} {s:Shared} {sc:Scope} {g:Addr} {cl:List (Str×Addr)} {qual:Str} {env:Env} {Q:Env→Shared→Prop}
    (h:Q (newEnv sc s.heap.objs.size g (cellsFrom (s.heap.objs.size+1) sc.names cl) qual none .none (some env) builtinsNs) (blockAt sc s)):wpAny M A (newFunctionEnv sc g cl [] qual none .none (some env)) Q E s:=by
  simp only[newFunctionEnv,Option.isSome_some,if_true];refine wpAny_bind (wpAny_alloc ?_);refine wpAny_bind (wpAny_layCells _ (fun name kind cells=>by cases hkc:kind == NameKind.cell <;> simp[hkc]) _ _ _ _ ?_);rw[show({s with heap:=s.heap.push {cls:=.type "dict",data:=.dict #[]}}:Shared).heap.objs.size=s.heap.objs.size+1 from Heap.size_push ..];rw[List.forIn_nil];exact wpAny_bind (wpAny_pure (wpAny_pure h))
def Lx (X:Cx) (p_:List (Addr×Obj)) (σ:St) (Q:Hp→Prop) (C:Addr) (r:Result) (s':Shared):Prop:=
  ∃H',r = .ok .next∧Inv X p_ σ H' s'∧(∃m,s'.heap.Ns C m)∧vG X p_ H' C∧Q H'
section
variable {X:Cx} {ps sc:Scope} {own pN:List Str} {caps:List Nat} {N:List Str}
theorem Ck {p_:List (Addr×Obj)} {σ:St} {H:Hp} {s:Shared} {E:Value→Shared→Prop} {elt tg iter:Expr} {ifs:List Expr} {pos:Pos} {J:It} {fp:List Addr} {it D:Addr} {tn:Nat→Heap→Prop} {g:TG} {tt:TT} {te:TE} {Q:Hp→Prop}
    (I:Inv X p_ σ H s) (hps:X.env.scope=ps) (hpN:X.N=pN) (S:bx ps sc pN own caps N) (T:Turn X.prog X.w X.K tg J fp it tn) (st:tn 0 s.heap) (hf:∀b∈fp,vG X p_ H b) (hc:X.calm=true)
    (hg:∀C s H fp pn,PG (gY X sc N C s H fp pn) tg g) (ht:∀C s H fp pn,PTs (gY X sc N C s H fp pn) ifs tt) (he:∀C s H fp pn,PE (gY X sc N C s H fp pn) elt te)
    (h:nO own caps J g tt te D σ H Q) :
    wpAny (model X.prog X.w) X.A (newFunctionEnv sc X.env.globals (Ls X.env sc.names) [] X.env.qual none .none (some X.env)) (fun cenv s4=>
      codeAny (model X.prog X.w) X.A (.compStart (.ListComp elt [⟨tg,iter,ifs,0⟩] sc pos) 0 (.ref it) (.ref D) {cenv with scope:=relabel sc X.env}) (Lx X p_ σ Q cenv.locals) s4) E s:=by
  obtain⟨oZ,⟨m0,w0⟩,turn⟩:=h;refine Jr ?_;have ho:=T.obj 0 _ st;have I0:=WY I hps hpN S hf ho;have ok':=Rq I hps S hf ho;have hk:∀b o,s.heap.get? b=some o→(blockAt sc s).heap.get? b=some o:=fun b o e=>pushCells_keeps _ _ b o (Heap.get?_push_of_some _ e);have st0:tn 0 (blockAt sc s).heap:=T.keep 0 _ _ st fun b _ o e=>hk b o e;have stat:∀{H':Hp},(∀b∈fp,H' b=none)→∀b∈fp,vG (gY X sc N s.heap.objs.size s H fp (X.pn++p_)) [] H' b:=fun hn b hb=>
    ⟨hn b hb,(ok'.exf b hb).1,ok'.La b hb,.inl hb,(ok'.exf b hb).2,fun p hp=>(hf b hb).2.2.2.2.2 p (by rw[List.append_nil] at hp;exact hp)⟩
  have loop:codeAny (model X.prog X.w) X.A (.compLoop (.ListComp elt [⟨tg,iter,ifs,0⟩] sc pos) 0 (.ref it) (.ref D) (gY X sc N s.heap.objs.size s H fp (X.pn++p_)).env) (Lx X p_ σ Q s.heap.objs.size) (blockAt sc s):=by
    refine Lw (fun n s'=>∃i σ' H',Inv (gY X sc N s.heap.objs.size s H fp (X.pn++p_)) [] σ' H' s'∧tn i s'.heap∧(∀b∈fp,H' b=none)∧oZ i n σ' H') ?_ m0 ⟨0,_,H,I0,st0,fun b hb=>(hf b hb).1,w0⟩;rintro n s3 ⟨i,σ3,H3,I3,st3,fr3,w3⟩
    rcases turn i n σ3 H3 w3 with⟨stop,qn⟩ | ⟨go,N',hN,step⟩
    ·refine dD (T.done (gY X sc N s.heap.objs.size s H fp (X.pn++p_)) rfl rfl rfl hc i [] s3 σ3 H3 NoE I3 (stat fr3) st3 stop) fun r s4 zz=>?_;obtain⟨hr,I4⟩:=zz;subst hr;obtain⟨m,hn,_⟩:=I4.loc;exact⟨H3,rfl,TV I hf I4,⟨m,hn⟩,I.Jf (Nat.le_refl _) I4.free,qn⟩
    · refine dD (T.item (gY X sc N s.heap.objs.size s H fp (X.pn++p_)) rfl rfl rfl hc i [] s3 σ3 H3 NoE I3 (stat fr3) st3 go) fun r s4 zz=>?_;obtain⟨u,hr,h4⟩:=zz;subst hr;refine dD h4 fun _ s5 zz=>?_;obtain⟨x,H5,I5,r5,y5,st5,fr5⟩:=zz;have I5':=I5.pinned (stat fr5) (T.obj _ _ st5);refine dD (hg _ _ _ _ _ _ s5 σ3 H5 x u _ I5' r5 (step x H5 y5)) fun _ s6 zz=>?_;obtain⟨σ6,H6,I6,q6⟩:=zz;refine dD (ht _ _ _ _ _ _ s6 σ6 H6 _ I6 q6) fun b s7 zz=>?_;obtain⟨H7,I7,q7⟩:=zz;have again:∀{σ8:St} {H8:Hp} {s8:Shared},Inv (gY X sc N s.heap.objs.size s H fp (X.pn++p_)) ([]++Cg fp s5.heap) σ8 H8 s8→N' σ8 H8→
          ∃m,m<n∧∃i σ' H',Inv (gY X sc N s.heap.objs.size s H fp (X.pn++p_)) [] σ' H' s8∧tn i s8.heap∧(∀b∈fp,H' b=none)∧oZ i m σ' H':=fun {σ8 H8 s8} I8 n8=>by
        obtain⟨m',hm,w8⟩:=hN σ8 H8 n8;refine⟨m',hm,i+1,σ8,H8,I8.xr,T.keep _ _ _ st5 fun b hb o e=>(I8.pin (b,o) (List.mem_append_right _ (List.mem_append_right _ (qZ hb e)))).1,fun b hb=>?_,w8⟩;obtain⟨o,e,d⟩:=T.obj _ _ st5 b hb;exact(I8.pin (b,o) (List.mem_append_right _ (List.mem_append_right _ (qZ hb e)))).2.1
      cases b with
      | false=>
        rw[if_neg Bool.false_ne_true] at q7 ⊢;exact again I7 q7
      | true=>
        rw[if_pos rfl] at q7 ⊢;refine dD (he _ _ _ _ _ _ s7 σ6 H7 _ I7 q7) fun v s8 zz=>?_;obtain⟨y,H8,I8,r8,ys,hD,hz,n8⟩:=zz;refine dD (Hu (X:=gY X sc N s.heap.objs.size s H fp (X.pn++p_)) _ s8 σ6 H8 (.ref D) [y] (.ref D) [v] (fun _ H9=>N' σ6 H9) I8 rfl (.cons r8 .nil) ⟨D,ys,y,rfl,rfl,hD,hz,n8⟩) fun _ s9 zz=>?_;obtain⟨_,H9,I9,_,n9⟩:=zz;exact again I9 n9
  exact codeAny_compStart_list loop (T.self X.A 0 _ _ _ st0 loop)
variable {elt tg iter:Expr} {ifs:List Expr} {pos:Pos} {wi:TI} {g:TG} {tt:TT} {te:TE}
theorem bx.locs (S:bx ps sc pN own caps N):∀x∈sc.names,x.2 = .local→sc.names.lookup x.1=some .local:=fun x hx e=>by rw[← e];exact S.uniq x hx
theorem dG (hps:X.env.scope=ps) (hpN:X.N=pN) (S:bx ps sc pN own caps N) (hc:X.calm=true) (hi:PI X tg iter wi)
    (hg:∀C s H fp pn,PG (gY X sc N C s H fp pn) tg g) (ht:∀C s H fp pn,PTs (gY X sc N C s H fp pn) ifs tt) (he:∀C s H fp pn,PE (gY X sc N C s H fp pn) elt te)
    (hs:∀x,foldedSetIterable iter X.env x=pure x:=by intro _;rfl):PE X (.ListComp elt [⟨tg,iter,ifs,0⟩] sc pos) (W0 own caps wi g tt te):=by
  intro p_ s σ H Q I h;rw[eval_ListComp];refine wpAny_comprehension_free (use:=none) rfl hs (sU (S.cells hps I.ok)) S.kind S.locs (dD (hi p_ s σ H _ I h) fun v s1 h1=>dD h1 fun itv s2 h2=>?_);obtain⟨it,fp,tn,J,H2,e,I2,T,st2,f2,q⟩:=h2;subst e;have fr:H2 s2.heap.objs.size=none:=I2.fresh;refine wpAny_newObj_type ?_;have I3:Inv X p_ σ (upd H2 s2.heap.objs.size (.lst [])) {s2 with heap:=s2.heap.push {cls:=.type "list",data:=.seq ([]:List Value).toArray},toks:=s2.toks}:=I2.qaq (its:=[]) (ys:=[]) .nil (Nat.zero_le _);have f3:∀b∈fp,vG X p_ (upd H2 s2.heap.objs.size (.lst [])) b:=fun b hb=>by
    obtain⟨o,e,_⟩:=T.obj 0 _ st2 b hb;exact⟨by rw[aC (Nat.ne_of_lt (Heap.lt_size e))];exact(f2 b hb).1,(f2 b hb).2⟩
  refine dD (Ck (iter:=iter) (pos:=pos) I3 hps hpN S T (T.keep 0 _ _ st2 fun b _ o e=>Heap.get?_push_of_some _ e) f3 hc hg ht he (q _ fr)) fun cenv s4 h4=>?_;refine codeAny_mono h4 fun r s5 ⟨H5,hr,I5,⟨m,hn⟩,f5,q5⟩=>?_;subst hr;refine⟨m,hn,fun h' hs'=>?_⟩;have I6:Inv X p_ σ H5 {s5 with heap:=h',toks:=s5.toks}:=I5.turned (it:=cenv.locals) (fun b o hb e=>(hs'.2 b hb).trans e) f5.1 f5.2.1 f5.2.2.2.1 f5.2.2.2.2.1 f5.2.2.2.2.2;exact⟨.ref s2.heap.objs.size,H5,I6,rfl,q5⟩
theorem iu {i:Nat} {y:Str} {py spos:Pos} (hN:X.N.Nodup) (hy:X.N[i]? = some y) (hl:X.env.scope.names.lookup y=some .local) (hps:X.env.scope=ps) (hpN:X.N=pN) (S:bx ps sc pN own caps N) (hc:X.calm=true) (hi:PI X tg iter wi)
    (hg:∀C s H fp pn,PG (gY X sc N C s H fp pn) tg g) (ht:∀C s H fp pn,PTs (gY X sc N C s H fp pn) ifs tt) (he:∀C s H fp pn,PE (gY X sc N C s H fp pn) elt te)
    (hsw:swapsWith (.ListComp elt [⟨tg,iter,ifs,0⟩] sc pos) (some (.Name y py)) spos.line X.env=pure true:=by rfl)
    (hs:∀x,foldedSetIterable iter X.env x=pure x:=by intro _;rfl):PS X (.Assign [.Name y py] (.ListComp elt [⟨tg,iter,ifs,0⟩] sc pos) spos) (qad (W0 own caps wi g tt te) (Ra i)):=by
  intro p_ s σ H D0 I h;rw[exec_Assign_Name_used _ _ _ _ hsw];refine wpAny_bind (wpAny_standAt (wpAny_bind ?_));show wpAny _ X.A (do let _ ← comprehension (.ListComp elt [⟨tg,iter,ifs,0⟩] sc pos) sc X.env _ (newList []) false (eval iter X.env) (some (assign (.Name y py) X.env))) _ _ s
  refine wpAny_bind (wpAny_mono (wpAny_comprehension_free (use:=some (assign (.Name y py) X.env)) (Q:=fun _ s'=>SP X p_ D0 .next s') rfl hs (sU (S.cells hps I.ok)) S.kind S.locs
    (dD (hi p_ s σ H _ I h) fun v s1 h1=>dD h1 fun itv s2 h2=>?_)) (fun _ s' hq=>wpAny_pure (wpAny_pure hq)) fun _ _ e=>e)
  obtain⟨it,fp,tn,J,H2,e,I2,T,st2,f2,q⟩:=h2;subst e;have fr:H2 s2.heap.objs.size=none:=I2.fresh;refine wpAny_newObj_type ?_;have I3:Inv X p_ σ (upd H2 s2.heap.objs.size (.lst [])) {s2 with heap:=s2.heap.push {cls:=.type "list",data:=.seq ([]:List Value).toArray},toks:=s2.toks}:=I2.qaq (its:=[]) (ys:=[]) .nil (Nat.zero_le _);have f3:∀b∈fp,vG X p_ (upd H2 s2.heap.objs.size (.lst [])) b:=fun b hb=>by
    obtain⟨o,e,_⟩:=T.obj 0 _ st2 b hb;exact⟨by rw[aC (Nat.ne_of_lt (Heap.lt_size e))];exact(f2 b hb).1,(f2 b hb).2⟩
  refine dD (Ck (iter:=iter) (pos:=pos) I3 hps hpN S T (T.keep 0 _ _ st2 fun b _ o e=>Heap.get?_push_of_some _ e) f3 hc hg ht he (q _ fr)) fun cenv s4 h4=>?_;refine codeAny_mono h4 fun r s5 ⟨H5,hr,I5,⟨m,hn⟩,f5,q5⟩=>?_;subst hr;show wpAny _ X.A (assign (.Name y py) X.env (.ref s2.heap.objs.size)) _ _ _;refine wpAny_assign_Name (uH I5 hN hy (.inl hl) (v:=.ref s2.heap.objs.size) rfl (fun s6 I6 hsb=>?_) (.inr hl));obtain⟨a,sb,ha⟩:=hsb;have hne:cenv.locals≠a:=by
    rcases ha with z | z
    ·rw[z];exact f5.2.1
    ·exact fun e=>f5.2.2.2.2.1 y a z e.symm
  refine⟨m,hn.sameBut sb hne,fun h' hs'=>?_⟩;have I7:Inv X p_ (σ.set i (some (.ref s2.heap.objs.size))) H5 {s6 with heap:=h',toks:=s6.toks}:=I6.turned (it:=cenv.locals) (fun b o hb e=>(hs'.2 b hb).trans e) f5.1 f5.2.1 f5.2.2.2.1 f5.2.2.2.2.1 f5.2.2.2.2.2;exact⟨_,H5,I7,q5⟩
end
section
variable {X:Cx} {p_:List (Addr×Obj)} {σ:St} {H:Hp} {s:Shared} {h':Heap}
theorem Inv.Bo {t':Nat} {ch:List Addr} (I:Inv X p_ σ H s) (k:∀b o,b∉ch→s.heap.get? b=some o→h'.get? b=some o) (hf:∀b∈ch,vG X p_ H b):Inv X p_ σ H {s with heap:=h',toks:=t'}:=by
  refine I.step (g':=s.gens) (d':=s.drawn) (ch:=ch) (fun b hb=>⟨(hf b hb).2.2.2.1,(hf b hb).2.1,(hf b hb).2.2.2.2.1,(hf b hb).2.2.2.2.2⟩) (fun b o _ _ hc e _=>k b o hc e) (fun b o _ _ hc e _=>⟨o.slots,k b o hc e⟩) (fun _ _ _ _ n=>n)
    (fun b o hc e=>⟨o,k b o hc e⟩) (fun _ _ e=>e) (fun _ _ _ e=>e) (fun b ps e=>⟨#[],by rw[e];simp⟩) (fun m hm=>?_) (fun b u e=>?_) I.bare
  ·obtain⟨o,es,ep,ho,r⟩:=hm;exact⟨o,es,ep,k _ o (fun z=>(hf _ z).2.1 rfl) ho,r⟩
  · refine(I.hok b u e).stay (fun c v hc q=>k c v (fun z=>?_) q) (fun _ q=>q) fun _ _ q=>q;have hn:=(hf c z).1
    rcases hc with y | y
    ·rw[y,e] at hn;cases hn
    ·rw[y] at hn;cases hn
end
def Its (x:Str):It:=⟨fun i _=>i<x.cps.size,fun i H v H'=>H'=H∧∃c,x.cps[i]? = some c∧v = .str ⟨#[c]⟩,fun i _=>x.cps.size≤i⟩
theorem W2 {P:Program} {w:World} {K:W.Frag} {tg:Expr} (x:Str) (t:Tok) (it:Addr):Turn P w K tg (Its x) [it] it (fun i h=>h.IsStrIter it (strIterType x) x t i) where
  mem:=by simp
  obj:=fun i h st b hb=>by
    have e:b=it:=by simpa using hb
    subst e;obtain⟨o,e,c,d⟩:=st;exact⟨o,e,fun v z=>by rw[d] at z;cases z⟩
  keep:=fun i h h' st k=>by
    obtain⟨o,e,c,d⟩:=st;exact⟨o,k it (by simp) o e,c,d⟩
  item:=by
    intro X hP hw hK hc i p_ s σ H E I hf st hg;subst hP hw hK;obtain⟨f0,f1,f2,f3,f4,f5⟩:=hf it (by simp);have hx:x.cps[i]? = some (x.cps[i]'hg):=Array.getElem?_eq_getElem hg;have fin:∀h',h'.IsStrIter it (strIterType x) x t (i+1)→Heap.SameBut it s.heap h'→∃u,(some (Value.str ⟨#[x.cps[i]'hg]⟩ s.toks))=some u∧
        wpAny (model X.prog X.w) X.A (letOwnedTupleGo tg (.ref it) u) (fun _ s2=>∃y H',Inv X p_ σ H' s2∧RelV y u∧(Its x).ZX i H y H'∧s2.heap.IsStrIter it (strIterType x) x t (i+1)∧∀b∈[it],H' b=none) E {s with heap:=h',toks:=s.toks+1}:=fun h' st' sb=>by
      have I1:Inv X p_ σ H {s with heap:=h',toks:=s.toks+1}:=I.turned (fun b o hb e=>(sb.2 b hb).trans e) f0 f1 f3 f4 f5;refine⟨_,rfl,?_⟩;have res:∃y H',Inv X p_ σ H' {s with heap:=h',toks:=s.toks+1}∧RelV y (Value.str ⟨#[x.cps[i]'hg]⟩ s.toks)∧(Its x).ZX i H y H'∧h'.IsStrIter it (strIterType x) x t (i+1)∧∀b∈[it],H' b=none:=
        ⟨.str ⟨#[x.cps[i]'hg]⟩,H,I1,⟨_,rfl⟩,⟨rfl,_,hx,rfl⟩,st',fun b hb=>(hf b hb).1⟩
      unfold letOwnedTupleGo;cases tg <;> exact wpAny_pure res
    by_cases ha:x.cps.all (· < 128)=true
    · have ey:strIterType x = "str_ascii_iterator" :=by unfold strIterType;rw[if_pos ha]
      rw[ey] at st;exact wpAny_pyNext_ascii_item st hx fun h' st' sb=>fin h' (by rw[ey];exact st') sb
    · have ey:strIterType x = "str_iterator" :=by unfold strIterType;rw[if_neg ha]
      rw[ey] at st;exact wpAny_pyNext_wide_item st hx fun h' st' sb=>fin h' (by rw[ey];exact st') sb
  done:=by
    intro X hP hw hK hc i p_ s σ H E I hf st hg;subst hP hw hK;obtain⟨f0,f1,f2,f3,f4,f5⟩:=hf it (by simp);have hx:x.cps[i]? = none:=Array.getElem?_eq_none hg
    by_cases ha:x.cps.all (· < 128)=true
    · have ey:strIterType x = "str_ascii_iterator" :=by unfold strIterType;rw[if_pos ha]
      rw[ey] at st;exact wpAny_pyNext_ascii_end (I.ok.hd hc) st hx fun h' eb=>⟨rfl,I.turned (t':=s.toks) (fun b o hb e=>eb b o hb e) f0 f1 f3 f4 f5⟩
    · have ey:strIterType x = "str_iterator" :=by unfold strIterType;rw[if_neg ha]
      rw[ey] at st;exact wpAny_pyNext_wide_end (I.ok.hd hc) st hx fun h' eb=>⟨rfl,I.turned (t':=s.toks) (fun b o hb e=>eb b o hb e) f0 f1 f3 f4 f5⟩
  self:=fun A i s Q E st h=>by
    by_cases ha:x.cps.all (· < 128)=true
    · have ey:strIterType x = "str_ascii_iterator" :=by unfold strIterType;rw[if_pos ha]
      rw[ey] at st;exact wpAny_pyIter_striter_ascii st h
    · have ey:strIterType x = "str_iterator" :=by unfold strIterType;rw[if_neg ha]
      rw[ey] at st;exact wpAny_pyIter_striter_wide st h
section
variable {X:Cx} {tg:Expr}
def qcU (tl:TE):TI:=fun σ H R=>tl σ H fun x H1=>∃z,x = .str z∧R (Its z) H1
theorem qcV {l:Expr} {tl:TE} (hl:PE X l tl):PI X tg l (qcU tl):=by
  intro p_ s σ H R I h;refine dD (hl p_ s σ H _ I h) fun v s1 zz=>?_;obtain⟨x,H1,I1,r1,q1⟩:=zz;obtain⟨z,e,q⟩:=q1;subst e;obtain⟨t,rfl⟩:=r1;refine wpAny_pyIter_strU ?_;refine⟨s1.heap.objs.size,[s1.heap.objs.size],_,_,H1,rfl,I1.kept (t':=s1.toks) fun b o e=>Heap.get?_push_of_some _ e,W2 z t _,⟨_,Heap.get?_push_size _ rfl,rfl,rfl⟩,fun b hb=>?_,q⟩;have e:b=s1.heap.objs.size:=by simpa using hb
  subst e;exact I1.Jf (Nat.le_refl _) (I1.hok.fresh (Nat.le_refl _))
end
def Itz (K:W.Frag) (a b:Addr):It:=
  ⟨fun i H=>∃xs ys x y,aY K H a xs∧aY K H b ys∧xs[i]? = some x∧ys[i]? = some y,
   fun i H v H'=>∃t x y,v = .ref t∧H t=none∧H'=upd H t (.tup [x,y])∧(∀xs,aY K H a xs→xs[i]? = some x)∧∀ys,aY K H b ys→ys[i]? = some y,
   fun i H=>∃xs ys,aY K H a xs∧aY K H b ys∧(xs.length≤i∨ys.length≤i)⟩
structure qfy (z TI TO i1 i2 a b:Addr) (i:Nat) (h:Heap):Prop where
  hz:IsZip h z TI TO .none
  hI:IsPair h TI (.ref i1) (.ref i2)
  hO:∃p q,IsPair h TO p q
  h1:h.IsListIter i1 a i
  h2:h.IsListIter i2 b i
theorem fL {h:Heap} {a b:Addr} {o u:Obj} {T U:String} (ha:h.get? a=some o) (hb:h.get? b=some u) (ca:o.cls = .type T) (cb:u.cls = .type U) (hne:T≠U):a≠b:=fun e=>by
  subst e;rw[ha] at hb;cases hb;rw[ca] at cb;injection cb with e2;exact hne e2
theorem W3 {P:Program} {w:World} {K:W.Frag} {es:List Expr} {k:Nat} {pos:Pos} {z TI TO i1 i2 a b:Addr} (n12:i1≠i2) (nT:TI≠TO) :
    Turn P w K (.Tuple es k pos) (Itz K a b) [z,TI,TO,i1,i2] z (qfy z TI TO i1 i2 a b) where
  mem:=by simp
  obj:=fun i h st c hc=>by
    simp only[List.mem_cons,List.not_mem_nil,or_false] at hc
    rcases hc with rfl | rfl | rfl | rfl | rfl
    ·exact⟨_,st.hz,fun v e=>nomatch e⟩
    ·exact⟨_,st.hI,fun v e=>nomatch e⟩
    ·obtain⟨p,q,e⟩:=st.hO;exact⟨_,e,fun v e=>nomatch e⟩
    ·obtain⟨o,e,_,d⟩:=st.h1;exact⟨o,e,fun v y=>by rw[d] at y;cases y⟩
    ·obtain⟨o,e,_,d⟩:=st.h2;exact⟨o,e,fun v y=>by rw[d] at y;cases y⟩
  keep:=fun i h h' st kk=>by
    obtain⟨p,q,e⟩:=st.hO;exact⟨kk z (by simp) _ st.hz,kk TI (by simp) _ st.hI,⟨p,q,kk TO (by simp) _ e⟩,st.h1.at fun o e=>kk i1 (by simp) o e,st.h2.at fun o e=>kk i2 (by simp) o e⟩
  item:=by
    intro X hP hw hK hc i p_ s σ H E I hf st hg;subst hP hw hK;obtain⟨xs,ys,x,y,qa,qb,hx,hy⟩:=hg;obtain⟨its,rv,pl,hz1⟩:=I.list qa;obtain⟨its',rv',pl',hz2⟩:=I.list qb;obtain⟨u,hu,ru⟩:=rv.get hx;obtain⟨u',hu',ru'⟩:=rv'.get hy;obtain⟨p,q,hTO⟩:=st.hO;obtain⟨oa,ea,ca,_⟩:=id pl.isList;obtain⟨ob,eb,cb,_⟩:=id pl'.isList;obtain⟨o1,e1,c1,_⟩:=id st.h1;obtain⟨o2,e2,c2,_⟩:=id st.h2;have D:ZipApart z TI TO i1 i2 a b:=
      ⟨fL st.hI st.hz rfl rfl (by decide),fL hTO st.hz rfl rfl (by decide),fL e1 st.hz c1 rfl (by decide),fL e2 st.hz c2 rfl (by decide),nT,fL st.hI e1 rfl c1 (by decide),fL st.hI e2 rfl c2 (by decide),
        fL hTO e1 rfl c1 (by decide),fL hTO e2 rfl c2 (by decide),n12,fL ea st.hz ca rfl (by decide),fL ea hTO ca rfl (by decide),fL ea e1 ca c1 (by decide),fL ea e2 ca c2 (by decide),
        fL eb st.hz cb rfl (by decide),fL eb hTO cb rfl (by decide),fL eb e1 cb c1 (by decide),fL eb e2 cb c2 (by decide)⟩
    refine wpAny_pyNext_zip_item D st.hz st.hI hTO st.h1 st.h2 pl.isList pl'.isList (x:=u) (y:=u') (by simpa using hu) (by simpa using hu') fun h' a1 a2 a3 a4 a5 a6 kk=>?_;refine⟨_,rfl,wpAny_letOwnedTupleGo_zip a1 fun h2 b1 sb=>?_⟩;have lt:∀{c o},s.heap.get? c=some o→s.heap.objs.size≠c:=fun e=>Nat.ne_of_gt (Heap.lt_size e);have hn:H s.heap.objs.size=none:=I.hok.fresh (Nat.le_refl _);have kk2:∀c o,c∉[z,TI,TO,i1,i2]→s.heap.get? c=some o→h2.get? c=some o:=fun c o hc e=>by
      simp only[List.mem_cons,List.not_mem_nil,or_false,not_or] at hc;exact(sb.2 c hc.1).trans (kk c o hc.1 hc.2.2.1 hc.2.2.2.1 hc.2.2.2.2 e)
    have I1:Inv X p_ σ H {s with heap:=h2,toks:=s.toks}:=I.Bo kk2 hf;have Ly:IsPair h2 s.heap.objs.size u u':=sb.extBut _ _ (lt st.hz) a5;have I2:Inv X p_ σ (upd H s.heap.objs.size (.tup [x,y])) {s with heap:=h2,toks:=s.toks}:=by
      have hfr:H s.heap.objs.size=none:=hn;refine⟨I1.ok,I1.os,I1.bare,⟨I1.base.keep,I1.base.slot,fun c o e n hx=>?_,I1.base.there,fun c zs e=>?_,fun c o v e=>?_,fun c qs e=>?_⟩,I1.loc,I1.cell,?_,fun v c e=>?_,fun v hv=>?_,?_,I1.len⟩
      · rw[aC (fun e'=>?_)]
        ·exact I1.base.free c o e n hx
        ·exact absurd (Nat.lt_of_lt_of_le (Heap.lt_size e) I.sz) (by rw[e'];exact Nat.lt_irrefl _)
      ·have e':=I1.base.tups c zs e;rw[aC (aQ e' hfr)];exact e'
      ·have e':=I1.base.sY c o v e;rw[aC (aQ e' hfr)];exact e'
      ·obtain⟨m,e'⟩:=I1.base.tH c qs e;exact⟨m,by rw[aC (aQ e' hfr)];exact e'⟩
      ·rw[aC (Nat.ne_of_lt I.lt)];exact I1.free
      ·obtain⟨w',qc⟩:=I.cell v c e;rw[aC (Nat.ne_of_lt qc.lt)];exact I1.jF v c e
      ·obtain⟨f1,f2,f3⟩:=I1.pin v hv;refine⟨f1,?_,f3⟩;rw[aC (Nat.ne_of_lt (Heap.lt_size (I.pin v hv).1))];exact f2
      · intro c v e
        by_cases hcs:c=s.heap.objs.size
        ·subst hcs;rw[ak] at e;cases e;exact⟨by show 2≤sizeLine;rw[sizeLine_eq];decide,[u,u'],.cons ru (.cons ru' .nil),⟨_,Ly,rfl,0,rfl⟩⟩
        · rw[aC hcs] at e;refine(I1.hok c v e).stay (fun _ _ _ qq=>qq) (fun d qd=>?_) fun d zs qd=>?_
          ·rw[aC (aQ qd hfr)];exact qd
          ·rw[aC (aQ qd hfr)];exact qd
    refine⟨.ref s.heap.objs.size,_,I2,rfl,⟨s.heap.objs.size,x,y,rfl,hn,rfl,fun xs' q'=>by rw[I.xq q' qa];exact hx,fun ys' q'=>by rw[I.xq q' qb];exact hy⟩,?_,fun c hcm=>?_⟩
    ·exact⟨b1,sb.extBut _ _ D.TIz (kk _ _ D.TIz D.TITO D.TIi1 D.TIi2 st.hI),⟨_,_,sb.extBut _ _ D.TOz a2⟩,a3.extBut sb.extBut D.i1z,a4.extBut sb.extBut D.i2z⟩
    · have hne:c≠s.heap.objs.size:=by
        simp only[List.mem_cons,List.not_mem_nil,or_false] at hcm
        rcases hcm with rfl | rfl | rfl | rfl | rfl
        ·exact(lt st.hz).symm
        ·exact(lt st.hI).symm
        ·exact(lt hTO).symm
        ·exact(lt e1).symm
        ·exact(lt e2).symm
      rw[aC hne];exact(hf c hcm).1
  done:=by
    intro X hP hw hK hc i p_ s σ H E I hf st hg;subst hP hw hK;obtain⟨xs,ys,qa,qb,hl⟩:=hg;obtain⟨its,rv,pl,hz1⟩:=I.list qa;obtain⟨its',rv',pl',hz2⟩:=I.list qb;obtain⟨p,q,hTO⟩:=st.hO;obtain⟨oa,ea,ca,_⟩:=id pl.isList;obtain⟨ob,eb,cb,_⟩:=id pl'.isList;obtain⟨o1,e1,c1,_⟩:=id st.h1;obtain⟨o2,e2,c2,_⟩:=id st.h2;have D:ZipApart z TI TO i1 i2 a b:=
      ⟨fL st.hI st.hz rfl rfl (by decide),fL hTO st.hz rfl rfl (by decide),fL e1 st.hz c1 rfl (by decide),fL e2 st.hz c2 rfl (by decide),nT,fL st.hI e1 rfl c1 (by decide),fL st.hI e2 rfl c2 (by decide),
        fL hTO e1 rfl c1 (by decide),fL hTO e2 rfl c2 (by decide),n12,fL ea st.hz ca rfl (by decide),fL ea hTO ca rfl (by decide),fL ea e1 ca c1 (by decide),fL ea e2 ca c2 (by decide),
        fL eb st.hz cb rfl (by decide),fL eb hTO cb rfl (by decide),fL eb e1 cb c1 (by decide),fL eb e2 cb c2 (by decide)⟩
    have l1:=rv.length;have l2:=rv'.length;refine wpAny_pyNext_zip_end (I.ok.hd hc) D st.hz st.hI hTO st.h1 st.h2 pl.isList pl'.isList ?_ fun h' kk=>⟨rfl,I.Bo (t':=s.toks) (fun c o hcm e=>?_) hf⟩
    · rcases hl with hl | hl
      ·exact .inl (by simp;omega)
      ·exact .inr (by simp;omega)
    ·simp only[List.mem_cons,List.not_mem_nil,or_false,not_or] at hcm;exact kk c o hcm.1 hcm.2.2.1 hcm.2.2.2.1 hcm.2.2.2.2 e
  self:=fun _ _ _ _ _ st h=>wpAny_pyIter_zip st.hz h
section
variable {X:Cx}
def qas (K:W.Frag) (t:TA):TI:=fun σ H R=>t σ H fun vs H1=>∃a b xs ys,vs=[.ref a,.ref b]∧aY K H1 a xs∧aY K H1 b ys∧R (Itz K a b) H1
theorem boot_zip:bootBuiltins "zip" = some (.type "zip"):=by decide+kernel
theorem qcW {es:List Expr} {k:Nat} {pos':Pos} {a b:Expr} {ta:TA} {p pos:Pos} (hg:Gl X "zip") (hm:X.mg "zip" = none) (ha:PA X [a,b] ta)
    (hs:starEach [a,b] X.env=[(false,eval a X.env),(false,eval b X.env)]:=by rfl) (hs2:starEach [b] X.env=[(false,eval b X.env)]:=by rfl) :
    PI X (.Tuple es k pos') (.Call (.Name "zip" p) [a,b] [] pos) (qas X.K ta):=by
  intro p_ s σ H R I h;refine Call_ (oM I hg hm boot_zip (PyProof.Rows.callWith_type1 (dD (ha pos p_ s σ H _ I h) fun us s1 zz=>?_) (by rw[hs,hs2]) (by rw[hs2];rfl)));obtain⟨vs,H1,I1,r1,q1⟩:=zz;obtain⟨l1,l2,xs,ys,e,qa,qb,q⟩:=q1;subst e;obtain⟨u,v,rfl,r,r'⟩:=r1.two;obtain rfl:u=Value.ref l1:=r;obtain rfl:v=Value.ref l2:=r';obtain⟨its,rv,pl,hz1⟩:=I1.list qa;obtain⟨its',rv',pl',hz2⟩:=I1.list qb;refine call_zip_2 pl.isList pl'.isList fun h' b1 b2 b3 b4 b5 b6 kk=>?_;refine wpAny_pyIter_zip (s:={s1 with heap:=h'}) b1 ?_;have I2:Inv X p_ σ H1 {s1 with heap:=h'}:=I1.kept (t':=s1.toks) kk;refine⟨s1.heap.objs.size+4,[s1.heap.objs.size+4,s1.heap.objs.size+2,s1.heap.objs.size+3,s1.heap.objs.size,s1.heap.objs.size+1],_,_,H1,rfl,I2,W3 (Nat.ne_of_lt (Nat.lt_succ_self _)) (Nat.ne_of_lt (Nat.lt_succ_self (s1.heap.objs.size+2))),⟨b1,b2,⟨_,_,b3⟩,b4,b5⟩,fun c hc=>?_,q⟩;have hle:s1.heap.objs.size≤c:=by
    simp only[List.mem_cons,List.not_mem_nil,or_false] at hc
    rcases hc with rfl | rfl | rfl | rfl | rfl <;> first | exact Nat.le_add_right _ _ | exact Nat.le_refl _
  exact I1.Jf hle (I1.hok.fresh hle)
end
section
variable {X:Cx} {p_:List (Addr×Obj)} {σ:St} {H:Hp} {s:Shared}
theorem nJ.kit {x:V} {u t:Value} (I:Inv X p_ σ H s) (rx:RelV x u) (ty:nJ X.K H x t):∃Φ,W.KitX X.K u t Φ∧Φ s.heap∧u≠.builtin "__main__.__loader__#opaque" :=by
  cases ty with
  | non=>cases (show u=Value.none from rx);exact⟨_,W.kitx_none,True.intro,fun z=>nomatch z⟩
  | bl y=>cases (show u=Value.bool y from rx);exact⟨_,W.kitx_bool,True.intro,fun z=>nomatch z⟩
  | int i=>obtain⟨t,q⟩:=(show ∃t,u=Value.int i t from rx);cases q;exact⟨_,W.kitx_int,True.intro,fun z=>nomatch z⟩
  | str y=>obtain⟨t,q⟩:=(show ∃t,u=Value.str y t from rx);cases q;exact⟨_,W.kitx_str,True.intro,fun z=>nomatch z⟩
  | flt y=>obtain⟨t,q⟩:=(show ∃t,u=Value.float y t from rx);cases q;exact⟨_,W.kitx_float,True.intro,fun z=>nomatch z⟩
  | @lst a xs ea=>
    cases (show u=Value.ref a from rx);obtain⟨_,_,n,_,h1⟩:=(show cA X.prog X.w H s.heap a (.lst xs) from I.hok a _ ea);exact⟨_,W.kitx_list,⟨_,h1,rfl⟩,fun z=>nomatch z⟩
  | @K8 a ob xs ea=>
    cases (show u=Value.ref a from rx);obtain⟨_,_,_,n,_,h1⟩:=(show cA X.prog X.w H s.heap a (.K8 ob (.lst xs)) from I.hok a _ ea);exact⟨_,W.kitx_list,⟨_,h1,rfl⟩,fun z=>nomatch z⟩
  | @tup a xs ea=>
    cases (show u=Value.ref a from rx);obtain⟨_,_,_,p⟩:=(show cA X.prog X.w H s.heap a (.tup xs) from I.hok a _ ea);obtain⟨o,h1,h2,_⟩:=p;exact⟨_,W.kitx_tuple,⟨o,h1,h2⟩,fun z=>nomatch z⟩
  | @dK a kvs ea=>
    cases (show u=Value.ref a from rx);obtain⟨_,_,vs,_,p⟩:=(show cA X.prog X.w H s.heap a (.dK kvs) from I.hok a _ ea);obtain⟨o,es,ep,h1,h2,_⟩:=p;exact⟨_,W.kitx_dict,⟨o,h1,h2.1⟩,fun z=>nomatch z⟩
  | @dT a kvs ea=>
    cases (show u=Value.ref a from rx);obtain⟨_,_,xs,_,o,es,ep,h1,h2,_⟩:=(show cA X.prog X.w H s.heap a (.dT kvs) from I.hok a _ ea);exact⟨_,W.kitx_dict,⟨o,h1,h2.1⟩,fun z=>nomatch z⟩
  | @ins a C dx fs ea cl ha hn htk hm=>
    cases (show u=Value.ref a from rx);obtain⟨mA,O,_⟩:=xu I.hok ea;obtain⟨od,J,_⟩:=O.look;exact⟨_,W.kitx_own (cl.get _) cl.hd ha hn htk hm,J,fun z=>nomatch z⟩
theorem TX:cJ X (.builtin "isinstance") (fun xs H Q=>∃x n t b,xs=[x,.ty n]∧nJ X.K H x t∧W.kitOne X.K t (.type n)=some b∧Q (.bl b) H):=by
  intro p_ s σ H xs us Q I r h;obtain⟨x,n,t,b,rfl,ty,e,q⟩:=h;obtain⟨u,v,rfl,rx,rc⟩:=r.two;obtain rfl:v=Value.type n:=rc;exact Tr I rx ty e fun tk=>⟨.bl b,H,I.tok tk,rfl,q⟩
theorem TY:cJ X (.builtin "isinstance") (fun xs H Q=>∃x p m n t b,xs=[x,.ref p]∧H p=some (.tup [.ty m,.ty n])∧nJ X.K H x t∧W.kitAny X.K t [.type m,.type n]=some b∧Q (.bl b) H):=by
  intro p_ s σ H xs us Q I r h;obtain⟨x,p,m,n,t,b,rfl,hp,ty,e,q⟩:=h;obtain⟨u,v,rfl,rx,rc⟩:=r.two;obtain rfl:v=Value.ref p:=rc;obtain⟨Φ,Z,hΦ,hne⟩:=ty.kit I rx;obtain⟨_,its,rv,o,e1,e2,k,e3⟩:=(show cA X.prog X.w H s.heap p (.tup [.ty m,.ty n]) from I.hok p _ hp);obtain⟨u1,u2,rfl,r1,r2⟩:=rv.two;obtain rfl:u1=Value.type m:=r1;obtain rfl:u2=Value.type n:=r2;obtain⟨c,dd,dt,sl⟩:=o;replace e2:c = .type "tuple" :=e2;replace e3:dt = .seq [Value.type m,Value.type n].toArray k:=e3;subst e2 e3;exact W.kia_tup Z I.pZ hΦ e1 e hne fun tk=>⟨.bl b,H,I.tok tk,rfl,q⟩
theorem boot_isinstance:bootBuiltins "isinstance" = some (.builtin "isinstance"):=by decide+kernel
theorem boot_str:bootBuiltins "str" = some (.type "str"):=by decide+kernel
theorem boot_list:bootBuiltins "list" = some (.type "list"):=by decide+kernel
theorem boot_tuple:bootBuiltins "tuple" = some (.type "tuple"):=by decide+kernel
theorem yW:bootBuiltins "int" = some (.type "int"):=by decide+kernel
theorem wA:bootBuiltins "bool" = some (.type "bool"):=by decide+kernel
theorem yX:bootBuiltins "set" = some (.type "set"):=by decide+kernel
end
mutual
def Is (K:W.Frag) (H:Hp):PyData→V→Prop
  | .none,v=>v = .non
  | .bool b,v=>v = .bl b
  | .int i,v=>v = .int i
  | .str x,v=>v = .str x
  | .list ds,v=>∃a xs,v = .ref a∧aY K H a xs∧sV K H ds xs
  | .tuple ds,v=>∃a xs,v = .ref a∧cM K H a xs∧sV K H ds xs
  | .dict _,_=>False
def sV (K:W.Frag) (H:Hp):List PyData→List V→Prop
  | [],vs=>vs=[]
  | d::ds,vs=>∃v r,vs=v::r∧Is K H d v∧sV K H ds r
end
section
variable {X:Cx} {p_:List (Addr×Obj)} {σ:St} {H:Hp} {s:Shared}
mutual
theorem Is.reads (I:Inv X p_ σ H s):∀(d:PyData) (v:V) (u:Value),Is X.K H d v→RelV v u→∃as,Reads s.heap u d as
  | .none,v,u,h,r=>by
    simp only[Is] at h;subst h;cases r;exact⟨_,.none⟩
  | .bool b,v,u,h,r=>by
    simp only[Is] at h;subst h;cases r;exact⟨_,.bool b⟩
  | .int i,v,u,h,r=>by
    simp only[Is] at h;subst h;obtain⟨t,rfl⟩:=r;exact⟨_,.int i t⟩
  | .str x,v,u,h,r=>by
    simp only[Is] at h;subst h;obtain⟨t,rfl⟩:=r;exact⟨_,.str x t⟩
  | .list ds,v,u,h,r=>by
    simp only[Is] at h;obtain⟨a,xs,rfl,hq,hs⟩:=h;cases r;obtain⟨its,rv,pl,hz⟩:=I.list hq;obtain⟨o,e,c,n,dt⟩:=pl.isList;obtain⟨as,ra⟩:=sV.reads I ds xs its hs rv;exact⟨_,.list e c dt (by simpa using ra)⟩
  | .tuple ds,v,u,h,r=>by
    simp only[Is] at h;obtain⟨a,xs,rfl,hq,hs⟩:=h;cases r;obtain⟨its,rv,pl,hz⟩:=I.tuple hq;obtain⟨o,e,c,n,dt⟩:=pl;obtain⟨as,ra⟩:=sV.reads I ds xs its hs rv;exact⟨_,.tuple e c dt (by simpa using ra)⟩
  | .dict _,v,u,h,r=>by
    simp only[Is] at h
theorem sV.reads (I:Inv X p_ σ H s):∀(ds:List PyData) (vs:List V) (us:List Value),sV X.K H ds vs→Vals vs us→∃as,ReadsAll s.heap us ds as
  | [],vs,us,h,r=>by
    simp only[sV] at h;subst h;cases r;exact⟨_,.nil⟩
  | d::ds,vs,us,h,r=>by
    simp only[sV] at h;obtain⟨v,vr,rfl,h1,h2⟩:=h;cases r with
    | cons r1 r2=>
      obtain⟨as,ra⟩:=Is.reads I d v _ h1 r1;obtain⟨bs,rb⟩:=sV.reads I ds vr _ h2 r2;exact⟨_,.cons ra rb⟩
end
theorem qcX:jP X (compareOp .Eq) (fun x y H Q=>∃d e,Is X.K H d x∧Is X.K H e y∧d.canLay0=true∧e.canLay0=true∧X.A.units+min d.depth e.depth<cLine∧Q (.bl (PyData.eqv d e)) H):=by
  intro p_ s σ H x y v u Q I rx ry h;obtain⟨d,e,hx,hy,h1,h2,hu,q⟩:=h;obtain⟨as,ra⟩:=hx.reads I d x v rx;obtain⟨bs,rb⟩:=hy.reads I e y u ry;exact SeqAt.compareEq_reads ra rb h1 h2 hu ⟨.bl _,H,I,rfl,q⟩
end
section
variable {X:Cx}
def Js:V→List V→Hp→VK→Prop:=fun x vs H Q=>∃l xs i y,x = .ref l∧vs=[.int i,y]∧H l=some (.lst xs)∧0≤i∧i≤xs.length∧xs.length<sizeLine∧Q .non (upd H l (.lst (xs.take i.toNat++y::xs.drop i.toNat)))
theorem Vals.ins {y:V} {u:Value} (ru:RelV y u):∀{xs:List V} {us:List Value} (i:Nat),Vals xs us→Vals (xs.take i++y::xs.drop i) (us.take i++u::us.drop i):=fun i r=>(r.take i).append (.cons ru (r.drop i))
theorem T3:MtM X "list.insert" Js:=by
  intro p_ s σ H x vs v us Q I rx rv h;obtain⟨l,xs,i,y,rfl,rfl,hH,h0,hi,hz,q⟩:=h;cases rx;obtain⟨u1,u,rfl,⟨t,rfl⟩,ru⟩:=rv.two;obtain⟨z,its,n,r,hl,e⟩:=I.Gw hH;have hn:=wz;have hfit:¬(!Builtin.List.listFitsIndex i)=true:=by
    unfold Builtin.List.listFitsIndex;simp;omega
  refine call_meets F.slot_list_insert ⟨_,e,rfl⟩ F.entry_list_insert (F.args_list_insert_3 _ _ _) (PySem.AutoListH.list_insert_list_int_val_1 l its.toArray n i t u hfit (by rw[List.size_toArray];omega)) ⟨e,?_⟩;refine⟨.non,_,I.qap (its':=its.take i.toNat++u::its.drop i.toNat) hH e ?_ (r.ins ru i.toNat) ?_,rfl,q⟩
  · have hm:min i.toNat its.length=i.toNat:=by omega
    simp only[List.size_toArray];rw[if_neg (by omega),hm];apply Array.toList_inj.mp;simp;exact List.take_of_length_le (by simp)
  ·simp;omega
end
section
variable {X:Cx}
def pA:List V→List Bool→Prop
  | [],bs=>bs=[]
  | x::xs,bs=>∃b r,bs=b::r∧x = .bl b∧pA xs r
theorem pA.get:∀{xs:List V} {bs:List Bool} {its:List Value},pA xs bs→Vals xs its→xs.length=bs.length∧∀(i:Nat) (v:Value),its[i]? = some v→v = .bool (bs.getD i false)
  | [],bs,its,h,r=>by
    cases h;cases r;exact⟨rfl,fun i v e=>by simp at e⟩
  | x::xs,bs,its,h,r=>by
    obtain⟨b,br,rfl,rfl,h⟩:=h;cases r with
    | cons r1 r2=>
      obtain⟨h1,h2⟩:=pA.get h r2;refine⟨by simp[h1],fun i v e=>?_⟩;cases i with
      | zero=>
        simp at e;subst e;exact r1
      | succ i=>
        simp at e;simpa using h2 i v e
theorem range_all (bs:List Bool):(List.range bs.length).all (fun i=>bs.getD i false)=bs.all id:=by
  rw[Bool.eq_iff_iff,List.all_eq_true,List.all_eq_true];constructor
  ·intro h b hb;obtain⟨i,hi,rfl⟩:=List.mem_iff_getElem.mp hb;have:=h i (List.mem_range.mpr hi);simpa [List.getD,hi] using this
  ·intro h i hi;have hi':=List.mem_range.mp hi;have:=h bs[i] (List.getElem_mem hi');simpa [List.getD,hi'] using this
theorem T7 (hc:X.calm=true):cJ X (.builtin "all") (fun xs H Q=>∃a ys bs,xs=[.ref a]∧H a=some (.lst ys)∧pA ys bs∧Q (.bl (bs.all id)) H):=by
  intro p_ s σ H xs us Q I r h;obtain⟨a,ys,bs,rfl,ha,hb,q⟩:=h;obtain⟨u,rfl,ru⟩:=r.one;obtain rfl:u=Value.ref a:=ru;obtain⟨z,its,n,rv,hl,e⟩:=I.Gw ha;obtain⟨h1,h2⟩:=hb.get rv;have hL:s.heap.IsList a its.toArray:=⟨_,e,rfl,n,rfl⟩;refine call_all_walk ?_;refine wpAny_pyIter_list hL ?_;have hne:a≠s.heap.objs.size:=Nat.ne_of_lt (Heap.lt_size e);have hL2:(s.heap.push {cls:=.type "list_iterator",data:=.fields #[.ref a,.int 0 0]}).IsList a its.toArray:=⟨_,Heap.get?_push_of_some _ e,rfl,n,rfl⟩;refine⟨s.heap.objs.size,_,_,_,_,_,fun i=>bs.getD i false,rfl,Walks.list (by exact I.ok.hd hc) s.heap.objs.size a hne its.toArray,⟨⟨_,Heap.get?_push_size _ rfl,rfl,rfl⟩,hL2⟩,fun i v s' Q' E' hP hQ=>?_,fun h' tk kk=>?_⟩
  ·obtain rfl:=h2 i v (by simpa using hP);exact wpAny_truthy_bool hQ
  · have e2:(List.range its.toArray.size).all (fun i=>bs.getD i false)=bs.all id:=by
      rw[List.size_toArray,← hl,h1];exact range_all bs
    rw[e2];refine⟨.bl _,H,?_,rfl,q⟩;exact I.kept (h':=h') (t':=tk) fun b o eb=>kk b o (by simp;exact Nat.ne_of_lt (Heap.lt_size eb)) (Heap.get?_push_of_some _ eb)
end
def Jt (l:List Key) (k:Key):Bool:=l.any fun x=>decide (x=k)
theorem W4 {l:List Key} {k:Key}:Jt l k=true↔k∈l:=by
  unfold Jt;rw[List.any_eq_true];constructor
  ·rintro⟨x,hx,e⟩;have e':=of_decide_eq_true e;subst e';exact hx
  ·intro h;exact⟨k,h,decide_eq_true rfl⟩
theorem W5 (l:List Key) (x k:Key):Jt (l++[x]) k=(Jt l k || decide (k=x)):=by
  unfold Jt;rw[List.any_append];simp only[List.any_cons,List.any_nil,Bool.or_false];congr 1;exact decide_eq_decide.mpr ⟨fun e=>e.symm,fun e=>e.symm⟩
def yZ (acc:List Key) (k:Key):List Key:=if Jt acc k=true then acc else acc++[k]
def Gn (val:Nat→Key) (i:Nat):List Key:=((List.range i).map val).foldl yZ []
theorem xK (val:Nat→Key) (i:Nat):Gn val (i+1)=yZ (Gn val i) (val i):=by
  unfold Gn;rw[List.range_succ,List.map_append,List.foldl_append];rfl
theorem W6 (val:Nat→Key):∀i,(Gn val i).length≤i
  | 0=>Nat.le_refl _
  | i+1=>by
    rw[xK];have ih:=W6 val i;unfold yZ;split
    ·omega
    ·rw[List.length_append,List.length_singleton];omega
theorem Pq (val:Nat→Key):∀n,(∀i j,i<n→j<n→val i=val j→i=j)→(Gn val n).length=n∧∀k,k∈Gn val n→∃i,i<n∧val i=k
  | 0,_=>⟨rfl,fun k h=>by simp[Gn] at h⟩
  | n+1,h=>by
    obtain⟨h1,h2⟩:=Pq val n fun i j hi hj=>h i j (by omega) (by omega);have hnot:¬Jt (Gn val n) (val n)=true:=fun hm=>by
      obtain⟨i,hi,e⟩:=h2 _ (W4.mp hm);have:=h i n (by omega) (by omega) e;omega
    rw[xK];unfold yZ;rw[if_neg hnot];refine⟨by simp[h1],fun k hk=>?_⟩
    rcases List.mem_append.mp hk with z | z
    ·obtain⟨i,hi,e⟩:=h2 k z;exact⟨i,by omega,e⟩
    ·exact⟨n,by omega,(List.mem_singleton.mp z).symm⟩
theorem qat {k:Key} {v:Value} (h:tE k v=true):v.scannable=true:=by
  rcases fK h with⟨i,t,rfl,rfl⟩ | ⟨x,t,rfl,rfl⟩ <;> rfl
theorem Lz {P:Program} {w:World} {h:Heap} {a:Addr} {S S':Key→Bool} {n n':Nat} (x:h.SetOf (cT P w) a S n) (e:∀k,S k=S' k) (en:n=n'):h.SetOf (cT P w) a S' n':=by
  have:S=S':=funext e;subst this;subst en;exact x
abbrev pB (P:Program) (w:World) (h:Heap) (a:Addr) (l:List Key):Prop:=h.SetOf (cT P w) a (Jt l) l.length
theorem pB.at {P:Program} {w:World} {h h':Heap} {a:Addr} {l:List Key} (x:pB P w h a l) (k:∀o,h.get? a=some o→h'.get? a=some o):pB P w h' a l:=by
  obtain⟨o,es,ep,t,e,r⟩:=x;exact⟨o,es,ep,t,k o e,r⟩
theorem Hw {P:Program} {w:World} {h:Heap} {a:Addr} {led:Bool} (e:h.get? a=some {cls:=.type "set",dict:=none,data:=.set #[] 0 (.fresh 0 0 led)}):pB P w h a []:=
  ⟨_,#[],0,.fresh 0 0 led,e,⟨rfl,rfl,rfl⟩,rfl,(fun x hx=>by simp at hx),(fun k=>by simp[Jt]),(by unfold scanBound;decide),(by cases led <;> rfl),rfl⟩
section
variable {P:Program} {w:World} {A:Around} {R:Result→Shared→Prop} {I:Addr} {fp wr:List Addr} {n:Nat} {PP:Nat→Value→Prop} {St:Nat→Heap→Prop}
theorem LC (oZ:Walks P w A.in1 I fp wr n PP St) (S:Addr) (hSf:S∉fp) (val:Nat→Key) (hval:∀i v,PP i v→tE (val i) v=true) (hb:n+1<scanBound) :
    ∀(k i:Nat) (s:Shared),n - i=k→i≤n→St i s.heap→pB P w s.heap S (Gn val i)→
      (∀h' tk,(∀b o,b≠S→b∉wr→s.heap.get? b=some o→h'.get? b=some o)→pB P w h' S (Gn val n)→R (.ok (.ret .none)) {s with heap:=h',toks:=tk})→
      codeAny (model P w) A (.builtin "set.update.loop" ⟨[.ref S,.ref I],[]⟩) R s:=by
  have hSw:S∉wr:=fun h=>hSf (oZ.sub _ h);intro k
  induction k with
  | zero=>
    intro i s hk hi hst hS hR;obtain rfl:i=n:=by omega
    refine codeAny_builtin PyProof.Rows.F.entry_set_update_loop ?_;rw[Around.under_plainId PyProof.Rows.F.plain_set_update_loop _];show wpAny _ A.in1 (pyNext (.ref I) >>= _) _ _ s;refine wpAny_bind (oZ.done s _ _ hst fun h' tk hm=>?_);exact wpAny_pure (hR h' tk (fun b o _ hb e=>hm b o hb e) (hS.at fun o e=>hm S o hSw e))
  | succ k ih=>
    intro i s hk hi hst hS hR;have hlt:i<n:=by omega
    refine codeAny_builtin PyProof.Rows.F.entry_set_update_loop ?_;rw[Around.under_plainId PyProof.Rows.F.plain_set_update_loop _];show wpAny _ A.in1 (pyNext (.ref I) >>= _) _ _ s;refine wpAny_bind (oZ.item i s _ _ hlt hst fun v h' tk hP hst' hm=>?_);have hkey:(cT P w).is (val i) v=true:=hval i v hP;have hS':pB P w h' S (Gn val i):=hS.at fun o e=>hm S o hSw e;show wpAny _ A.in1 (holding [v] (setAdd S v) >>= _) _ _ _;refine wpAny_bind (wpAny_holding ?_);unfold setAdd;refine wpAny_holding (wpAny_bind ((cT P w).pyHash (k:=val i) hkey ?_));have hroom:(Gn val i).length+1<scanBound:=by have:=W6 val i;omega
    refine wpAny_setAddHashed_of (knd:=cT P w) (s:={s with heap:=h',toks:=tk+1}) hkey (qat (hval i v hP)) hS' hroom fun h2 hsb hS2=>?_;have hSi:pB P w h2 S (Gn val (i+1)):=by
      refine Lz hS2 (fun k'=>?_) ?_
      · rw[xK];unfold yZ;split
        · rename_i hm1
          by_cases e:k'=val i
          ·rw[e,hm1];rfl
          ·rw[decide_eq_false e,Bool.or_false]
        ·exact(W5 _ _ _).symm
      · rw[xK];unfold yZ;split
        ·rfl
        ·rw[List.length_append,List.length_singleton]
    refine wpAny_pure ⟨plainId_quiet PyProof.Rows.F.plain_set_update_loop _,ih (i+1) _ (by omega) hlt (oZ.frame _ h' _ hst' fun b hb o e=>?_) hSi fun h3 tk3 hm3 hS3=>?_⟩
    ·exact(hsb.2 b (fun z:b=S=>hSf (by rw[← z];exact hb))).trans e
    ·refine hR h3 tk3 (fun b o hbS hbw e=>hm3 b o hbS hbw ?_) hS3;exact(hsb.2 b hbS).trans (hm b o hbw e)
end
theorem Gx:isSubtype (.type "list") (.type "set")=pure false:=by rw[isSubtype_type];kernel_rfl
theorem zc:isSubtype (.type "list") (.type "frozenset")=pure false:=by rw[isSubtype_type];kernel_rfl
set_option maxHeartbeats 4000000 in
theorem LK {P:Program} {w:World} {A:Around} {E:Value→Shared→Prop} {s:Shared} {l:Addr} {its:Array Value} {val:Nat→Key} {Q:Value→Shared→Prop}
    (hh:A.handled=none) (hl:s.heap.IsList l its) (hval:∀i v,its[i]? = some v→tE (val i) v=true) (hb:its.size+1<scanBound)
    (h:∀(g:Heap) (tk:Nat),pB P w g s.heap.objs.size (Gn val its.size)→(∀b o,s.heap.get? b=some o→g.get? b=some o)→Q (.ref s.heap.objs.size) {s with heap:=g,toks:=tk}) :
    wpAny (model P w) A (call (.type "set") [.ref l]) Q E s:=by
  obtain⟨c,tl,hmro⟩:=PySem.F.called_set.mro;have q1:=PySem.F.called_set.made;have q2:=PySem.F.called_set.sub;refine wpAny_call (codeAny_of_tree ?_);show wpAny _ _ (callAny (.type "set") _) _ _ s;refine wpAny_pure ⟨Code.quiet_builtin _ (by decide+kernel),codeAny_builtin PySem.F.entry_type_call ?_⟩;rw[Around.under_plain (weight_type_call_type "set" [.ref l] []) rfl];have q3:=PySem.F.called_set.notType;have q4:=PySem.F.called_set.canCreate;have q5:=PySem.F.typeCall_set_1 (.ref l)
  repeat (any_goals (first | assumption | wp_step))
  refine codeAny_mono (code_set_new_1 (.ref l) (E:=E) (Q₁:=fun ob s1=>∃led:Bool,ob = .ref s.heap.objs.size∧s1={s with heap:=s.heap.push {cls:=.type "set",dict:=none,data:=.set #[] 0 (.fresh 0 0 led)}}) fun led=>⟨led,rfl,rfl⟩) fun r s1 hr=>?_;cases r with
  | error e=>exact hr
  | ok fl=>
    cases fl with
    | ret ob=>
      obtain⟨led,rfl,rfl⟩:=hr;have new:(s.heap.push {cls:=.type "set",dict:=none,data:=.set #[] 0 (.fresh 0 0 led)}).get? s.heap.objs.size=some {cls:=.type "set",dict:=none,data:=.set #[] 0 (.fresh 0 0 led)}:=Heap.get?_push_size _ rfl;have ty:Shared.TypeIs {s with heap:=s.heap.push {cls:=.type "set",dict:=none,data:=.set #[] 0 (.fresh 0 0 led)}} (.ref s.heap.objs.size) "set" :=⟨_,new,rfl⟩;have q6:=PySem.F.called_set.init.lookup;have q7:=PySem.F.called_set.init.bind (.ref s.heap.objs.size)
      repeat (any_goals (first | assumption | wp_step))
      refine codeAny_mono (codeAny_call_builtin (R:=wants (fun r s2=>r = .none∧∃g tk,s2={s with heap:=g,toks:=tk}∧pB P w g s.heap.objs.size (Gn val its.size)∧(∀b o,s.heap.get? b=some o→g.get? b=some o)) E)
        PySem.F.called_set.init.plain PySem.F.entry_set_init (check_set_init_1 ty ?_)) fun r2 s2 hr2=>?_
      · obtain⟨ol,ho,hcl,nl,hdl⟩:=hl;obtain⟨oc,od,odt,osl⟩:=ol;simp only at hcl hdl;subst hcl;subst hdl;have ho2:(s.heap.push {cls:=.type "set",dict:=none,data:=.set #[] 0 (.fresh 0 0 led)}).get? l=some {cls:=.type "list",dict:=od,data:=.seq its nl,slots:=osl}:=Heap.get?_push_of_some _ ho;have q8:=Gx;have q9:=zc;have q10:(Value.type "list" == Value.type "dict")=false:=by decide
        have hl1:(s.heap.push {cls:=.type "set",dict:=none,data:=.set #[] 0 (.fresh 0 0 led)}).IsList l its:=⟨_,ho2,rfl,nl,rfl⟩;unfold Builtin.«set.__init__» noKeywords Builtin.Frozenset.updateFrom;generalize hPI:pyIter=PI
        wp_walk
        subst hPI;refine wpAny_pyIter_list hl1 ?_;refine wpAny_bind (wpAny_runValue ?_);have lt1:l<s.heap.objs.size:=Heap.lt_size ho;have hh3:A.in1.in1.in1.handled=none:=by simp[hh]
        have ne1:l≠(s.heap.push {cls:=.type "set",dict:=none,data:=.set #[] 0 (.fresh 0 0 led)}).objs.size:=by
          rw[Heap.size_push];exact Nat.ne_of_lt (Nat.lt_succ_of_lt lt1)
        have nf:s.heap.objs.size∉[(s.heap.push {cls:=.type "set",dict:=none,data:=.set #[] 0 (.fresh 0 0 led)}).objs.size,l]:=by
          rw[Heap.size_push];simp only[List.mem_cons,List.mem_singleton,List.not_mem_nil,or_false,not_or];exact⟨Nat.ne_of_lt (Nat.lt_succ_self _),Nat.ne_of_gt lt1⟩
        refine LC (Walks.list hh3 _ l ne1 its) s.heap.objs.size nf val hval hb (its.size - 0) 0 _ (by omega) (Nat.zero_le _) ⟨⟨_,Heap.get?_push_size _ rfl,rfl,rfl⟩,hl1.push _⟩ ?hS0 ?hR
        case hS0=>
          have hget:((s.heap.push {cls:=.type "set",dict:=none,data:=.set #[] 0 (.fresh 0 0 led)}).push {cls:=.type "list_iterator",data:=.fields #[.ref l,.int 0 0]}).get? s.heap.objs.size
              = some {cls:=.type "set",dict:=none,data:=.set #[] 0 (.fresh 0 0 led)}:=Heap.get?_push_of_some _ new
          exact Hw hget
        case hR=>
          intro g tk hm hS;show wpAny _ _ _ _ _ _;refine wpAny_pure ?_;show wpAny _ _ (ret Value.none) _ _ _;refine wpAny_pure ⟨rfl,g,tk,rfl,hS,fun b o e=>?_⟩;have lb:b<s.heap.objs.size:=Heap.lt_size e;refine hm b o (Nat.ne_of_lt lb) ?_ (Heap.get?_push_of_some _ (Heap.get?_push_of_some _ e));simp only[List.mem_cons,List.not_mem_nil,or_false];rw[Heap.size_push];exact Nat.ne_of_lt (Nat.lt_succ_of_lt lb)
      · cases r2 with
        | error e=>exact hr2
        | ok fl2=>
          cases fl2 with
          | ret r=>
            obtain⟨rfl,g,tk,rfl,hS,hk⟩:=hr2
            repeat (any_goals (first | assumption | wp_step))
            exact h _ _ hS hk
          | _=>exact hr2.elim
    | _=>exact hr.elim
theorem Cm:isSubtype (.type "tuple") (.type "set")=pure false:=by rw[isSubtype_type];kernel_rfl
theorem xM:isSubtype (.type "tuple") (.type "frozenset")=pure false:=by rw[isSubtype_type];kernel_rfl
set_option maxHeartbeats 4000000 in
theorem Ju {P:Program} {w:World} {A:Around} {E:Value→Shared→Prop} {s:Shared} {l:Addr} {its:Array Value} {val:Nat→Key} {Q:Value→Shared→Prop}
    (hh:A.handled=none) (hl:s.heap.IsTuple l its) (hval:∀i v,its[i]? = some v→tE (val i) v=true) (hb:its.size+1<scanBound)
    (h:∀(g:Heap) (tk:Nat),pB P w g s.heap.objs.size (Gn val its.size)→(∀b o,s.heap.get? b=some o→g.get? b=some o)→Q (.ref s.heap.objs.size) {s with heap:=g,toks:=tk}) :
    wpAny (model P w) A (call (.type "set") [.ref l]) Q E s:=by
  obtain⟨c,tl,hmro⟩:=PySem.F.called_set.mro;have q1:=PySem.F.called_set.made;have q2:=PySem.F.called_set.sub;refine wpAny_call (codeAny_of_tree ?_);show wpAny _ _ (callAny (.type "set") _) _ _ s;refine wpAny_pure ⟨Code.quiet_builtin _ (by decide+kernel),codeAny_builtin PySem.F.entry_type_call ?_⟩;rw[Around.under_plain (weight_type_call_type "set" [.ref l] []) rfl];have q3:=PySem.F.called_set.notType;have q4:=PySem.F.called_set.canCreate;have q5:=PySem.F.typeCall_set_1 (.ref l)
  repeat (any_goals (first | assumption | wp_step))
  refine codeAny_mono (code_set_new_1 (.ref l) (E:=E) (Q₁:=fun ob s1=>∃led:Bool,ob = .ref s.heap.objs.size∧s1={s with heap:=s.heap.push {cls:=.type "set",dict:=none,data:=.set #[] 0 (.fresh 0 0 led)}}) fun led=>⟨led,rfl,rfl⟩) fun r s1 hr=>?_;cases r with
  | error e=>exact hr
  | ok fl=>
    cases fl with
    | ret ob=>
      obtain⟨led,rfl,rfl⟩:=hr;have new:(s.heap.push {cls:=.type "set",dict:=none,data:=.set #[] 0 (.fresh 0 0 led)}).get? s.heap.objs.size=some {cls:=.type "set",dict:=none,data:=.set #[] 0 (.fresh 0 0 led)}:=Heap.get?_push_size _ rfl;have ty:Shared.TypeIs {s with heap:=s.heap.push {cls:=.type "set",dict:=none,data:=.set #[] 0 (.fresh 0 0 led)}} (.ref s.heap.objs.size) "set" :=⟨_,new,rfl⟩;have q6:=PySem.F.called_set.init.lookup;have q7:=PySem.F.called_set.init.bind (.ref s.heap.objs.size)
      repeat (any_goals (first | assumption | wp_step))
      refine codeAny_mono (codeAny_call_builtin (R:=wants (fun r s2=>r = .none∧∃g tk,s2={s with heap:=g,toks:=tk}∧pB P w g s.heap.objs.size (Gn val its.size)∧(∀b o,s.heap.get? b=some o→g.get? b=some o)) E)
        PySem.F.called_set.init.plain PySem.F.entry_set_init (check_set_init_1 ty ?_)) fun r2 s2 hr2=>?_
      · obtain⟨ol,ho,hcl,nl,hdl⟩:=hl;obtain⟨oc,od,odt,osl⟩:=ol;simp only at hcl hdl;subst hcl;subst hdl;have ho2:(s.heap.push {cls:=.type "set",dict:=none,data:=.set #[] 0 (.fresh 0 0 led)}).get? l=some {cls:=.type "tuple",dict:=od,data:=.seq its nl,slots:=osl}:=Heap.get?_push_of_some _ ho;have q8:=Cm;have q9:=xM;have q10:(Value.type "tuple" == Value.type "dict")=false:=by decide
        have hl1:(s.heap.push {cls:=.type "set",dict:=none,data:=.set #[] 0 (.fresh 0 0 led)}).IsTuple l its:=⟨_,ho2,rfl,nl,rfl⟩;unfold Builtin.«set.__init__» noKeywords Builtin.Frozenset.updateFrom;generalize hPI:pyIter=PI
        wp_walk
        subst hPI;refine wpAny_pyIter_tuple hl1 ?_;refine wpAny_bind (wpAny_runValue ?_);have lt1:l<s.heap.objs.size:=Heap.lt_size ho;have hh3:A.in1.in1.in1.handled=none:=by simp[hh]
        have ne1:l≠(s.heap.push {cls:=.type "set",dict:=none,data:=.set #[] 0 (.fresh 0 0 led)}).objs.size:=by
          rw[Heap.size_push];exact Nat.ne_of_lt (Nat.lt_succ_of_lt lt1)
        have nf:s.heap.objs.size∉[(s.heap.push {cls:=.type "set",dict:=none,data:=.set #[] 0 (.fresh 0 0 led)}).objs.size,l]:=by
          rw[Heap.size_push];simp only[List.mem_cons,List.mem_singleton,List.not_mem_nil,or_false,not_or];exact⟨Nat.ne_of_lt (Nat.lt_succ_self _),Nat.ne_of_gt lt1⟩
        refine LC (Walks.tuple hh3 _ l ne1 its) s.heap.objs.size nf val hval hb (its.size - 0) 0 _ (by omega) (Nat.zero_le _) ⟨⟨_,Heap.get?_push_size _ rfl,rfl,rfl⟩,⟨_,Heap.get?_push_of_some _ ho2,rfl,nl,rfl⟩⟩ ?hS0 ?hR
        case hS0=>
          have hget:((s.heap.push {cls:=.type "set",dict:=none,data:=.set #[] 0 (.fresh 0 0 led)}).push {cls:=.type "tuple_iterator",data:=.fields #[.ref l,.int 0 0]}).get? s.heap.objs.size
              = some {cls:=.type "set",dict:=none,data:=.set #[] 0 (.fresh 0 0 led)}:=Heap.get?_push_of_some _ new
          exact Hw hget
        case hR=>
          intro g tk hm hS;show wpAny _ _ _ _ _ _;refine wpAny_pure ?_;show wpAny _ _ (ret Value.none) _ _ _;refine wpAny_pure ⟨rfl,g,tk,rfl,hS,fun b o e=>?_⟩;have lb:b<s.heap.objs.size:=Heap.lt_size e;refine hm b o (Nat.ne_of_lt lb) ?_ (Heap.get?_push_of_some _ (Heap.get?_push_of_some _ e));simp only[List.mem_cons,List.not_mem_nil,or_false];rw[Heap.size_push];exact Nat.ne_of_lt (Nat.lt_succ_of_lt lb)
      · cases r2 with
        | error e=>exact hr2
        | ok fl2=>
          cases fl2 with
          | ret r=>
            obtain⟨rfl,g,tk,rfl,hS,hk⟩:=hr2
            repeat (any_goals (first | assumption | wp_step))
            exact h _ _ hS hk
          | _=>exact hr2.elim
    | _=>exact hr.elim
def qau (P:Program) (w:World) (a:Addr) (l:List Key):HO:=.ext fun h=>pB P w h a l
section
variable {X:Cx}
def keysOf:List V→List Key
  | []=>[]
  | .int i::r=>.inl i::keysOf r
  | .str x::r=>.inr x::keysOf r
  | _::r=>keysOf r
def isKey:V→Bool
  | .int _=>true
  | .str _=>true
  | _=>false
theorem Jv:∀{xs:List V} {its:List Value},xs.all isKey=true→Vals xs its→(keysOf xs).length=its.length∧∀(i:Nat) (v:Value),its[i]? = some v→tE ((keysOf xs).getD i (.inl 0)) v=true
  | [],_,_,.nil=>⟨rfl,fun i v e=>by simp at e⟩
  | x::xs,u::us,h,.cons r1 r2=>by
    rw[List.all_cons,Bool.and_eq_true] at h;obtain⟨h1,h2⟩:=Jv h.2 r2;cases x with
    | int i=>
      obtain⟨t,rfl⟩:=r1;refine⟨by simp[keysOf,h1],fun j v e=>?_⟩;cases j with
      | zero=>simp at e;subst e;exact G8 i t
      | succ j=>simp at e;simpa [keysOf] using h2 j v e
    | str z=>
      obtain⟨t,rfl⟩:=r1;refine⟨by simp[keysOf,h1],fun j v e=>?_⟩;cases j with
      | zero=>simp at e;subst e;exact G9 z t
      | succ j=>simp at e;simpa [keysOf] using h2 j v e
    | _=>exact absurd (show false=true from h.1) Bool.false_ne_true
theorem zf (hc:X.calm=true):cJ X (.type "set") (fun xs H Q=>∃a ys,xs=[.ref a]∧(aY X.K H a ys∨cM X.K H a ys)∧ys.all isKey=true∧ys.length+1<scanBound∧
    ∀p,H p=none→Q (.ref p) (upd H p (qau X.prog X.w p (Gn (fun i=>(keysOf ys).getD i (.inl 0)) ys.length)))):=by
  intro p_ s σ H xs us Q I r h;obtain⟨a,ys,rfl,hq,hk,hb,q⟩:=h;obtain⟨u,rfl,ru⟩:=r.one;obtain rfl:u=Value.ref a:=ru;have fin:∀(g:Heap) (tk:Nat),pB X.prog X.w g s.heap.objs.size (Gn (fun i=>(keysOf ys).getD i (.inl 0)) ys.length)→(∀b o,s.heap.get? b=some o→g.get? b=some o)→EP X p_ σ Q (.ref s.heap.objs.size) {s with heap:=g,toks:=tk}:=fun g tk hS kk=>by
    have hn:H s.heap.objs.size=none:=I.hok.fresh (Nat.le_refl _);refine⟨.ref s.heap.objs.size,_,I.laid (o:=qau X.prog X.w s.heap.objs.size (Gn (fun i=>(keysOf ys).getD i (.inl 0)) ys.length)) (fun b o e=>kk b o e) (Nat.le_refl _) ⟨hS,?_,fun h1 h2 p k=>p.at k⟩,rfl,q _ hn⟩;obtain⟨o,_,_,_,e,_⟩:=hS;exact⟨o,e⟩
  rcases hq with hq | hq
  · obtain⟨its,rv,pl,hz⟩:=I.list hq;obtain⟨h1,h2⟩:=Jv hk rv;have hl:=rv.length;refine LK (val:=fun i=>(keysOf ys).getD i (.inl 0)) (I.ok.hd hc) pl.isList (fun i v e=>h2 i v (by simpa using e)) (by rw[List.size_toArray];omega) fun g tk hS kk=>fin g tk ?_ kk;have ez:its.toArray.size=ys.length:=by rw[List.size_toArray,hl]
    rw[ez] at hS;exact hS
  · obtain⟨its,rv,pl,hz⟩:=I.tuple hq;obtain⟨h1,h2⟩:=Jv hk rv;have hl:=rv.length;refine Ju (val:=fun i=>(keysOf ys).getD i (.inl 0)) (I.ok.hd hc) (show s.heap.IsTuple a its.toArray from pl) (fun i v e=>h2 i v (by simpa using e)) (by rw[List.size_toArray];omega) fun g tk hS kk=>fin g tk ?_ kk;have ez:its.toArray.size=ys.length:=by rw[List.size_toArray,hl]
    rw[ez] at hS;exact hS
theorem zj:cJ X (.builtin "len") (fun xs H Q=>∃a l,xs=[.ref a]∧H a=some (qau X.prog X.w a l)∧Q (.int l.length) H):=by
  intro p_ s σ H xs us Q I r h;obtain⟨a,l,rfl,ha,q⟩:=h;obtain⟨u,rfl,ru⟩:=r.one;obtain rfl:u=Value.ref a:=ru;obtain⟨⟨o,es,ep,t,e,ex,hd,_,_,hsz,hf,hn⟩,_⟩:=(show cA X.prog X.w H s.heap a (qau X.prog X.w a l) from I.hok a _ ha);refine call_len_set e ex hd hf (by unfold scanBound at hsz;omega) ⟨.int l.length,H,I.tok _,⟨_,by rw[hn]⟩,q⟩
end
section
variable {X:Cx}
def qfz:R2:=fun x y H Q=>∃i j,x = .str i∧y = .str j∧i.length+j.length≤sizeLine∧Q (.str (i++j)) H
def qln:R2:=fun x y H Q=>∃i j,x = .str i∧y = .str j∧Q (.bl (!(Builtin.Str.occurrences j i 0 j.length 1).isEmpty)) H
def qav:R2:=fun x y H Q=>∃i j,x = .str i∧y = .str j∧Q (.bl (!(!(Builtin.Str.occurrences j i 0 j.length 1).isEmpty))) H
def qaw (K:W.Frag):R2:=fun x y H Q=>rIn K false x y H Q∨qln x y H Q
def Jw (K:W.Frag):R2:=fun x y H Q=>rIn K true x y H Q∨qav x y H Q
theorem qcY:jP X (compareOp .In) (qaw X.K):=Tz.or Tj
theorem T8:jP X (compareOp .NotIn) (Jw X.K):=Jj.or Jk
def qcZ (K:W.Frag):R2:=fun x y H Q=>∃p xs i v,x = .ref p∧y = .int i∧(aY K H p xs∨cM K H p xs)∧xG xs i=some v∧Q v H
theorem ixQ:WL X (qcZ X.K):=by
  intro value slice p_ s σ H x y v u Q I rx ry h hs;obtain⟨p,xs,i,z,e1,e2,hq | hq,e3,q⟩:=h
  ·exact qam value slice p_ s σ H x y v u Q I rx ry ⟨p,xs,i,z,e1,e2,hq,e3,q⟩ hs
  ·exact qcL value slice p_ s σ H x y v u Q I rx ry ⟨p,xs,i,z,e1,e2,hq,e3,q⟩ hs
def qbE (K:W.Frag):List V→Hp→VK→Prop:=fun xs H Q=>∃p ys,xs=[.ref p]∧(aY K H p ys∨cM K H p ys)∧Q (.int ys.length) H
def qbF:List V→Hp→VK→Prop:=fun xs H Q=>∃z,xs=[.str z]∧z.length≤sizeLine∧Q (.int z.length) H
variable {K:W.Frag}
theorem qlo (hK:X.K=K):WL X (qcZ K):=by subst hK;exact ixQ
theorem inK (hK:X.K=K):jP X (compareOp .In) (qaw K):=by subst hK;exact qcY
theorem qc0 (hK:X.K=K):jP X (compareOp .NotIn) (Jw K):=by subst hK;exact T8
theorem qfA (hK:X.K=K):cJ X (.builtin "len") (qbE K):=by subst hK;exact Jl
theorem qfB:cJ X (.builtin "len") qbF:=Jm
def Rr (K:W.Frag):List V→Hp→VK→Prop:=fun xs H Q=>∃p ys,xs=[.ref p]∧(aY K H p ys∨cM K H p ys)∧∀l,H l=none→Q (.ref l) (upd H l (.lst ys))
theorem qax (hK:X.K=K):cJ X (.type "list") (Rr K):=by subst hK;exact Jo
def qbG (K:W.Frag):List V→Hp→VK→Prop:=fun xs H Q=>∃x n t b,xs=[x,.ty n]∧nJ K H x t∧W.kitOne K t (.type n)=some b∧Q (.bl b) H
theorem qfC (hK:X.K=K):cJ X (.builtin "isinstance") (qbG K):=by subst hK;exact TX
def qbH (K:W.Frag):List V→Hp→VK→Prop:=fun xs H Q=>∃x p m n t b,xs=[x,.ref p]∧H p=some (.tup [.ty m,.ty n])∧nJ K H x t∧W.kitAny K t [.type m,.type n]=some b∧Q (.bl b) H
theorem qfD (hK:X.K=K):cJ X (.builtin "isinstance") (qbH K):=by subst hK;exact TY
theorem cF (hK:X.K=K) {es:List Expr} {k:Nat} {pos:Pos} {t:Gs} {n:Nat} (hc:X.calm=true) (h:eX X es t)
    (hn:(assignEach es X.env).length=n:=by rfl) (hst:(assignEach es X.env).findIdx? (·.1)=none:=by rfl):PG X (.Tuple es k pos) (qac K n t):=by subst hK;exact qcv hc h hn hst
theorem cg (hK:X.K=K) {tg l:Expr} {tl:TE} (hl:PE X l tl):PI X tg l (Rb K tl):=by subst hK;exact qae hl
theorem Jx (hK:X.K=K) {e:Expr} {ta:TE} {f:Str} {pos:Pos} (he:PE X e ta) (hb:attributeBase e f X.env (eval e X.env)=eval e X.env):PE X (.Attribute e f pos) (qak K ta f):=by subst hK;exact qcI he hb
theorem gZ (hK:X.K=K) {o e:Expr} {es:List Expr} {to:TE} {t:TA} {name:Str} {apos cpos:Pos} {T id:String} {r:V→List V→Hp→VK→Prop} (pa:PlainAttrs T) (slot:Slot T name id) (hty:typeOf (.builtin id)=pure (.type "method_descriptor")) (hm:K4 X id r) (ho:PE X o to) (ha:PA X (e::es) t)
    (hbase:attributeBase o name X.env (eval o X.env)=eval o X.env:=by rfl)
    (hfew:((backTo cpos (starEach (e::es) X.env)).all (fun x=>!x.1) && (backToKw cpos (keywordEach [] X.env)).all (fun x=>x.1.isSome)
      && decide ((e::es).length+([]:List Keyword).length+(if ([]:List Keyword).isEmpty then 0 else 1)<30))=true:=by rfl)
    (hline:(apos.endLine == cpos.line)=true:=by rfl) (hs:starEach (e::es) X.env=(false,eval e X.env)::starEach es X.env:=by rfl) (hplain:(backTo cpos (starEach es X.env)).any (·.1)=false:=by rfl) :
    PE X (.Call (.Attribute o name apos) (e::es) [] cpos) (tBM K T r to t):=by subst hK;exact qft pa slot hty hm ho ha hbase hfew hline hs hplain
theorem lR:bootBuiltins "all" = some (.builtin "all"):=by decide+kernel
theorem zm:bootBuiltins "any" = some (.builtin "any"):=by decide+kernel
theorem boot_max:bootBuiltins "max" = some (.builtin "max"):=by decide+kernel
theorem boot_min:bootBuiltins "min" = some (.builtin "min"):=by decide+kernel
theorem boot_abs:bootBuiltins "abs" = some (.builtin "abs"):=by decide+kernel
theorem boot_divmod:bootBuiltins "divmod" = some (.builtin "divmod"):=by decide+kernel
end
structure Nm (mg:Str→Option Value):Prop where
  len:mg "len" = none
  max:mg "max" = none
  min:mg "min" = none
  abs:mg "abs" = none
  divmod:mg "divmod" = none
  range:mg "range" = none
  zip:mg "zip" = none
  list:mg "list" = none
  tuple:mg "tuple" = none
  int:mg "int" = none
  str:mg "str" = none
  set:mg "set" = none
  all:mg "all" = none
  isinstance:mg "isinstance" = none
section
variable {K:W.Frag} {own:List Str} {caps:List Nat} {g:TG} {tt:TT} {te:TE} {D:Addr} {σ:St} {H:Hp} {Q:Hp→Prop}
abbrev Hx (g:TG) (tt:TT) (te:TE) (D:Addr) (N:St→Hp→Prop) (x:V) (σ:St) (H:Hp):Prop:=
  g x σ H fun σ2 H3=>tt σ2 H3 fun b H4=>if b=true then te σ2 H4 fun y H5=>∃ys,H5 D=some (.lst ys)∧ys.length<sizeLine∧N σ2 (upd H5 D (.lst (ys++[y]))) else N σ2 H4
theorem Hy {l:Addr} {xs:List V} (Pv:Nat→St→Hp→Prop) (h0:Pv 0 (stC own caps σ) H) (hl:∀i σ H,i≤xs.length→Pv i σ H→aY K H l xs)
    (hs:∀i x σ H,xs[i]? = some x→Pv i σ H→Hx g tt te D (Pv (i+1)) x σ H) (hd:∀σ H,Pv xs.length σ H→Q H):nO own caps (V5 K l) g tt te D σ H Q:=by
  refine⟨fun i m σ H=>m=xs.length - i∧i≤xs.length∧Pv i σ H,⟨xs.length,by simp,Nat.zero_le _,h0⟩,?_⟩;rintro i m σ H ⟨rfl,hi,p⟩;have q:=hl i σ H hi p
  by_cases hlt:i<xs.length
  ·refine .inr ⟨⟨xs,xs[i],q,by simp[hlt]⟩,Pv (i+1),fun σ' H' p'=>⟨xs.length - (i+1),by omega,rfl,hlt,p'⟩,fun x H' y=>?_⟩;obtain⟨e,y⟩:=y;subst e;exact hs i x σ _ (y xs q) p
  · have e:i=xs.length:=by omega
    subst e;exact .inl ⟨⟨xs,q,Nat.le_refl _⟩,hd σ H p⟩
theorem W7 {l:Addr} {xs:List V} (Pv:Nat→St→Hp→Prop) (h0:Pv 0 (stC own caps σ) H) (hl:∀i σ H,i≤xs.length→Pv i σ H→cM K H l xs)
    (hs:∀i x σ H,xs[i]? = some x→Pv i σ H→Hx g tt te D (Pv (i+1)) x σ H) (hd:∀σ H,Pv xs.length σ H→Q H):nO own caps (Itt K l) g tt te D σ H Q:=by
  refine⟨fun i m σ H=>m=xs.length - i∧i≤xs.length∧Pv i σ H,⟨xs.length,by simp,Nat.zero_le _,h0⟩,?_⟩;rintro i m σ H ⟨rfl,hi,p⟩;have q:=hl i σ H hi p
  by_cases hlt:i<xs.length
  ·refine .inr ⟨⟨xs,xs[i],q,by simp[hlt]⟩,Pv (i+1),fun σ' H' p'=>⟨xs.length - (i+1),by omega,rfl,hlt,p'⟩,fun x H' y=>?_⟩;obtain⟨e,y⟩:=y;subst e;exact hs i x σ _ (y xs q) p
  · have e:i=xs.length:=by omega
    subst e;exact .inl ⟨⟨xs,q,Nat.le_refl _⟩,hd σ H p⟩
theorem Pr {lo:Int} {n:Nat} (Pv:Nat→St→Hp→Prop) (h0:Pv 0 (stC own caps σ) H)
    (hs:∀i σ H,i<n→Pv i σ H→Hx g tt te D (Pv (i+1)) (.int (lo+i)) σ H) (hd:∀σ H,Pv n σ H→Q H):nO own caps (Ou lo n) g tt te D σ H Q:=by
  refine⟨fun i m σ H=>m=n - i∧i≤n∧Pv i σ H,⟨n,by simp,Nat.zero_le _,h0⟩,?_⟩;rintro i m σ H ⟨rfl,hi,p⟩
  by_cases hlt:i<n
  ·refine .inr ⟨hlt,Pv (i+1),fun σ' H' p'=>⟨n - (i+1),by omega,rfl,hlt,p'⟩,fun x H' y=>?_⟩;obtain⟨e,y⟩:=y;subst e y;exact hs i σ _ hlt p
  · have e:i=n:=by omega
    subst e;exact .inl ⟨Nat.le_refl _,hd σ H p⟩
theorem W8 {z:Str} (Pv:Nat→St→Hp→Prop) (h0:Pv 0 (stC own caps σ) H)
    (hs:∀i c σ H,z.cps[i]? = some c→Pv i σ H→Hx g tt te D (Pv (i+1)) (.str ⟨#[c]⟩) σ H) (hd:∀σ H,Pv z.cps.size σ H→Q H):nO own caps (Its z) g tt te D σ H Q:=by
  refine⟨fun i m σ H=>m=z.cps.size - i∧i≤z.cps.size∧Pv i σ H,⟨z.cps.size,by simp,Nat.zero_le _,h0⟩,?_⟩;rintro i m σ H ⟨rfl,hi,p⟩
  by_cases hlt:i<z.cps.size
  ·refine .inr ⟨hlt,Pv (i+1),fun σ' H' p'=>⟨z.cps.size - (i+1),by omega,rfl,hlt,p'⟩,fun x H' y=>?_⟩;obtain⟨e,c,hc,rfl⟩:=y;subst e;exact hs i c σ _ hc p
  · have e:i=z.cps.size:=by omega
    subst e;exact .inl ⟨Nat.le_refl _,hd σ H p⟩
theorem W9 {l1 l2:Addr} {xs ys:List V} (Pv:Nat→St→Hp→Prop) (h0:Pv 0 (stC own caps σ) H) (he:xs.length=ys.length) (hl:∀i σ H,i≤xs.length→Pv i σ H→aY K H l1 xs∧aY K H l2 ys)
    (hs:∀i x y t σ H,xs[i]? = some x→ys[i]? = some y→H t=none→Pv i σ H→Hx g tt te D (Pv (i+1)) (.ref t) σ (upd H t (.tup [x,y]))) (hd:∀σ H,Pv xs.length σ H→Q H):nO own caps (Itz K l1 l2) g tt te D σ H Q:=by
  refine⟨fun i m σ H=>m=xs.length - i∧i≤xs.length∧Pv i σ H,⟨xs.length,by simp,Nat.zero_le _,h0⟩,?_⟩;rintro i m σ H ⟨rfl,hi,p⟩;obtain⟨q1,q2⟩:=hl i σ H hi p
  by_cases hlt:i<xs.length
  · have hlt2:i<ys.length:=by omega
    refine .inr ⟨⟨xs,ys,xs[i],ys[i],q1,q2,by simp[hlt],by simp[hlt2]⟩,Pv (i+1),fun σ' H' p'=>⟨xs.length - (i+1),by omega,rfl,hlt,p'⟩,fun x H' y=>?_⟩;obtain⟨t,u,v,rfl,ht,rfl,e1,e2⟩:=y;exact hs i u v t σ H (e1 xs q1) (e2 ys q2) ht p
  · have e:i=xs.length:=by omega
    subst e;exact .inl ⟨⟨xs,ys,q1,q2,.inl (Nat.le_refl _)⟩,hd σ H p⟩
end
def Z0 (b:Bool) (K:W.Frag) (H:Hp) (p:Addr) (xs:List V):Prop:=match b with | true=>aY K H p xs | false=>cM K H p xs
def Z1 (b:Bool) (K:W.Frag) (p:Addr):It:=match b with | true=>V5 K p | false=>Itt K p
def qc1 (K:W.Frag) (tl:TE):TI:=fun σ H R=>tl σ H fun x H1=>∃b p,x = .ref p∧(∃xs,Z0 b K H1 p xs)∧R (Z1 b K p) H1
theorem nP {X:Cx} {K:W.Frag} (hK:X.K=K) {tg l:Expr} {tl:TE} (hl:PE X l tl):PI X tg l (qc1 K tl):=by
  intro p_ s σ H R I h;refine dD (hl p_ s σ H _ I h) fun v s1 zz=>?_;obtain⟨x,H1,I1,r1,q1⟩:=zz;obtain⟨b,p,e,hq,q⟩:=q1;subst e;subst hK;cases b with
  | true=>
    cases r1;obtain⟨xs,hq⟩:=hq;obtain⟨its,rv,pl,hz⟩:=I1.list hq;refine wpAny_pyIter_list pl.isList ?_;refine⟨s1.heap.objs.size,[s1.heap.objs.size],_,_,H1,rfl,I1.kept (t':=s1.toks) fun b o e=>Heap.get?_push_of_some _ e,Hi p _,⟨_,Heap.get?_push_size _ rfl,rfl,rfl⟩,fun b hb=>?_,q⟩;have e:b=s1.heap.objs.size:=by simpa using hb
    subst e;exact I1.Jf (Nat.le_refl _) (I1.hok.fresh (Nat.le_refl _))
  | false=>
    cases r1;obtain⟨xs,hq⟩:=hq;obtain⟨its,rv,pl,hz⟩:=I1.tuple hq;refine wpAny_pyIter_tuple (show s1.heap.IsTuple p its.toArray from pl) ?_;refine⟨s1.heap.objs.size,[s1.heap.objs.size],_,_,H1,rfl,I1.kept (t':=s1.toks) fun b o e=>Heap.get?_push_of_some _ e,OD p _,⟨_,Heap.get?_push_size _ rfl,rfl,rfl⟩,fun b hb=>?_,q⟩;have e:b=s1.heap.objs.size:=by simpa using hb
    subst e;exact I1.Jf (Nat.le_refl _) (I1.hok.fresh (Nat.le_refl _))
section
variable {K:W.Frag} {own:List Str} {caps:List Nat} {g:TG} {tt:TT} {te:TE} {D:Addr} {σ:St} {H:Hp} {Q:Hp→Prop}
theorem W_ {b:Bool} {l:Addr} {xs:List V} (Pv:Nat→St→Hp→Prop) (h0:Pv 0 (stC own caps σ) H) (hl:∀i σ H,i≤xs.length→Pv i σ H→Z0 b K H l xs)
    (hs:∀i x σ H,xs[i]? = some x→Pv i σ H→Hx g tt te D (Pv (i+1)) x σ H) (hd:∀σ H,Pv xs.length σ H→Q H):nO own caps (Z1 b K l) g tt te D σ H Q:=by
  cases b with
  | true=>exact Hy Pv h0 hl hs hd
  | false=>exact W7 Pv h0 hl hs hd
theorem qay {b:Bool} {l:Addr} {xs:List V} {tb:TS} {D:Ends} (Pv:Nat→St→Hp→Prop) (h0:Pv 0 σ H) (hl:∀i σ H,i≤xs.length→Pv i σ H→Z0 b K H l xs)
    (hs:∀i x σ H,xs[i]? = some x→Pv i σ H→g x σ H fun σ2 H2=>tb {D with nx:=Pv (i+1),ct:=Pv (i+1),bk:=D.nx} σ2 H2) (hd:∀σ H,Pv xs.length σ H→D.nx σ H) :
    ∃oZ:Nat→Nat→St→Hp→Prop,(∃m,oZ 0 m σ H)∧∀i m σ H,oZ i m σ H→
      ((Z1 b K l).stop i H∧D.nx σ H)∨((Z1 b K l).go i H∧∃N:St→Hp→Prop,(∀σ' H',N σ' H'→∃m',m'<m∧oZ (i+1) m' σ' H')∧∀x H',(Z1 b K l).ZX i H x H'→g x σ H' fun σ2 H2=>tb {D with nx:=N,ct:=N,bk:=D.nx} σ2 H2):=by
  cases b with
  | true=>exact Lg Pv h0 hl hs hd
  | false=>exact qaf Pv h0 hl hs hd
end
theorem au {H:Hp} {p:Addr} {o:HO} (h:H p=none):Same H (upd H p o):=fun b u e=>by rw[aC (aQ e h)];exact e
theorem aV {H H':Hp} {p:Addr} {o:HO} (s:Same H H') (h:H p=none):Same H (upd H' p o):=fun b u e=>by rw[aC (aQ e h)];exact s b u e
def Sq (H:Hp) (p:Addr) (xs:List V):Prop:=H p=some (.lst xs)∨H p=some (.tup xs)
theorem Sq.q {K:W.Frag} {H:Hp} {p:Addr} {xs:List V} (h:Sq H p xs):aY K H p xs∨cM K H p xs:=h.elim (fun e=>.inl (aY.of e)) fun e=>.inr (cM.of e)
theorem Sq.b {H:Hp} {p:Addr} {xs:List V} (h:Sq H p xs):∃b,∀K H',Same H H'→Z0 b K H' p xs:=h.elim (fun e=>⟨true,fun _ _ s=>aY.of (s _ _ e)⟩) fun e=>⟨false,fun _ _ s=>cM.of (s _ _ e)⟩
theorem Sq.same {H H':Hp} {p:Addr} {xs:List V} (h:Sq H p xs) (s:Same H H'):Sq H' p xs:=h.elim (fun e=>.inl (s _ _ e)) fun e=>.inr (s _ _ e)
theorem Sq.ty {K:W.Frag} {H:Hp} {p:Addr} {xs:List V} (h:Sq H p xs):nJ K H (.ref p) (.type "list")∨nJ K H (.ref p) (.type "tuple"):=h.elim (fun e=>.inl (.lst e)) fun e=>.inr (.tup e)
theorem zp {α:Type} (f:α→Bool):∀l:List α,pA (l.map fun c=>.bl (f c)) (l.map f)
  | []=>rfl
  | c::l=>⟨f c,l.map f,rfl,rfl,zp f l⟩
theorem Pu {α:Type} (f:α→Bool) (l:List α):(l.map f).all id=l.all f:=by
  rw[List.all_map];rfl
theorem take_one {α:Type} {l:List α} {i:Nat} {x:α} (h:l[i]? = some x):l.take (i+1)=l.take i++[x]:=by
  rw[List.take_succ,h];rfl
def Rt:List V→Hp→VK→Prop:=fun xs H Q=>∃p ys,xs=[.ref p]∧Sq H p ys∧∀l H',H' l=some (.tup ys)→Same H H'→Q (.ref l) H'
theorem Xa {X:Cx}:cJ X (.type "tuple") Rt:=by
  intro p_ s σ H xs us Q I r h;obtain⟨p,ys,rfl,hq,q⟩:=h;refine Gv p_ s σ H _ us Q I r ⟨p,ys,rfl,?_⟩
  rcases hq with e | e
  ·exact .inl ⟨aY.of e,fun l hl=>q l _ ak (au hl)⟩
  ·exact .inr ⟨cM.of e,q p H e (Same.refl H)⟩
def qc2 (J:It) (g:TG) (tb:TS):TS:=fun D σ H=>∃oZ:Nat→Nat→St→Hp→Prop,(∃m,oZ 0 m σ H)∧∀i m σ H,oZ i m σ H→
      (J.stop i H∧D.nx σ H)∨(J.go i H∧∃N:St→Hp→Prop,(∀σ' H',N σ' H'→∃m',m'<m∧oZ (i+1) m' σ' H')∧∀x H',J.ZX i H x H'→g x σ H' fun σ2 H2=>tb {D with nx:=N,ct:=N,bk:=D.nx} σ2 H2)
theorem bN {H:Hp} {b p:Addr} {o u:HO} (h:H b=some o) (n:H p=none):upd H p u b=some o:=by rw[aC (aQ h n)];exact h
theorem q_ {H:Hp} {b p:Addr} {o o' u:HO} (h:H b=some o) (n:H p=some o') (d:o≠o'):upd H p u b=some o:=by
  rw[aC (fun e=>d (by subst e;rw[h] at n;exact Option.some.inj n))];exact h
theorem bU {H H':Hp} {b:Addr} (s:Same H H') (h:H' b=none):H b=none:=by
  cases e:H b with
  | none=>rfl
  | some o=>rw[s b o e] at h;cases h
def But (p:Addr) (H H':Hp):Prop:=∀b o,b≠p→H b=some o→H' b=some o
theorem But.refl (p:Addr) (H:Hp):But p H H:=fun _ _ _ e=>e
theorem But.trans {p:Addr} {H H1 H2:Hp} (x:But p H H1) (y:But p H1 H2):But p H H2:=fun b o hb e=>y b o hb (x b o hb e)
theorem But.new {p q:Addr} {H H':Hp} {u:HO} (x:But p H H') (h:H q=none):But p H (upd H' q u):=fun b o hb e=>by
  rw[aC (aQ e h)];exact x b o hb e
theorem But.of {p:Addr} {H H':Hp} (x:Same H H'):But p H H':=fun b o _ e=>x b o e
theorem But.same {p:Addr} {H H1 H2:Hp} (x:But p H H1) (y:Same H1 H2):But p H H2:=fun b o hb e=>y b o (x b o hb e)
theorem But.none {p b:Addr} {H H':Hp} {u:HO} (x:But p H H') (hp:H' p=some u) (h:H' b = .none):H b = .none:=by
  cases e:H b with
  | none=>rfl
  | some o=>
    have hb:b≠p:=fun z=>by subst z;rw[hp] at h;cases h
    rw[x b o hb e] at h;cases h
theorem Ru {α:Type} {xs:List α} {i:Int} (h0:0≤i) (h1:i<xs.length):∃v,xs[i.toNat]? = some v∧xG xs i=some v:=by
  obtain⟨j,rfl⟩:∃j:Nat,i=j:=⟨i.toNat,by omega⟩;have hj:j<xs.length:=by omega
  exact⟨xs[j],by simp[hj],aP (by simp[hj])⟩
theorem qc3 {d e n:Int} (h0:0≤d) (h1:d<n) (h2:0≤e) (h3:e<n - 1):0≤(d+1+e) % n∧(d+1+e) % n<n∧(d+1+e) % n≠d:=by
  refine⟨Int.emod_nonneg _ (by omega),Int.emod_lt_of_pos _ (by omega),?_⟩
  by_cases h:d+1+e<n
  ·rw[Int.emod_eq_of_lt (by omega) h];omega
  · have z:d+1+e=(d+1+e - n)+n * 1:=by omega
    rw[z,Int.add_mul_emod_self_left,Int.emod_eq_of_lt (by omega) (by omega)];omega
theorem qg {xs:List Str} {i:Nat} {x:V} (h:(xs.map V.str)[i]? = some x):∃z,xs[i]? = some z∧x = .str z:=by
  rw[List.getElem?_map] at h;cases e:xs[i]? with
  | none=>rw[e] at h;cases h
  | some z=>rw[e] at h;exact⟨z,rfl,(Option.some.inj h).symm⟩
theorem tV {α:Type} {xs:List α} (h:xs.Nodup) {i j:Nat} {x:α} (hi:xs[i]? = some x) (hj:xs[j]? = some x):i=j:=by
  obtain⟨h1,e1⟩:=List.getElem?_eq_some_iff.mp hi;obtain⟨h2,e2⟩:=List.getElem?_eq_some_iff.mp hj;exact(List.getElem_inj h).mp (e1.trans e2.symm)
def Z2 (c:Nat):Bool:=!(Builtin.Str.occurrences ("abcdefghijklmnopqrstuvwxyz" : Str) ⟨#[c]⟩ 0 ("abcdefghijklmnopqrstuvwxyz" : Str).length 1).isEmpty
def nameB (x:Str):Bool:=decide (1≤x.length) && decide (x.length≤4) && x.cps.toList.all Z2
theorem Xb:∀n<26,Z2 (97+n)=true:=by decide+kernel
theorem Px:∀n:Nat,n<26→xG (Str.ofString "abcdefghijklmnopqrstuvwxyz").cps.toList (n:Int)=some (97+n):=by decide+kernel
theorem Ad:(Str.ofString "abcdefghijklmnopqrstuvwxyz").length≤sizeLine:=by decide+kernel
theorem tW {i:Int} (h0:0≤i) (h1:i<26):∃n:Nat,i=n∧n<26∧xG (Str.ofString "abcdefghijklmnopqrstuvwxyz").cps.toList i=some (97+n):=
  ⟨i.toNat,by omega,by omega,by
    obtain⟨n,rfl⟩:∃n:Nat,i=n:=⟨i.toNat,by omega⟩;exact Px n (by omega)⟩
structure rm (c:Nat) (k:Nat) (x:Str):Prop where
  len:x.length=k
  fst:x.cps[0]? = some c
  all:x.cps.toList.all Z2=true
theorem rm.one {n:Nat} (h:n<26):rm (97+n) 1 ⟨#[97+n]⟩:=⟨rfl,rfl,by simp[Xb n h]⟩
theorem rm.name {c k:Nat} {x:Str} (h:rm c k x) (h1:1≤k) (h4:k≤4):nameB x=true:=by
  unfold nameB;rw[h.len,h.all];simp;omega
section
variable {κ:Type} [DecidableEq κ]
def m9 (kvs:List (κ×V)) (k:κ):Option V:=(kvs.find? fun kv=>decide (kv.1=k)).map (·.2)
def putK (kvs:List (κ×V)) (k:κ) (v:V):List (κ×V):=
  if (kvs.any fun kv=>decide (kv.1=k))=true then kvs.map (fun kv=>if kv.1=k then (kv.1,v) else kv) else kvs++[(k,v)]
theorem Cp {p:κ×V} {r:List (κ×V)} {k:κ} (e:p.1=k):m9 (p::r) k=some p.2:=by simp[m9,List.find?_cons,e]
theorem Cq {p:κ×V} {r:List (κ×V)} {k:κ} (e:¬p.1=k):m9 (p::r) k=m9 r k:=by simp[m9,List.find?_cons,e]
theorem Cr (k:κ):∀kvs:List (κ×V),(kvs.any fun kv=>decide (kv.1=k))=(m9 kvs k).isSome
  | []=>rfl
  | p::r=>by
    rw[List.any_cons]
    by_cases e:p.1=k
    ·simp only[Cp e,decide_eq_true e,Bool.true_or,Option.isSome_some]
    ·rw[Cq e,decide_eq_false e,Bool.false_or];exact Cr k r
theorem tX (kvs:List (κ×V)) (k:κ) (v:V):(putK kvs k v).length≤kvs.length+1:=by
  unfold putK;split
  ·rw[List.length_map];omega
  ·rw[List.length_append,List.length_cons,List.length_nil];omega
theorem Cu {kvs:List (κ×V)} {k:κ} (v:V) (h:m9 kvs k=none):putK kvs k v=kvs++[(k,v)]:=by
  unfold putK;rw[Cr,h];exact if_neg (by decide)
theorem nG.qG {o:Option V} {u:Option Value} (r:nG o u):o.isSome=u.isSome:=by
  cases o with
  | none=>cases u with
    | none=>rfl
    | some _=>exact(show False from r).elim
  | some _=>cases u with
    | none=>exact(show False from r).elim
    | some _=>rfl
theorem nG.getD {o:Option V} {u:Option Value} {d:V} {d':Value} (r:nG o u) (rd:RelV d d'):RelV (o.getD d) (u.getD d'):=by
  cases o with
  | none=>cases u with
    | none=>exact rd
    | some _=>exact(show False from r).elim
  | some _=>cases u with
    | none=>exact(show False from r).elim
    | some _=>exact r
theorem KV.val {kvs:List (κ×V)} {vs:List (κ×Value)} (r:KV kvs vs) (k:κ):nG (m9 kvs k) (valueAt vs k):=by
  unfold KV at r
  induction r with
  | nil=>exact True.intro
  | @cons p q ps qs h t ih=>
    obtain⟨h1,h2⟩:=h
    by_cases e:p.1=k
    · have e':q.1=k:=h1.symm.trans e;have b:valueAt (q::qs) k=some q.2:=by simp[valueAt,List.find?_cons,e']
      rw[Cp e,b];exact h2
    · have e':¬q.1=k:=fun z=>e (h1.trans z);have b:valueAt (q::qs) k=valueAt qs k:=by simp[valueAt,List.find?_cons,e']
      rw[Cq e,b];exact ih
theorem KV.any {kvs:List (κ×V)} {vs:List (κ×Value)} (r:KV kvs vs) (k:κ):(kvs.any fun kv=>decide (kv.1=k))=vs.any fun kv=>decide (kv.1=k):=by
  unfold KV at r
  induction r with
  | nil=>rfl
  | cons h t ih=>rw[List.any_cons,List.any_cons,ih,h.1]
theorem KV.repl {kvs:List (κ×V)} {vs:List (κ×Value)} (r:KV kvs vs) (k:κ) {y:V} {u:Value} (ry:RelV y u) :
    KV (kvs.map fun kv=>if kv.1=k then (kv.1,y) else kv) (vs.map fun kv=>if kv.1=k then (kv.1,u) else kv):=by
  unfold KV at r ⊢
  induction r with
  | nil=>exact .nil
  | @cons p q ps qs h t ih=>
    rw[List.map_cons,List.map_cons];refine .cons ?_ ih;obtain⟨h1,h2⟩:=h
    by_cases e:p.1=k
    ·rw[if_pos e,if_pos (h1.symm.trans e)];exact⟨h1,ry⟩
    ·rw[if_neg e,if_neg (fun z=>e (h1.trans z))];exact⟨h1,h2⟩
theorem KV.put {kvs:List (κ×V)} {vs:List (κ×Value)} (r:KV kvs vs) (k:κ) {y:V} {u:Value} (ry:RelV y u):KV (putK kvs k y) (stored vs k u):=by
  unfold putK stored;rw[r.any k]
  by_cases e:(vs.any fun kv=>decide (kv.1=k))=true
  ·rw[if_pos e,if_pos e];exact r.repl k ry
  ·rw[if_neg e,if_neg e];exact Paired.snoc r ⟨rfl,ry⟩
theorem KV.length {kvs:List (κ×V)} {vs:List (κ×Value)} (r:KV kvs vs):kvs.length=vs.length:=Paired.length r
end
theorem Cv {P:Program} {w:World} {k:Key} {u:Value} (r:RelV (kV k) u):(cT P w).is k u=true:=by
  cases k with
  | inl i=>obtain⟨t,e⟩:=(show ∃t,u=Value.int i t from r);subst e;exact K6 P w i t
  | inr x=>obtain⟨t,e⟩:=(show ∃t,u=Value.str x t from r);subst e;exact K7 P w x t
theorem Hz {P:Program} {w:World}:∀{ks:List Key} {us:List Value},Vals (ks.map kV) us→ItemsAre (cT P w) ks us
  | [],_,r=>by rw[List.map_nil] at r;cases r;exact .nil
  | k::ks,_,r=>by
    rw[List.map_cons] at r;cases r with
    | cons h t=>exact .cons (Cv h) (Hz t)
abbrev KT (H:Hp):List (List Key×V)→List (List Key×Addr×Value)→Prop:=Paired fun p q=>p.1=q.1∧H q.2.1=some (.tup (p.1.map kV))∧RelV p.2 q.2.2
theorem KT.val {H:Hp} {kvs:List (List Key×V)} {xs:List (List Key×Addr×Value)} (r:KT H kvs xs) (k:List Key):nG (m9 kvs k) ((atKey xs k).map (·.2)):=by
  induction r with
  | nil=>exact True.intro
  | @cons p q ps qs h t ih=>
    obtain⟨h1,_,h2⟩:=h
    by_cases e:p.1=k
    · have e':q.1=k:=h1.symm.trans e;have b:atKey (q::qs) k=some q.2:=by simp[atKey,List.find?_cons,e']
      rw[Cp e,b];exact h2
    · have e':¬q.1=k:=fun z=>e (h1.trans z);have b:atKey (q::qs) k=atKey qs k:=by simp[atKey,List.find?_cons,e']
      rw[Cq e,b];exact ih
theorem KT.repl {H:Hp} {kvs:List (List Key×V)} {xs:List (List Key×Addr×Value)} (r:KT H kvs xs) (k:List Key) {y:V} {u:Value} (ry:RelV y u) :
    KT H (kvs.map fun kv=>if kv.1=k then (kv.1,y) else kv) (xs.map (putAt k u)):=by
  induction r with
  | nil=>exact .nil
  | @cons p q ps qs h t ih=>
    rw[List.map_cons,List.map_cons];refine .cons ?_ ih;obtain⟨h1,h2,h3⟩:=h;unfold putAt
    by_cases e:p.1=k
    ·rw[if_pos e,if_pos (h1.symm.trans e)];exact⟨h1,h2,ry⟩
    ·rw[if_neg e,if_neg (fun z=>e (h1.trans z))];exact⟨h1,h2,h3⟩
theorem KT.put {H:Hp} {kvs:List (List Key×V)} {xs:List (List Key×Addr×Value)} (r:KT H kvs xs) (k:List Key) {b:Addr} {y:V} {u:Value} (hb:H b=some (.tup (k.map kV))) (ry:RelV y u) :
    KT H (putK kvs k y) (storedH xs k b u):=by
  have e:(kvs.any fun kv=>decide (kv.1=k))=(atKey xs k).isSome:=by
    rw[Cr,(r.val k).qG,Option.isSome_map]
  unfold putK storedH;rw[e]
  by_cases q:(atKey xs k).isSome=true
  ·rw[if_pos q,if_pos q];exact r.repl k ry
  ·rw[if_neg q,if_neg q];exact Paired.snoc r ⟨rfl,hb,ry⟩
theorem KT.keeps {H H':Hp} {kvs:List (List Key×V)} {xs:List (List Key×Addr×Value)} (r:KT H kvs xs) (ht:∀b ys,H b=some (.tup ys)→H' b=some (.tup ys)):KT H' kvs xs:=
  Paired.qcn r fun _ _ z=>⟨z.1,ht _ _ z.2.1,z.2.2⟩
section
variable {P:Program} {w:World} {H:Hp} {h:Heap} {a:Addr}
theorem qbI {u:HO} (ok:tG P w H h) (e:Rd H a u):cA P w H h a u:=e.ok ok
theorem Cw {kvs:List (Key×V)} (ok:tG P w H h) (e:Rd H a (.dK kvs)):kvs.length≤sizeLine∧(a == sysModules)=false∧∃vs,KV kvs vs∧h.DictOf (cT P w) a vs:=
  show cA P w H h a (.dK kvs) from qbI ok e
theorem Xc {kvs:List (Key×V)} (ok:tG P w H h) (e:H a=some (.dK kvs)):kvs.length≤sizeLine∧(a == sysModules)=false∧∃vs,KV kvs vs∧h.DictOf (cT P w) a vs:=Cw ok (.inl e)
theorem zq {ks:List Key} (ok:tG P w H h) (e:H a=some (.tup (ks.map kV))):(tupleKind (cT P w)).is h ks a:=by
  obtain⟨_,its,r,o,h1,h2,n,h3⟩:=(show cA P w H h a (.tup (ks.map kV)) from ok a _ e);exact⟨o,its.toArray,n,h1,h2,h3,by simpa using Hz r⟩
theorem Cy {kvs:List (List Key×V)} (ok:tG P w H h) (e:Rd H a (.dT kvs)):kvs.length≤sizeLine∧(a == sysModules)=false∧
    ∃xs,KT H kvs xs∧h.DictOfH (tupleKind (cT P w)) a xs:=by
  obtain⟨z,y,xs,r,o,es,ep,h1,h2,h3,h4,h5⟩:=(show cA P w H h a (.dT kvs) from qbI ok e);refine⟨z,y,xs,r,o,es,ep,h1,h2,h3,h4,fun x hx=>?_,h5⟩;have all:∀{l:List (List Key×V)} {m:List (List Key×Addr×Value)},KT H l m→∀x∈m,(tupleKind (cT P w)).is h x.1 x.2.1:=by
    intro l m q
    induction q with
    | nil=>intro x hx;exact nomatch hx
    | @cons p q ps qs hq t ih=>
      intro x hx
      rcases List.mem_cons.mp hx with e | hx
      ·subst e;exact zq ok (by rw[← hq.1];exact hq.2.1)
      ·exact ih x hx
  exact all r x hx
theorem qfE {kvs:List (List Key×V)} (ok:tG P w H h) (e:H a=some (.dT kvs)):kvs.length≤sizeLine∧(a == sysModules)=false∧
    ∃xs,KT H kvs xs∧h.DictOfH (tupleKind (cT P w)) a xs:=Cy ok (.inl e)
end
def lU (H:Hp) (a:Addr) (y:V) (r:Option V):Prop:=
  (∃kvs k,Rd H a (.dK kvs)∧y=kV k∧r=m9 kvs k)∨∃kvs k b,Rd H a (.dT kvs)∧y = .ref b∧H b=some (.tup (k.map kV))∧r=m9 kvs k
def Cz (H:Hp) (a:Addr) (y v:V) (H':Hp):Prop:=
  (∃kvs k,H a=some (.dK kvs)∧y=kV k∧kvs.length<sizeLine∧H'=upd H a (.dK (putK kvs k v)))∨
  ∃kvs k b,H a=some (.dT kvs)∧y = .ref b∧H b=some (.tup (k.map kV))∧kvs.length<sizeLine∧H'=upd H a (.dT (putK kvs k v))
theorem lU.k {H:Hp} {a:Addr} {kvs:List (Key×V)} {k:Key} (e:H a=some (.dK kvs)):lU H a (kV k) (m9 kvs k):=.inl ⟨kvs,k,.inl e,rfl,rfl⟩
theorem Cz.k {H:Hp} {a:Addr} {kvs:List (Key×V)} {k:Key} {v:V} (e:H a=some (.dK kvs)) (hl:kvs.length<sizeLine):Cz H a (kV k) v (upd H a (.dK (putK kvs k v))):=.inl ⟨kvs,k,e,rfl,hl,rfl⟩
section
variable {X:Cx} {p_:List (Addr×Obj)} {σ:St} {H:Hp} {s:Shared} {a:Addr} {y v:V} {u r:Value} {o:Option V} {A:Around} {E:Value→Shared→Prop}
theorem Inv.big (I:Inv X p_ σ H s):sysModules<s.heap.objs.size:=by
  have h:mainGlobals<s.heap.objs.size:=(I.mod.glob.keeps I.bk).lt;exact Nat.lt_trans (by decide) h
theorem T9 {Q:Value→Shared→Prop} (hu:A.units+1<cLine) (I:Inv X p_ σ H s) (g:lU H a y (some v)) (ry:RelV y u) (h:∀w' s',Inv X p_ σ H s'→RelV v w'→Q w' s') :
    wpAny (model X.prog X.w) A (getItem (.ref a) u) Q E s:=by
  rcases g with⟨kvs,k,e,ey,l⟩ | ⟨kvs,k,b,e,ey,eb,l⟩
  ·subst ey;obtain⟨z,hd,vs,rel,dd⟩:=Cw I.hok e;obtain⟨w',hw,WM⟩:=nG.some_of (v:=v) (o:=valueAt vs k) (by rw[l];exact rel.val k);exact wpAny_getItem_of (Cv ry) dd.mapOf hw (h w' _ (I.tok _) WM)
  · subst ey;cases (show u=Value.ref b from ry);obtain⟨z,hd,xs,rel,dd⟩:=Cy I.hok e;obtain⟨w',hw,WM⟩:=nG.some_of (v:=v) (o:=(atKey xs k).map (·.2)) (by rw[l];exact rel.val k);obtain⟨p,hp,hp2⟩:=Option.map_eq_some_iff.mp hw;refine wpAny_getItem_heap (tupleKind_room_in1 hu) (zq I.hok eb) dd hp ?_;rw[hp2];exact h w' _ (I.tok _) WM
theorem qlp {Q:Value→Shared→Prop} (hu:A.units+1<cLine) (I:Inv X p_ σ H s) (g:lU H a y o) (ry:RelV y u) (h:∀s',Inv X p_ σ H s'→Q (.bool o.isSome) s') :
    wpAny (model X.prog X.w) A (compareOp .In u (.ref a)) Q E s:=by
  rcases g with⟨kvs,k,e,ey,l⟩ | ⟨kvs,k,b,e,ey,eb,l⟩
  ·subst ey;obtain⟨z,hd,vs,rel,dd⟩:=Cw I.hok e;refine wpAny_in_of (Cv ry) hd dd.mapOf ?_;rw[← (rel.val k).qG,← l];exact h _ (I.tok _)
  ·subst ey;cases (show u=Value.ref b from ry);obtain⟨z,hd,xs,rel,dd⟩:=Cy I.hok e;refine wpAny_in_heap (tupleKind_room_in1 hu) (zq I.hok eb) hd dd ?_;have q:=(rel.val k).qG;rw[Option.isSome_map] at q;rw[← q,← l];exact h _ (I.tok _)
theorem qaz {Q:Value→Shared→Prop} (hu:A.units+1<cLine) (I:Inv X p_ σ H s) (g:lU H a y o) (ry:RelV y u) (h:∀s',Inv X p_ σ H s'→Q (.bool (!o.isSome)) s') :
    wpAny (model X.prog X.w) A (compareOp .NotIn u (.ref a)) Q E s:=by
  rcases g with⟨kvs,k,e,ey,l⟩ | ⟨kvs,k,b,e,ey,eb,l⟩
  ·subst ey;obtain⟨z,hd,vs,rel,dd⟩:=Cw I.hok e;refine wpAny_notIn_of (Cv ry) hd dd.mapOf ?_;rw[← (rel.val k).qG,← l];exact h _ (I.tok _)
  ·subst ey;cases (show u=Value.ref b from ry);obtain⟨z,hd,xs,rel,dd⟩:=Cy I.hok e;refine wpAny_notIn_heap (tupleKind_room_in1 hu) (zq I.hok eb) hd dd ?_;have q:=(rel.val k).qG;rw[Option.isSome_map] at q;rw[← q,← l];exact h _ (I.tok _)
theorem Jy {h':Heap} {t':Nat} {ob:HO} (I:Inv X p_ σ H s) (mu:Mut (H a)) (hs:Heap.SameBut a s.heap h') (he:∃q,h'.get? a=some q) (new:cA X.prog X.w (upd H a ob) h' a ob) :
    Inv X p_ σ (upd H a ob) {s with heap:=h',toks:=t'}:=
  I.write (x:=a) (e:=a) mu (.inl rfl) (fun b q hb z=>(hs.2 b hb).trans z) he new
theorem Xd {P:Program} {w:World} {H':Hp} {h':Heap} {kvs:List (Key×V)} {vs:List (Key×Value)} (z:kvs.length≤sizeLine) (hd:(a == sysModules)=false) (rel:KV kvs vs) (dd:h'.DictOf (cT P w) a vs) :
    cA P w H' h' a (.dK kvs):=⟨z,hd,vs,rel,dd⟩
theorem T_ {H':Hp} {Q:Unit→Shared→Prop} (hu:A.units+1<cLine) (I:Inv X p_ σ H s) (g:Cz H a y v H') (ry:RelV y u) (rv:RelV v r) (h:∀s',Inv X p_ σ H' s'→Q () s') :
    wpAny (model X.prog X.w) A (setItem (.ref a) u r) Q E s:=by
  rcases g with⟨kvs,k,e,ey,l,eH⟩ | ⟨kvs,k,b,e,ey,eb,l,eH⟩
  · subst ey eH;obtain⟨z,hd,vs,rel,dd⟩:=Xc I.hok e;have hz:vs.length≤sizeLine:=by rw[← rel.length];exact z
    have hl:(putK kvs k v).length≤sizeLine:=by have:=tX kvs k v;omega
    refine wpAny_setItem_pairs (hsz:=hz) (Cv ry) dd fun h' dd' hs=>h _ ?_;have he:∃q,h'.get? a=some q:=let ⟨q,_,_,hq,_⟩:=dd';⟨q,hq⟩;exact Jy I (by rw[e];exact True.intro) hs he (Xd hl hd (rel.put k rv) dd')
  · subst ey eH;cases (show u=Value.ref b from ry);obtain⟨z,hd,xs,rel,dd⟩:=qfE I.hok e;have hz:xs.length≤sizeLine:=by rw[← Paired.length rel];exact z
    have hl:(putK kvs k v).length≤sizeLine:=by have:=tX kvs k v;omega
    refine wpAny_setItem_heap (hsz:=hz) (tupleKind_room_in1 hu) (zq I.hok eb) dd fun h' dd' hs=>h _ ?_;obtain⟨q,es,ep,hq,h2,h3,h4,_,h5⟩:=dd';refine Jy I (by rw[e];exact True.intro) hs ⟨q,hq⟩ ⟨hl,hd,_,(rel.put k eb rv).keeps fun c ys ec=>?_,q,es,ep,hq,h2,h3,h4,h5⟩;rw[aC (BZ ec e (fun z=>nomatch z))];exact ec
end
def qfF (i:Expr):Prop:=∀ov iv,subscripted i false ov iv=operate [ov,iv] (getItem ov iv)
theorem qaA {prog:Program} {w:World} {A:Around} {E:Value→Shared→Prop} {s:Shared} {env:Env} {value slice:Expr} {pos:Pos} {T id:String} {Q:Value→Shared→Prop}
    (hl:typeLookup (.type T) "__getitem__" = pure (some (.builtin id))) (hs:qfF slice)
    (h:wpAny (model prog w) A (eval value env) (fun o s₁=>wpAny (model prog w) A (eval slice env) (fun i s₂=>s₂.TypeIs o T∧wpAny (model prog w) A (getItem o i) Q E s₂) E s₁) E s) :
    wpAny (model prog w) A (eval (.Subscript value slice pos) env) Q E s:=by
  refine Subscript_ (wpAny_mono h (fun o s₁ h₁=>wpAny_mono h₁ (fun i s₂ h₂=>?_) fun _ _ x=>x) fun _ _ x=>x);obtain⟨hT,h₂⟩:=h₂;unfold subscriptTail;refine wpAny_bind ?_;rw[getitemInPython_of_ne hT.not_modules];refine wpAny_bind (wpAny_specialOf hT hl ?_);have fin:wpAny (model prog w) A (subscripted slice false o i) (fun r s₃=>wpAny (model prog w) A (letTemporaryGo value o r >>= fun _=>pure r) Q E s₃) E s₂:=by
    rw[hs o i];exact wpAny_operating (wpAny_mono h₂ (fun r s₃ h₃=>wpAny_bind (wpAny_letTemporaryGo (wpAny_pure h₃))) fun _ _ x=>x)
  first
    | exact wpAny_pure (wpAny_bind fin)
    | exact wpAny_bind (wpAny_pure (wpAny_bind fin))
    | exact wpAny_bind fin
theorem LQ {X:Cx} {p_:List (Addr×Obj)} {σ:St} {H:Hp} {s:Shared} {a:Addr} {y:V} {o:Option V} (I:Inv X p_ σ H s) (g:lU H a y o):s.TypeIs (.ref a) "dict" :=by
  rcases g with⟨kvs,k,e,_,_⟩ | ⟨kvs,k,b,e,_,_,_⟩
  ·obtain⟨_,_,vs,_,dd⟩:=Cw I.hok e;exact dd.typeIs
  ·obtain⟨_,_,xs,_,dd⟩:=Cy I.hok e;exact dd.typeIs
def Xe (td ty:TE):TE:=fun σ H Q=>td σ H fun x H1=>ty σ H1 fun y H2=>∃a v,x = .ref a∧lU H2 a y (some v)∧Q v H2
def qc4 (ty td:TE):TE:=fun σ H Q=>ty σ H fun y H1=>td σ H1 fun x H2=>∃a o,x = .ref a∧lU H2 a y o∧Q (.bl o.isSome) H2
def Jz (ty td:TE):TE:=fun σ H Q=>ty σ H fun y H1=>td σ H1 fun x H2=>∃a o,x = .ref a∧lU H2 a y o∧Q (.bl (!o.isSome)) H2
def Xf (td ty tv:TE):TS:=fun D σ H=>tv σ H fun v H1=>td σ H1 fun x H2=>ty σ H2 fun y H3=>∃a H4,x = .ref a∧Cz H3 a y v H4∧D.nx σ H4
section
variable {X:Cx} {o i e value:Expr} {pos pos' tpos:Pos} {td ty tv:TE}
theorem JB (hu:X.A.units+1<cLine) (ho:PE X o td) (hi:PE X i ty) (hs:qfF i):PE X (.Subscript o i pos) (Xe td ty):=by
  intro p_ s σ H Q I h;refine qaA PySem.F.slot_dict_getitem.lookup hs (dD (ho p_ s σ H _ I h) fun u s1 ⟨x,H1,I1,rx,q1⟩=>dD (hi p_ s1 σ H1 _ I1 q1) fun iv s2 ⟨y,H2,I2,ry,a,v,ex,g,q2⟩=>?_);subst ex;obtain rfl:u=Value.ref a:=rx;exact⟨LQ I2 g,T9 hu I2 g ry fun w' s3 I3 WM=>⟨v,H2,I3,WM,q2⟩⟩
theorem Xg (hu:X.A.units+1<cLine) (hi:PE X i ty) (ho:PE X o td):PC X .In i o (qc4 ty td):=by
  intro p_ s σ H Q I h;refine dD (hi p_ s σ H _ I h) fun iv s1 ⟨y,H1,I1,ry,q1⟩=>dD (ho p_ s1 σ H1 _ I1 q1) fun u s2 ⟨x,H2,I2,rx,a,ov,ex,g,q2⟩=>?_;subst ex;obtain rfl:u=Value.ref a:=rx;exact qlp hu I2 g ry fun s3 I3=>⟨.bl ov.isSome,H2,I3,rfl,q2⟩
theorem Ua (hu:X.A.units+1<cLine) (hi:PE X i ty) (ho:PE X o td):PC X .NotIn i o (Jz ty td):=by
  intro p_ s σ H Q I h;refine dD (hi p_ s σ H _ I h) fun iv s1 ⟨y,H1,I1,ry,q1⟩=>dD (ho p_ s1 σ H1 _ I1 q1) fun u s2 ⟨x,H2,I2,rx,a,ov,ex,g,q2⟩=>?_;subst ex;obtain rfl:u=Value.ref a:=rx;exact qaz hu I2 g ry fun s3 I3=>⟨.bl (!ov.isSome),H2,I3,rfl,q2⟩
theorem Rv (hu:X.A.units+1<cLine) (ho:PE X o td) (hi:PE X i ty) (hv:PE X value tv) (hs:swapsWith value (some (.Subscript o i pos')) pos.line X.env=pure false) :
    PS X (.Assign [.Subscript o i pos'] value pos) (Xf td ty tv):=by
  intro p_ s σ H D I h;refine wpAny_Assign_Subscript (dD (hv p_ s σ H _ I h) fun r s1 ⟨v,H1,I1,rv,q1⟩=>dD (ho p_ s1 σ H1 _ I1 q1) fun u s2 ⟨x,H2,I2,rx,q2⟩=>dD (hi p_ s2 σ H2 _ I2 q2) fun iv s3 ⟨y,H3,I3,ry,a,H4,ex,g,q3⟩=>?_) hs;subst ex;obtain rfl:u=Value.ref a:=rx;exact T_ hu I3 g ry rv fun s4 I4=>⟨σ,H4,I4,q3⟩
end
theorem LR {P:Program} {w:World} {H:Hp} (h:Heap) (hb:sysModules<h.objs.size):cA P w H (h.push {cls:=.type "dict",data:=.dict #[]}) h.objs.size (.dK []):=
  ⟨Nat.zero_le _,beq_eq_false_iff_ne.mpr (Ne.symm (Nat.ne_of_lt hb)),[],.nil,Heap.DictOf.new h⟩
def Xh:TE:=fun _ H Q=>∀p,H p=none→Q (.ref p) (upd H p (.dK []))
section
variable {X:Cx} {pos:Pos}
theorem xO:PE X (.Dict [] [] pos) Xh:=fun p_ s σ H Q I h=>
  wpAny_Dict_empty ⟨.ref s.heap.objs.size,_,I.laid (a:=s.heap.objs.size) (o:=.dK []) (t':=s.toks) (fun _ _ q=>Heap.get?_push_of_some _ q) (Nat.le_refl _) (LR s.heap I.big),rfl,h _ (I.hok.fresh (Nat.le_refl _))⟩
end
def wB:List (TE×TE)→St→Hp→(List (V×V)→Hp→Prop)→Prop
  | [],_,H,Q=>Q [] H
  | (tk,tv)::r,σ,H,Q=>tk σ H fun x H1=>tv σ H1 fun y H2=>wB r σ H2 fun ps H3=>Q ((x,y)::ps) H3
abbrev VV:List (V×V)→List (Value×Value)→Prop:=Paired fun p q=>RelV p.1 q.1∧RelV p.2 q.2
def PPs (X:Cx) (pos:Pos) (keys:List (Option Expr)) (values:List Expr) (V7:List (TE×TE)):Prop:=
  ∀(p_:List (Addr×Obj)) (s:Shared) (σ:St) (H:Hp) (Q:List (V×V)→Hp→Prop),Inv X p_ σ H s→wB V7 σ H Q→
    wpAny (model X.prog X.w) X.A (evalPairs (pairTrees keys values X.env pos)) (fun vs s'=>∃ps H',Inv X p_ σ H' s'∧VV ps vs∧Q ps H') X.xe s
theorem qaB {X:Cx} {pos:Pos}:PPs X pos [] [] []:=fun p_ s σ H Q I h=>pairTrees_nil_walk ⟨[],H,I,.nil,h⟩
theorem Xi {X:Cx} {pos:Pos} {k v:Expr} {ks:List (Option Expr)} {vs:List Expr} {tk tv:TE} {V7:List (TE×TE)} (hk:PE X k tk) (hv:PE X v tv) (hr:PPs X pos ks vs V7) :
    PPs X pos (some k::ks) (v::vs) ((tk,tv)::V7):=fun p_ s σ H Q I h=>
  pairTrees_cons_walk (dD (hk p_ s σ H _ I h) fun u s1 ⟨x,H1,I1,rx,q1⟩=>dD (hv p_ s1 σ H1 _ I1 q1) fun w2 s2 ⟨y,H2,I2,ry,q2⟩=>
    dD (hr p_ s2 σ H2 _ I2 q2) fun ws s3 ⟨ps,H3,I3,rel,q3⟩=>⟨(x,y)::ps,H3,I3,.cons ⟨rx,ry⟩ rel,q3⟩)
def wC (kvs more:List (Key×V)):List (Key×V):=more.foldl (fun acc kv=>putK acc kv.1 kv.2) kvs
theorem KV.merge:∀{more:List (Key×V)} {rs:List (Key×Value)} {kvs:List (Key×V)} {vs:List (Key×Value)},KV more rs→KV kvs vs→KV (wC kvs more) (merged vs rs):=by
  intro more rs kvs vs r;unfold KV at r
  induction r generalizing kvs vs with
  | nil=>intro q;exact q
  | @cons p q ps qs h t ih=>
    intro r0;have e:KV (putK kvs p.1 p.2) (stored vs q.1 q.2):=by
      have:=r0.put p.1 h.2;rw[← h.1];exact this
    exact ih e
theorem vJ:∀(more kvs:List (Key×V)),(wC kvs more).length≤kvs.length+more.length
  | [],kvs=>by show kvs.length≤kvs.length+0;omega
  | p::r,kvs=>by
    have h1:=vJ r (putK kvs p.1 p.2);have h2:=tX kvs p.1 p.2;show(wC (putK kvs p.1 p.2) r).length≤_;rw[List.length_cons];omega
theorem CG {P:Program} {w:World}:∀{kvs:List (Key×V)} {ws:List (Value×Value)},VV (kvs.map fun kv=>(kV kv.1,kv.2)) ws→∃rs,Carries (cT P w) ws rs∧KV kvs rs
  | [],_,r=>by rw[List.map_nil] at r;cases r;exact⟨[],True.intro,.nil⟩
  | p::kvs,_,r=>by
    rw[List.map_cons] at r;cases r with
    | @cons a b as bs h t=>
      obtain⟨rs,c,q⟩:=CG (P:=P) (w:=w) t;obtain⟨b1,b2⟩:=b;exact⟨(p.1,b2)::rs,⟨Cv h.1,rfl,c⟩,.cons ⟨rfl,h.2⟩ q⟩
def qbJ (V7:List (TE×TE)):TE:=fun σ H Q=>∀p,H p=none→wB V7 σ (upd H p (.dK [])) fun ps H2=>H2 p=some (.dK [])∧∃kvs:List (Key×V),ps=kvs.map (fun kv=>(kV kv.1,kv.2))∧kvs.length≤15∧Q (.ref p) (upd H2 p (.dK (wC [] kvs)))
theorem qaC {X:Cx} {pos:Pos} {keys:List (Option Expr)} {values:List Expr} {V7:List (TE×TE)} (h:PPs X pos keys values V7) (hall:keys.all (·.isSome)=true) (hl:keys.length=values.length) (h0:keys≠[])
    (h15:keys.length≤15):PE X (.Dict keys values pos) (qbJ V7):=by
  intro p_ s σ H Q I q;have hn:=I.hok.fresh (Nat.le_refl s.heap.objs.size);have I1:=I.laid (a:=s.heap.objs.size) (o:=.dK []) (h':=s.heap.push {cls:=.type "dict",data:=.dict #[]}) (t':=s.toks) (fun _ _ q=>Heap.get?_push_of_some _ q) (Nat.le_refl _) (LR s.heap I.big);refine wpAny_Dict_walk (knd:=cT X.prog X.w) hall hl h0 h15 (dD (h p_ _ σ _ _ I1 (q _ hn)) fun ws s2 zz=>?_);obtain⟨ps,H2,I2,rel,e,kvs,ep,lk,q2⟩:=zz;subst ep;obtain⟨rs,c,rk⟩:=CG (P:=X.prog) (w:=X.w) rel;obtain⟨z,hd,vs0,r0,dd⟩:=Xc I2.hok e;cases r0;refine⟨rs,c,dd,fun h' dd' hs=>⟨.ref s.heap.objs.size,_,?_,rfl,q2⟩⟩;have hz:(wC [] kvs).length≤sizeLine:=by
    have h1:=vJ kvs [];rw[List.length_nil] at h1;rw[sizeLine_eq];omega
  have he:∃q,h'.get? s.heap.objs.size=some q:=let ⟨q,_,_,hq,_⟩:=dd';⟨q,hq⟩;exact Jy I2 (by rw[e];exact True.intro) hs he (Xd hz hd (rk.merge .nil) dd')
structure M2 (X:Cx) (o:Expr) (m:Str) (apos:Pos) (e f:Expr) (cpos:Pos):Prop where
  base:attributeBase o m X.env (eval o X.env)=eval o X.env
  few:((backTo cpos (starEach [e,f] X.env)).all (fun x=>!x.1) && (backToKw cpos (keywordEach [] X.env)).all (fun x=>x.1.isSome)
    && decide (([e,f]:List Expr).length+([]:List Keyword).length+(if ([]:List Keyword).isEmpty then 0 else 1)<30))=true
  line:(apos.endLine == cpos.line)=true
  trees:backTo cpos (starEach [e,f] X.env)=[(false,eval e X.env),(false,eval f X.env)]
def IsD (H:Hp) (a:Addr):Prop:=(∃kvs,Rd H a (.dK kvs))∨∃kvs,Rd H a (.dT kvs)
theorem qc5 {X:Cx} {p_:List (Addr×Obj)} {σ:St} {H:Hp} {s:Shared} {a:Addr} (I:Inv X p_ σ H s) (d:IsD H a) :
    s.TypeIs (.ref a) "dict" ∧(∀b,Value.ref a = .ref b→∃ob,s.heap.get? b=some ob∧ob.dict=none)∧(a == sysModules)=false:=by
  rcases d with⟨kvs,e⟩ | ⟨kvs,e⟩
  ·obtain⟨_,hd,vs,_,dd⟩:=Cw I.hok e;refine⟨dd.typeIs,fun b q=>?_,hd⟩;cases q;obtain⟨ob,_,_,h1,h2,_⟩:=dd;exact⟨ob,h1,h2.2.1⟩
  ·obtain⟨_,hd,xs,_,dd⟩:=Cy I.hok e;refine⟨dd.typeIs,fun b q=>?_,hd⟩;cases q;obtain⟨ob,_,_,h1,h2,_⟩:=dd;exact⟨ob,h1,h2.2.1⟩
section
variable {X:Cx} {p_:List (Addr×Obj)} {σ:St} {H:Hp} {s:Shared} {a:Addr} {y d:V} {u r:Value} {o:Option V} {A:Around} {E:Value→Shared→Prop}
theorem qc6 {Q:Value→Shared→Prop} (hu:A.units+1<cLine) (I:Inv X p_ σ H s) (g:lU H a y o) (ry:RelV y u) (rd:RelV d r) (h:∀w' s',Inv X p_ σ H s'→RelV (o.getD d) w'→Q w' s') :
    wpAny (model X.prog X.w) A (call (.builtin "dict.get") [.ref a,u,r]) Q E s:=by
  rcases g with⟨kvs,k,e,ey,l⟩ | ⟨kvs,k,b,e,ey,eb,l⟩
  ·subst ey;obtain⟨z,hd,vs,rel,dd⟩:=Cw I.hok e;refine call_meetsIn PySem.F.slot_dict_get dd.typeIs PySem.F.entry_dict_get (PySem.F.args_dict_get_3 _ _ _) (meets_dict_get_default (cT X.prog X.w) a (Cv ry) hd r) ⟨_,dd.mapOf,h _ _ (I.tok _) ?_⟩;rw[l];exact(rel.val k).getD rd
  ·subst ey;cases (show u=Value.ref b from ry);obtain⟨z,hd,xs,rel,dd⟩:=Cy I.hok e;refine call_meetsIn PySem.F.slot_dict_get dd.typeIs PySem.F.entry_dict_get (PySem.F.args_dict_get_3 _ _ _) (meetsH_dict_get_default (tupleKind (cT X.prog X.w)) a b hd r) ⟨tupleKind_room_in1 hu,k,xs,zq I.hok eb,dd,h _ _ (I.tok _) ?_⟩;rw[l];exact(rel.val k).getD rd
end
def Py (td ty tx:TE):TE:=fun σ H Q=>td σ H fun x H1=>∃a,x = .ref a∧IsD H1 a∧ty σ H1 fun y H2=>tx σ H2 fun z H3=>∃o,lU H3 a y o∧Q (o.getD z) H3
section
variable {X:Cx} {o e f:Expr} {apos cpos:Pos} {td ty tx:TE}
theorem L_ (hu:X.A.units+1<cLine) (ho:PE X o td) (he:PE X e ty) (hf:PE X f tx) (m:M2 X o "get" apos e f cpos):PE X (.Call (.Attribute o "get" apos) [e,f] [] cpos) (Py td ty tx):=by
  intro p_ s σ H Q I h;refine wpAny_Call_method m.base m.few m.line PySem.F.plainAttrs_dict PySem.F.slot_dict_get PySem.F.type_dict_get (dD (ho p_ s σ H _ I h) fun u s1 zz=>?_);obtain⟨x,H1,I1,rx,a,ex,d,q1⟩:=zz;subst ex;obtain rfl:u=Value.ref a:=rx;obtain⟨t1,t2,_⟩:=qc5 I1 d;refine⟨t1,t2,?_⟩;rw[m.trees];refine Calls.callWith_builtin rfl (Calls.evalArgs_plain (Calls.spliced_cons (dD (he p_ s1 σ H1 _ I1 q1) fun iv s2 ⟨y,H2,I2,ry,q2⟩=>
    Calls.spliced_cons (dD (hf p_ s2 σ H2 _ I2 q2) fun fv s3 ⟨z,H3,I3,rz,ov,g,q3⟩=>Calls.spliced_nil ?_))))
  exact qc6 hu I3 g ry rz fun w' s4 I4 WM=>⟨_,H3,I4,WM,q3⟩
end
structure Nm2 (mg:Str→Option Value):Prop where
  enumerate:mg "enumerate" = none
  any:mg "any" = none
  dict:mg "dict" = none
  sorted:mg "sorted" = none
  repr:mg "repr" = none
  bool:mg "bool" = none
theorem Inv.qaD {X:Cx} {p_:List (Addr×Obj)} {σ:St} {H:Hp} {s:Shared} {h2:Heap} {t':Nat} {x y:V} {u u':Value} (I:Inv X p_ σ H s) (I1:Inv X p_ σ H {s with heap:=h2,toks:=t'}) (ru:RelV x u) (ru':RelV y u')
    (Ly:h2.get? s.heap.objs.size=some {cls:=.type "tuple",data:=.seq #[u,u']}):Inv X p_ σ (upd H s.heap.objs.size (.tup [x,y])) {s with heap:=h2,toks:=t'}:=by
  have hfr:H s.heap.objs.size=none:=I.hok.fresh (Nat.le_refl _);refine⟨I1.ok,I1.os,I1.bare,⟨I1.base.keep,I1.base.slot,fun c o e n hx=>?_,I1.base.there,fun c zs e=>?_,fun c o v e=>?_,fun c qs e=>?_⟩,I1.loc,I1.cell,?_,fun v c e=>?_,fun v hv=>?_,?_,I1.len⟩
  · rw[aC (fun e'=>?_)]
    ·exact I1.base.free c o e n hx
    ·exact absurd (Nat.lt_of_lt_of_le (Heap.lt_size e) I.sz) (by rw[e'];exact Nat.lt_irrefl _)
  ·have e':=I1.base.tups c zs e;rw[aC (aQ e' hfr)];exact e'
  ·have e':=I1.base.sY c o v e;rw[aC (aQ e' hfr)];exact e'
  ·obtain⟨m,e'⟩:=I1.base.tH c qs e;exact⟨m,by rw[aC (aQ e' hfr)];exact e'⟩
  ·rw[aC (Nat.ne_of_lt I.lt)];exact I1.free
  ·obtain⟨w',qc⟩:=I.cell v c e;rw[aC (Nat.ne_of_lt qc.lt)];exact I1.jF v c e
  ·obtain⟨f1,f2,f3⟩:=I1.pin v hv;refine⟨f1,?_,f3⟩;rw[aC (Nat.ne_of_lt (Heap.lt_size (I.pin v hv).1))];exact f2
  · intro c v e
    by_cases hcs:c=s.heap.objs.size
    ·subst hcs;rw[ak] at e;cases e;exact⟨by show 2≤sizeLine;rw[sizeLine_eq];decide,[u,u'],.cons ru (.cons ru' .nil),⟨_,Ly,rfl,0,rfl⟩⟩
    · rw[aC hcs] at e;refine(I1.hok c v e).stay (fun _ _ _ qq=>qq) (fun d qd=>?_) fun d zs qd=>?_
      ·rw[aC (aQ qd hfr)];exact qd
      ·rw[aC (aQ qd hfr)];exact qd
def Ite (K:W.Frag) (a:Addr):It:=
  ⟨fun i H=>∃xs x,aY K H a xs∧xs[i]? = some x,
   fun i H v H'=>∃t x,v = .ref t∧H t=none∧H'=upd H t (.tup [.int i,x])∧∀xs,aY K H a xs→xs[i]? = some x,
   fun i H=>∃xs,aY K H a xs∧xs.length≤i⟩
structure qc7 (e it a:Addr) (i:Nat) (h:Heap):Prop where
  he:∃old,IsEnum h e it i old
  hi:h.IsListIter it a i
theorem Ub {P:Program} {w:World} {K:W.Frag} {es:List Expr} {k:Nat} {pos:Pos} {e it a:Addr} (nei:e≠it) :
    Turn P w K (.Tuple es k pos) (Ite K a) [e,it] e (qc7 e it a) where
  mem:=by simp
  obj:=fun i h st c hc=>by
    simp only[List.mem_cons,List.not_mem_nil,or_false] at hc
    rcases hc with rfl | rfl
    ·obtain⟨old,q⟩:=st.he;exact⟨_,q,fun v e=>nomatch e⟩
    ·obtain⟨o,e,_,d⟩:=st.hi;exact⟨o,e,fun v y=>by rw[d] at y;cases y⟩
  keep:=fun i h h' st kk=>by
    obtain⟨old,q⟩:=st.he;exact⟨⟨old,kk e (by simp) _ q⟩,st.hi.at fun o z=>kk it (by simp) o z⟩
  item:=by
    intro X hP hw hK hc i p_ s σ H E I hf st hg;subst hP hw hK;obtain⟨xs,x,qa,hx⟩:=hg;obtain⟨its,rv,pl,hz1⟩:=I.list qa;obtain⟨u,hu,ru⟩:=rv.get hx;obtain⟨old,hE⟩:=st.he;obtain⟨o1,e1,c1,_⟩:=id st.hi;refine wpAny_pyNext_enum_item hE st.hi pl.isList (x:=u) (by simpa using hu) nei fun h' a1 a2 a3 a4 kk=>?_;refine⟨_,rfl,wpAny_letOwnedTupleGo_enum a1 fun h2 b1 sb=>?_⟩;have lt:∀{c o},s.heap.get? c=some o→s.heap.objs.size≠c:=fun e=>Nat.ne_of_gt (Heap.lt_size e);have hn:H s.heap.objs.size=none:=I.hok.fresh (Nat.le_refl _);have kk2:∀c o,c∉[e,it]→s.heap.get? c=some o→h2.get? c=some o:=fun c o hc z=>by
      simp only[List.mem_cons,List.not_mem_nil,or_false,not_or] at hc;exact(sb.2 c hc.1).trans (kk c o hc.1 hc.2 z)
    have I1:Inv X p_ σ H {s with heap:=h2,toks:=s.toks+1}:=I.Bo kk2 hf;have Ly:=sb.extBut _ _ (lt hE) a3;have I2:Inv X p_ σ (upd H s.heap.objs.size (.tup [.int i,x])) {s with heap:=h2,toks:=s.toks+1}:=I.qaD I1 ⟨_,rfl⟩ ru Ly;refine⟨.ref s.heap.objs.size,_,I2,rfl,⟨s.heap.objs.size,x,rfl,hn,rfl,fun xs' q'=>by rw[I.xq q' qa];exact hx⟩,?_,fun c hcm=>?_⟩
    ·exact⟨⟨_,b1⟩,a2.extBut sb.extBut nei.symm⟩
    · have hne:c≠s.heap.objs.size:=by
        simp only[List.mem_cons,List.not_mem_nil,or_false] at hcm
        rcases hcm with rfl | rfl
        ·exact(lt hE).symm
        ·exact(lt e1).symm
      rw[aC hne];exact(hf c hcm).1
  done:=by
    intro X hP hw hK hc i p_ s σ H E I hf st hg;subst hP hw hK;obtain⟨xs,qa,hl⟩:=hg;obtain⟨its,rv,pl,hz1⟩:=I.list qa;obtain⟨old,hE⟩:=st.he;have l1:=rv.length;refine wpAny_pyNext_enum_end (I.ok.hd hc) hE st.hi pl.isList (by simp;omega) fun h' kk=>⟨rfl,I.Bo (t':=s.toks) (fun c o hcm z=>?_) hf⟩;simp only[List.mem_cons,List.not_mem_nil,or_false,not_or] at hcm;exact kk c o hcm.2 z
  self:=fun _ _ _ _ _ st h=>by
    obtain⟨old,q⟩:=st.he;exact wpAny_pyIter_enum q h
section
variable {X:Cx} {K:W.Frag}
def Xj (K:W.Frag) (t:TA):TI:=fun σ H R=>t σ H fun vs H1=>∃a xs,vs=[.ref a]∧aY K H1 a xs∧R (Ite K a) H1
theorem Uc:bootBuiltins "enumerate" = some (.type "enumerate"):=by decide+kernel
theorem Bp (hK:X.K=K) {es:List Expr} {k:Nat} {pos':Pos} {a:Expr} {ta:TA} {p pos:Pos} (hg:Gl X "enumerate") (hm:X.mg "enumerate" = none) (ha:PA X [a] ta)
    (hs:starEach [a] X.env=[(false,eval a X.env)]:=by rfl) :
    PI X (.Tuple es k pos') (.Call (.Name "enumerate" p) [a] [] pos) (Xj K ta):=by
  subst hK;intro p_ s σ H R I h;refine Call_ (oM I hg hm Uc (PyProof.Rows.callWith_type1 (dD (ha pos p_ s σ H _ I h) fun us s1 zz=>?_) (by rw[hs];rfl) (by rfl)));obtain⟨vs,H1,I1,r1,q1⟩:=zz;obtain⟨l1,xs,e,qa,q⟩:=q1;subst e;obtain⟨u,rfl,r⟩:=vals1 r1;obtain rfl:u=Value.ref l1:=r;obtain⟨its,rv,pl,hz1⟩:=I1.list qa;refine call_enumerate_list pl.isList fun h' b1 b2 b3 kk=>?_;refine wpAny_pyIter_enum (s:={s1 with heap:=h'}) b1 ?_;have I2:Inv X p_ σ H1 {s1 with heap:=h'}:=I1.kept (t':=s1.toks) kk;refine⟨s1.heap.objs.size+1,[s1.heap.objs.size+1,s1.heap.objs.size],_,_,H1,rfl,I2,Ub (Nat.succ_ne_self _),⟨⟨_,b1⟩,b2⟩,fun c hc=>?_,q⟩;have hle:s1.heap.objs.size≤c:=by
    simp only[List.mem_cons,List.not_mem_nil,or_false] at hc
    rcases hc with rfl | rfl <;> first | exact Nat.le_add_right _ _ | exact Nat.le_refl _
  exact I1.Jf hle (I1.hok.fresh hle)
end
section
variable {X:Cx} {K:W.Frag} {tg:Expr}
theorem JC (hK:X.K=K) {es:List Expr} {k:Nat} {pos':Pos} {a b:Expr} {ta:TA} {p pos:Pos} (hg:Gl X "zip") (hm:X.mg "zip" = none) (ha:PA X [a,b] ta)
    (hs:starEach [a,b] X.env=[(false,eval a X.env),(false,eval b X.env)]:=by rfl) (hs2:starEach [b] X.env=[(false,eval b X.env)]:=by rfl) :
    PI X (.Tuple es k pos') (.Call (.Name "zip" p) [a,b] [] pos) (qas K ta):=by subst hK;exact qcW hg hm ha hs hs2
theorem JD (hK:X.K=K) {o:Expr} {to:TE} {name:Str} {apos cpos:Pos} {T id:String} {r:V→List V→Hp→VK→Prop} (pa:PlainAttrs T) (slot:Slot T name id) (hty:typeOf (.builtin id)=pure (.type "method_descriptor")) (hm:K4 X id r) (ho:PE X o to)
    (hbase:attributeBase o name X.env (eval o X.env)=eval o X.env:=by rfl) (hline:(apos.endLine == cpos.line)=true:=by rfl):PE X (.Call (.Attribute o name apos) [] [] cpos) (qcP K T r to):=by subst hK;exact qcQ pa slot hty hm ho hbase hline
theorem Rw (hK:X.K=K) {o value:Expr} {ta tv:TE} {f:Str} {pos pos':Pos} (ha:PE X o ta) (hv:PE X value tv) (hs:swapsWith value (some (.Attribute o f pos')) pos.line X.env=pure false):PS X (.Assign [.Attribute o f pos'] value pos) (qcH K ta tv f):=by subst hK;exact qcJ ha hv hs
end
@[simp ↓] theorem qlq (i:Nat) σ H Q:qco i σ H Q=(∃v,σ[i]? = some (some v)∧Q v H):=rfl
@[simp ↓] theorem qpy (v:V) z0 H Q:tC v z0 H Q=(Q v H):=rfl
@[simp ↓] theorem qpz (t:TE) σ H Q:tB t σ H Q=(t σ H fun x H1=>∃c,x = .bl c∧Q c H1):=rfl
@[simp ↓] theorem qlr (t:TT) σ H Q:qfd t σ H Q=(t σ H fun c H1=>Q (!c) H1):=rfl
@[simp ↓] theorem qkc (ta:TE) σ H Q:Wf ta σ H Q=(ta σ H fun x H1=>∃c,x = .bl c∧Q (.bl (!c)) H1):=rfl
@[simp ↓] theorem qkd D σ H:qbA  D σ H=(D.nx σ H):=rfl
@[simp ↓] theorem qls (t u:TS) D σ H:qfe t u D σ H=(t {D with nx:=u D} σ H):=rfl
@[simp ↓] theorem qke (te:TE) D σ H:qbB te D σ H=(te σ H fun _ H1=>D.nx σ H1):=rfl
@[simp ↓] theorem qlt (te:TE) D σ H:qff te D σ H=(te σ H D.rt):=rfl
@[simp ↓] theorem qfG z0 z1 z2:Wg  z0 z1 z2=(False):=rfl
@[simp ↓] theorem qkf (i:Nat) v σ H Q:Ra i v σ H Q=(Q (σ.set i (some v)) H):=rfl
@[simp ↓] theorem qlu vs σ H Q:qcu  vs σ H Q=(vs=[]∧Q σ H):=rfl
@[simp ↓] theorem qkg (t:TG) (u:Gs) vs σ H Q:Wh t u vs σ H Q=(∃v r,vs=v::r∧t v σ H fun σ' H'=>u r σ' H' Q):=rfl
@[simp ↓] theorem qlv (K:W.Frag) (n:Nat) (t:Gs) v σ H Q:qac K n t v σ H Q=(∃a xs,v = .ref a∧cM K H a xs∧xs.length=n∧t xs σ H Q):=rfl
@[simp ↓] theorem qlw (to ti:TE) (t:S_) v σ H Q:qfh to ti t v σ H Q=(to σ H fun o H1=>ti σ H1 fun i H2=>t o i v H2 fun H3=>Q σ H3):=rfl
@[simp ↓] theorem qlx (te:TE) (g:TG) D σ H:qad te g D σ H=(te σ H fun x H1=>g x σ H1 D.nx):=rfl
@[simp ↓] theorem qly (i:Nat) (te:TE) (ti:TIp) D σ H:qcw i te ti D σ H=(∃x,σ[i]? = some (some x)∧te σ H fun y H1=>ti x y H1 fun z H2=>D.nx (σ.set i (some z)) H2):=rfl
@[simp ↓] theorem qo1 (f:Int→Int→Int) x y H Q:ipI f x y H Q=(∃i j,x = .int i∧y = .int j∧Q (.int (f i j)) H):=rfl
@[simp ↓] theorem qkh (K:W.Frag) (tl:TE) σ H R:Rb K tl σ H R=(tl σ H fun x H1=>∃a,x = .ref a∧(∃xs,aY K H1 a xs)∧R (V5 K a) H1):=rfl
@[simp ↓] theorem qki (ta:TA) σ H R:Wk ta σ H R=(ta σ H fun vs H1=>∃j:Int,vs=[.int j]∧-(2 ^ 62)≤j∧j<2 ^ 62∧R (Ou 0 j.toNat) H1):=rfl
@[simp ↓] theorem qkj (ta:TA) σ H R:Wm ta σ H R=(ta σ H fun vs H1=>∃i j:Int,vs=[.int i,.int j]∧(-(2 ^ 62)≤i∧i<2 ^ 62∧-(2 ^ 62)≤j∧j<2 ^ 62)∧R (Ou i (j - i).toNat) H1):=rfl
@[simp ↓] theorem qo2 (r:R2) (ta tb:TE) σ H Q:V6 r ta tb σ H Q=(ta σ H fun x H1=>tb σ H1 fun y H2=>r x y H2 Q):=rfl
@[simp ↓] theorem qo3 (r:V→Hp→VK→Prop) (ta:TE) σ H Q:tUn r ta σ H Q=(ta σ H fun x H1=>r x H1 Q):=rfl
@[simp ↓] theorem qkk (t:TE) σ H Q:Rj t σ H Q=(t σ H fun x H'=>∃k,x = .bl k∧Q k H'):=rfl
@[simp ↓] theorem qlz (K:W.Frag) (ta:TE) (f:Str) σ H Q:qak K ta f σ H Q=(ta σ H fun x H1=>∃a C dx fs v,x = .ref a∧H1 a=some (.ins C dx fs)∧Cls K C∧nq K C f∧fs.lookup f=some v∧Q v H1):=rfl
@[simp ↓] theorem qlA (K:W.Frag) (ta tv:TE) (f:Str) D σ H:qcH K ta tv f D σ H=(tv σ H fun y H1=>ta σ H1 fun x H2=>∃a C dx fs,x = .ref a∧H2 a=some (.ins C dx fs)∧Cls K C∧nq K C f∧fs.length<1000∧D.nx σ (upd H2 a (.ins C dx (lQ f y fs)))):=rfl
@[simp ↓] theorem qlB z0 H Q:O9  z0 H Q=(Q [] H):=rfl
@[simp ↓] theorem qkl (ta:TE) (tr:TA) σ H Q:Ho ta tr σ H Q=(ta σ H fun x H1=>tr σ H1 fun xs H2=>Q (x::xs) H2):=rfl
@[simp ↓] theorem qlC (t:TA) σ H Q:qfq t σ H Q=(t σ H fun xs H1=>xs.length≤sizeLine∧∀p,H1 p=none→Q (.ref p) (upd H1 p (.tup xs))):=rfl
@[simp ↓] theorem qlD (t:TA) σ H Q:qfr t σ H Q=(t σ H fun xs H1=>xs.length≤sizeLine∧∀p,H1 p=none→Q (.ref p) (upd H1 p (.lst xs))):=rfl
@[simp ↓] theorem qo4 (r:List V→Hp→VK→Prop) (t:TA) σ H Q:tCB r t σ H Q=(t σ H fun vs H1=>r vs H1 Q):=rfl
@[simp ↓] theorem qeZ z0 H Q:Rn  z0 H Q=(Q none H):=rfl
@[simp ↓] theorem qkm (t:TE) σ H Q:WK t σ H Q=(t σ H fun x H1=>∃i,x = .int i∧Q (some i) H1):=rfl
@[simp ↓] theorem qo5 (r:V→Option Int→Option Int→Hp→VK→Prop) (te:TE) (tl th:TO) σ H Q:tSl r te tl th σ H Q=(te σ H fun x H1=>tl σ H1 fun l H2=>th σ H2 fun u H3=>r x l u H3 Q):=rfl
@[simp ↓] theorem qlE (K:W.Frag) (T:String) (r:V→List V→Hp→VK→Prop) (to:TE) σ H Q:qcP K T r to σ H Q=(to σ H fun x H1=>tyV K T x H1∧r x [] H1 Q):=rfl
@[simp ↓] theorem qo6 (K:W.Frag) (T:String) (r:V→List V→Hp→VK→Prop) (to:TE) (t:TA) σ H Q:tBM K T r to t σ H Q=(to σ H fun x H1=>tyV K T x H1∧t σ H1 fun xs H2=>r x xs H2 Q):=rfl
@[simp ↓] theorem qlF z0 H Q:qfx  z0 H Q=(Q true H):=rfl
@[simp ↓] theorem qlG (tl:TE) σ H R:qcU tl σ H R=(tl σ H fun x H1=>∃z,x = .str z∧R (Its z) H1):=rfl
@[simp ↓] theorem qlH (K:W.Frag) (t:TA) σ H R:qas K t σ H R=(t σ H fun vs H1=>∃a b xs ys,vs=[.ref a,.ref b]∧aY K H1 a xs∧aY K H1 b ys∧R (Itz K a b) H1):=rfl
@[simp ↓] theorem qlI (K:W.Frag) (tl:TE) σ H R:qc1 K tl σ H R=(tl σ H fun x H1=>∃b p,x = .ref p∧(∃xs,Z0 b K H1 p xs)∧R (Z1 b K p) H1):=rfl
structure qlJ (Q:VK) where
  n:Nat
structure qaE (g:TG) (tb:TS) (D:Ends) where
  n:Nat
structure qfH (c:TT) (tb:TS) (D:Ends) where
  n:Nat
structure qc8 (g:TG) (tt:TT) (te:TE) (Q:Hp→Prop) where
  n:Nat
structure Pz (A B:Prop) where
  n:Nat
def Rx (sp:Sp) (vs:List V) (H:Hp) (Q:VK) (d:qlJ Q) (E:XK):Prop:=sp vs H Q E
def tFr (J:It) (g:TG) (tb:TS) (D:Ends) (d:qaE g tb D) (σ:St) (H:Hp):Prop:=qc2 J g tb D σ H
def tWh (c:TT) (tb:TS) (D:Ends) (d:qfH c tb D) (σ:St) (H:Hp):Prop:=Je c tb D σ H
def tCm (own:List Str) (caps:List Nat) (J:It) (g:TG) (tt:TT) (te:TE) (Q:Hp→Prop) (d:qc8 g tt te Q) (D:Addr) (σ:St) (H:Hp):Prop:=nO own caps J g tt te D σ H Q
def dz (b:Bool) (A B:Prop) (d:Pz A B):Prop:=if b=true then A else B
@[simp] theorem qo7 (A B:Prop) (d:Pz A B):dz true A B d=A:=rfl
@[simp] theorem qo8 (A B:Prop) (d:Pz A B):dz false A B d=B:=rfl
theorem dz.of {b:Bool} {A B:Prop} {d:Pz A B} (h1:b=true→A) (h2:b=false→B):dz b A B d:=by
  cases b with
  | true=>exact h1 rfl
  | false=>exact h2 rfl
theorem dz.pos {b:Bool} {A B:Prop} {d:Pz A B} (h:b=true) (h1:A):dz b A B d:=by subst h;exact h1
theorem dz.neg {b:Bool} {A B:Prop} {d:Pz A B} (h:b=false) (h1:B):dz b A B d:=by subst h;exact h1
@[simp ↓] theorem qkn (sp:Sp) (yU:List V) (E:XK) (t:TA) (σ:St) (H:Hp) (Q:VK):Ww sp yU E t σ H Q=t σ H fun vs H1=>Rx sp (vs++yU) H1 Q ⟨0⟩ E:=rfl
@[simp ↓] theorem qko (C:Addr) (m:Str) (sp:Sp) (yU:List V) (E:XK) (ta:TE) (t:TA) (σ:St) (H:Hp) (Q:VK):Wx C m sp yU E ta t σ H Q=ta σ H fun x H1=>∃a dx fs,x = .ref a∧H1 a=some (.ins C dx fs)∧fs.lookup m=none∧t σ H1 fun vs H2=>Rx sp (x::(vs++yU)) H2 Q ⟨0⟩ E:=rfl
@[simp ↓] theorem qkp (C:Addr) (sp:Sp) (yU:List V) (E:XK) (t:TA) (σ:St) (H:Hp) (Q:VK):Wy C sp yU E t σ H Q=t σ H fun vs H1=>∀x dx,H1 x=none→H1 dx=none→dx≠x→
  Rx sp (.ref x::(vs++yU)) (upd (upd H1 dx (.own x)) x (.ins C dx [])) (fun v H2=>v = .non∧Q (.ref x) H2) ⟨0⟩ E:=rfl
@[simp ↓] theorem qlK (wi:TI) (g:TG) (tb:TS) (D:Ends) (σ:St) (H:Hp):qfi wi g tb D σ H=wi σ H fun J H1=>tFr J g tb D ⟨0⟩ σ H1:=rfl
@[simp ↓] theorem qfI (c:TT) (tb:TS) (D:Ends) (σ:St) (H:Hp):Je c tb D σ H=tWh c tb D ⟨0⟩ σ H:=rfl
@[simp ↓] theorem qkq (own:List Str) (caps:List Nat) (wi:TI) (g:TG) (tt:TT) (te:TE) (σ:St) (H:Hp) (Q:VK):W0 own caps wi g tt te σ H Q=wi σ H fun J H1=>∀D,H1 D=none→tCm own caps J g tt te (Q (.ref D)) ⟨0⟩ D σ (upd H1 D (.lst [])):=rfl
@[simp ↓] theorem qlL (c:TT) (t u:TS) (D:Ends) (σ:St) (H:Hp):qfg c t u D σ H=c σ H fun b H1=>dz b (t D σ H1) (u D σ H1) ⟨0⟩:=rfl
@[simp ↓] theorem qo9 (c:TT) (t u:TE) (σ:St) (H:Hp) (Q:VK):tIf c t u σ H Q=c σ H fun b H1=>dz b (t σ H1 Q) (u σ H1 Q) ⟨0⟩:=rfl
@[simp ↓] theorem qlM (t u:TT) (σ:St) (H:Hp) (Q:Bool→Hp→Prop):qfc t u σ H Q=t σ H fun c H1=>dz c (u σ H1 Q) (Q false H1) ⟨0⟩:=rfl
@[simp ↓] theorem qo_ (t u:TT) (σ:St) (H:Hp) (Q:Bool→Hp→Prop):tOr t u σ H Q=t σ H fun c H1=>dz c (Q true H1) (u σ H1 Q) ⟨0⟩:=rfl
@[simp ↓] theorem qkr (ta tb:TE) (σ:St) (H:Hp) (Q:VK):Wd ta tb σ H Q=ta σ H fun x H1=>∃c,x = .bl c∧dz c (tb σ H1 Q) (Q (.bl false) H1) ⟨0⟩:=rfl
@[simp ↓] theorem qfJ (r r':R2) (ta tb tc:TE) (σ:St) (H:Hp) (Q:VK):Jg r r' ta tb tc σ H Q=ta σ H fun x H1=>tb σ H1 fun y H2=>r x y H2 fun z H3=>∃k,z = .bl k∧dz k (tc σ H3 fun z H4=>r' y z H4 Q) (Q (.bl false) H3) ⟨0⟩:=rfl
def CJ (g:TG) (tt:TT) (te:TE) (D:Addr) (N:St→Hp→Prop) (x:V) (σ:St) (H:Hp):Prop:=
  g x σ H fun σ2 H3=>tt σ2 H3 fun b H4=>dz b (te σ2 H4 fun y H5=>∃ys,H5 D=some (.lst ys)∧ys.length<sizeLine∧N σ2 (upd H5 D (.lst (ys++[y])))) (N σ2 H4) ⟨0⟩
@[simp ↓] theorem qks (g:TG) (tt:TT) (te:TE) (D:Addr) (N:St→Hp→Prop) (x:V) (σ:St) (H:Hp):CJ g tt te D N x σ H =
  (g x σ H fun σ2 H3=>tt σ2 H3 fun b H4=>dz b (te σ2 H4 fun y H5=>∃ys,H5 D=some (.lst ys)∧ys.length<sizeLine∧N σ2 (upd H5 D (.lst (ys++[y])))) (N σ2 H4) ⟨0⟩):=rfl
@[simp ↓] theorem qlN {α:Type} (a b:α) (R:α→α→Prop):(∃v w,[a,b]=[v,w]∧R v w)=R a b:=by
  refine propext ⟨?_,fun h=>⟨a,b,rfl,h⟩⟩;rintro⟨_,_,e,h⟩;cases e;exact h
@[simp] theorem qkt {α β:Type} (a:α) (b:β) (R:α→β→Prop):(∃v w,(a=v∧b=w)∧R v w)=R a b:=by
  refine propext ⟨?_,fun h=>⟨a,b,⟨rfl,rfl⟩,h⟩⟩;rintro⟨_,_,⟨rfl,rfl⟩,h⟩;exact h
@[simp] theorem sz0:(0≤sizeLine)=True:=eq_true (by decide)
@[simp] theorem sz1:(1≤sizeLine)=True:=eq_true (by decide)
@[simp] theorem sz2:(2≤sizeLine)=True:=eq_true (by decide)
@[simp] theorem sz3:(3≤sizeLine)=True:=eq_true (by decide)
@[simp] theorem sz4:(4≤sizeLine)=True:=eq_true (by decide)
@[simp] theorem sz5:(5≤sizeLine)=True:=eq_true (by decide)
@[simp] theorem sz6:(6≤sizeLine)=True:=eq_true (by decide)
@[simp] theorem sz7:(7≤sizeLine)=True:=eq_true (by decide)
@[simp] theorem sz8:(8≤sizeLine)=True:=eq_true (by decide)
@[simp] theorem sz9:(9≤sizeLine)=True:=eq_true (by decide)
@[simp] theorem qpA:(10≤sizeLine)=True:=eq_true (by decide)
@[simp] theorem qpB:(11≤sizeLine)=True:=eq_true (by decide)
@[simp] theorem qpC:(12≤sizeLine)=True:=eq_true (by decide)
@[simp] theorem qpD:(13≤sizeLine)=True:=eq_true (by decide)
@[simp] theorem qpE:(14≤sizeLine)=True:=eq_true (by decide)
@[simp] theorem qpF:(15≤sizeLine)=True:=eq_true (by decide)
@[simp] theorem qpG:(16≤sizeLine)=True:=eq_true (by decide)
@[simp] theorem qpH:(17≤sizeLine)=True:=eq_true (by decide)
@[simp] theorem qpI:(18≤sizeLine)=True:=eq_true (by decide)
@[simp] theorem qpJ:(19≤sizeLine)=True:=eq_true (by decide)
@[simp] theorem Gy:(20≤sizeLine)=True:=eq_true (by decide)
@[simp] theorem qku (i j:Int):Az (.int i) (.int j)=true:=rfl
@[simp] theorem qkv (i j:Str):Az (.str i) (.str j)=true:=rfl
@[simp] theorem qkw (i j:Bool):Az (.bl i) (.bl j)=true:=rfl
@[simp] theorem qkx (i:Int) (j:Str):Az (.int i) (.str j)=true:=rfl
@[simp] theorem qky (i:Int) (j:Str):Az (.str j) (.int i)=true:=rfl
@[simp] theorem qfK (K:W.Frag) (p:Addr) (H:Hp):tyV K "list" (.ref p) H=(∃xs,aY K H p xs):=by simp[tyV]
@[simp] theorem qkz (K:W.Frag) (p:Str) (H:Hp):tyV K "str" (.str p) H=True:=by simp[tyV]
section
variable {K:W.Frag} {l:Addr} {xs:List V} {g:TG} {tb:TS} {D:Ends} {d:qaE g tb D} {σ:St} {H:Hp}
theorem frL (xs:List V) (Pv:Nat→St→Hp→Prop) (h0:Pv 0 σ H) (hl:∀i σ H,i≤xs.length→Pv i σ H→aY K H l xs)
    (hs:∀i x σ H,xs[i]? = some x→Pv i σ H→g x σ H fun σ2 H2=>tb {D with nx:=Pv (i+1),ct:=Pv (i+1),bk:=D.nx} σ2 H2) (hd:∀σ H,Pv xs.length σ H→D.nx σ H):tFr (V5 K l) g tb D d σ H:=Lg Pv h0 hl hs hd
theorem frQ {b:Bool} (xs:List V) (Pv:Nat→St→Hp→Prop) (h0:Pv 0 σ H) (hl:∀i σ H,i≤xs.length→Pv i σ H→Z0 b K H l xs)
    (hs:∀i x σ H,xs[i]? = some x→Pv i σ H→g x σ H fun σ2 H2=>tb {D with nx:=Pv (i+1),ct:=Pv (i+1),bk:=D.nx} σ2 H2) (hd:∀σ H,Pv xs.length σ H→D.nx σ H):tFr (Z1 b K l) g tb D d σ H:=qay Pv h0 hl hs hd
theorem frR {lo:Int} {n:Nat} (Pv:Nat→St→Hp→Prop) (h0:Pv 0 σ H)
    (hs:∀i σ H,i<n→Pv i σ H→g (.int (lo+i)) σ H fun σ2 H2=>tb {D with nx:=Pv (i+1),ct:=Pv (i+1),bk:=D.nx} σ2 H2) (hd:∀σ H,Pv n σ H→D.nx σ H):tFr (Ou lo n) g tb D d σ H:=Tg Pv h0 hs hd
end
section
variable {K:W.Frag} {own:List Str} {caps:List Nat} {g:TG} {tt:TT} {te:TE} {D l l1 l2:Addr} {σ:St} {H:Hp} {Q:Hp→Prop} {d:qc8 g tt te Q}
theorem Ma (xs:List V) (Pv:Nat→St→Hp→Prop) (h0:Pv 0 (stC own caps σ) H) (hl:∀i σ H,i≤xs.length→Pv i σ H→aY K H l xs)
    (hs:∀i x σ H,xs[i]? = some x→Pv i σ H→CJ g tt te D (Pv (i+1)) x σ H) (hd:∀σ H,Pv xs.length σ H→Q H):tCm own caps (V5 K l) g tt te Q d D σ H:=Hy Pv h0 hl hs hd
theorem cmQ {b:Bool} (xs:List V) (Pv:Nat→St→Hp→Prop) (h0:Pv 0 (stC own caps σ) H) (hl:∀i σ H,i≤xs.length→Pv i σ H→Z0 b K H l xs)
    (hs:∀i x σ H,xs[i]? = some x→Pv i σ H→CJ g tt te D (Pv (i+1)) x σ H) (hd:∀σ H,Pv xs.length σ H→Q H):tCm own caps (Z1 b K l) g tt te Q d D σ H:=W_ Pv h0 hl hs hd
theorem cmR {lo:Int} {n:Nat} (Pv:Nat→St→Hp→Prop) (h0:Pv 0 (stC own caps σ) H)
    (hs:∀i σ H,i<n→Pv i σ H→CJ g tt te D (Pv (i+1)) (.int (lo+i)) σ H) (hd:∀σ H,Pv n σ H→Q H):tCm own caps (Ou lo n) g tt te Q d D σ H:=Pr Pv h0 hs hd
theorem cmS {z:Str} (Pv:Nat→St→Hp→Prop) (h0:Pv 0 (stC own caps σ) H)
    (hs:∀i c σ H,z.cps[i]? = some c→Pv i σ H→CJ g tt te D (Pv (i+1)) (.str ⟨#[c]⟩) σ H) (hd:∀σ H,Pv z.cps.size σ H→Q H):tCm own caps (Its z) g tt te Q d D σ H:=W8 Pv h0 hs hd
theorem cmZ (xs ys:List V) (Pv:Nat→St→Hp→Prop) (h0:Pv 0 (stC own caps σ) H) (he:xs.length=ys.length) (hl:∀i σ H,i≤xs.length→Pv i σ H→aY K H l1 xs∧aY K H l2 ys)
    (hs:∀i x y t σ H,xs[i]? = some x→ys[i]? = some y→H t=none→Pv i σ H→CJ g tt te D (Pv (i+1)) (.ref t) σ (upd H t (.tup [x,y]))) (hd:∀σ H,Pv xs.length σ H→Q H):tCm own caps (Itz K l1 l2) g tt te Q d D σ H:=W9 Pv h0 he hl hs hd
end
theorem CK {c:Bool} {t u:TS} {D:Ends} {σ:St} {H:Hp} {d:Pz (t D σ H) (u D σ H)} (R:St→Hp→Prop) (hc:∀σ H,R σ H→D.nx σ H)
    (h:∀N:St→Hp→Prop,(∀σ H,R σ H→N σ H)→dz c (t {D with nx:=N} σ H) (u {D with nx:=N} σ H) ⟨0⟩):dz c (t D σ H) (u D σ H) d:=h D.nx hc
theorem nQ {α β:Type} {f:α→β} {ys zs:List β} (h:ys.Perm zs):∀l:List α,zs=l.map f→∃l':List α,l'.Perm l∧ys=l'.map f:=by
  induction h with
  | nil=>
    intro l e;cases l with
    | nil=>exact⟨[],.nil,rfl⟩
    | cons a l=>cases e
  | cons x _ ih=>
    intro l e;cases l with
    | nil=>cases e
    | cons a l=>
      simp only[List.map_cons,List.cons.injEq] at e;obtain⟨l',p,e'⟩:=ih l e.2;exact⟨a::l',p.cons a,by rw[e',e.1,List.map_cons]⟩
  | swap x y _=>
    intro l e
    match l,e with
    | a::b::l,e=>
      simp only[List.map_cons,List.cons.injEq] at e;exact⟨b::a::l,.swap ..,by rw[e.1,e.2.1,e.2.2];rfl⟩
  | trans _ _ ih1 ih2=>
    intro l e;obtain⟨l',p,e'⟩:=ih2 l e;obtain⟨l2,p2,e2⟩:=ih1 l' e';exact⟨l2,p2.trans p,e2⟩
theorem Xk {α:Type} {xs:List α} {k:Nat} (h2:2≤xs.length) (hk:k<xs.length):∃j x,j≠k∧xs[j]? = some x∧xG xs ((k:Int) - 1)=some x:=by
  cases k with
  | zero=>
    have hj:xs.length - 1<xs.length:=by omega
    refine⟨xs.length - 1,xs[xs.length - 1],by omega,by simp[hj],?_⟩;unfold xG Tv;rw[if_neg (by omega),if_pos (by omega)];have e:(((0:Nat):Int) - 1+xs.length).toNat=xs.length - 1:=by omega
    show xs[(((0:Nat):Int) - 1+xs.length).toNat]? = _;rw[e];simp[hj]
  | succ k=>
    have hj:k<xs.length:=by omega
    have e:((k+1:Nat):Int) - 1=(k:Int):=by omega
    rw[e];exact⟨k,xs[k],by omega,by simp[hj],aP (by simp[hj])⟩
end L2
namespace L2
open PySem
theorem vK (K:W.Frag):W.kitOne K (.type "list") (.type "list")=some true:=by simp[W.kitOne]
theorem Ae (K:W.Frag):W.kitOne K (.type "str") (.type "str")=some true:=by simp[W.kitOne]
theorem Af (K:W.Frag):W.kitOne K (.type "int") (.type "int")=some true:=by simp[W.kitOne]
theorem rA (K:W.Frag):W.kitOne K (.type "int") (.type "bool")=some false:=by simp[W.kitOne];rfl
end L2
namespace L2
open PySem PySem.Spec PyProof.Rows
section
variable {X:Cx} {K:W.Frag}
def qfL (K:W.Frag):R2:=fun x y H Q=>∃d e,Is K H d x∧Is K H e y∧d.canLay0=true∧e.canLay0=true∧d.depth≤64∧Q (.bl (PyData.eqv d e)) H
theorem qc9 (hK:X.K=K) (hu:X.A.units+64<cLine):jP X (compareOp .Eq) (qfL K):=by
  subst hK;intro p_ s σ H x y v u Q I rx ry h;obtain⟨d,e,h1,h2,h3,h4,h5,q⟩:=h;exact qcX p_ s σ H x y v u Q I rx ry ⟨d,e,h1,h2,h3,h4,by omega,q⟩
end
def cW (xs:List Str):List PyData:=xs.map PyData.str
theorem nR {K:W.Frag} {H:Hp}:∀xs:List Str,sV K H (cW xs) (xs.map V.str)
  | []=>rfl
  | x::xs=>⟨_,_,rfl,rfl,nR xs⟩
theorem qaF (c:Nat):Z2 c=decide (c∈("abcdefghijklmnopqrstuvwxyz" : Str).cps.toList):=PySem.StrLaws.found_one _ c
theorem Xl {c:Nat} (h:Z2 c=true):c<128:=by
  rw[qaF] at h;have h':=of_decide_eq_true h;have key:∀x∈("abcdefghijklmnopqrstuvwxyz" : Str).cps.toList,x<128:=by decide+kernel
  exact key c h'
theorem Ry {x:Str} (h:nameB x=true):PyData.strOk x=true:=by
  unfold nameB at h;simp only[Bool.and_eq_true] at h;have h2:=h.2;unfold PyData.strOk;rw[← Array.all_toList];rw[List.all_eq_true] at h2 ⊢;intro c hc;have:=Xl (h2 c hc);exact decide_eq_true (by omega)
theorem CN:∀xs:List Str,(∀x∈xs,PyData.strOk x=true)→PyData.canLayAll0 (cW xs)=true
  | [],_=>by simp[cW,PyData.canLayAll0]
  | x::xs,h=>by
    have:=CN xs fun y hy=>h y (List.mem_cons_of_mem _ hy);simp[cW] at this;simp[cW,PyData.canLayAll0,PyData.canLay0,this,h x List.mem_cons_self]
theorem xP:∀xs:List Str,PyData.depthAll (cW xs)≤1
  | []=>by simp[cW,PyData.depthAll]
  | x::xs=>by
    have:=xP xs;simp[cW] at this;simp[cW,PyData.depthAll,PyData.depth,this]
@[simp ↓] theorem qkA (td ty:TE) (σ:St) (H:Hp) (Q:VK):Xe td ty σ H Q=(td σ H fun x H1=>ty σ H1 fun y H2=>∃a v,x = .ref a∧lU H2 a y (some v)∧Q v H2):=rfl
@[simp ↓] theorem qlO (ty td:TE) (σ:St) (H:Hp) (Q:VK):qc4 ty td σ H Q=(ty σ H fun y H1=>td σ H1 fun x H2=>∃a o,x = .ref a∧lU H2 a y o∧Q (.bl o.isSome) H2):=rfl
@[simp ↓] theorem qe0 (ty td:TE) (σ:St) (H:Hp) (Q:VK):Jz ty td σ H Q=(ty σ H fun y H1=>td σ H1 fun x H2=>∃a o,x = .ref a∧lU H2 a y o∧Q (.bl (!o.isSome)) H2):=rfl
@[simp ↓] theorem qkB (td ty tv:TE) (D:Ends) (σ:St) (H:Hp):Xf td ty tv D σ H=(tv σ H fun v H1=>td σ H1 fun x H2=>ty σ H2 fun y H3=>∃a H4,x = .ref a∧Cz H3 a y v H4∧D.nx σ H4):=rfl
@[simp ↓] theorem qfM (σ:St) (H:Hp) (Q:VK):Xh σ H Q=(∀p,H p=none→Q (.ref p) (upd H p (.dK []))):=rfl
@[simp ↓] theorem qkC (V7:List (TE×TE)) (σ:St) (H:Hp) (Q:VK):qbJ V7 σ H Q=(∀p,H p=none→wB V7 σ (upd H p (.dK [])) fun ps H2=>H2 p=some (.dK [])∧∃kvs:List (Key×V),ps=kvs.map (fun kv=>(kV kv.1,kv.2))∧kvs.length≤15∧Q (.ref p) (upd H2 p (.dK (wC [] kvs)))):=rfl
@[simp ↓] theorem qfN (σ:St) (H:Hp) (Q:List (V×V)→Hp→Prop):wB [] σ H Q=Q [] H:=rfl
@[simp ↓] theorem qfO (tk tv:TE) (r:List (TE×TE)) (σ:St) (H:Hp) (Q:List (V×V)→Hp→Prop):wB ((tk,tv)::r) σ H Q=(tk σ H fun x H1=>tv σ H1 fun y H2=>wB r σ H2 fun ps H3=>Q ((x,y)::ps) H3):=rfl
@[simp ↓] theorem qfP (td ty tx:TE) (σ:St) (H:Hp) (Q:VK):Py td ty tx σ H Q=(td σ H fun x H1=>∃a,x = .ref a∧IsD H1 a∧ty σ H1 fun y H2=>tx σ H2 fun z H3=>∃o,lU H3 a y o∧Q (o.getD z) H3):=rfl
@[simp ↓] theorem qkD (K:W.Frag) (t:TA) (σ:St) (H:Hp) (R:It→Hp→Prop):Xj K t σ H R=(t σ H fun vs H1=>∃a xs,vs=[.ref a]∧aY K H1 a xs∧R (Ite K a) H1):=rfl
theorem qc_ {H:Hp} {a:Addr} {kvs:List (Key×V)} (i:Int) (e:H a=some (.dK kvs)):lU H a (.int i) (m9 kvs (Sum.inl i)):=lU.k (k:=Sum.inl i) e
theorem Xm {H:Hp} {a:Addr} {kvs:List (Key×V)} (x:Str) (e:H a=some (.dK kvs)):lU H a (.str x) (m9 kvs (Sum.inr x)):=lU.k (k:=Sum.inr x) e
theorem qfQ {H:Hp} {a:Addr} {kvs:List (Key×V)} {v:V} (i:Int) (e:H a=some (.dK kvs)) (hl:kvs.length<sizeLine):Cz H a (.int i) v (upd H a (.dK (putK kvs (Sum.inl i) v))):=Cz.k (k:=Sum.inl i) e hl
theorem qlP {H:Hp} {a:Addr} {kvs:List (Key×V)} {v:V} (x:Str) (e:H a=some (.dK kvs)) (hl:kvs.length<sizeLine):Cz H a (.str x) v (upd H a (.dK (putK kvs (Sum.inr x) v))):=Cz.k (k:=Sum.inr x) e hl
theorem isD {H:Hp} {a:Addr} {kvs:List (Key×V)} (e:H a=some (.dK kvs)):IsD H a:=.inl ⟨kvs,.inl e⟩
theorem range_any (bs:List Bool):(List.range bs.length).any (fun i=>bs.getD i false)=bs.any id:=by
  rw[Bool.eq_iff_iff,List.any_eq_true,List.any_eq_true];constructor
  ·rintro⟨i,hi,h⟩;have hi':=List.mem_range.mp hi;refine⟨bs[i],List.getElem_mem hi',?_⟩;simpa [List.getD,hi'] using h
  ·rintro⟨b,hb,h⟩;obtain⟨i,hi,rfl⟩:=List.mem_iff_getElem.mp hb;exact⟨i,List.mem_range.mpr hi,by simpa [List.getD,hi] using h⟩
section
variable {X:Cx} {K:W.Frag}
def qbK:List V→Hp→VK→Prop:=fun xs H Q=>∃a ys bs,xs=[.ref a]∧H a=some (.lst ys)∧pA ys bs∧Q (.bl (bs.any id)) H
theorem Ud (hc:X.calm=true):cJ X (.builtin "any") qbK:=by
  intro p_ s σ H xs us Q I r h;obtain⟨a,ys,bs,rfl,ha,hb,q⟩:=h;obtain⟨u,rfl,ru⟩:=r.one;obtain rfl:u=Value.ref a:=ru;obtain⟨z,its,n,rv,hl,e⟩:=I.Gw ha;obtain⟨h1,h2⟩:=hb.get rv;have hL:s.heap.IsList a its.toArray:=⟨_,e,rfl,n,rfl⟩;refine call_any_walk ?_;refine wpAny_pyIter_list hL ?_;have hne:a≠s.heap.objs.size:=Nat.ne_of_lt (Heap.lt_size e);have hL2:(s.heap.push {cls:=.type "list_iterator",data:=.fields #[.ref a,.int 0 0]}).IsList a its.toArray:=⟨_,Heap.get?_push_of_some _ e,rfl,n,rfl⟩;refine⟨s.heap.objs.size,_,_,_,_,_,fun i=>bs.getD i false,rfl,Walks.list (by exact I.ok.hd hc) s.heap.objs.size a hne its.toArray,⟨⟨_,Heap.get?_push_size _ rfl,rfl,rfl⟩,hL2⟩,fun i v s' Q' E' hP hQ=>?_,fun h' tk kk=>?_⟩
  ·obtain rfl:=h2 i v (by simpa using hP);exact wpAny_truthy_bool hQ
  · have e2:(List.range its.toArray.size).any (fun i=>bs.getD i false)=bs.any id:=by
      rw[List.size_toArray,← hl,h1];exact range_any bs
    rw[e2];refine⟨.bl _,H,?_,rfl,q⟩;exact I.kept (h':=h') (t':=tk) fun b o eb=>kk b o (by simp;exact Nat.ne_of_lt (Heap.lt_size eb)) (Heap.get?_push_of_some _ eb)
end
section
variable {K:W.Frag} {l:Addr} {g:TG} {tb:TS} {D:Ends} {d:qaE g tb D} {σ:St} {H:Hp}
theorem frE (xs:List V) (Pv:Nat→St→Hp→Prop) (h0:Pv 0 σ H) (hl:∀i σ H,i≤xs.length→Pv i σ H→aY K H l xs)
    (hs:∀i x t σ H,xs[i]? = some x→H t=none→Pv i σ H→g (.ref t) σ (upd H t (.tup [.int i,x])) fun σ2 H2=>tb {D with nx:=Pv (i+1),ct:=Pv (i+1),bk:=D.nx} σ2 H2) (hd:∀σ H,Pv xs.length σ H→D.nx σ H):tFr (Ite K l) g tb D d σ H:=by
  refine⟨fun i m σ H=>m=xs.length - i∧i≤xs.length∧Pv i σ H,⟨xs.length,by simp,Nat.zero_le _,h0⟩,?_⟩;rintro i m σ H ⟨rfl,hi,p⟩;have q:=hl i σ H hi p
  by_cases hlt:i<xs.length
  ·refine .inr ⟨⟨xs,xs[i],q,by simp[hlt]⟩,Pv (i+1),fun σ' H' p'=>⟨xs.length - (i+1),by omega,rfl,hlt,p'⟩,fun x H' y=>?_⟩;obtain⟨t,u,rfl,ht,rfl,e⟩:=y;exact hs i u t σ H (e xs q) ht p
  · have e:i=xs.length:=by omega
    subst e;exact .inl ⟨⟨xs,q,Nat.le_refl _⟩,hd σ H p⟩
end
section
variable {K:W.Frag} {own:List Str} {caps:List Nat} {g:TG} {tt:TT} {te:TE} {D l:Addr} {σ:St} {H:Hp} {Q:Hp→Prop} {d:qc8 g tt te Q}
theorem cmE (xs:List V) (Pv:Nat→St→Hp→Prop) (h0:Pv 0 (stC own caps σ) H) (hl:∀i σ H,i≤xs.length→Pv i σ H→aY K H l xs)
    (hs:∀i x t σ H,xs[i]? = some x→H t=none→Pv i σ H→CJ g tt te D (Pv (i+1)) (.ref t) σ (upd H t (.tup [.int i,x]))) (hd:∀σ H,Pv xs.length σ H→Q H):tCm own caps (Ite K l) g tt te Q d D σ H:=by
  refine⟨fun i m σ H=>m=xs.length - i∧i≤xs.length∧Pv i σ H,⟨xs.length,by simp,Nat.zero_le _,h0⟩,?_⟩;rintro i m σ H ⟨rfl,hi,p⟩;have q:=hl i σ H hi p
  by_cases hlt:i<xs.length
  ·refine .inr ⟨⟨xs,xs[i],q,by simp[hlt]⟩,Pv (i+1),fun σ' H' p'=>⟨xs.length - (i+1),by omega,rfl,hlt,p'⟩,fun x H' y=>?_⟩;obtain⟨t,u,rfl,ht,rfl,e⟩:=y;exact hs i u t σ H (e xs q) ht p
  · have e:i=xs.length:=by omega
    subst e;exact .inl ⟨⟨xs,q,Nat.le_refl _⟩,hd σ H p⟩
end
section
variable {c:TT} {tb:TS} {D:Ends} {d:qfH c tb D} {σ:St} {H:Hp}
theorem whB (Pv:St→Hp→Prop) (μ:St→Hp→Nat) (h0:Pv σ H)
    (hs:∀σ H,Pv σ H→c σ H fun b H1=>dz b (tb {D with nx:=fun σ' H'=>Pv σ' H'∧μ σ' H'<μ σ H,ct:=fun σ' H'=>Pv σ' H'∧μ σ' H'<μ σ H,bk:=D.nx} σ H1) (D.nx σ H1) ⟨0⟩)
    (mono:∀σ H Q Q',(∀b H1,Q b H1→Q' b H1)→c σ H Q→c σ H Q'):tWh c tb D d σ H:=Wn Pv μ h0 hs mono
end
end L2
namespace L2
open PySem
inductive RT {α:Type} (R:α→α→Prop):α→α→Prop where
  | refl (a:α):RT R a a
  | tail {a b c:α}:RT R a b→R b c→RT R a c
theorem RT.one {α:Type} {R:α→α→Prop} {a b:α} (h:R a b):RT R a b:=.tail (.refl a) h
theorem RT.trans {α:Type} {R:α→α→Prop} {a b c:α} (h:RT R a b) (h2:RT R b c):RT R a c:=by
  induction h2 with
  | refl=>exact h
  | tail _ r ih=>exact .tail ih r
theorem RT.mono {α:Type} {R S:α→α→Prop} (h:∀a b,R a b→S a b) {a b:α} (r:RT R a b):RT S a b:=by
  induction r with
  | refl=>exact .refl _
  | tail _ q ih=>exact .tail ih (h _ _ q)
theorem RT.symm {α:Type} {R:α→α→Prop} (h:∀a b,R a b→R b a) {a b:α} (r:RT R a b):RT R b a:=by
  induction r with
  | refl=>exact .refl _
  | tail _ q ih=>exact(RT.one (h _ _ q)).trans ih
theorem RT.closed {α:Type} {R:α→α→Prop} {P:α→Prop} (hc:∀a b,R a b→P a→P b) {a b:α} (ha:P a) (r:RT R a b):P b:=by
  induction r with
  | refl=>exact ha
  | tail _ q ih=>exact hc _ _ q ih
abbrev jd:=Nat×Str×Str
def dI (S:List jd) (a b:Str):Prop:=∃n,(n,a,b)∈S
def kE (fx:Nat→Option Int) (e:Str×Str) (k:Nat):List jd:=
  (if (fx k).getD 0=0 then [(k,e.1,e.2)] else [])++(if (fx k).getD 1=1 then [(k,e.2,e.1)] else [])
def aG (fx:Nat→Option Int):List (Str×Str)→Nat→List jd
  | [],_=>[]
  | e::r,k=>kE fx e k++aG fx r (k+1)
theorem oN (fx:Nat→Option Int):∀(l m:List (Str×Str)) (k:Nat),aG fx (l++m) k=aG fx l k++aG fx m (k+l.length)
  | [],m,k=>by simp[aG]
  | e::l,m,k=>by
    simp only[List.cons_append,aG,oN fx l m (k+1),List.append_assoc,List.length_cons];rw[show k+1+l.length=k+(l.length+1) by omega]
theorem rB (fx:Nat→Option Int) {ps:List (Str×Str)} {i:Nat} {e:Str×Str} (h:ps[i]? = some e):aG fx (ps.take (i+1)) 0=aG fx (ps.take i) 0++kE fx e i:=by
  have hi:i<ps.length:=(List.getElem?_eq_some_iff.mp h).1;rw[take_one h,oN,List.length_take,Nat.min_eq_left (Nat.le_of_lt hi),Nat.zero_add];simp[aG]
theorem lV {fx:Nat→Option Int} {e:Str×Str} {k:Nat} {s:jd}:s∈kE fx e k↔s.1=k∧(((fx k).getD 0=0∧s.2.1=e.1∧s.2.2=e.2)∨((fx k).getD 1=1∧s.2.1=e.2∧s.2.2=e.1)):=by
  obtain⟨n,a,b⟩:=s;unfold kE;rw[List.mem_append];constructor
  · rintro(h | h)
    · split at h
      ·rename_i h0;simp at h;exact⟨h.1,.inl ⟨h0,h.2.1,h.2.2⟩⟩
      ·simp at h
    · split at h
      ·rename_i h0;simp at h;exact⟨h.1,.inr ⟨h0,h.2.1,h.2.2⟩⟩
      ·simp at h
  · rintro⟨rfl,⟨h0,rfl,rfl⟩ | ⟨h0,rfl,rfl⟩⟩
    ·exact .inl (by rw[if_pos h0];simp)
    ·exact .inr (by rw[if_pos h0];simp)
theorem j4 {fx:Nat→Option Int}:∀{ps:List (Str×Str)} {k:Nat} {s:jd},s∈aG fx ps k↔∃j e,ps[j]? = some e∧s∈kE fx e (k+j)
  | [],k,s=>by simp[aG]
  | e::r,k,s=>by
    simp only[aG,List.mem_append,j4 (ps:=r)];constructor
    · rintro(h | ⟨j,e',h1,h2⟩)
      ·exact⟨0,e,rfl,h⟩
      ·exact⟨j+1,e',by simpa using h1,by rw[show k+(j+1)=k+1+j by omega];exact h2⟩
    · rintro⟨j,e',h1,h2⟩;cases j with
      | zero=>simp at h1;subst h1;exact .inl h2
      | succ j=>exact .inr ⟨j,e',by simpa using h1,by rw[show k+1+j=k+(j+1) by omega];exact h2⟩
def jW (P:Nat→Prop) (ps:List (Str×Str)) (a b:Str):Prop:=∃k,P k∧(ps[k]? = some (a,b)∨ps[k]? = some (b,a))
theorem jW.symm {P:Nat→Prop} {ps:List (Str×Str)} {a b:Str} (h:jW P ps a b):jW P ps b a:=by
  obtain⟨k,hk,h⟩:=h;exact⟨k,hk,h.symm⟩
theorem CP {P:Nat→Prop} [DecidablePred P] {ps:List (Str×Str)} {a b:Str}:dI ((aG (fun _=>none) ps 0).filter fun s=>decide (P s.1)) a b↔jW P ps a b:=by
  unfold dI jW;constructor
  · rintro⟨n,h⟩;obtain⟨h,hP⟩:=List.mem_filter.mp h;obtain⟨j,e,h1,h2⟩:=j4.mp h;rw[Nat.zero_add] at h2;obtain⟨rfl,h3⟩:=lV.mp h2;refine⟨_,of_decide_eq_true hP,?_⟩
    rcases h3 with⟨_,h3,h4⟩ | ⟨_,h3,h4⟩
    ·simp only at h3 h4;subst h3 h4;exact .inl h1
    ·simp only at h3 h4;subst h3 h4;exact .inr h1
  · rintro⟨k,hP,h⟩;refine⟨k,List.mem_filter.mpr ⟨j4.mpr ?_,decide_eq_true hP⟩⟩
    rcases h with h | h
    ·exact⟨k,_,h,by rw[Nat.zero_add];exact lV.mpr ⟨rfl,.inl ⟨rfl,rfl,rfl⟩⟩⟩
    ·exact⟨k,_,h,by rw[Nat.zero_add];exact lV.mpr ⟨rfl,.inr ⟨rfl,rfl,rfl⟩⟩⟩
end L2
namespace L2
open PySem PySem.Spec PyProof.Rows
def bJ {β:Type} (R:Hp→V→β→Prop) (H:Hp) (vs:List V) (bs:List β):Prop:=vs.length=bs.length∧∀(i:Nat) v b,vs[i]? = some v→bs[i]? = some b→R H v b
section
variable {β:Type} {R:Hp→V→β→Prop} {H H':Hp} {vs:List V} {bs:List β}
theorem bJ.nil:bJ R H [] []:=⟨rfl,fun i v b h=>by simp at h⟩
theorem bJ.keep (h:bJ R H vs bs) (k:∀v b,R H v b→R H' v b):bJ R H' vs bs:=⟨h.1,fun i v b h1 h2=>k v b (h.2 i v b h1 h2)⟩
theorem bJ.at (h:bJ R H vs bs) {i:Nat} {v:V} (hv:vs[i]? = some v):∃b,bs[i]? = some b∧R H v b:=by
  have hi:i<bs.length:=by rw[← h.1];exact(List.getElem?_eq_some_iff.mp hv).1
  exact⟨bs[i],by simp[hi],h.2 i v _ hv (by simp[hi])⟩
theorem bJ.snoc {v:V} {b:β} (h:bJ R H vs bs) (hv:R H v b):bJ R H (vs++[v]) (bs++[b]):=by
  refine⟨by simp[h.1],fun i u d h1 h2=>?_⟩
  by_cases hi:i<vs.length
  ·rw[List.getElem?_append_left hi] at h1;rw[List.getElem?_append_left (by rw[← h.1];exact hi)] at h2;exact h.2 i u d h1 h2
  · rw[List.getElem?_append_right (by omega)] at h1;rw[List.getElem?_append_right (by rw[← h.1];omega),← h.1] at h2;cases hk:i - vs.length with
    | zero=>
      rw[hk] at h1 h2;cases h1;cases h2;exact hv
    | succ j=>
      rw[hk] at h1;simp at h1
end
def Mf (H:Hp) (v:V) (s:jd):Prop:=∃t,v = .ref t∧H t=some (.tup [.int s.1,.str s.2.1,.str s.2.2])
def Xn (H:Hp) (v:V) (c:List Str):Prop:=∃t,v = .ref t∧H t=some (.lst (c.map V.str))
abbrev eZ:=bJ Mf
abbrev xQ:=bJ Xn
def cG (H H':Hp):Prop:=∀b xs,H b=some (.tup xs)→H' b=some (.tup xs)
theorem cG.of {H H':Hp} (s:Same H H'):cG H H':=fun b xs e=>s b _ e
theorem cG.set {H:Hp} {p:Addr} {o u:HO} (h:H p=some o) (hn:∀xs,o≠.tup xs):cG H (upd H p u):=fun b xs e=>by
  rw[aC (fun z=>by subst z;rw[h] at e;exact hn xs (Option.some.inj e))];exact e
theorem Mf.keep {H H':Hp} (k:cG H H'):∀v s,Mf H v s→Mf H' v s:=fun v s ⟨t,e,h⟩=>⟨t,e,k _ _ h⟩
theorem eZ.keep {H H':Hp} {vs:List V} {S:List jd} (h:eZ H vs S) (k:cG H H'):eZ H' vs S:=bJ.keep h (Mf.keep k)
theorem xQ.same {H H':Hp} {vs:List V} {S:List (List Str)} (h:xQ H vs S) (k:Same H H'):xQ H' vs S:=bJ.keep h fun v s ⟨t,e,q⟩=>⟨t,e,k _ _ q⟩
def qbL (H:Hp) (d:Addr) (fx:Nat→Option Int):Prop:=∃kvs,H d=some (.dK kvs)∧∀k:Nat,m9 kvs (Sum.inl (k:Int))=(fx k).map V.int
theorem CQ {H:Hp} {d:Addr} (h:H d=some (.dK [])):qbL H d (fun _=>none):=⟨[],h,fun _=>rfl⟩
theorem Mg (o:Option Int) (x:Int):(o.map V.int).getD (.int x) = .int (o.getD x):=by cases o <;> rfl
end L2
namespace L2
open PySem
inductive oO (S:List jd) (a:Str):List Nat→List Str→Str→Prop where
  | nil:oO S a [] [a] a
  | snoc {w:List Nat} {vs:List Str} {b c:Str} {n:Nat}:oO S a w vs b→(n,b,c)∈S→oO S a (w++[n]) (vs++[c]) c
theorem oO.reach {S:List jd} {a:Str} {w:List Nat} {vs:List Str} {b:Str} (h:oO S a w vs b):RT (dI S) a b:=by
  induction h with
  | nil=>exact .refl _
  | snoc _ q ih=>exact .tail ih ⟨_,q⟩
inductive Walk (S:List jd) (a:Str):Nat→Str→Prop where
  | nil:Walk S a 0 a
  | snoc {k:Nat} {b c:Str} {n:Nat}:Walk S a k b→(n,b,c)∈S→Walk S a (k+1) c
theorem Walk.of {S:List jd} {a b:Str} (h:RT (dI S) a b):∃k,Walk S a k b:=by
  induction h with
  | refl=>exact⟨0,.nil⟩
  | tail _ q ih=>
    obtain⟨k,hk⟩:=ih;obtain⟨n,hn⟩:=q;exact⟨k+1,.snoc hk hn⟩
abbrev BR:=List (Str×List Nat)
structure Ov (S:List jd) (a:Str) (at_:Nat) (R:BR):Prop where
  st:R[0]? = some (a,[])
  nd:(R.map (·.1)).Nodup
  pth:∀y w,(y,w)∈R→∃vs,oO S a w vs y∧vs.Nodup∧∀v∈vs,v∈R.map (·.1)
  cl:∀(i:Nat) y w,i<at_→R[i]? = some (y,w)→∀n c,(n,y,c)∈S→∃w',(c,w')∈R∧w'.length≤w.length+1
  mono:∀(i j:Nat) y w z u,i≤j→R[i]? = some (y,w)→R[j]? = some (z,u)→w.length≤u.length
  bd:∀(y:Str) (w:List Nat) z u,R[at_]? = some (y,w)→(z,u)∈R→u.length≤w.length+1
structure nu (S T:List jd) (a:Str) (at_:Nat) (h:Str) (wh:List Nat) (R:BR):Prop where
  bf:Ov S a at_ R
  hr:R[at_]? = some (h,wh)
  md:∀n c,(n,h,c)∈T→∃w',(c,w')∈R∧w'.length≤wh.length+1
theorem Ov.begin (S:List jd) (a:Str):Ov S a 0 [(a,[])]:=by
  refine⟨rfl,by simp,?_,by intro i y w h;omega,?_,?_⟩
  ·intro y w h;simp at h;obtain⟨rfl,rfl⟩:=h;exact⟨[y],.nil,by simp,by simp⟩
  · intro i j y w z u hij h1 h2;have hi:i=0:=by have:=(List.getElem?_eq_some_iff.mp h1).1;simp at this;omega
    have hj:j=0:=by have:=(List.getElem?_eq_some_iff.mp h2).1;simp at this;omega
    subst hi hj;rw[h1] at h2;cases h2;exact Nat.le_refl _
  ·intro y w z u h1 h2;simp at h1 h2;rw[h2.2,← h1.2];simp
theorem nu.enter {S:List jd} {a:Str} {at_:Nat} {h:Str} {wh:List Nat} {R:BR} (b:Ov S a at_ R) (hr:R[at_]? = some (h,wh)):nu S [] a at_ h wh R:=⟨b,hr,by simp⟩
theorem nu.skip {S T:List jd} {a:Str} {at_:Nat} {h:Str} {wh:List Nat} {R:BR} (b:nu S T a at_ h wh R) {s:jd} (hs:s.2.1=h→s.2.2∈R.map (·.1)):nu S (T++[s]) a at_ h wh R:=by
  refine⟨b.bf,b.hr,fun n c hm=>?_⟩
  rcases List.mem_append.mp hm with q | q
  ·exact b.md n c q
  ·simp at q;subst q;obtain⟨⟨c',w'⟩,hw,e⟩:=List.mem_map.mp (hs rfl);simp only at e;subst e;exact⟨w',hw,b.bf.bd _ _ _ _ b.hr hw⟩
theorem nu.add {S T:List jd} {a:Str} {at_:Nat} {h:Str} {wh:List Nat} {R:BR} (b:nu S T a at_ h wh R) {n:Nat} {c:Str} (hS:(n,h,c)∈S) (hc:¬c∈R.map (·.1)):nu S (T++[(n,h,c)]) a at_ h wh (R++[(c,wh++[n])]):=by
  obtain⟨⟨st,nd,pth,cl,mono,bd⟩,hr,md⟩:=b;have hat:at_<R.length:=(List.getElem?_eq_some_iff.mp hr).1;have ml:∀{i:Nat} {x},i<R.length→(R++[(c,wh++[n])])[i]? = some x→R[i]? = some x:=fun hi e=>by rwa [List.getElem?_append_left hi] at e
  have last:∀{i:Nat} {x},¬i<R.length→(R++[(c,wh++[n])])[i]? = some x→x=(c,wh++[n]):=fun hi e=>by
    rw[List.getElem?_append_right (by omega)] at e;cases hk:_ - R.length with
    | zero=>rw[hk] at e;simp at e;exact e.symm
    | succ k=>rw[hk] at e;simp at e
  refine⟨⟨?_,?_,?_,?_,?_,?_⟩,?_,?_⟩
  ·rw[List.getElem?_append_left (by omega)];exact st
  ·rw[List.map_append,List.nodup_append];refine⟨nd,by simp,?_⟩;intro x hx y hy e;simp at hy;subst hy;exact hc (e▸hx)
  · intro y w hy
    rcases List.mem_append.mp hy with q | q
    ·obtain⟨vs,h1,h2,h3⟩:=pth y w q;exact⟨vs,h1,h2,fun v hv=>by rw[List.map_append];exact List.mem_append_left _ (h3 v hv)⟩
    · simp at q;obtain⟨rfl,rfl⟩:=q;obtain⟨vs,h1,h2,h3⟩:=pth h wh (List.mem_of_getElem? hr);refine⟨vs++[y],.snoc h1 hS,?_,?_⟩
      ·rw[List.nodup_append];refine⟨h2,by simp,?_⟩;intro x hx z hz e;simp at hz;subst hz;exact hc (e▸h3 x hx)
      · intro v hv;rw[List.map_append]
        rcases List.mem_append.mp hv with q | q
        ·exact List.mem_append_left _ (h3 v q)
        ·simp at q;subst q;simp
  ·intro i y w hi e m c' hm;obtain⟨w',q1,q2⟩:=cl i y w hi (ml (by omega) e) m c' hm;exact⟨w',List.mem_append_left _ q1,q2⟩
  · intro i j y w z u hij h1 h2
    by_cases hj:j<R.length
    ·exact mono i j y w z u hij (ml (by omega) h1) (ml hj h2)
    · have e2:=last hj h2;cases e2
      by_cases hi:i<R.length
      ·have:=bd h wh y w hr (List.mem_of_getElem? (ml hi h1));simp;exact this
      ·have e1:=last hi h1;cases e1;exact Nat.le_refl _
  · intro y w z u h1 h2;have h1':=ml hat h1;rw[hr] at h1';cases h1'
    rcases List.mem_append.mp h2 with q | q
    ·exact bd _ _ z u hr q
    ·simp at q;rw[q.2];simp
  ·rw[List.getElem?_append_left hat];exact hr
  · intro m c' hm
    rcases List.mem_append.mp hm with q | q
    ·obtain⟨w',q1,q2⟩:=md m c' q;exact⟨w',List.mem_append_left _ q1,q2⟩
    ·simp at q;obtain⟨rfl,rfl⟩:=q;exact⟨wh++[m],by simp,by simp⟩
theorem nu.leave {S:List jd} {a:Str} {at_:Nat} {h:Str} {wh:List Nat} {R:BR} (b:nu S S a at_ h wh R):Ov S a (at_+1) R:=by
  obtain⟨⟨st,nd,pth,cl,mono,bd⟩,hr,md⟩:=b;refine⟨st,nd,pth,?_,mono,?_⟩
  · intro i y w hi e n c hm
    by_cases hia:i=at_
    ·subst hia;rw[hr] at e;cases e;exact md n c hm
    ·exact cl i y w (by omega) e n c hm
  ·intro y w z u h1 h2;have q1:=bd h wh z u hr h2;have q2:=mono at_ (at_+1) h wh y w (by omega) hr h1;omega
theorem Ov.all {S:List jd} {a:Str} {R:BR} (b:Ov S a R.length R) {k:Nat} {y:Str} (h:Walk S a k y):∃w,(y,w)∈R∧w.length≤k:=by
  induction h with
  | nil=>exact⟨[],List.mem_of_getElem? b.st,Nat.le_refl _⟩
  | @snoc k b' c n _ q ih=>
    obtain⟨w,h1,h2⟩:=ih;obtain⟨i,hi⟩:=List.mem_iff_getElem?.mp h1;obtain⟨w',h3,h4⟩:=b.cl i b' w (List.getElem?_eq_some_iff.mp hi).1 hi n c q;exact⟨w',h3,by omega⟩
theorem Ov.iff {S:List jd} {a:Str} {R:BR} (b:Ov S a R.length R) (y:Str):y∈R.map (·.1)↔RT (dI S) a y:=by
  constructor
  ·intro h;obtain⟨⟨z,w⟩,h1,e⟩:=List.mem_map.mp h;simp only at e;subst e;obtain⟨vs,p,_⟩:=b.pth z w h1;exact p.reach
  ·intro h;obtain⟨k,hk⟩:=Walk.of h;obtain⟨w,h1,_⟩:=b.all hk;exact List.mem_map.mpr ⟨(y,w),h1,rfl⟩
theorem Ov.sub {S:List jd} {a:Str} {i:Nat} {R:BR} (b:Ov S a i R) {xs:List Str} (ha:a∈xs) (hS:∀s∈S,s.2.2∈xs):∀y∈R.map (·.1),y∈xs:=by
  intro y h;obtain⟨⟨z,w⟩,h1,e⟩:=List.mem_map.mp h;simp only at e;subst e;obtain⟨vs,p,_⟩:=b.pth z w h1;cases p with
  | nil=>exact ha
  | snoc _ q=>exact hS _ q
theorem bY {α:Type} [DecidableEq α]:∀{l xs:List α},l.Nodup→(∀y∈l,y∈xs)→l.length≤xs.length
  | [],_,_,_=>Nat.zero_le _
  | y::l,xs,hn,hs=>by
    obtain⟨h1,h2⟩:=List.nodup_cons.mp hn;have hy:y∈xs:=hs y List.mem_cons_self;have:=bY (l:=l) (xs:=xs.erase y) h2 fun z hz=>(List.mem_erase_of_ne (fun(e:z=y)=>h1 (e▸hz))).mpr (hs z (List.mem_cons_of_mem _ hz));rw[List.length_erase_of_mem hy] at this;have h0:0<xs.length:=List.length_pos_of_mem hy;simp only[List.length_cons];omega
theorem oO.len {S:List jd} {a:Str} {w:List Nat} {vs:List Str} {b:Str} (h:oO S a w vs b):vs.length=w.length+1:=by
  induction h with
  | nil=>rfl
  | snoc _ _ ih=>simp[ih]
theorem Ov.qfR {S:List jd} {a:Str} {i:Nat} {R:BR} (b:Ov S a i R) {y:Str} {w:List Nat} (h:(y,w)∈R):w.length<R.length:=by
  obtain⟨vs,p,nd,sub⟩:=b.pth y w h;have h1:=bY nd sub;have h2:=p.len;simp at h1;omega
def qlQ (H:Hp) (kv:Key×V) (yw:Str×List Nat):Prop:=kv.1=Sum.inr yw.1∧∃p,kv.2 = .ref p∧H p=some (.lst (yw.2.map fun n:Nat=>V.int n))
structure g8 (H:Hp) (kvs:List (Key×V)) (R:BR):Prop where
  len:kvs.length=R.length
  ok:∀(i:Nat) kv yw,kvs[i]? = some kv→R[i]? = some yw→qlQ H kv yw
theorem g8.keep {H H':Hp} {kvs:List (Key×V)} {R:BR} (h:g8 H kvs R) (k:∀(p:Addr) (w:List Nat),H p=some (.lst (w.map fun n:Nat=>V.int n))→H' p=some (.lst (w.map fun n:Nat=>V.int n))):g8 H' kvs R:=
  ⟨h.len,fun i kv yw h1 h2=>by
    obtain⟨e,p,e2,q⟩:=h.ok i kv yw h1 h2;exact⟨e,p,e2,k _ _ q⟩⟩
theorem g8.none {H:Hp} {kvs:List (Key×V)} {R:BR} (h:g8 H kvs R) {y:Str} (hy:¬y∈R.map (·.1)):m9 kvs (Sum.inr y)=Option.none:=by
  unfold m9;rw[List.find?_eq_none.mpr]
  ·rfl
  · intro kv hk;obtain⟨i,hi⟩:=List.mem_iff_getElem?.mp hk;have hl:i<R.length:=by rw[← h.len];exact(List.getElem?_eq_some_iff.mp hi).1
    obtain⟨e,_⟩:=h.ok i kv R[i] hi (by simp[hl]);simp only[decide_eq_true_eq];intro z;rw[e] at z;cases z;exact hy (List.mem_map.mpr ⟨R[i],List.getElem_mem hl,rfl⟩)
theorem g8.some {H:Hp} {kvs:List (Key×V)} {R:BR} (h:g8 H kvs R) (nd:(R.map (·.1)).Nodup) {y:Str} {w:List Nat} (hy:(y,w)∈R):∃p,m9 kvs (Sum.inr y)=Option.some (.ref p)∧H p=Option.some (.lst (w.map fun n:Nat=>V.int n)):=by
  obtain⟨i,hi⟩:=List.mem_iff_getElem?.mp hy;have hl:i<kvs.length:=by rw[h.len];exact(List.getElem?_eq_some_iff.mp hi).1
  have hk:kvs[i]? = Option.some kvs[i]:=by simp[hl]
  unfold m9;have hf:∃kv,kvs.find? (fun kv=>decide (kv.1=Sum.inr y))=Option.some kv:=by
    cases e:kvs.find? (fun kv=>decide (kv.1=Sum.inr y)) with
    | some kv=>exact⟨kv,rfl⟩
    | none=>
      have:=List.find?_eq_none.mp e kvs[i] (List.getElem_mem hl);obtain⟨e1,_⟩:=h.ok i _ _ hk hi;simp[e1] at this
  obtain⟨kv,hkv⟩:=hf;rw[hkv];have hm:=List.mem_of_find?_eq_some hkv;have hp:=List.find?_some hkv;simp only[decide_eq_true_eq] at hp;obtain⟨j,hj⟩:=List.mem_iff_getElem?.mp hm;have hlj:j<R.length:=by rw[← h.len];exact(List.getElem?_eq_some_iff.mp hj).1
  obtain⟨e1,p,e2,e3⟩:=h.ok j kv R[j] hj (by simp[hlj]);rw[hp] at e1;have ey:R[j].1=y:=(Sum.inr.inj e1).symm;have ej:j=i:=tV nd (x:=y) (by rw[List.getElem?_map,show R[j]? = Option.some R[j] by simp[hlj]];simp[ey]) (by rw[List.getElem?_map,hi];rfl);subst ej;have:R[j]=(y,w):=by
    have:=hi;simp[hlj] at this;exact this
  rw[this] at e3;exact⟨p,by simp[e2],e3⟩
theorem g8.has {H:Hp} {kvs:List (Key×V)} {R:BR} (h:g8 H kvs R) (nd:(R.map (·.1)).Nodup) (y:Str):(m9 kvs (Sum.inr y)).isSome=decide (y∈R.map (·.1)):=by
  by_cases hy:y∈R.map (·.1)
  ·obtain⟨⟨z,w⟩,h1,e⟩:=List.mem_map.mp hy;simp only at e;subst e;obtain⟨p,e,_⟩:=h.some nd h1;rw[e,decide_eq_true hy];rfl
  ·rw[h.none hy,decide_eq_false hy];rfl
theorem g8.qlR {H:Hp} {kvs:List (Key×V)} {R:BR} (h:g8 H kvs R) (nd:(R.map (·.1)).Nodup) (y:Str):(m9 kvs (Sum.inr y)).isNone = !decide (y∈R.map (·.1)):=by
  rw[← h.has nd y];cases m9 kvs (Sum.inr y) <;> rfl
theorem g8.snoc {H:Hp} {kvs:List (Key×V)} {R:BR} {y:Str} {w:List Nat} {p:Addr} (h:g8 H kvs R) (hp:H p=Option.some (.lst (w.map fun n:Nat=>V.int n))):g8 H (kvs++[(Sum.inr y,.ref p)]) (R++[(y,w)]):=by
  refine⟨by simp[h.len],fun i kv yw h1 h2=>?_⟩
  by_cases hi:i<kvs.length
  ·rw[List.getElem?_append_left hi] at h1;rw[List.getElem?_append_left (by rw[← h.len];exact hi)] at h2;exact h.ok i kv yw h1 h2
  · rw[List.getElem?_append_right (by omega)] at h1;rw[List.getElem?_append_right (by rw[← h.len];omega),← h.len] at h2;cases hk:i - kvs.length with
    | zero=>
      rw[hk] at h1 h2;cases h1;cases h2;exact⟨rfl,p,rfl,hp⟩
    | succ j=>
      rw[hk] at h1;simp at h1
def qfS (i:Nat) (σ:St):Nat:=match σ[i]? with | some (some (V.int n))=>(10 - n).toNat | _=>0
theorem bD (x:Str) (xs:List Str):inV (.str x) (xs.map V.str)=decide (x∈xs):=by
  unfold inV;rw[List.any_map,Bool.eq_iff_iff,List.any_eq_true,decide_eq_true_eq];constructor
  ·rintro⟨y,hy,e⟩;simp[Tw] at e;exact e▸hy
  ·intro h;exact⟨x,h,by simp[Tw]⟩
theorem bR (xs:List Str):(xs.map V.str).all jZ=true:=by
  rw[List.all_map,List.all_eq_true];intro x _;rfl
open Classical in
def lM (S:List jd) (xs:List Str) (x:Str):List Str:=xs.filter fun y=>decide (RT (dI S) x y)
theorem kI {S:List jd} {xs:List Str} {x y:Str}:y∈lM S xs x↔y∈xs∧RT (dI S) x y:=by
  unfold lM;simp
theorem Bq {S:List jd} {xs:List Str} {x:Str}:(lM S xs x).length≤xs.length:=List.length_filter_le _ _
theorem Xo {S:List jd} {xs:List Str} {x y:Str} {i:Nat} (h:xs[i]? = some y) (b:Bool) (hb:b=true↔RT (dI S) x y):lM S (xs.take (i+1)) x=lM S (xs.take i) x++if b=true then [y] else []:=by
  unfold lM;rw[take_one h,List.filter_append];congr 1
  by_cases hr:RT (dI S) x y
  ·rw[if_pos (hb.mpr hr)];simp[hr]
  ·rw[if_neg fun z=>hr (hb.mp z)];simp[hr]
def gW (S:List jd) (xs:List Str) (acc:List (List Str)) (x:Str):List (List Str):=if (acc.any fun c=>decide (x∈c))=true then acc else acc++[lM S xs x]
def Bb (S:List jd) (xs ys:List Str):List (List Str):=ys.foldl (gW S xs) []
theorem Ue {S:List jd} {xs ys:List Str} {x:Str} {i:Nat} (h:ys[i]? = some x):Bb S xs (ys.take (i+1))=gW S xs (Bb S xs (ys.take i)) x:=by
  unfold Bb;rw[take_one h,List.foldl_append];rfl
theorem Mh {S:List jd} {xs:List Str}:∀(ys:List Str) (acc:List (List Str)),(ys.foldl (gW S xs) acc).length≤acc.length+ys.length
  | [],acc=>by simp
  | y::ys,acc=>by
    have h1:=Mh (S:=S) (xs:=xs) ys (gW S xs acc y);have h2:(gW S xs acc y).length≤acc.length+1:=by
      unfold gW;split <;> simp
    simp only[List.foldl_cons,List.length_cons];omega
theorem Mi {S:List jd} {xs:List Str}:∀(ys:List Str) (acc:List (List Str)),(∀c∈acc,∃x∈xs,c=lM S xs x)→(∀y∈ys,y∈xs)→∀c∈ys.foldl (gW S xs) acc,∃x∈xs,c=lM S xs x
  | [],acc,h,_=>h
  | y::ys,acc,h,hy=>by
    refine Mi ys _ ?_ fun z hz=>hy z (List.mem_cons_of_mem _ hz);intro c hc;unfold gW at hc;split at hc
    ·exact h c hc
    · rcases List.mem_append.mp hc with q | q
      ·exact h c q
      ·simp at q;exact⟨y,hy y List.mem_cons_self,q⟩
end L2
namespace L2
open PySem PySem.Spec PyProof.Rows
@[simp] theorem qkE (i:Int):Az (.int i) .non=true:=rfl
@[simp] theorem qkF (i:Int):Az .non (.int i)=true:=rfl
@[simp] theorem qkG (i:Str):Az (.str i) .non=true:=rfl
theorem CT:∀a b:List Str,PyData.eqvAll (cW a) (cW b)=decide (a=b)
  | [],[]=>rfl
  | [],y::b=>by simp[cW,PyData.eqvAll]
  | x::a,[]=>by simp[cW,PyData.eqvAll]
  | x::a,y::b=>by
    show(PyData.eqv (.str x) (.str y) && PyData.eqvAll (cW a) (cW b))=_;rw[CT a b,Bool.eq_iff_iff];simp[PyData.eqv]
end L2
namespace L2
open PySem
def lW {α β:Type} (f:α→Nat→List β):List α→Nat→List β
  | [],_=>[]
  | e::r,k=>f e k++lW f r (k+1)
theorem Ag {α β:Type} (f:α→Nat→List β):∀(l m:List α) (k:Nat),lW f (l++m) k=lW f l k++lW f m (k+l.length)
  | [],m,k=>by simp[lW]
  | e::l,m,k=>by
    simp only[List.cons_append,lW,Ag f l m (k+1),List.append_assoc,List.length_cons];rw[show k+1+l.length=k+(l.length+1) by omega]
theorem uJ {α β:Type} (f:α→Nat→List β) {ps:List α} {i:Nat} {e:α} (h:ps[i]? = some e):lW f (ps.take (i+1)) 0=lW f (ps.take i) 0++f e i:=by
  have hi:i<ps.length:=(List.getElem?_eq_some_iff.mp h).1;rw[take_one h,Ag,List.length_take,Nat.min_eq_left (Nat.le_of_lt hi),Nat.zero_add];simp[lW]
theorem Mj {α β:Type} {f:α→Nat→List β}:∀{ps:List α} {k:Nat} {s:β},s∈lW f ps k↔∃j e,ps[j]? = some e∧s∈f e (k+j)
  | [],k,s=>by simp[lW]
  | e::r,k,s=>by
    simp only[lW,List.mem_append,Mj (ps:=r)];constructor
    · rintro(h | ⟨j,e',h1,h2⟩)
      ·exact⟨0,e,rfl,h⟩
      ·exact⟨j+1,e',by simpa using h1,by rw[show k+(j+1)=k+1+j by omega];exact h2⟩
    · rintro⟨j,e',h1,h2⟩;cases j with
      | zero=>simp at h1;subst h1;exact .inl h2
      | succ j=>exact .inr ⟨j,e',by simpa using h1,by rw[show k+1+j=k+(j+1) by omega];exact h2⟩
theorem xR {α β:Type} {f:α→Nat→List β} (hf:∀e k,(f e k).length≤1):∀(ps:List α) (k:Nat),(lW f ps k).length≤ps.length
  | [],_=>by simp[lW]
  | e::r,k=>by
    have h1:=xR hf r (k+1);have h2:=hf e k;simp only[lW,List.length_append,List.length_cons];omega
def PB (k:Nat) (s:jd):Bool:=decide (s.1≠k)
def eY (ps:List (Str×Str)) (xs:List Str) (k:Nat) (b:Str):List Str:=lM ((aG (fun _=>none) ps 0).filter (PB k)) xs b
def kJ (ps:List (Str×Str)) (xs:List Str) (e:Str×Str) (k:Nat):List (Nat×List Str):=if e.1∈eY ps xs k e.2 then [] else [(k,eY ps xs k e.2)]
def kO (ps:List (Str×Str)) (xs:List Str):List (Nat×List Str):=lW (kJ ps xs) ps 0
theorem Ug (ps:List (Str×Str)) (xs:List Str) (e:Str×Str) (k:Nat):(kJ ps xs e k).length≤1:=by
  unfold kJ;split <;> simp
theorem j6 {ps:List (Str×Str)} {xs:List Str} {b y:Str} {k:Nat}:y∈eY ps xs k b↔y∈xs∧RT (jW (fun j=>j≠k) ps) b y:=by
  unfold eY;rw[kI];have:RT (dI ((aG (fun _=>none) ps 0).filter (PB k))) b y↔RT (jW (fun j=>j≠k) ps) b y:=⟨RT.mono (S:=jW (fun j=>j≠k) ps) fun a b h=>CP.mp h,RT.mono (R:=jW (fun j=>j≠k) ps) fun a b h=>CP.mpr h⟩;rw[this]
theorem Ml {ps:List (Str×Str)} {xs:List Str} {e:Str×Str} {k:Nat} (hk:ps[k]? = some e) (hx:e.2∈xs) (hps:∀e∈ps,e.1∈xs∧e.2∈xs) (hb:¬e.1∈eY ps xs k e.2) {j:Nat} {d:Str×Str} (hj:ps[j]? = some d) :
    ((d.1∈eY ps xs k e.2)↔(d.2∈eY ps xs k e.2))↔j≠k:=by
  obtain⟨m1,m2⟩:=hps d (List.mem_of_getElem? hj);constructor
  ·intro h z;subst z;rw[hk] at hj;cases hj;exact hb (h.mpr (j6.mpr ⟨hx,.refl _⟩))
  ·intro h;rw[j6,j6];exact⟨fun⟨_,q⟩=>⟨m2,.tail q ⟨j,h,.inl hj⟩⟩,fun⟨_,q⟩=>⟨m1,.tail q ⟨j,h,.inr hj⟩⟩⟩
def rC (c:List Str) (e:Str×Str) (k:Nat):List Nat:=if (e.1∈c↔e.2∈c) then [] else [k]
def zu (c:List Str) (ps:List (Str×Str)):List Nat:=lW (rC c) ps 0
theorem PJ (c:List Str) (e:Str×Str) (k:Nat):(rC c e k).length≤1:=by
  unfold rC;split <;> simp
def zx (H:Hp) (v:V) (z:Addr×Nat×List Str):Prop:=∃t,v = .ref t∧H t=some (.tup [.int z.2.1,.ref z.1])∧H z.1=some (.lst (z.2.2.map V.str))
theorem zx.same {H H':Hp} {vs:List V} {zs:List (Addr×Nat×List Str)} (h:bJ zx H vs zs) (k:Same H H'):bJ zx H' vs zs:=bJ.keep h fun v s ⟨t,e,q,r⟩=>⟨t,e,k _ _ q,k _ _ r⟩
theorem zx.there {H:Hp} {vs:List V} {zs:List (Addr×Nat×List Str)} (h:bJ zx H vs zs):∀z∈zs,H z.1=some (.lst (z.2.2.map V.str)):=fun z hz=>by
  obtain⟨i,hi⟩:=List.mem_iff_getElem?.mp hz;have hl:i<vs.length:=by rw[h.1];exact(List.getElem?_eq_some_iff.mp hi).1
  obtain⟨t,_,_,r⟩:=h.2 i vs[i] z (by simp[hl]) hi;exact r
end L2
set_option maxHeartbeats 4000000
namespace L2
open PySem PySem.Spec PyProof.Rows
section
variable {prog:Program} {w:World} {A:Around} {E:Value→Shared→Prop} {s:Shared}
end
structure Nm3 (mg:Str→Option Value):Prop where
  sum:mg "sum" = none
theorem CV:∀{ys:List Str} {us:List Value},Vals (ys.map V.str) us→StrsAre us ys
  | [],_,r=>by rw[List.map_nil] at r;cases r;exact .nil
  | y::ys,_,r=>by
    rw[List.map_cons] at r;cases r with
    | cons h t=>
      obtain⟨k,rfl⟩:=h;exact .cons y k (CV t)
section
variable {X:Cx} {K:W.Frag}
def rJoin:V→List V→Hp→VK→Prop:=fun x xs H Q=>∃(sep:Str) (l:Addr) (ys:List Str),x = .str sep∧xs=[.ref l]∧H l=some (.lst (ys.map V.str))∧(ys.map (·.length)).sum+ys.length * sep.length≤16777216∧Q (.str (Txt.join sep ys)) H
theorem qaG:K4 X "str.join" rJoin:=by
  intro p_ s σ H x xs v us Q I rx rs q;obtain⟨sep,l,ys,rfl,rfl,hl,hz,q⟩:=q;obtain⟨u,rfl,ru⟩:=rs.one;obtain rfl:u=Value.ref l:=ru;obtain⟨t,rfl⟩:=rx;obtain⟨its,rv,pl,hz1⟩:=I.list (aY.of hl);exact join_list pl.isList (by simpa using CV rv) hz fun t' k=>⟨.str _,H,I.tok _,⟨t',rfl⟩,q⟩
theorem qlS (hK:X.K=K):SlR X (qan K):=by subst hK;exact qao
@[simp ↓] theorem qkH (K:W.Frag) x lo hi H Q:qan K x lo hi H Q=(∃a xs,x = .ref a∧aY K H a xs∧∀p,H p=none→Q (.ref p) (upd H p (.lst (qF xs lo hi)))):=rfl
theorem HB:∀(xs:List Str) (a:Array Nat),(xs.foldl (fun acc p=>acc++(Str.ofString "").cps++p.cps) a).toList=a.toList++xs.flatMap (·.cps.toList)
  | [],a=>by simp
  | x::xs,a=>by
    rw[List.foldl_cons,HB xs];rw[show(Str.ofString "").cps = #[] from rfl,Array.append_empty];simp
theorem Uh (ys:List Str):(Txt.join (Str.ofString "") ys).cps.toList=ys.flatMap (·.cps.toList):=by
  cases ys with
  | nil=>rfl
  | cons x xs=>
    show(List.foldl _ x.cps xs).toList=_;exact(HB xs x.cps).trans (by simp)
theorem tY:∀(ys:List Str),(∀y∈ys,∃n,n<26∧y=⟨#[97+n]⟩)→(ys.flatMap (·.cps.toList)).length=ys.length∧(ys.flatMap (·.cps.toList)).all Z2=true∧(ys.map (·.length)).sum=ys.length
  | [],_=>by simp
  | y::ys,h=>by
    obtain⟨n,hn,rfl⟩:=h y (List.mem_cons_self ..);obtain⟨h1,h2,h3⟩:=tY ys fun z hz=>h z (List.mem_cons_of_mem _ hz);refine⟨by simp only[List.flatMap_cons,List.length_append,List.length_cons,h1];simp;omega,by rw[List.flatMap_cons,List.all_append,h2];simp[Xb n hn],?_⟩;rw[List.map_cons,List.sum_cons,h3,List.length_cons];show 1+_=_;omega
theorem rm.glue {c k:Nat} {x:Str} (h:rm c k x) (hk:0<k) {ys:List Str} (hy:∀y∈ys,∃n,n<26∧y=⟨#[97+n]⟩):rm c (k+ys.length) (x++Txt.join (Str.ofString "") ys):=by
  obtain⟨h1,h2,h3⟩:=h;obtain⟨y1,y2,_⟩:=tY ys hy;have e:=Uh ys;have hs:x.cps.size=k:=h1;refine⟨?_,?_,?_⟩
  ·show(x.cps++(Txt.join (Str.ofString "") ys).cps).size=_;rw[Array.size_append,hs,← Array.length_toList,e,y1]
  ·show(x.cps++(Txt.join (Str.ofString "") ys).cps)[0]? = _;rw[Array.getElem?_append_left (by omega)];exact h2
  ·show(x.cps++(Txt.join (Str.ofString "") ys).cps).toList.all Z2=true;rw[Array.toList_append,List.all_append,h3,e,y2];rfl
end
section
variable {K:W.Frag} {l1 l2:Addr} {g:TG} {tb:TS} {D:Ends} {d:qaE g tb D} {σ:St} {H:Hp}
theorem frZ (xs ys:List V) (Pv:Nat→St→Hp→Prop) (h0:Pv 0 σ H) (he:xs.length=ys.length) (hl:∀i σ H,i≤xs.length→Pv i σ H→aY K H l1 xs∧aY K H l2 ys)
    (hs:∀i x y t σ H,xs[i]? = some x→ys[i]? = some y→H t=none→Pv i σ H→g (.ref t) σ (upd H t (.tup [x,y])) fun σ2 H2=>tb {D with nx:=Pv (i+1),ct:=Pv (i+1),bk:=D.nx} σ2 H2) (hd:∀σ H,Pv xs.length σ H→D.nx σ H):tFr (Itz K l1 l2) g tb D d σ H:=by
  refine⟨fun i m σ H=>m=xs.length - i∧i≤xs.length∧Pv i σ H,⟨xs.length,by simp,Nat.zero_le _,h0⟩,?_⟩;rintro i m σ H ⟨rfl,hi,p⟩;obtain⟨q1,q2⟩:=hl i σ H hi p
  by_cases hlt:i<xs.length
  · have hlt2:i<ys.length:=by omega
    refine .inr ⟨⟨xs,ys,xs[i],ys[i],q1,q2,by simp[hlt],by simp[hlt2]⟩,Pv (i+1),fun σ' H' p'=>⟨xs.length - (i+1),by omega,rfl,hlt,p'⟩,fun x H' y=>?_⟩;obtain⟨t,u,v,rfl,ht,rfl,e1,e2⟩:=y;exact hs i u v t σ H (e1 xs q1) (e2 ys q2) ht p
  · have e:i=xs.length:=by omega
    subst e;exact .inl ⟨⟨xs,ys,q1,q2,.inl (Nat.le_refl _)⟩,hd σ H p⟩
end
def fY (ns:List Int):List PyData:=ns.map PyData.int
theorem mO {K:W.Frag} {H:Hp}:∀ns:List Int,sV K H (fY ns) (ns.map V.int)
  | []=>rfl
  | n::ns=>⟨_,_,rfl,rfl,mO ns⟩
theorem lay_ints:∀ns:List Int,PyData.canLayAll0 (fY ns)=true
  | []=>by simp[fY,PyData.canLayAll0]
  | x::xs=>by
    have:=lay_ints xs;simp[fY] at this;simp[fY,PyData.canLayAll0,PyData.canLay0,this]
theorem CW:∀xs:List Int,PyData.depthAll (fY xs)≤1
  | []=>by simp[fY,PyData.depthAll]
  | x::xs=>by
    have:=CW xs;simp[fY] at this;simp[fY,PyData.depthAll,PyData.depth,this]
theorem Mp:∀a b:List Int,PyData.eqvAll (fY a) (fY b)=decide (a=b)
  | [],[]=>rfl
  | [],y::b=>by simp[fY,PyData.eqvAll]
  | x::a,[]=>by simp[fY,PyData.eqvAll]
  | x::a,y::b=>by
    show(PyData.eqv (.int x) (.int y) && PyData.eqvAll (fY a) (fY b))=_;rw[Mp a b,Bool.eq_iff_iff];simp[PyData.eqv]
section
variable {X:Cx} {K:W.Frag}
def qbM (K:W.Frag):List V→Hp→VK→Prop:=fun xs H Q=>∃(v:V) (d:PyData),xs=[v]∧Is K H d v∧d.showable=true∧d.hasDict=false∧d.depth≤32∧d.shown.length≤sizeLine∧Q (.str d.shown) H
theorem boot_repr:bootBuiltins "repr" = some (.builtin "repr"):=by decide+kernel
theorem PK (hK:X.K=K) (hg:X.A.guards=some []) (hu:X.A.units+64<cLine):cJ X (.builtin "repr") (qbM K):=by
  subst hK;intro p_ s σ H xs us Q I r h;obtain⟨v,d,rfl,hi,hs,hnd,hd,hz,q⟩:=h;obtain⟨u,rfl,ru⟩:=r.one;have Xp:∀a:Addr,u = .ref a→wpAny (model X.prog X.w) X.A (call (.builtin "repr") [u]) (EP X p_ σ Q) X.xe s:=by
    rintro a rfl;obtain⟨as,rd⟩:=Is.reads I d v (.ref a) hi ru;exact repr_of_reads' (h₀:=s.heap) rd hs (PyData.noDict_hsm hnd) hg (by omega) (fun _ _ e=>e) (fun h' u tk hk=>⟨.str _,H,I.kept (t':=tk) hk,⟨u,rfl⟩,q⟩) hz
  cases d with
  | none=>
    simp only[Is] at hi;subst hi;cases ru;exact PySem.P.repr_of_none ⟨.str _,H,I.tok _,⟨_,rfl⟩,by simpa only[PyData.shown] using q⟩
  | bool b=>
    simp only[Is] at hi;subst hi;cases ru;exact PySem.P.repr_of_bool ⟨.str _,H,I.tok _,⟨_,rfl⟩,by simpa only[PyData.shown] using q⟩
  | int i=>
    simp only[Is] at hi;subst hi;obtain⟨t,rfl⟩:=ru;exact PySem.P.repr_of_int (by simpa [PyData.showable] using hs) ⟨.str _,H,I.tok _,⟨_,rfl⟩,by simpa only[PyData.shown] using q⟩
  | str x=>
    simp only[Is] at hi;subst hi;obtain⟨t,rfl⟩:=ru;exact PySem.P.repr_of_str ⟨.str _,H,I.tok _,⟨_,rfl⟩,by simpa only[PyData.shown] using q⟩ (by simpa only[PyData.shown] using hz)
  | list ds=>simp only[Is] at hi;obtain⟨a,_,rfl,_⟩:=id hi;exact Xp a (by cases ru;rfl)
  | tuple ds=>simp only[Is] at hi;obtain⟨a,_,rfl,_⟩:=id hi;exact Xp a (by cases ru;rfl)
  | dict kvs=>simp only[Is] at hi
end
theorem Ah:∀(ts:List Str) (k:Nat) (acc:Str),(textFrom k acc ts).length≤acc.length+(ts.map fun t=>t.length+2).sum
  | [],k,acc=>by simp[textFrom]
  | t::r,k,acc=>by
    have h:=Ah r (k+1) (acc++(if k > 0 then ", " else "" : String)++t)
    have e:(acc++(if k > 0 then ", " else "" : String)++t).length≤acc.length+2+t.length:=by
      rw[strLen_append,strLen_append];have:(Str.ofString (if k > 0 then ", " else "")).length≤2:=by split <;> decide
      omega
    show(textFrom (k+1) _ r).length≤_;rw[List.map_cons,List.sum_cons];omega
theorem Mq (ts:List Str):(listText ts).length≤2+(ts.map fun t=>t.length+2).sum:=by
  unfold listText;rw[strLen_append];have:=Ah ts 0 "[";have e1:(Str.ofString "[").length=1:=rfl;have e2:(Str.ofString "]").length=1:=rfl;omega
theorem Ui {x:Str} (h:nameB x=true):(reprText x).length≤42:=by
  have h4:x.length≤4:=by
    unfold nameB at h;simp at h;omega
  have:=StrLaws.reprText_len x (fun c hc=>by
    unfold nameB at h;simp only[Bool.and_eq_true] at h;have:=Xl (List.all_eq_true.mp h.2 c (by simpa using hc));have:(16:Nat) ^ 8=4294967296:=by decide
    omega)
  omega
def isInt (x:V) (R:Int→Prop):Prop:=match x with | .int i=>R i | _=>False
def isStr (x:V) (R:Str→Prop):Prop:=match x with | .str i=>R i | _=>False
def sZ (x:V) (R:Bool→Prop):Prop:=match x with | .bl i=>R i | _=>False
def isRef (x:V) (R:Addr→Prop):Prop:=match x with | .ref i=>R i | _=>False
def Uj (x:V) (R:String→Prop):Prop:=match x with | .ty n=>R n | _=>False
def ar0 (xs:List V) (R:Prop):Prop:=match xs with | []=>R | _=>False
def ar1 (xs:List V) (R:V→Prop):Prop:=match xs with | [x]=>R x | _=>False
def ar2 (xs:List V) (R:V→V→Prop):Prop:=match xs with | [x,y]=>R x y | _=>False
def arH (xs:List V) (R:V→List V→Prop):Prop:=match xs with | x::r=>R x r | []=>False
def getSt:St→Nat→(V→Prop)→Prop
  | [],_,_=>False
  | o::_,0,R=>match o with | some v=>R v | none=>False
  | _::σ,n+1,R=>getSt σ n R
@[simp ↓] theorem qkI (i:Int) R:isInt (.int i) R=R i:=rfl
@[simp ↓] theorem qkJ (i:Str) R:isStr (.str i) R=R i:=rfl
@[simp ↓] theorem qlT (i:Bool) R:sZ (.bl i) R=R i:=rfl
@[simp ↓] theorem qkK (i:Addr) R:isRef (.ref i) R=R i:=rfl
@[simp ↓] theorem qlU (i:String) R:Uj (.ty i) R=R i:=rfl
@[simp ↓] theorem qpa R:ar0 [] R=R:=rfl
@[simp ↓] theorem qpb x R:ar1 [x] R=R x:=rfl
@[simp ↓] theorem qpc x y R:ar2 [x,y] R=R x y:=rfl
@[simp ↓] theorem qpd x r R:arH (x::r) R=R x r:=rfl
@[simp ↓] theorem qkL v σ R:getSt (some v::σ) 0 R=R v:=rfl
@[simp ↓] theorem qkM o σ n R:getSt (o::σ) (n+1) R=getSt σ n R:=rfl
theorem isInt.out {x:V} {R} (h:isInt x R):∃i,x = .int i∧R i:=by cases x <;> first | exact⟨_,rfl,h⟩ | exact h.elim
theorem isStr.out {x:V} {R} (h:isStr x R):∃i,x = .str i∧R i:=by cases x <;> first | exact⟨_,rfl,h⟩ | exact h.elim
theorem sZ.out {x:V} {R} (h:sZ x R):∃i,x = .bl i∧R i:=by cases x <;> first | exact⟨_,rfl,h⟩ | exact h.elim
theorem isRef.out {x:V} {R} (h:isRef x R):∃i,x = .ref i∧R i:=by cases x <;> first | exact⟨_,rfl,h⟩ | exact h.elim
theorem Uj.out {x:V} {R} (h:Uj x R):∃i,x = .ty i∧R i:=by cases x <;> first | exact⟨_,rfl,h⟩ | exact h.elim
theorem ar0.out {xs:List V} {R} (h:ar0 xs R):xs=[]∧R:=by cases xs <;> first | exact⟨rfl,h⟩ | exact h.elim
theorem ar1.out {xs:List V} {R} (h:ar1 xs R):∃x,xs=[x]∧R x:=by
  match xs,h with
  | [x],h=>exact⟨x,rfl,h⟩
theorem ar2.out {xs:List V} {R} (h:ar2 xs R):∃x y,xs=[x,y]∧R x y:=by
  match xs,h with
  | [x,y],h=>exact⟨x,y,rfl,h⟩
theorem arH.out {xs:List V} {R} (h:arH xs R):∃x r,xs=x::r∧R x r:=by cases xs <;> first | exact⟨_,_,rfl,h⟩ | exact h.elim
theorem getSt.out:∀{σ:St} {i:Nat} {R},getSt σ i R→∃v,σ[i]? = some (some v)∧R v
  | [],_,_,h=>h.elim
  | some v::_,0,_,h=>⟨v,rfl,h⟩
  | none::_,0,_,h=>h.elim
  | _::σ,n+1,R,h=>by
    obtain⟨v,e,q⟩:=getSt.out (σ:=σ) (i:=n) h;exact⟨v,by simpa using e,q⟩
section
variable {X:Cx}
theorem PE.mono {e:Expr} {t t':TE} (o:PE X e t) (h:∀{σ H Q},t' σ H Q→t σ H Q):PE X e t':=fun p_ s σ H Q I q=>o p_ s σ H Q I (h q)
theorem PS.mono {e:Stmt} {t t':TS} (o:PS X e t) (h:∀{D σ H},t' D σ H→t D σ H):PS X e t':=fun p_ s σ H D I q=>o p_ s σ H D I (h q)
theorem eX.mono {e:List Expr} {t t':Gs} (o:eX X e t) (h:∀{v σ H Q},t' v σ H Q→t v σ H Q):eX X e t':=fun p_ s σ H v u Q I r q=>o p_ s σ H v u Q I r (h q)
theorem jP.mono {f:Value→Value→Sem Value} {r r':R2} (o:jP X f r) (h:∀{x y H Q},r' x y H Q→r x y H Q):jP X f r':=fun p_ s σ H x y v u Q I rx ry q=>o p_ s σ H x y v u Q I rx ry (h q)
theorem UnR.mono {f:Value→Sem Value} {r r':V→Hp→VK→Prop} (o:UnR X f r) (h:∀{x H Q},r' x H Q→r x H Q):UnR X f r':=fun p_ s σ H x v Q I rx q=>o p_ s σ H x v Q I rx (h q)
theorem cJ.mono {f:Value} {r r':List V→Hp→VK→Prop} (o:cJ X f r) (h:∀{x H Q},r' x H Q→r x H Q):cJ X f r':=fun p_ s σ H x v Q I rx q=>o p_ s σ H x v Q I rx (h q)
theorem K4.mono {f:String} {r r':V→List V→Hp→VK→Prop} (o:K4 X f r) (h:∀{x y H Q},r' x y H Q→r x y H Q):K4 X f r':=fun p_ s σ H x y v u Q I rx ry q=>o p_ s σ H x y v u Q I rx ry (h q)
theorem WL.mono {r r':R2} (o:WL X r) (h:∀{x y H Q},r' x y H Q→r x y H Q):WL X r':=fun a b p_ s σ H x y v u Q I rx ry q z=>o a b p_ s σ H x y v u Q I rx ry (h q) z
theorem SlR.mono {r r':V→Option Int→Option Int→Hp→VK→Prop} (o:SlR X r) (h:∀{x lo hi H Q},r' x lo hi H Q→r x lo hi H Q):SlR X r':=fun p_ s σ H x v vl vu lo hi sl Q I rx z1 z2 z3 q=>o p_ s σ H x v vl vu lo hi sl Q I rx z1 z2 z3 (h q)
theorem PIp.mono {op:Operator} {r r':TIp} (o:PIp X op r) (h:∀{x y H Q},r' x y H Q→r x y H Q):PIp X op r':=fun p_ s σ H x y v u Q I rx ry q=>o p_ s σ H x y v u Q I rx ry (h q)
theorem Tc.mono {r r':S_} (o:Tc X r) (h:∀{x y z H Q},r' x y z H Q→r x y z H Q):Tc X r':=fun p_ s σ H o' i v ov iv u Q I a b c q=>o p_ s σ H o' i v ov iv u Q I a b c (h q)
end
def fVar (i:Nat):TE:=fun σ H Q=>getSt σ i fun v=>Q v H
@[simp ↓] theorem qlV (i:Nat) σ H Q:fVar i σ H Q=getSt σ i (fun v=>Q v H):=rfl
theorem qda {i:Nat} {σ H Q} (h:fVar i σ H Q):qco i σ H Q:=getSt.out h
def nA:List Str→List V→St
  | _::N,v::vs=>some v::nA N vs
  | _::N,[]=>none::nA N []
  | [],_=>[]
@[simp ↓] theorem qe1 n N v vs:nA (n::N) (v::vs)=some v::nA N vs:=rfl
@[simp ↓] theorem qe2 n N:nA (n::N) []=none::nA N []:=rfl
@[simp ↓] theorem qfT vs:nA [] vs=[]:=by cases vs <;> rfl
theorem uK:∀(N:List Str) (vs:List V),vs.length≤N.length→nA N vs=start N vs
  | [],[],_=>rfl
  | [],_::_,h=>by simp at h
  | n::N,[],_=>by
    rw[nA,uK N [] (by simp)];simp[start,List.replicate_succ]
  | n::N,v::vs,h=>by
    rw[nA,uK N vs (by simpa using h)];simp[start]
def V8 (g:Int→Int→V):R2:=fun x y H Q=>isInt x fun i=>isInt y fun j=>Q (g i j) H
def fI (C:Int→Int→Prop) (g:Int→Int→V):R2:=fun x y H Q=>isInt x fun i=>isInt y fun j=>C i j∧Q (g i j) H
def fU (g:Int→V):V→Hp→VK→Prop:=fun x H Q=>isInt x fun i=>Q (g i) H
@[simp ↓] theorem qpe g x y H Q:V8 g x y H Q=(isInt x fun i=>isInt y fun j=>Q (g i j) H):=rfl
@[simp ↓] theorem qpK C g x y H Q:fI C g x y H Q=(isInt x fun i=>isInt y fun j=>C i j∧Q (g i j) H):=rfl
@[simp ↓] theorem qpL g x H Q:fU g x H Q=(isInt x fun i=>Q (g i) H):=rfl
theorem Mr {g:Int→Int→V} {x y H Q} (h:V8 g x y H Q):rI0 g x y H Q:=by
  obtain⟨i,rfl,h1⟩:=isInt.out h;obtain⟨j,rfl,h2⟩:=isInt.out h1;exact⟨i,j,rfl,rfl,h2⟩
theorem qaH {C} {g:Int→Int→V} {x y H Q} (h:fI C g x y H Q):rI C g x y H Q:=by
  obtain⟨i,rfl,h1⟩:=isInt.out h;obtain⟨j,rfl,h2⟩:=isInt.out h1;exact⟨i,j,rfl,rfl,h2⟩
theorem qlW {g:Int→V} {x H Q} (h:fU g x H Q):rU g x H Q:=by
  obtain⟨i,rfl,h⟩:=isInt.out h;exact⟨i,rfl,h⟩
def fEq:R2:=fun x y H Q=>match x,y with
  | .int i,.int j=>Q (.bl (decide (i=j))) H
  | .str i,.str j=>Q (.bl (decide (i=j))) H
  | .bl i,.bl j=>Q (.bl (decide (i=j))) H
  | x,y=>Az x y=true∧Q (.bl (decide (x=y))) H
def fNe:R2:=fun x y H Q=>match x,y with
  | .int i,.int j=>∃k,decide (i=j) = !k∧Q (.bl k) H
  | .str i,.str j=>∃k,decide (i=j) = !k∧Q (.bl k) H
  | .bl i,.bl j=>∃k,decide (i=j) = !k∧Q (.bl k) H
  | x,y=>Az x y=true∧∃k,decide (x=y) = !k∧Q (.bl k) H
@[simp ↓] theorem qpf i j H Q:fEq (.int i) (.int j) H Q=Q (.bl (decide (i=j))) H:=rfl
@[simp ↓] theorem qpg i j H Q:fEq (.str i) (.str j) H Q=Q (.bl (decide (i=j))) H:=rfl
@[simp ↓] theorem qph i j H Q:fEq (.bl i) (.bl j) H Q=Q (.bl (decide (i=j))) H:=rfl
@[simp ↓] theorem qpi i j H Q:fNe (.int i) (.int j) H Q=∃k,decide (i=j) = !k∧Q (.bl k) H:=rfl
@[simp ↓] theorem qpj i j H Q:fNe (.str i) (.str j) H Q=∃k,decide (i=j) = !k∧Q (.bl k) H:=rfl
@[simp ↓] theorem qpk i j H Q:fNe (.bl i) (.bl j) H Q=∃k,decide (i=j) = !k∧Q (.bl k) H:=rfl
theorem CZ {b:Bool} {R:Bool→Prop} (h:∃k,b = !k∧R k):R (!b):=by
  obtain⟨k,e,q⟩:=h;rw[e,Bool.not_not];exact q
theorem qfU {x y H Q} (h:fEq x y H Q):rEq x y H Q:=by
  unfold fEq at h;split at h
  ·exact⟨rfl,by simpa using h⟩
  ·exact⟨rfl,by simpa using h⟩
  ·exact⟨rfl,by simpa using h⟩
  ·exact h
theorem qfV {x y H Q} (h:fNe x y H Q):rNe x y H Q:=by
  unfold fNe at h;split at h
  ·exact⟨rfl,by simpa using CZ (R:=fun k=>Q (.bl k) H) h⟩
  ·exact⟨rfl,by simpa using CZ (R:=fun k=>Q (.bl k) H) h⟩
  ·exact⟨rfl,by simpa using CZ (R:=fun k=>Q (.bl k) H) h⟩
  ·exact⟨h.1,CZ (R:=fun k=>Q (.bl k) H) h.2⟩
def Xq:R2:=fun x y H Q=>isStr x fun i=>isStr y fun j=>i.length+j.length≤sizeLine∧Q (.str (i++j)) H
@[simp ↓] theorem qkN x y H Q:Xq x y H Q=(isStr x fun i=>isStr y fun j=>i.length+j.length≤sizeLine∧Q (.str (i++j)) H):=rfl
theorem qaI {x y H Q} (h:Xq x y H Q):qfz x y H Q:=by
  obtain⟨i,rfl,h1⟩:=isStr.out h;obtain⟨j,rfl,h2⟩:=isStr.out h1;exact⟨i,j,rfl,rfl,h2⟩
def qdb:R2:=fun x y H Q=>isRef x fun l=>isRef y fun b=>∃xs,H l=some (.lst xs)∧∃zs,H b=some (.lst zs)∧xs.length+zs.length≤sizeLine∧∀p,H p=none→Q (.ref p) (upd H p (.lst (xs++zs)))
@[simp ↓] theorem qlX x y H Q:qdb x y H Q=(isRef x fun l=>isRef y fun b=>∃xs,H l=some (.lst xs)∧∃zs,H b=some (.lst zs)∧xs.length+zs.length≤sizeLine∧∀p,H p=none→Q (.ref p) (upd H p (.lst (xs++zs)))):=rfl
theorem qdc {x y H Q} (h:qdb x y H Q):qfu x y H Q:=by
  obtain⟨i,rfl,h0⟩:=isRef.out h;obtain⟨j,rfl,xs,h1,zs,h2,h3⟩:=isRef.out h0;exact⟨i,j,xs,zs,rfl,rfl,h1,h2,h3⟩
def qfW:R2:=fun x y H Q=>isRef x fun l=>isInt y fun k=>∃xs,H l=some (.lst xs)∧-(2 ^ 63)≤k∧k<2 ^ 63∧xs.length * k.toNat≤sizeLine∧∀p,H p=none→Q (.ref p) (upd H p (.lst (List.replicate k.toNat xs).flatten))
def qH (t:TE):TT:=fun σ H Q=>t σ H fun x H'=>sZ x fun k=>Q k H'
@[simp ↓] theorem qkO (t:TE) σ H Q:qH t σ H Q=(t σ H fun x H'=>sZ x fun k=>Q k H'):=rfl
def Xr (ta:TE):TE:=fun σ H Q=>ta σ H fun x H1=>sZ x fun c=>Q (.bl (!c)) H1
@[simp ↓] theorem qkP (ta:TE) σ H Q:Xr ta σ H Q=(ta σ H fun x H1=>sZ x fun c=>Q (.bl (!c)) H1):=rfl
def Xu (ta tb:TE):TE:=fun σ H Q=>ta σ H fun x H1=>sZ x fun c=>dz c (tb σ H1 Q) (Q (.bl false) H1) ⟨0⟩
@[simp ↓] theorem qkQ (ta tb:TE) σ H Q:Xu ta tb σ H Q=(ta σ H fun x H1=>sZ x fun c=>dz c (tb σ H1 Q) (Q (.bl false) H1) ⟨0⟩):=rfl
def JF (r r':R2) (ta tb tc:TE):TE:=fun σ H Q=>ta σ H fun x H1=>tb σ H1 fun y H2=>r x y H2 fun z H3=>sZ z fun k=>dz k (tc σ H3 fun w' H4=>r' y w' H4 Q) (Q (.bl false) H3) ⟨0⟩
@[simp ↓] theorem qfX (r r':R2) (ta tb tc:TE) σ H Q:JF r r' ta tb tc σ H Q=(ta σ H fun x H1=>tb σ H1 fun y H2=>r x y H2 fun z H3=>sZ z fun k=>dz k (tc σ H3 fun w' H4=>r' y w' H4 Q) (Q (.bl false) H3) ⟨0⟩):=rfl
section
variable {X:Cx} {K:W.Frag} {a b c:Expr} {ta tb tc:TE} {tA:TT} {pos:Pos}
theorem aH (i:Nat) {x:Str} {pos:Pos} (hN:X.N[i]? = some x:=by rfl) (hv:Vis X.env.scope x:=by first | exact Or.inl rfl | exact Or.inr (Or.inl rfl) | exact Or.inr (Or.inr rfl)) (hd:(x == ("__debug__" : Str))=false:=by decide)
    (hcd:(x == ("__classdict__" : Str))=false:=by decide):PE X (.Name x pos) (fVar i):=(qcp hN hv hd hcd).mono qda
theorem fj:jP X (binaryOp .Add) (V8 fun i j=>.int (i+j)):=qcB.mono Mr
theorem xT:jP X (binaryOp .Sub) (V8 fun i j=>.int (i - j)):=qcC.mono Mr
theorem tZ:jP X (compareOp .Lt) (V8 fun i j=>.bl (decide (i<j))):=qfn.mono Mr
theorem C_:jP X (compareOp .LtE) (V8 fun i j=>.bl (decide (i≤j))):=qfo.mono Mr
theorem t_:jP X (compareOp .Gt) (V8 fun i j=>.bl (decide (j<i))):=qfp.mono Mr
theorem g_:jP X (compareOp .Eq) fEq:=qfl.mono qfU
theorem kW:jP X (compareOp .NotEq) fNe:=qfm.mono qfV
theorem Ms:jP X (binaryOp .Add) Xq:=O1.mono qaI
theorem pC:jP X (binaryOp .Add) qdb:=qcR.mono qdc
theorem Br:UnR X (unaryOp .USub) (fU fun i=>.int (-i)):=qcG.mono qlW
theorem xU (x:V) (R:Bool→Prop):sZ x R=(∃k,x = .bl k∧R k):=propext ⟨sZ.out,fun⟨k,e,q⟩=>by subst e;exact q⟩
theorem Xv (x:V) (R:Int→Prop):isInt x R=(∃k,x = .int k∧R k):=propext ⟨isInt.out,fun⟨k,e,q⟩=>by subst e;exact q⟩
theorem Mt (x:V) (R:Addr→Prop):isRef x R=(∃k,x = .ref k∧R k):=propext ⟨isRef.out,fun⟨k,e,q⟩=>by subst e;exact q⟩
theorem Xw (x:V) (R:Str→Prop):isStr x R=(∃k,x = .str k∧R k):=propext ⟨isStr.out,fun⟨k,e,q⟩=>by subst e;exact q⟩
theorem qdd (x:List V) (R:V→List V→Prop):arH x R=(∃k j,x=k::j∧R k j):=propext ⟨arH.out,fun⟨k,j,e,q⟩=>by subst e;exact q⟩
theorem Mu (t:TE):qH t=Rj t:=by
  funext σ H Q
  exact congrArg (t σ H) (funext fun x=>funext fun H'=>xU _ _)
theorem qbN (t:TE):qH t=tB t:=by
  funext σ H Q
  exact congrArg (t σ H) (funext fun x=>funext fun H'=>xU _ _)
theorem Xx (t:TE):Xr t=Wf t:=by
  funext σ H Q
  exact congrArg (t σ H) (funext fun x=>funext fun H'=>xU _ _)
theorem Xy (t u:TE):Xu t u=Wd t u:=by
  funext σ H Q
  exact congrArg (t σ H) (funext fun x=>funext fun H'=>xU _ _)
theorem HD (r r':R2) (ta tb tc:TE):JF r r' ta tb tc=Jg r r' ta tb tc:=by
  funext σ H Q
  exact congrArg (ta σ H) (funext fun x=>funext fun H1=>congrArg (tb σ H1) (funext fun y=>funext fun H2=>congrArg (r x y H2) (funext fun z=>funext fun H3=>xU _ _)))
theorem aZ {op:CmpOp} {r:R2} (ho:jP X (compareOp op) r) (ha:PE X a ta) (hb:PE X b tb) (hm:behindInMarks op b=false):PT X (.Compare a [op] [b] pos) (qH (V6 r ta tb)):=Mu _▸qai ho ha hb hm
theorem JG {op:CmpOp} {t:TE} (h:PC X op a b t) (h1:behindInMarks op b=false:=by first | exact Lb _ (by decide) (by decide) | rfl):PT X (.Compare a [op] [b] pos) (qH t):=qbN _▸qcq h h1
theorem cH {e:Expr} {t:TE} (h:PE X e t) (he:∀whole,isTrue e X.env whole=(do let v ← whole;standAt e.pos;holding [v] (truthy v)):=by intro _;rfl):PT X e (qH t):=qbN _▸qcr h he
theorem HF {op op':CmpOp} {r r':R2} (ho:jP X (compareOp op) r) (ho':jP X (compareOp op') r') (ha:PE X a ta) (hb:PE X b tb) (hc:PE X c tc)
    (hm:lastMarks [op,op'] [b,c]=false:=by with_unfolding_all rfl):PE X (.Compare a [op,op'] [b,c] pos) (JF r r' ta tb tc):=HD _ _ _ _ _▸Wq ho ho' ha hb hc hm
theorem HJ {op op':CmpOp} {r r':R2} (ho:jP X (compareOp op) r) (ho':jP X (compareOp op') r') (ha:PE X a ta) (hb:PE X b tb) (hc:PE X c tc)
    (hm:lastMarks [op,op'] [b,c]=false:=by with_unfolding_all rfl):PT X (.Compare a [op,op'] [b,c] pos) (qH (JF r r' ta tb tc)):=by
  rw[Mu,HD];exact Wr ho ho' ha hb hc hm
theorem JH (ha:PE X a ta):PE X (.UnaryOp .Not a pos) (Xr ta):=Xx _▸qct ha
theorem f9 {rest:List Expr} (ha:PE X a ta) (hb:PE X (.BoolOp .And (b::rest) pos) tb):PE X (.BoolOp .And (a::b::rest) pos) (Xu ta tb):=Xy _ _▸qcs ha hb
end
def qde (K:W.Frag):R2:=fun x y H Q=>isRef x fun p=>isInt y fun i=>∃xs,(aY K H p xs∨cM K H p xs)∧∃v,xG xs i=some v∧Q v H
@[simp ↓] theorem qlY (K:W.Frag) x y H Q:qde K x y H Q=(isRef x fun p=>isInt y fun i=>∃xs,(aY K H p xs∨cM K H p xs)∧∃v,xG xs i=some v∧Q v H):=rfl
theorem qdf {K:W.Frag} {x y H Q} (h:qde K x y H Q):qcZ K x y H Q:=by
  obtain⟨p,rfl,h1⟩:=isRef.out h;obtain⟨i,rfl,xs,h2,v,h3,h4⟩:=isInt.out h1;exact⟨p,xs,i,v,rfl,rfl,h2,h3,h4⟩
def qdg  : R2:=fun x y H Q=>isStr x fun z=>isInt y fun i=>z.length≤sizeLine∧∃c,xG z.cps.toList i=some c∧Q (.str ⟨#[c]⟩) H
@[simp ↓] theorem qlZ  x y H Q:qdg x y H Q=(isStr x fun z=>isInt y fun i=>z.length≤sizeLine∧∃c,xG z.cps.toList i=some c∧Q (.str ⟨#[c]⟩) H):=rfl
theorem qdh  {x y H Q} (h:qdg x y H Q):qfs x y H Q:=by
  obtain⟨z,rfl,h1⟩:=isStr.out h;obtain⟨i,rfl,h2,c,h3,h4⟩:=isInt.out h1;exact⟨z,i,c,rfl,rfl,h2,h3,h4⟩
def Dc (K:W.Frag):List V→Hp→VK→Prop:=fun xs H Q=>ar1 xs fun x=>isRef x fun p=>∃ys,(aY K H p ys∨cM K H p ys)∧Q (.int ys.length) H
@[simp ↓] theorem qkR (K:W.Frag) xs H Q:Dc K xs H Q=(ar1 xs fun x=>isRef x fun p=>∃ys,(aY K H p ys∨cM K H p ys)∧Q (.int ys.length) H):=rfl
theorem qaJ {K:W.Frag} {xs H Q} (h:Dc K xs H Q):qbE K xs H Q:=by
  obtain⟨x,rfl,h1⟩:=ar1.out h;obtain⟨p,rfl,ys,h2,h3⟩:=isRef.out h1;exact⟨p,ys,rfl,h2,h3⟩
def Xz  : List V→Hp→VK→Prop:=fun xs H Q=>ar1 xs fun x=>isStr x fun z=>z.length≤sizeLine∧Q (.int z.length) H
@[simp ↓] theorem qkS  xs H Q:Xz xs H Q=(ar1 xs fun x=>isStr x fun z=>z.length≤sizeLine∧Q (.int z.length) H):=rfl
theorem qaK  {xs H Q} (h:Xz xs H Q):qbF xs H Q:=by
  obtain⟨x,rfl,h1⟩:=ar1.out h;obtain⟨p,rfl,h2⟩:=isStr.out h1;exact⟨p,rfl,h2⟩
def JK (K:W.Frag):List V→Hp→VK→Prop:=fun xs H Q=>ar1 xs fun x=>isRef x fun p=>∃ys,(aY K H p ys∨cM K H p ys)∧∀l,H l=none→Q (.ref l) (upd H l (.lst ys))
@[simp ↓] theorem qe3 (K:W.Frag) xs H Q:JK K xs H Q=(ar1 xs fun x=>isRef x fun p=>∃ys,(aY K H p ys∨cM K H p ys)∧∀l,H l=none→Q (.ref l) (upd H l (.lst ys))):=rfl
theorem Uk {K:W.Frag} {xs H Q} (h:JK K xs H Q):Rr K xs H Q:=by
  obtain⟨x,rfl,h1⟩:=ar1.out h;obtain⟨p,rfl,ys,h2,h3⟩:=isRef.out h1;exact⟨p,ys,rfl,h2,h3⟩
def JL  : List V→Hp→VK→Prop:=fun xs H Q=>ar1 xs fun x=>isRef x fun p=>∃ys,Sq H p ys∧∀l H',H' l=some (.tup ys)→Same H H'→Q (.ref l) H'
@[simp ↓] theorem qe4  xs H Q:JL xs H Q=(ar1 xs fun x=>isRef x fun p=>∃ys,Sq H p ys∧∀l H',H' l=some (.tup ys)→Same H H'→Q (.ref l) H'):=rfl
theorem Ul  {xs H Q} (h:JL xs H Q):Rt xs H Q:=by
  obtain⟨x,rfl,h1⟩:=ar1.out h;obtain⟨p,rfl,ys,h2,h3⟩:=isRef.out h1;exact⟨p,ys,rfl,h2,h3⟩
def XD (K:W.Frag):List V→Hp→VK→Prop:=fun xs H Q=>ar2 xs fun x y=>Uj y fun n=>∃t,nJ K H x t∧∃b,W.kitOne K t (.type n)=some b∧Q (.bl b) H
@[simp ↓] theorem qkT (K:W.Frag) xs H Q:XD K xs H Q=(ar2 xs fun x y=>Uj y fun n=>∃t,nJ K H x t∧∃b,W.kitOne K t (.type n)=some b∧Q (.bl b) H):=rfl
theorem qaL {K:W.Frag} {xs H Q} (h:XD K xs H Q):qbG K xs H Q:=by
  obtain⟨x,y,rfl,h1⟩:=ar2.out h;obtain⟨n,rfl,t,h2,b,h3,h4⟩:=Uj.out h1;exact⟨x,n,t,b,rfl,h2,h3,h4⟩
def XF (K:W.Frag):List V→Hp→VK→Prop:=fun xs H Q=>ar2 xs fun x y=>isRef y fun p=>∃m n,H p=some (.tup [.ty m,.ty n])∧∃t,nJ K H x t∧∃b,W.kitAny K t [.type m,.type n]=some b∧Q (.bl b) H
@[simp ↓] theorem qkU (K:W.Frag) xs H Q:XF K xs H Q=(ar2 xs fun x y=>isRef y fun p=>∃m n,H p=some (.tup [.ty m,.ty n])∧∃t,nJ K H x t∧∃b,W.kitAny K t [.type m,.type n]=some b∧Q (.bl b) H):=rfl
theorem qaM {K:W.Frag} {xs H Q} (h:XF K xs H Q):qbH K xs H Q:=by
  obtain⟨x,y,rfl,h1⟩:=ar2.out h;obtain⟨p,rfl,m,n,h0,t,h2,b,h3,h4⟩:=isRef.out h1;exact⟨x,p,m,n,t,b,rfl,h0,h2,h3,h4⟩
def fIn (K:W.Frag):R2:=fun x y H Q=>isRef y fun p=>∃xs,(aY K H p xs∨cM K H p xs)∧jZ x=true∧(∀z∈xs,jZ z=true)∧Q (.bl (inV x xs)) H
@[simp ↓] theorem qpl (K:W.Frag) x y H Q:fIn K x y H Q=(isRef y fun p=>∃xs,(aY K H p xs∨cM K H p xs)∧jZ x=true∧(∀z∈xs,jZ z=true)∧Q (.bl (inV x xs)) H):=rfl
theorem qfY {K:W.Frag} {x y H Q} (h:fIn K x y H Q):qaw K x y H Q:=by
  obtain⟨p,rfl,xs,h1,h2,h3,h4⟩:=isRef.out h;exact .inl ⟨p,xs,rfl,h1,h2,List.all_eq_true.mpr h3,h4⟩
def PL (K:W.Frag):R2:=fun x y H Q=>isRef y fun p=>∃xs,(aY K H p xs∨cM K H p xs)∧jZ x=true∧(∀z∈xs,jZ z=true)∧∃k,inV x xs = !k∧Q (.bl k) H
@[simp ↓] theorem qfZ (K:W.Frag) x y H Q:PL K x y H Q=(isRef y fun p=>∃xs,(aY K H p xs∨cM K H p xs)∧jZ x=true∧(∀z∈xs,jZ z=true)∧∃k,inV x xs = !k∧Q (.bl k) H):=rfl
theorem XH {K:W.Frag} {x y H Q} (h:PL K x y H Q):Jw K x y H Q:=by
  obtain⟨p,rfl,xs,h1,h2,h3,h4⟩:=isRef.out h;exact .inl ⟨p,xs,rfl,h1,h2,List.all_eq_true.mpr h3,CZ (R:=fun k=>Q (.bl k) H) h4⟩
def qdi (K:W.Frag):R2:=fun x y H Q=>isStr x fun i=>isStr y fun j=>Q (.bl (!(Builtin.Str.occurrences j i 0 j.length 1).isEmpty)) H
@[simp ↓] theorem ql0 (K:W.Frag) x y H Q:qdi K x y H Q=(isStr x fun i=>isStr y fun j=>Q (.bl (!(Builtin.Str.occurrences j i 0 j.length 1).isEmpty)) H):=rfl
theorem qdj {K:W.Frag} {x y H Q} (h:qdi K x y H Q):qaw K x y H Q:=by
  obtain⟨i,rfl,h1⟩:=isStr.out h;obtain⟨j,rfl,h2⟩:=isStr.out h1;exact .inr ⟨i,j,rfl,rfl,h2⟩
def JM  : V→List V→Hp→VK→Prop:=fun x vs H Q=>isRef x fun l=>ar1 vs fun y=>∃xs,H l=some (.lst xs)∧xs.length<sizeLine∧Q .non (upd H l (.lst (xs++[y])))
@[simp ↓] theorem qe5  x vs H Q:JM x vs H Q=(isRef x fun l=>ar1 vs fun y=>∃xs,H l=some (.lst xs)∧xs.length<sizeLine∧Q .non (upd H l (.lst (xs++[y])))):=rfl
theorem Um  {x vs H Q} (h:JM x vs H Q):Jp x vs H Q:=by
  obtain⟨l,rfl,h1⟩:=isRef.out h;obtain⟨y,rfl,xs,h2,h3⟩:=ar1.out h1;exact⟨l,xs,y,rfl,rfl,h2,h3⟩
def JN  : V→List V→Hp→VK→Prop:=fun x vs H Q=>isRef x fun l=>ar2 vs fun j y=>isInt j fun i=>∃xs,H l=some (.lst xs)∧0≤i∧i≤xs.length∧xs.length<sizeLine∧Q .non (upd H l (.lst (xs.take i.toNat++y::xs.drop i.toNat)))
@[simp ↓] theorem qe6  x vs H Q:JN x vs H Q=(isRef x fun l=>ar2 vs fun j y=>isInt j fun i=>∃xs,H l=some (.lst xs)∧0≤i∧i≤xs.length∧xs.length<sizeLine∧Q .non (upd H l (.lst (xs.take i.toNat++y::xs.drop i.toNat)))):=rfl
theorem Uo  {x vs H Q} (h:JN x vs H Q):Js x vs H Q:=by
  obtain⟨l,rfl,h1⟩:=isRef.out h;obtain⟨j,y,rfl,h2⟩:=ar2.out h1;obtain⟨i,rfl,xs,h3⟩:=isInt.out h2;exact⟨l,xs,i,y,rfl,rfl,h3⟩
def PN  : V→List V→Hp→VK→Prop:=fun x vs H Q=>isRef x fun l=>ar0 vs (∃xs,H l=some (.lst xs)∧Q .non (upd H l (.lst [])))
@[simp ↓] theorem qf0  x vs H Q:PN x vs H Q=(isRef x fun l=>ar0 vs (∃xs,H l=some (.lst xs)∧Q .non (upd H l (.lst [])))):=rfl
theorem XJ  {x vs H Q} (h:PN x vs H Q):Ph x vs H Q:=by
  obtain⟨l,rfl,h1⟩:=isRef.out h;obtain⟨rfl,xs,h2⟩:=ar0.out h1;exact⟨l,xs,rfl,rfl,h2⟩
def JQ  : V→List V→Hp→VK→Prop:=fun x vs H Q=>isRef x fun l=>ar1 vs fun y=>isRef y fun b=>∃xs,H l=some (.lst xs)∧∃zs,H b=some (.lst zs)∧xs.length+zs.length≤sizeLine∧Q .non (upd H l (.lst (xs++zs)))
@[simp ↓] theorem qe7  x vs H Q:JQ x vs H Q=(isRef x fun l=>ar1 vs fun y=>isRef y fun b=>∃xs,H l=some (.lst xs)∧∃zs,H b=some (.lst zs)∧xs.length+zs.length≤sizeLine∧Q .non (upd H l (.lst (xs++zs)))):=rfl
theorem Uq  {x vs H Q} (h:JQ x vs H Q):Jq x vs H Q:=by
  obtain⟨l,rfl,h1⟩:=isRef.out h;obtain⟨y,rfl,h2⟩:=ar1.out h1;obtain⟨b,rfl,xs,h3,zs,h4,h5⟩:=isRef.out h2;exact⟨l,b,xs,zs,rfl,rfl,h3,h4,h5⟩
def XM  : V→List V→Hp→VK→Prop:=fun x vs H Q=>isStr x fun sep=>ar1 vs fun y=>isRef y fun l=>∃ys:List Str,H l=some (.lst (ys.map V.str))∧(ys.map (·.length)).sum+ys.length * sep.length≤16777216∧Q (.str (Txt.join sep ys)) H
@[simp ↓] theorem qkV  x vs H Q:XM x vs H Q=(isStr x fun sep=>ar1 vs fun y=>isRef y fun l=>∃ys:List Str,H l=some (.lst (ys.map V.str))∧(ys.map (·.length)).sum+ys.length * sep.length≤16777216∧Q (.str (Txt.join sep ys)) H):=rfl
theorem qaN  {x vs H Q} (h:XM x vs H Q):rJoin x vs H Q:=by
  obtain⟨sep,rfl,h1⟩:=isStr.out h;obtain⟨y,rfl,h2⟩:=ar1.out h1;obtain⟨l,rfl,ys,h3⟩:=isRef.out h2;exact⟨sep,l,ys,rfl,rfl,h3⟩
def XQ (K:W.Frag):List V→Hp→VK→Prop:=fun xs H Q=>ar1 xs fun v=>∃d:PyData,Is K H d v∧d.showable=true∧d.hasDict=false∧d.depth≤32∧d.shown.length≤sizeLine∧Q (.str d.shown) H
@[simp ↓] theorem qkW (K:W.Frag) xs H Q:XQ K xs H Q=(ar1 xs fun v=>∃d:PyData,Is K H d v∧d.showable=true∧d.hasDict=false∧d.depth≤32∧d.shown.length≤sizeLine∧Q (.str d.shown) H):=rfl
theorem qaO {K:W.Frag} {xs H Q} (h:XQ K xs H Q):qbM K xs H Q:=by
  obtain⟨x,rfl,d,h1⟩:=ar1.out h;exact⟨x,d,rfl,h1⟩
def qdk (K:W.Frag):R2:=fun x y H Q=>∃d,Is K H d x∧∃e,Is K H e y∧d.canLay0=true∧e.canLay0=true∧d.depth≤64∧Q (.bl (PyData.eqv d e)) H
@[simp ↓] theorem ql1 (K:W.Frag) x y H Q:qdk K x y H Q=(∃d,Is K H d x∧∃e,Is K H e y∧d.canLay0=true∧e.canLay0=true∧d.depth≤64∧Q (.bl (PyData.eqv d e)) H):=rfl
theorem qdl {K:W.Frag} {x y H Q} (h:qdk K x y H Q):qfL K x y H Q:=by
  obtain⟨d,h1,e,h2,h3,h4,h5,h6⟩:=h;exact⟨d,e,h1,h2,h3,h4,h5,h6⟩
def qdm  : List V→Hp→VK→Prop:=fun xs H Q=>ar1 xs fun x=>isInt x fun i=>Q (.int (if i<0 then -i else i)) H
@[simp ↓] theorem ql2  xs H Q:qdm xs H Q=(ar1 xs fun x=>isInt x fun i=>Q (.int (if i<0 then -i else i)) H):=rfl
theorem qdn  {xs H Q} (h:qdm xs H Q):(fun xs H Q=>∃i,xs=[.int i]∧Q (.int (if i<0 then -i else i)) H:List V→Hp→VK→Prop) xs H Q:=by
  obtain⟨x,rfl,h1⟩:=ar1.out h;obtain⟨i,rfl,h2⟩:=isInt.out h1;exact⟨i,rfl,h2⟩
def XR  : List V→Hp→VK→Prop:=fun xs H Q=>ar2 xs fun x y=>isInt x fun i=>isInt y fun j=>Q (.int (if j > i then j else i)) H
@[simp ↓] theorem qkX  xs H Q:XR xs H Q=(ar2 xs fun x y=>isInt x fun i=>isInt y fun j=>Q (.int (if j > i then j else i)) H):=rfl
theorem qaP  {xs H Q} (h:XR xs H Q):(fun xs H Q=>∃i j,xs=[.int i,.int j]∧Q (.int (if j > i then j else i)) H:List V→Hp→VK→Prop) xs H Q:=by
  obtain⟨x,y,rfl,h1⟩:=ar2.out h;obtain⟨i,rfl,h2⟩:=isInt.out h1;obtain⟨j,rfl,h3⟩:=isInt.out h2;exact⟨i,j,rfl,h3⟩
def XS  : List V→Hp→VK→Prop:=fun xs H Q=>ar2 xs fun x y=>isInt x fun i=>isInt y fun j=>Q (.int (if j<i then j else i)) H
@[simp ↓] theorem qkY  xs H Q:XS xs H Q=(ar2 xs fun x y=>isInt x fun i=>isInt y fun j=>Q (.int (if j<i then j else i)) H):=rfl
theorem qaQ  {xs H Q} (h:XS xs H Q):(fun xs H Q=>∃i j,xs=[.int i,.int j]∧Q (.int (if j<i then j else i)) H:List V→Hp→VK→Prop) xs H Q:=by
  obtain⟨x,y,rfl,h1⟩:=ar2.out h;obtain⟨i,rfl,h2⟩:=isInt.out h1;obtain⟨j,rfl,h3⟩:=isInt.out h2;exact⟨i,j,rfl,h3⟩
def JR  : List V→Hp→VK→Prop:=fun xs H Q=>ar2 xs fun x y=>isInt x fun i=>isInt y fun j=>Ti i j∧∀p,H p=none→Q (.ref p) (upd H p (.tup [.int (i / j),.int (i % j)]))
@[simp ↓] theorem qe8  xs H Q:JR xs H Q=(ar2 xs fun x y=>isInt x fun i=>isInt y fun j=>Ti i j∧∀p,H p=none→Q (.ref p) (upd H p (.tup [.int (i / j),.int (i % j)]))):=rfl
theorem Ur  {xs H Q} (h:JR xs H Q):(fun xs H Q=>∃i j,xs=[.int i,.int j]∧Ti i j∧∀p,H p=none→Q (.ref p) (upd H p (.tup [.int (i / j),.int (i % j)])):List V→Hp→VK→Prop) xs H Q:=by
  obtain⟨x,y,rfl,h1⟩:=ar2.out h;obtain⟨i,rfl,h2⟩:=isInt.out h1;obtain⟨j,rfl,h3⟩:=isInt.out h2;exact⟨i,j,rfl,h3⟩
def qdo  : List V→Hp→VK→Prop:=fun xs H Q=>ar1 xs fun x=>isRef x fun a=>∃ys,H a=some (.lst ys)∧∃bs,pA ys bs∧Q (.bl (bs.all id)) H
@[simp ↓] theorem ql3  xs H Q:qdo xs H Q=(ar1 xs fun x=>isRef x fun a=>∃ys,H a=some (.lst ys)∧∃bs,pA ys bs∧Q (.bl (bs.all id)) H):=rfl
theorem qdp  {xs H Q} (h:qdo xs H Q):(fun xs H Q=>∃a ys bs,xs=[.ref a]∧H a=some (.lst ys)∧pA ys bs∧Q (.bl (bs.all id)) H:List V→Hp→VK→Prop) xs H Q:=by
  obtain⟨x,rfl,h1⟩:=ar1.out h;obtain⟨a,rfl,ys,h2,bs,h3,h4⟩:=isRef.out h1;exact⟨a,ys,bs,rfl,h2,h3,h4⟩
def qdq  : List V→Hp→VK→Prop:=fun xs H Q=>ar1 xs fun x=>isRef x fun a=>∃ys,H a=some (.lst ys)∧∃bs,pA ys bs∧Q (.bl (bs.any id)) H
@[simp ↓] theorem ql4  xs H Q:qdq xs H Q=(ar1 xs fun x=>isRef x fun a=>∃ys,H a=some (.lst ys)∧∃bs,pA ys bs∧Q (.bl (bs.any id)) H):=rfl
theorem qdr  {xs H Q} (h:qdq xs H Q):qbK xs H Q:=by
  obtain⟨x,rfl,h1⟩:=ar1.out h;obtain⟨a,rfl,ys,h2,bs,h3,h4⟩:=isRef.out h1;exact⟨a,ys,bs,rfl,h2,h3,h4⟩
def Rz:List V→Hp→VK→Prop:=fun xs H Q=>ar1 xs fun x=>match x with | .int i=>Q (.int i) H | .bl k=>Q (.int (if k=true then 1 else 0)) H | _=>False
@[simp ↓] theorem qkZ i H Q:Rz [.int i] H Q=Q (.int i) H:=rfl
@[simp ↓] theorem qk0 k H Q:Rz [.bl k] H Q=Q (.int (if k=true then 1 else 0)) H:=rfl
theorem qaR {xs H Q} (h:Rz xs H Q):(fun xs H Q=>(∃i,xs=[.int i]∧Q (.int i) H)∨∃k,xs=[.bl k]∧Q (.int (if k then 1 else 0)) H:List V→Hp→VK→Prop) xs H Q:=by
  obtain⟨x,rfl,h1⟩:=ar1.out h;cases x with
  | int i=>exact .inl ⟨i,rfl,h1⟩
  | bl k=>exact .inr ⟨k,rfl,h1⟩
  | _=>exact h1.elim
def X3:S_:=fun o i v H Q=>isRef o fun p=>isInt i fun k=>∃xs,H p=some (.lst xs)∧∃j,Tv xs.length k=some j∧Q (upd H p (.lst (xs.set j v)))
@[simp ↓] theorem qk1 o i v H Q:X3 o i v H Q=(isRef o fun p=>isInt i fun k=>∃xs,H p=some (.lst xs)∧∃j,Tv xs.length k=some j∧Q (upd H p (.lst (xs.set j v)))):=rfl
theorem qaS {o i v H Q} (h:X3 o i v H Q):qbD o i v H Q:=by
  obtain⟨p,rfl,h1⟩:=isRef.out h;obtain⟨k,rfl,xs,h2,j,h3,h4⟩:=isInt.out h1;exact⟨p,xs,k,j,rfl,rfl,h2,h3,h4⟩
def qds (K:W.Frag):V→Option Int→Option Int→Hp→VK→Prop:=fun x lo hi H Q=>isRef x fun a=>∃xs,aY K H a xs∧∀p,H p=none→Q (.ref p) (upd H p (.lst (qF xs lo hi)))
@[simp ↓] theorem ql5 (K:W.Frag) x lo hi H Q:qds K x lo hi H Q=(isRef x fun a=>∃xs,aY K H a xs∧∀p,H p=none→Q (.ref p) (upd H p (.lst (qF xs lo hi)))):=rfl
theorem qdt {K:W.Frag} {x lo hi H Q} (h:qds K x lo hi H Q):qan K x lo hi H Q:=by
  obtain⟨a,rfl,xs,h1⟩:=isRef.out h;exact⟨a,xs,rfl,h1⟩
def qf1:Gs:=fun vs σ H Q=>ar0 vs (Q σ H)
def qbO (t:TG) (u:Gs):Gs:=fun vs σ H Q=>arH vs fun v r=>t v σ H fun σ' H'=>u r σ' H' Q
def qf2 (K:W.Frag) (n:Nat) (t:Gs):TG:=fun v σ H Q=>isRef v fun a=>∃xs,cM K H a xs∧xs.length=n∧t xs σ H Q
@[simp ↓] theorem ql6 vs σ H Q:qf1 vs σ H Q=ar0 vs (Q σ H):=rfl
@[simp ↓] theorem qk2 t u vs σ H Q:qbO t u vs σ H Q=(arH vs fun v r=>t v σ H fun σ' H'=>u r σ' H' Q):=rfl
@[simp ↓] theorem ql7 K n t v σ H Q:qf2 K n t v σ H Q=(isRef v fun a=>∃xs,cM K H a xs∧xs.length=n∧t xs σ H Q):=rfl
theorem cX {vs σ H Q} (h:qf1 vs σ H Q):qcu vs σ H Q:=ar0.out h
theorem aU (t:TG) (u:Gs):qbO t u=Wh t u:=by
  funext vs σ H Q
  exact qdd _ _
theorem cI (K:W.Frag) (n:Nat) (t:Gs):qf2 K n t=qac K n t:=by
  funext v σ H Q
  refine propext ⟨fun h=>?_,fun⟨a,xs,e,h⟩=>by subst e;exact⟨xs,h⟩⟩;obtain⟨a,rfl,xs,h1⟩:=isRef.out h;exact⟨a,xs,rfl,h1⟩
def qdu (f:Int→Int→Int):TIp:=fun x y H Q=>isInt x fun i=>isInt y fun j=>Q (.int (f i j)) H
@[simp ↓] theorem ql8 f x y H Q:qdu f x y H Q=(isInt x fun i=>isInt y fun j=>Q (.int (f i j)) H):=rfl
theorem qdv {f:Int→Int→Int} {x y H Q} (h:qdu f x y H Q):ipI f x y H Q:=by
  obtain⟨i,rfl,h1⟩:=isInt.out h;obtain⟨j,rfl,h2⟩:=isInt.out h1;exact⟨i,j,rfl,rfl,h2⟩
def qf3 (i:Nat) (te:TE) (ti:TIp):TS:=fun D σ H=>getSt σ i fun x=>te σ H fun y H1=>ti x y H1 fun z H2=>D.nx (σ.set i (some z)) H2
@[simp ↓] theorem ql9 i te ti D σ H:qf3 i te ti D σ H=(getSt σ i fun x=>te σ H fun y H1=>ti x y H1 fun z H2=>D.nx (σ.set i (some z)) H2):=rfl
theorem qdw {i:Nat} {te:TE} {ti:TIp} {D σ H} (h:qf3 i te ti D σ H):qcw i te ti D σ H:=getSt.out h
def X4 (K:W.Frag) (tl:TE):TI:=fun σ H R=>tl σ H fun x H1=>isRef x fun a=>(∃xs,aY K H1 a xs)∧R (V5 K a) H1
def qbP (K:W.Frag) (tl:TE):TI:=fun σ H R=>tl σ H fun x H1=>isRef x fun p=>∃b,(∃xs,Z0 b K H1 p xs)∧R (Z1 b K p) H1
def qbQ (tl:TE):TI:=fun σ H R=>tl σ H fun x H1=>isStr x fun z=>R (Its z) H1
def X5 (ta:TA):TI:=fun σ H R=>ta σ H fun vs H1=>ar1 vs fun v=>isInt v fun j=>-(2 ^ 62)≤j∧j<2 ^ 62∧R (Ou 0 j.toNat) H1
def X6 (ta:TA):TI:=fun σ H R=>ta σ H fun vs H1=>ar2 vs fun v w=>isInt v fun i=>isInt w fun j=>(-(2 ^ 62)≤i∧i<2 ^ 62∧-(2 ^ 62)≤j∧j<2 ^ 62)∧R (Ou i (j - i).toNat) H1
def qbR (K:W.Frag) (t:TA):TI:=fun σ H R=>t σ H fun vs H1=>ar2 vs fun x y=>isRef x fun a=>isRef y fun b=>(∃xs,aY K H1 a xs)∧(∃ys,aY K H1 b ys)∧R (Itz K a b) H1
def X7 (K:W.Frag) (t:TA):TI:=fun σ H R=>t σ H fun vs H1=>ar1 vs fun x=>isRef x fun a=>(∃xs,aY K H1 a xs)∧R (Ite K a) H1
@[simp ↓] theorem qf4 K tl σ H R:X4 K tl σ H R=(tl σ H fun x H1=>isRef x fun a=>(∃xs,aY K H1 a xs)∧R (V5 K a) H1):=rfl
@[simp ↓] theorem qk3 K tl σ H R:qbP K tl σ H R=(tl σ H fun x H1=>isRef x fun p=>∃b,(∃xs,Z0 b K H1 p xs)∧R (Z1 b K p) H1):=rfl
@[simp ↓] theorem qk4 tl σ H R:qbQ tl σ H R=(tl σ H fun x H1=>isStr x fun z=>R (Its z) H1):=rfl
@[simp ↓] theorem qf5 ta σ H R:X5 ta σ H R=(ta σ H fun vs H1=>ar1 vs fun v=>isInt v fun j=>-(2 ^ 62)≤j∧j<2 ^ 62∧R (Ou 0 j.toNat) H1):=rfl
@[simp ↓] theorem qf6 ta σ H R:X6 ta σ H R=(ta σ H fun vs H1=>ar2 vs fun v w=>isInt v fun i=>isInt w fun j=>(-(2 ^ 62)≤i∧i<2 ^ 62∧-(2 ^ 62)≤j∧j<2 ^ 62)∧R (Ou i (j - i).toNat) H1):=rfl
@[simp ↓] theorem qk5 K t σ H R:qbR K t σ H R=(t σ H fun vs H1=>ar2 vs fun x y=>isRef x fun a=>isRef y fun b=>(∃xs,aY K H1 a xs)∧(∃ys,aY K H1 b ys)∧R (Itz K a b) H1):=rfl
@[simp ↓] theorem qf7 K t σ H R:X7 K t σ H R=(t σ H fun vs H1=>ar1 vs fun x=>isRef x fun a=>(∃xs,aY K H1 a xs)∧R (Ite K a) H1):=rfl
theorem bV (K:W.Frag) (tl:TE):X4 K tl=Rb K tl:=by
  funext σ H R
  exact congrArg (tl σ H) (funext fun x=>funext fun H1=>Mt _ _)
theorem kY (K:W.Frag) (tl:TE):qbP K tl=qc1 K tl:=by
  funext σ H R
  refine congrArg (tl σ H) (funext fun x=>funext fun H1=>propext ⟨fun h=>?_,fun⟨b,p,e,h⟩=>by subst e;exact⟨b,h⟩⟩);obtain⟨p,rfl,b,h1⟩:=isRef.out h;exact⟨b,p,rfl,h1⟩
theorem X8 (tl:TE):qbQ tl=qcU tl:=by
  funext σ H R
  exact congrArg (tl σ H) (funext fun x=>funext fun H1=>Xw _ _)
theorem lX (ta:TA):X5 ta=Wk ta:=by
  funext σ H R
  refine congrArg (ta σ H) (funext fun x=>funext fun H1=>propext ⟨fun h=>?_,fun⟨b,e,h⟩=>by subst e;exact h⟩);obtain⟨v,rfl,h1⟩:=ar1.out h;obtain⟨i,rfl,h2⟩:=isInt.out h1;exact⟨i,rfl,h2⟩
theorem Us (ta:TA):X6 ta=Wm ta:=by
  funext σ H R
  refine congrArg (ta σ H) (funext fun x=>funext fun H1=>propext ⟨fun h=>?_,fun⟨b,c,e,h⟩=>by subst e;exact h⟩);obtain⟨v,w,rfl,h1⟩:=ar2.out h;obtain⟨i,rfl,h2⟩:=isInt.out h1;obtain⟨j,rfl,h3⟩:=isInt.out h2;exact⟨i,j,rfl,h3⟩
theorem Dd (K:W.Frag) (t:TA):qbR K t=qas K t:=by
  funext σ H R
  refine congrArg (t σ H) (funext fun x=>funext fun H1=>propext ⟨fun h=>?_,fun⟨a,b,xs,ys,e,h1,h2,h3⟩=>by subst e;exact⟨⟨xs,h1⟩,⟨ys,h2⟩,h3⟩⟩);obtain⟨v,w,rfl,h1⟩:=ar2.out h;obtain⟨i,rfl,h2⟩:=isRef.out h1;obtain⟨j,rfl,⟨xs,h3⟩,⟨ys,h4⟩,h5⟩:=isRef.out h2;exact⟨i,j,xs,ys,rfl,h3,h4,h5⟩
theorem uL (K:W.Frag) (t:TA):X7 K t=Xj K t:=by
  funext σ H R
  refine congrArg (t σ H) (funext fun x=>funext fun H1=>propext ⟨fun h=>?_,fun⟨a,xs,e,h1,h3⟩=>by subst e;exact⟨⟨xs,h1⟩,h3⟩⟩);obtain⟨v,rfl,h1⟩:=ar1.out h;obtain⟨i,rfl,⟨xs,h3⟩,h5⟩:=isRef.out h1;exact⟨i,xs,rfl,h3,h5⟩
def qbS (sp:Sp) (E:XK) (t:TA):TE:=fun σ H Q=>t σ H fun vs H1=>Rx sp vs H1 Q ⟨0⟩ E
@[simp ↓] theorem qk6 sp E t σ H Q:qbS sp E t σ H Q=(t σ H fun vs H1=>Rx sp vs H1 Q ⟨0⟩ E):=rfl
theorem aK (sp:Sp) (E:XK) (t:TA):qbS sp E t=Ww sp [] E t:=by
  funext σ H Q
  exact congrArg (t σ H) (funext fun vs=>funext fun H1=>by rw[List.append_nil];rfl)
def qbT (C:Addr) (m:Str) (sp:Sp) (E:XK) (ta:TE) (t:TA):TE:=fun σ H Q=>ta σ H fun x H1=>isRef x fun a=>∃dx fs,H1 a=some (.ins C dx fs)∧fs.lookup m=none∧t σ H1 fun vs H2=>Rx sp (.ref a::vs) H2 Q ⟨0⟩ E
@[simp ↓] theorem qk7 C m sp E ta t σ H Q:qbT C m sp E ta t σ H Q=(ta σ H fun x H1=>isRef x fun a=>∃dx fs,H1 a=some (.ins C dx fs)∧fs.lookup m=none∧t σ H1 fun vs H2=>Rx sp (.ref a::vs) H2 Q ⟨0⟩ E):=rfl
theorem gb (C:Addr) (m:Str) (sp:Sp) (E:XK) (ta:TE) (t:TA):qbT C m sp E ta t=Wx C m sp [] E ta t:=by
  funext σ H Q
  refine congrArg (ta σ H) (funext fun x=>funext fun H1=>propext ⟨fun h=>?_,fun⟨a,dx,fs,e,h1,h2,h3⟩=>?_⟩)
  ·obtain⟨a,rfl,dx,fs,h1,h2,h3⟩:=isRef.out h;refine⟨a,dx,fs,rfl,h1,h2,?_⟩;simp only[List.append_nil];exact h3
  ·subst e;refine⟨dx,fs,h1,h2,?_⟩;simp only[List.append_nil] at h3;exact h3
def qbU (C:Addr) (sp:Sp) (E:XK) (t:TA):TE:=fun σ H Q=>t σ H fun vs H1=>∀x dx,H1 x=none→H1 dx=none→dx≠x→
  Rx sp (.ref x::vs) (upd (upd H1 dx (.own x)) x (.ins C dx [])) (fun v H2=>v = .non∧Q (.ref x) H2) ⟨0⟩ E
@[simp ↓] theorem qk8 C sp E t σ H Q:qbU C sp E t σ H Q=(t σ H fun vs H1=>∀x dx,H1 x=none→H1 dx=none→dx≠x→
  Rx sp (.ref x::vs) (upd (upd H1 dx (.own x)) x (.ins C dx [])) (fun v H2=>v = .non∧Q (.ref x) H2) ⟨0⟩ E):=rfl
theorem Mv (C:Addr) (sp:Sp) (E:XK) (t:TA):qbU C sp E t=Wy C sp [] E t:=by
  funext σ H Q
  refine congrArg (t σ H) (funext fun vs=>funext fun H1=>?_);simp only[List.append_nil];rfl
def qf8 (K:W.Frag) (ta:TE) (f:Str):TE:=fun σ H Q=>ta σ H fun x H1=>isRef x fun a=>∃C dx fs,H1 a=some (.ins C dx fs)∧Cls K C∧nq K C f∧∃v,fs.lookup f=some v∧Q v H1
@[simp ↓] theorem ql_ K ta f σ H Q:qf8 K ta f σ H Q=(ta σ H fun x H1=>isRef x fun a=>∃C dx fs,H1 a=some (.ins C dx fs)∧Cls K C∧nq K C f∧∃v,fs.lookup f=some v∧Q v H1):=rfl
theorem JT (K:W.Frag) (ta:TE) (f:Str):qf8 K ta f=qak K ta f:=by
  funext σ H Q
  refine congrArg (ta σ H) (funext fun x=>funext fun H1=>propext ⟨fun h=>?_,fun⟨a,C,dx,fs,v,e,h1,h2,h3,h4⟩=>by subst e;exact⟨C,dx,fs,h1,h2,h3,v,h4⟩⟩);obtain⟨a,rfl,C,dx,fs,h1,h2,h3,v,h4⟩:=isRef.out h;exact⟨a,C,dx,fs,v,rfl,h1,h2,h3,h4⟩
def qbV (td ty:TE):TE:=fun σ H Q=>td σ H fun x H1=>ty σ H1 fun y H2=>isRef x fun a=>∃v,lU H2 a y (some v)∧Q v H2
def qf9 (ty td:TE):TE:=fun σ H Q=>ty σ H fun y H1=>td σ H1 fun x H2=>isRef x fun a=>∃o,lU H2 a y o∧Q (.bl o.isSome) H2
def RB (ty td:TE):TE:=fun σ H Q=>ty σ H fun y H1=>td σ H1 fun x H2=>isRef x fun a=>∃o,lU H2 a y o∧Q (.bl o.isNone) H2
def qbW (td ty tv:TE):TS:=fun D σ H=>tv σ H fun v H1=>td σ H1 fun x H2=>ty σ H2 fun y H3=>isRef x fun a=>∃H4,Cz H3 a y v H4∧D.nx σ H4
def X_ (td ty tx:TE):TE:=fun σ H Q=>td σ H fun x H1=>isRef x fun a=>IsD H1 a∧ty σ H1 fun y H2=>tx σ H2 fun z H3=>∃o,lU H3 a y o∧Q (o.getD z) H3
@[simp ↓] theorem qk9 td ty σ H Q:qbV td ty σ H Q=(td σ H fun x H1=>ty σ H1 fun y H2=>isRef x fun a=>∃v,lU H2 a y (some v)∧Q v H2):=rfl
@[simp ↓] theorem qma ty td σ H Q:qf9 ty td σ H Q=(ty σ H fun y H1=>td σ H1 fun x H2=>isRef x fun a=>∃o,lU H2 a y o∧Q (.bl o.isSome) H2):=rfl
@[simp ↓] theorem qe9 ty td σ H Q:RB ty td σ H Q=(ty σ H fun y H1=>td σ H1 fun x H2=>isRef x fun a=>∃o,lU H2 a y o∧Q (.bl o.isNone) H2):=rfl
@[simp ↓] theorem qk_ td ty tv D σ H:qbW td ty tv D σ H=(tv σ H fun v H1=>td σ H1 fun x H2=>ty σ H2 fun y H3=>isRef x fun a=>∃H4,Cz H3 a y v H4∧D.nx σ H4):=rfl
@[simp ↓] theorem qf_ td ty tx σ H Q:X_ td ty tx σ H Q=(td σ H fun x H1=>isRef x fun a=>IsD H1 a∧ty σ H1 fun y H2=>tx σ H2 fun z H3=>∃o,lU H3 a y o∧Q (o.getD z) H3):=rfl
theorem JV {x:V} {β:Type} {R:Addr→β→Prop}:(isRef x fun a=>∃b,R a b)=(∃a b,x = .ref a∧R a b):=propext ⟨fun h=>by obtain⟨a,rfl,b,h1⟩:=isRef.out h;exact⟨a,b,rfl,h1⟩,fun⟨a,b,e,h⟩=>by subst e;exact⟨b,h⟩⟩
theorem Df (td ty:TE):qbV td ty=Xe td ty:=by
  funext σ H Q
  exact congrArg (td σ H) (funext fun x=>funext fun H1=>congrArg (ty σ H1) (funext fun y=>funext fun H2=>JV))
theorem RD (ty td:TE):qf9 ty td=qc4 ty td:=by
  funext σ H Q
  exact congrArg (ty σ H) (funext fun x=>funext fun H1=>congrArg (td σ H1) (funext fun y=>funext fun H2=>JV))
theorem PX (ty td:TE):RB ty td=Jz ty td:=by
  funext σ H Q
  refine congrArg (ty σ H) (funext fun x=>funext fun H1=>congrArg (td σ H1) (funext fun y=>funext fun H2=>?_));rw[JV];simp only[Option.not_isSome]
theorem Mw (td ty tv:TE):qbW td ty tv=Xf td ty tv:=by
  funext D σ H
  exact congrArg (tv σ H) (funext fun v=>funext fun H1=>congrArg (td σ H1) (funext fun x=>funext fun H2=>congrArg (ty σ H2) (funext fun y=>funext fun H3=>JV)))
theorem HN (td ty tx:TE):X_ td ty tx=Py td ty tx:=by
  funext σ H Q
  exact congrArg (td σ H) (funext fun x=>funext fun H1=>Mt _ _)
def qbX (t:TE):TO:=fun σ H Q=>t σ H fun x H1=>isInt x fun i=>Q (some i) H1
@[simp ↓] theorem qla t σ H Q:qbX t σ H Q=(t σ H fun x H1=>isInt x fun i=>Q (some i) H1):=rfl
theorem iT (t:TE):qbX t=WK t:=by
  funext σ H Q
  exact congrArg (t σ H) (funext fun x=>funext fun H1=>Xv _ _)
section
variable {X:Cx} {K:W.Frag}
theorem PE.eqv {e:Expr} {t t':TE} (o:PE X e t) (h:t'=t):PE X e t':=h▸o
theorem PC.eqv {op:CmpOp} {a b:Expr} {t t':TE} (o:PC X op a b t) (h:t'=t):PC X op a b t':=h▸o
theorem PS.eqv {e:Stmt} {t t':TS} (o:PS X e t) (h:t'=t):PS X e t':=h▸o
theorem PG.eqv {e:Expr} {t t':TG} (o:PG X e t) (h:t'=t):PG X e t':=h▸o
theorem eX.eqv {e:List Expr} {t t':Gs} (o:eX X e t) (h:t'=t):eX X e t':=h▸o
theorem PI.eqv {tg e:Expr} {t t':TI} (o:PI X tg e t) (h:t'=t):PI X tg e t':=h▸o
theorem PO.eqv {e:Option Expr} {t t':TO} (o:PO X e t) (h:t'=t):PO X e t':=h▸o
theorem Bs:jP X (binaryOp .Mult) (fI qag fun i j=>.int (i * j)):=qcD.mono qaH
theorem Yb:jP X (binaryOp .FloorDiv) (fI Ti fun i j=>.int (i / j)):=qah.mono qaH
theorem uM:jP X (binaryOp .Mod) (fI (fun _ j=>0<j) fun i j=>.int (i % j)):=qcE.mono qaH
theorem qaT:jP X (binaryOp .Pow) (fI qfk fun i j=>.int (i ^ j.toNat)):=qcF.mono qaH
theorem bG (hK:X.K=K):WL X (qde K):=(qlo hK).mono qdf
theorem RG:WL X qdg:=qcM.mono qdh
theorem xV (hK:X.K=K):jP X (compareOp .In) (fIn K):=(inK hK).mono qfY
theorem qmb (hK:X.K=K):jP X (compareOp .In) (qdi K):=(inK hK).mono qdj
theorem nU (hK:X.K=K):jP X (compareOp .NotIn) (PL K):=(qc0 hK).mono XH
theorem JW (hK:X.K=K) (hu:X.A.units+64<cLine):jP X (compareOp .Eq) (qdk K):=(qc9 hK hu).mono qdl
theorem bT (hK:X.K=K):cJ X (.builtin "len") (Dc K):=(qfA hK).mono qaJ
theorem qdx:cJ X (.builtin "len") Xz:=qfB.mono qaK
theorem qI (hK:X.K=K):cJ X (.type "list") (JK K):=(qax hK).mono Uk
theorem zy:cJ X (.type "tuple") JL:=Xa.mono Ul
theorem rD (hK:X.K=K):cJ X (.builtin "isinstance") (XD K):=(qfC hK).mono qaL
theorem qdy (hK:X.K=K):cJ X (.builtin "isinstance") (XF K):=(qfD hK).mono qaM
theorem lY (hc:X.calm=true):cJ X (.builtin "all") qdo:=(T7 hc).mono qdp
theorem zA (hc:X.calm=true):cJ X (.builtin "any") qdq:=(Ud hc).mono qdr
theorem P0:cJ X (.type "int") Rz:=Tq.mono qaR
theorem HS:cJ X (.builtin "abs") qdm:=Ws.mono qdn
theorem Dg (hc:X.calm=true):cJ X (.builtin "max") XR:=(Tn hc).mono qaP
theorem Dh (hc:X.calm=true):cJ X (.builtin "min") XS:=(Tp hc).mono qaQ
theorem JX:cJ X (.builtin "divmod") JR:=Lh.mono Ur
theorem lZ (hK:X.K=K) (hg:X.A.guards=some []) (hu:X.A.units+64<cLine):cJ X (.builtin "repr") (XQ K):=(PK hK hg hu).mono qaO
theorem cu:K4 X "list.append" JM:=K4.mono (r:=Jp) Hu Um
theorem P_:K4 X "list.insert" JN:=K4.mono (r:=Js) T3 Uo
theorem zB:K4 X "list.clear" PN:=K4.mono (r:=Ph) WW XJ
theorem Qa:K4 X "list.extend" JQ:=K4.mono (r:=Jq) TF Uq
theorem Yc:K4 X "str.join" XM:=qaG.mono qaN
theorem uc (hK:X.K=K):SlR X (qds K):=(qlS hK).mono qdt
theorem HW:Tc X X3:=set_list.mono qaS
theorem qaU:PIp X .Add (qdu fun i j=>i+j):=qcy.mono qdv
end
theorem getSt.imp {σ:St} {i:Nat} {R R':V→Prop} (f:∀v,R v→R' v):getSt σ i R→getSt σ i R':=by
  induction σ generalizing i with
  | nil=>exact fun h=>h.elim
  | cons o σ ih=>
    cases i with
    | zero=>cases o with
      | none=>exact fun h=>h.elim
      | some v=>exact f v
    | succ n=>exact ih
theorem isInt.imp {x:V} {R R':Int→Prop} (f:∀v,R v→R' v):isInt x R→isInt x R':=by cases x <;> first | exact f _ | exact fun h=>h.elim
theorem isRef.imp {x:V} {R R':Addr→Prop} (f:∀v,R v→R' v):isRef x R→isRef x R':=by cases x <;> first | exact f _ | exact fun h=>h.elim
theorem sZ.imp {x:V} {R R':Bool→Prop} (f:∀v,R v→R' v):sZ x R→sZ x R':=by cases x <;> first | exact f _ | exact fun h=>h.elim
theorem Mx {K:W.Frag} {g:Int→Int→V} {i j:Nat}:∀(σ:St) (H:Hp) (Q Q':Bool→Hp→Prop),(∀(b:Bool) (H1:Hp),Q b H1→Q' b H1)→qH (V6 (V8 g) (fVar i) (tCB (Dc K) (Ho (fVar j) O9))) σ H Q→qH (V6 (V8 g) (fVar i) (tCB (Dc K) (Ho (fVar j) O9))) σ H Q':=
  fun _ _ _ _ f h=>getSt.imp (fun _ h=>getSt.imp (fun _ h=>isRef.imp (fun _ ⟨ys,h1,h2⟩=>⟨ys,h1,isInt.imp (fun _ h=>isInt.imp (fun _ h=>sZ.imp (fun _ h=>f _ _ h) h) h) h2⟩) h) h) h
theorem kj.o_ {P:Program} {w:World} {K:W.Frag} {mg:Str→Option Value} {base:Heap} {x qual:Str} {st:Stmt} {f:Addr} {fd:FuncData} {N ps:List Str} {k:Nat} {sp:Sp} (F:kj K x qual st f fd) (S:bA N ps (ao st)) (len:∀vs H Q E,sp vs H Q E→vs.length=ps.length)
    (hbody:∀(cdv:Value) (A:Around) (outer:List Env) (s:Shared) (H:Hp) (vs:List V) (Q:VK) (E:XK),jJ k (A.deeper (envOfC qual (ao st) s.heap.objs.size f cdv))→sp vs H Q E→
      ∃t,G_ (aA mL P w K mg base N qual (ao st) f cdv A outer s H E).V4 (aJ st) t∧t {nx:=fun _ H'=>Q .non H',rt:=Q} (nA N vs) H):cD P w K mg base mL (k+1) f fd ps sp:=by
  refine F.ok S len fun cdv A outer s H vs Q E hr h=>?_;obtain⟨t,h1,h2⟩:=hbody cdv A outer s H vs Q E hr h;refine⟨t,h1,?_⟩;have hl:=len _ _ _ _ h;have hp:ps.length≤N.length:=by have:=congrArg List.length S.pre;rw[List.length_take] at this;omega
  rw[uK N vs (by omega)] at h2;exact h2
end L2
namespace L2
open PySem
def vL (T:List jd) (h:Str) (wh:List Nat) (R:BR):BR:=T.foldl (fun R s=>if s.2.1=h∧¬s.2.2∈R.map (·.1) then R++[(s.2.2,wh++[s.1])] else R) R
def tu (S:List jd) (a:Str):Nat→BR
  | 0=>[(a,[])]
  | n+1=>match (tu S a n)[n]? with
    | some x=>vL S x.1 x.2 (tu S a n)
    | none=>tu S a n
theorem Qc (T:List jd) (s:jd) (h:Str) (wh:List Nat) (R:BR):vL (T++[s]) h wh R=if s.2.1=h∧¬s.2.2∈(vL T h wh R).map (·.1) then vL T h wh R++[(s.2.2,wh++[s.1])] else vL T h wh R:=by
  unfold vL;rw[List.foldl_append];rfl
theorem Ut {S:List jd} {a:Str} {n:Nat} {h:Str} {wh:List Nat} (e:(tu S a n)[n]? = some (h,wh)):tu S a (n+1)=vL S h wh (tu S a n):=by
  show(match (tu S a n)[n]? with | some x=>vL S x.1 x.2 (tu S a n) | none=>tu S a n)=_
  rw[e]
theorem zE {S:List jd} {a:Str} {R:BR} {n:Nat} (e:tu S a n=R) (hn:R.length≤n):∀k,tu S a (n+k)=R
  | 0=>e
  | k+1=>by
    have ih:=zE e hn k;show(match (tu S a (n+k))[n+k]? with | some x=>vL S x.1 x.2 (tu S a (n+k)) | none=>tu S a (n+k))=_
    rw[ih,List.getElem?_eq_none (by omega)]
def Yd (S:List jd) (a:Str) (R:BR):Prop:=tu S a R.length=R
theorem Yd.uniq {S:List jd} {a:Str} {R R':BR} (h:Yd S a R) (h':Yd S a R'):R=R':=by
  have e1:=zE h (Nat.le_refl _) R'.length;have e2:=zE h' (Nat.le_refl _) R.length;rw[Nat.add_comm] at e2;exact e1.symm.trans e2
def nW (H:Hp) (kvs:List (Key×V)):Prop:=∀kv∈kvs,∀p,kv.2 = .ref p→H p=none
theorem nW.at {H:Hp} {kvs:List (Key×V)} (h:nW H kvs) {k:Key} {p:Addr} (e:m9 kvs k=some (.ref p)):H p=none:=by
  unfold m9 at e;cases hf:kvs.find? fun kv=>decide (kv.1=k) with
  | none=>rw[hf] at e;cases e
  | some kv=>
    rw[hf] at e;exact h kv (List.mem_of_find?_eq_some hf) p (Option.some.inj e)
theorem nW.snoc {H:Hp} {kvs:List (Key×V)} (h:nW H kvs) {k:Key} {p:Addr} (hp:H p=none):nW H (kvs++[(k,.ref p)]):=by
  intro kv hkv q hq
  rcases List.mem_append.mp hkv with z | z
  ·exact h kv z q hq
  ·simp at z;subst z;cases hq;exact hp
theorem Walk.in {S:List jd} {a y:Str} {k:Nat} (h:Walk S a k y) {xs:List Str} (ha:a∈xs) (hS:∀s∈S,s.2.2∈xs):y∈xs:=by
  cases h with
  | nil=>exact ha
  | snoc _ hs=>exact hS _ hs
theorem oO.at {S:List jd} {a:Str} {w:List Nat} {vs:List Str} {b:Str} (h:oO S a w vs b):vs.length=w.length+1∧vs[0]? = some a∧vs[w.length]? = some b∧∀(i:Nat) n,w[i]? = some n→∃u v,vs[i]? = some u∧vs[i+1]? = some v∧(n,u,v)∈S:=by
  induction h with
  | nil=>exact⟨rfl,rfl,rfl,fun i n e=>by simp at e⟩
  | @snoc w vs b c n h hs ih=>
    obtain⟨h1,h2,h3,h4⟩:=ih;refine⟨by simp[h1],by rw[List.getElem?_append_left (by omega)];exact h2,by simp[List.getElem?_append_right,h1],fun i m e=>?_⟩
    by_cases hi:i<w.length
    ·rw[List.getElem?_append_left hi] at e;obtain⟨u,v,q1,q2,q3⟩:=h4 i m e;exact⟨u,v,by rw[List.getElem?_append_left (by omega)];exact q1,by rw[List.getElem?_append_left (by omega)];exact q2,q3⟩
    · have hi2:i=w.length:=by have:=(List.getElem?_eq_some_iff.mp e).1;simp at this;omega
      subst hi2;simp at e;subst e;exact⟨b,c,by rw[List.getElem?_append_left (by omega)];exact h3,by simp[List.getElem?_append_right,h1],hs⟩
def pD (S:List jd) (f:List Str):Prop:=∀s∈S,s.2.1∈f→s.2.2∈f
structure Ow (S:List jd) (x:Str) (f:List Str):Prop where
  st:x∈f
  nd:f.Nodup
  rt:∀y∈f,RT (dI S) x y
theorem Ow.begin (S:List jd) (x:Str):Ow S x [x]:=⟨by simp,by simp,fun y hy=>by simp at hy;subst hy;exact .refl _⟩
theorem Ow.add {S:List jd} {x:Str} {f:List Str} (h:Ow S x f) {s:jd} (hs:s∈S) (h1:s.2.1∈f) (h2:¬s.2.2∈f):Ow S x (f++[s.2.2]):=by
  refine⟨List.mem_append_left _ h.st,?_,fun y hy=>?_⟩
  ·rw[List.nodup_append];exact⟨h.nd,by simp,fun a ha b hb=>by simp at hb;subst hb;exact fun z=>h2 (z▸ha)⟩
  · rcases List.mem_append.mp hy with z | z
    ·exact h.rt y z
    ·simp at z;subst z;exact .tail (h.rt _ h1) ⟨s.1,hs⟩
theorem Ow.closed {S:List jd} {x:Str} {f:List Str} (h:Ow S x f) (hc:pD S f) (y:Str):y∈f↔RT (dI S) x y:=by
  refine⟨h.rt y,fun q=>?_⟩
  induction q with
  | refl=>exact h.st
  | tail _ q ih=>
    obtain⟨n,hn⟩:=q;exact hc _ hn ih
theorem Ow.len {S:List jd} {x:Str} {f xs:List Str} (h:Ow S x f) (hx:x∈xs) (hS:∀s∈S,s.2.2∈xs):f.length≤xs.length:=
  bY h.nd fun y hy=>by
    obtain⟨k,hk⟩:=Walk.of (h.rt y hy);exact hk.in hx hS
structure iw (S T:List jd) (x:Str) (f0 f:List Str):Prop where
  r0:f0.Nodup
  r:Ow S x f
  sub:∀y∈f0,y∈f
  le:f0.length≤f.length
  md:∀s∈T,s.2.1∈f0→s.2.2∈f
  cl:pD S f0→f=f0
theorem iw.enter {S:List jd} {x:Str} {f:List Str} (h:Ow S x f):iw S [] x f f:=⟨h.nd,h,fun _ z=>z,Nat.le_refl _,by simp,fun _=>rfl⟩
theorem iw.skip {S T:List jd} {x:Str} {f0 f:List Str} (h:iw S T x f0 f) {s:jd} (hs:s.2.1∈f→s.2.2∈f):iw S (T++[s]) x f0 f:=by
  refine⟨h.r0,h.r,h.sub,h.le,fun s' hs'=>?_,h.cl⟩
  rcases List.mem_append.mp hs' with z | z
  ·exact h.md s' z
  ·simp at z;subst z;exact fun q=>hs (h.sub _ q)
theorem iw.add {S T:List jd} {x:Str} {f0 f:List Str} (h:iw S T x f0 f) {s:jd} (hS:s∈S) (h1:s.2.1∈f) (h2:¬s.2.2∈f):iw S (T++[s]) x f0 (f++[s.2.2]):=by
  refine⟨h.r0,h.r.add hS h1 h2,fun y hy=>List.mem_append_left _ (h.sub y hy),by have:=h.le;simp;omega,fun s' hs' q=>?_,fun hc=>?_⟩
  · rcases List.mem_append.mp hs' with z | z
    ·exact List.mem_append_left _ (h.md s' z q)
    ·simp at z;subst z;exact List.mem_append_right _ (by simp)
  ·have:=h.cl hc;subst this;exact absurd (hc s hS h1) h2
theorem iw.leave {S:List jd} {x:Str} {f0 f:List Str} {i:Nat} (h:iw S S x f0 f) (h0:pD S f0∨i+1≤f0.length):Ow S x f∧(pD S f∨i+1+1≤f.length):=by
  refine⟨h.r,?_⟩
  by_cases hc:pD S f0
  ·rw[h.cl hc];exact .inl hc
  · rcases h0 with z | z
    ·exact absurd z hc
    · refine .inr ?_;obtain⟨s,hs⟩:∃s,s∈S∧s.2.1∈f0∧¬s.2.2∈f0:=by
        by_cases q:∃s,s∈S∧s.2.1∈f0∧¬s.2.2∈f0
        ·exact q
        · exact absurd (fun s hs h1=>by
            by_cases w:s.2.2∈f0
            ·exact w
            ·exact absurd ⟨s,hs,h1,w⟩ q) hc
      have hg:=h.md s hs.1 hs.2.1
      by_cases w:i+1+1≤f.length
      ·exact w
      ·
        exfalso;have hle:=h.le;have hl:f.length=f0.length:=by omega
        have nd0:(s.2.2::f0).Nodup:=List.nodup_cons.mpr ⟨hs.2.2,h.r0⟩;have:=bY nd0 (xs:=f) fun y hy=>by
          rcases List.mem_cons.mp hy with z | z
          ·rw[z];exact hg
          ·exact h.sub y z
        simp at this;omega
open Classical in
theorem Ow.lM {S:List jd} {x:Str} {f xs:List Str} (h:Ow S x f) (hc:pD S f) (nd:xs.Nodup) (hx:x∈xs) (hS:∀s∈S,s.2.2∈xs):f.length=(L2.lM S xs x).length:=by
  have h1:f.length≤(L2.lM S xs x).length:=bY h.nd fun y hy=>by
    rw[kI];have:=h.rt y hy;obtain⟨k,hk⟩:=Walk.of this;exact⟨hk.in hx hS,this⟩
  have h2:(L2.lM S xs x).length≤f.length:=by
    have nd2:(L2.lM S xs x).Nodup:=by
      unfold L2.lM;exact nd.filter _
    exact bY nd2 fun y hy=>(h.closed hc y).mpr (kI.mp hy).2
  omega
end L2
namespace L2
open PySem
theorem qmc {m:Nat} (h:1≤m):(0:Int)<m:=by omega
theorem zlt {m b:Nat} {c:Int} (h:m≤b) (hb:(b:Int)<c):(m:Int)<c:=by omega
theorem zlo {f:Int} (h:0≤f) : -4611686018427387904≤f:=by omega
theorem qmd {f:Nat} : -4611686018427387904≤(f:Int):=by omega
theorem ztn {d:Int} {m b:Nat} (h0:0≤d) (h:d<m) (hb:m≤b):d.toNat+1≤b:=by omega
theorem qme {d:Int} (h:0≤d) (c:Int):c+d=max d 0+c:=by omega
theorem zsz {a b:Nat} (h:a<b) (hb:b≤20):a<sizeLine:=Nat.lt_of_lt_of_le h (Nat.le_trans hb (of_eq_true Gy))
theorem z01 {d:Int} (h:0≤d) (h2:d<2):d=0∨d=1:=by omega
theorem z2 {n:Nat} (h:(1:Int)<n):2≤n:=by omega
theorem zk1 {k t:Nat} (h:t≤k):(0:Int)<k - t+1:=by omega
theorem zk2 {k t:Nat} {c:Int} (h:k≤20) (hc:21<c):(k:Int) - t+1<c:=by omega
theorem zk3 {f:Int} {k t p:Nat} (h0:0≤f) (h:f<k - t+1) (e:t=p):p+f.toNat≤k+0:=by omega
theorem zk4 {t p f k i:Nat} (e:t=p) (h:p+f≤k+i) (hi:i<f) (hk:k≤20):t<sizeLine:=by
  have:=of_eq_true Gy;omega
theorem zk5 {p f k i:Nat} (h:p+f≤k+i) (hi:i<f) (hk:k≤20):p≤19:=by omega
theorem zk6 {p f k i:Nat} (h:p+f≤k+i):p+1+f≤k+(i+1):=by omega
theorem zk7 {p f k:Nat} (h:p+f≤k+f):p≤k:=Nat.le_of_add_le_add_right h
theorem qmf {lo i n:Nat} (h:i<n - lo):lo+i<n:=by omega
theorem zpa (c:Int):0≤if 1000000000000000000<c then c - 1000000000000000000 else 0:=by split <;> omega
theorem zpb (c:Int) (k:Nat):0≤c % 2147483629+977 * (k:Int)+1:=by omega
theorem zpc (c:Int) {k:Nat} (h:k<100):c % 2147483629+977 * (k:Int)+1<4294967296:=by omega
theorem zs1 {s i t p:Nat} (h:s≤2 * i+1) (hi:i<t) (e:t=p) (hp:p≤20):s<sizeLine:=by
  have:60<sizeLine:=by decide
  omega
theorem zs2 {s i:Nat} (h:s≤2 * i+1):s+1≤2 * (i+1):=by omega
theorem zs3 {s t p:Nat} (h:s≤2 * t) (e:t=p) (hp:p≤20):s≤40:=by omega
end L2
namespace L2
open PySem PySem.Spec PyProof.Rows
mutual
def Di (H:Hp):PyData→V→Prop
  | .none,v=>v = .non
  | .bool b,v=>v = .bl b
  | .int i,v=>v = .int i
  | .str x,v=>v = .str x
  | .list ds,v=>∃a xs,v = .ref a∧H a=some (.lst xs)∧iZ H ds xs
  | .tuple ds,v=>∃a xs,v = .ref a∧H a=some (.tup xs)∧iZ H ds xs
  | .dict kvs,v=>kvs=[]∧∃a,v = .ref a∧H a=some (.dK [])
def iZ (H:Hp):List PyData→List V→Prop
  | [],vs=>vs=[]
  | d::ds,vs=>∃v r,vs=v::r∧Di H d v∧iZ H ds r
end
mutual
theorem Di.same {H H':Hp} (s:Same H H'):∀(d:PyData) (v:V),Di H d v→Di H' d v
  | .none,v,h=>by simp only[Di] at h ⊢;exact h
  | .bool b,v,h=>by simp only[Di] at h ⊢;exact h
  | .int i,v,h=>by simp only[Di] at h ⊢;exact h
  | .str x,v,h=>by simp only[Di] at h ⊢;exact h
  | .list ds,v,h=>by
    simp only[Di] at h ⊢;obtain⟨a,xs,e,h1,h2⟩:=h;exact⟨a,xs,e,s _ _ h1,iZ.same s ds xs h2⟩
  | .tuple ds,v,h=>by
    simp only[Di] at h ⊢;obtain⟨a,xs,e,h1,h2⟩:=h;exact⟨a,xs,e,s _ _ h1,iZ.same s ds xs h2⟩
  | .dict kvs,v,h=>by
    simp only[Di] at h ⊢;obtain⟨e0,a,e,h1⟩:=h;exact⟨e0,a,e,s _ _ h1⟩
theorem iZ.same {H H':Hp} (s:Same H H'):∀(ds:List PyData) (vs:List V),iZ H ds vs→iZ H' ds vs
  | [],vs,h=>by simp only[iZ] at h ⊢;exact h
  | d::ds,vs,h=>by
    simp only[iZ] at h ⊢;obtain⟨v,r,e,h1,h2⟩:=h;exact⟨v,r,e,Di.same s d v h1,iZ.same s ds r h2⟩
end
def hid (p:Addr) (H:Hp):Hp:=fun b=>if b=p then none else H b
theorem wD {p b:Addr} {H:Hp} {o:HO} (h:b≠p) (e:H b=some o):hid p H b=some o:=by
  unfold hid;rw[if_neg h];exact e
section
variable {X:Cx} {p_:List (Addr×Obj)} {σ:St} {H:Hp} {s:Shared} {K:W.Frag}
theorem Qd {P:Program} {w:World} {h:Heap} {a:Addr} (ok:tG P w H h) (e:H a=some (.dK [])):Reads h (.ref a) (.dict []) [a]∧(a == sysModules)=false:=by
  obtain⟨_,hd,vs,kv,o,es,ep,h1,h2,h3,_,h5,_⟩:=Xc ok e;refine⟨?_,hd⟩;have ev:vs=[]:=by cases kv;rfl
  subst ev;have el:es.toList=[]:=by
    generalize es.toList=l at h5;cases h5;rfl
  have:=Reads.dict (kvs:=[]) (as:=[]) (bs:=[]) h1 h2.1 h3 (by rw[el];exact .nil) (by rw[el];exact .nil);exact this
mutual
theorem Di.reads (I:Inv X p_ σ H s):∀(d:PyData) (v:V) (u:Value),Di H d v→RelV v u→∃as,Reads s.heap u d as
  | .none,v,u,h,r=>by
    simp only[Di] at h;subst h;cases r;exact⟨_,.none⟩
  | .bool b,v,u,h,r=>by
    simp only[Di] at h;subst h;cases r;exact⟨_,.bool b⟩
  | .int i,v,u,h,r=>by
    simp only[Di] at h;subst h;obtain⟨t,rfl⟩:=r;exact⟨_,.int i t⟩
  | .str x,v,u,h,r=>by
    simp only[Di] at h;subst h;obtain⟨t,rfl⟩:=r;exact⟨_,.str x t⟩
  | .list ds,v,u,h,r=>by
    simp only[Di] at h;obtain⟨a,xs,rfl,hq,hs⟩:=h;cases r;obtain⟨its,rv,pl,hz⟩:=I.list (aY.of hq);obtain⟨o,e,c,n,dt⟩:=pl.isList;obtain⟨as,ra⟩:=iZ.reads I ds xs its hs rv;exact⟨_,.list e c dt (by simpa using ra)⟩
  | .tuple ds,v,u,h,r=>by
    simp only[Di] at h;obtain⟨a,xs,rfl,hq,hs⟩:=h;cases r;obtain⟨its,rv,pl,hz⟩:=I.tuple (cM.of hq);obtain⟨o,e,c,n,dt⟩:=pl;obtain⟨as,ra⟩:=iZ.reads I ds xs its hs rv;exact⟨_,.tuple e c dt (by simpa using ra)⟩
  | .dict kvs,v,u,h,r=>by
    simp only[Di] at h;obtain⟨rfl,a,rfl,h1⟩:=h;cases r;exact⟨_,(Qd I.hok h1).1⟩
theorem iZ.reads (I:Inv X p_ σ H s):∀(ds:List PyData) (vs:List V) (us:List Value),iZ H ds vs→Vals vs us→∃as,ReadsAll s.heap us ds as
  | [],vs,us,h,r=>by
    simp only[iZ] at h;subst h;cases r;exact⟨_,.nil⟩
  | d::ds,vs,us,h,r=>by
    simp only[iZ] at h;obtain⟨v,vr,rfl,h1,h2⟩:=h;cases r with
    | cons r1 r2=>
      obtain⟨as,ra⟩:=Di.reads I d v _ h1 r1;obtain⟨bs,rb⟩:=iZ.reads I ds vr _ h2 r2;exact⟨_,.cons ra rb⟩
end
def tLR (ta:TA):TE:=fun σ H Q=>ta σ H fun vs H1=>ar1 vs fun v=>isInt v fun n=>0≤n∧n≤1000∧∀p,H1 p=none→Q (.ref p) (upd H1 p (.lst ((List.range n.toNat).map fun i=>V.int (i:Nat))))
@[simp ↓] theorem qpm ta σ H Q:tLR ta σ H Q=ta σ H fun vs H1=>ar1 vs fun v=>isInt v fun n=>0≤n∧n≤1000∧∀p,H1 p=none→Q (.ref p) (upd H1 p (.lst ((List.range n.toNat).map fun i=>V.int (i:Nat)))):=rfl
theorem wF:∀(n lo:Nat) (l:List Value),l.length=n→(∀(j:Nat) v,l[j]? = some v→∃t,v = .int (((lo+j:Nat):Int)) t)→Vals ((List.range' lo n).map fun i=>V.int (i:Nat)) l
  | 0,lo,l,h,_=>by
    cases l with
    | nil=>exact .nil
    | cons _ _=>cases h
  | n+1,lo,l,h,q=>by
    cases l with
    | nil=>cases h
    | cons x r=>
      rw[List.range'_succ,List.map_cons];refine .cons ?_ (wF n (lo+1) r (by simpa using h) fun j v e=>?_)
      ·obtain⟨t,rfl⟩:=q 0 x rfl;exact⟨t,rfl⟩
      ·obtain⟨t,rfl⟩:=q (j+1) v (by simpa using e);exact⟨t,by rw[show lo+(j+1)=lo+1+j by omega]⟩
theorem xW (hc:X.calm=true) {a:Expr} {ta:TA} {p p2 pos pos2:Pos} (hg1:Gl X "list") (hm1:X.mg "list" = none) (hg2:Gl X "range") (hm2:X.mg "range" = none) (ha:PA X [a] ta)
    (hs:starEach [a] X.env=[(false,eval a X.env)]:=by rfl)
    (hs1:starEach [.Call (.Name "range" p2) [a] [] pos2] X.env=[(false,eval (.Call (.Name "range" p2) [a] [] pos2) X.env)]:=by rfl) :
    PE X (.Call (.Name "list" p) [.Call (.Name "range" p2) [a] [] pos2] [] pos) (tLR ta):=by
  intro p_ s σ H Q I h;refine wpAny_Call_Name_kw (oM I hg1 hm1 boot_list ?_ (by decide) (by decide));refine PyProof.Rows.callWith_type1 ?_ (by rw[hs1];rfl) (by rfl);rw[hs1];show wpAny _ _ (spliced ((false,eval (.Call (.Name "range" p2) [a] [] pos2) X.env)::[])) _ _ s;refine Calls.spliced_cons ?_;refine wpAny_Call_Name_kw (oM I hg2 hm2 boot_range ?_ (by decide) (by decide));refine PyProof.Rows.callWith_type1 (dD (ha pos2 p_ s σ H _ I h) fun us s1 z=>?_) (by rw[hs];rfl) (by rfl);obtain⟨vs,H1,I1,r1,q1⟩:=z;obtain⟨v,rfl,q2⟩:=ar1.out q1;obtain⟨n,rfl,h0,h1,q⟩:=isInt.out q2;obtain⟨u,rfl,r⟩:=vals1 r1;obtain⟨t,rfl⟩:=r;refine call_range_1 (Calls.spliced_nil ?_);have hsz:(1000:Nat)≤sizeLine:=by decide
  have en:Builtin.Range.rangeSize 0 n 1=(n.toNat:Int):=by
    rw[rangeSize_one];split <;> omega
  refine call_list_range (n:=n.toNat) (I1.ok.hd hc) (IsRange.new ..) (small_one (by decide) (by decide) (by omega) (by omega)) en (by omega) fun h' tk acc' c' hk hD hit=>?_;have hle:s1.heap.objs.size≤(s1.heap.push {cls:=.type "range",data:=.fields #[.int 0 s1.toks,.int n t,.int 1 (s1.toks+1)]}).objs.size:=by rw[Heap.size_push];exact Nat.le_succ _
  have hf:=I1.hok.fresh hle;refine⟨.ref _,_,I1.laid (t':=tk) (fun b o e=>hk b o (Heap.get?_push_of_some _ e)) hle ?_,rfl,q _ hf⟩;refine(show cA _ _ _ _ _ (.lst _) from⟨by simp;omega,acc'.toList,c',?_,by simpa using hD⟩);rw[List.range_eq_range'];refine wF _ 0 _ (by simpa using hit.1) fun j v e=>?_;obtain⟨t,rfl⟩:=hit.2 j v (by simpa using e);exact⟨t,by simp⟩
end
theorem Dj {f:Array Value→Array Value} {o:Obj}:(Obj.mapFields f o).dict=o.dict:=by
  obtain⟨c,d,dat,sl⟩:=o;cases dat <;> rfl
def Trc (base h:Heap) (e:Addr) (cls:Value×Option Addr) (fl:Value) (T:Addr):Prop:=
  ∃oe vs oT ts,h.get? e=some oe∧(oe.cls,oe.dict)=cls∧oe.data = .fields vs∧vs[2]? = some .none∧vs[1]? = some (.ref T)∧base.get? T=none∧T≠e∧h.get? T=some oT∧oT.data = .fields ts∧ts[3]? = some fl
structure Stn (base:Heap) (l:List Env) (e:Addr) (cls:Value×Option Addr) (fl:Value) (h h':Heap):Prop where
  stays:base.StaysIn h'
  frames:h'.FunFrames base l
  trc:∃T,Trc base h' e cls fl T
  slots:h.UpToSlots h'
section
variable {M:Model} {A:Around} {E:Value→Shared→Prop} {s:Shared} {base:Heap} {env:Env} {outer l:List Env} {L e:Addr} {Q:Unit→Shared→Prop}
theorem RJ {oe:Obj} {vs:Array Value} {head:Value} {had:Bool} (fr:A.frames=some (env::outer)) (ff:s.heap.FunFrames base (env::outer)) (lf:env.frame=some L) (ee:s.heap.get? e=some oe)
    (st:base.StaysIn s.heap) (nb:base.get? e=none) (de:oe.data = .fields vs) (v2:vs[2]? = some .none) (hq:∀h',Stn base (env::outer) e (oe.cls,oe.dict) (rawInt L) s.heap h'→Q () {s with heap:=h'}) :
    wpAny M A (do let a ← frameOf env;let pl ← entryPlaceOf L had;let b ← EntryCells.newEntry head a .none (rawInt L) .none pl;setField (.ref e) 1 b) Q E s:=by
  have sz2:2<vs.size:=(Array.getElem?_eq_some_iff.mp v2).1;have ne:e∉frs (env::outer):=fun z=>by
    obtain⟨_,o,y,d⟩:=ff.mem z;rw[ee] at y;cases y;exact d vs de
  refine wpAny_bind (wpAny_frameOf_fun fr ff lf fun g1 x1=>?_);refine wpAny_bind (wpAny_entryPlaceOf fun pl okp=>?_);unfold EntryCells.newEntry newFields;refine wpAny_bind (wpAny_newObj_type ?_ (okp.sizeOk5 _ _ _ _ _));have e1:g1.get? e=some oe:=(x1.2.1 e ne).trans ee;have st1:base.StaysIn g1:=fun b o z=>(x1.2.1 b fun y=>by rw[(ff.mem y).1] at z;cases z).trans (st b o z);generalize hR:({cls:=.type "traceback",dict:=none,data:=.fields ([head,.ref L,.none,rawInt L,.none]++(if pl.isEmpty then List.replicate 6 Value.none else pl)).toArray}:Obj)=R
  have dR:∃ts,R.data = .fields ts∧ts[3]? = some (rawInt L)∧R.isFreed=false:=by
    subst hR;exact⟨_,rfl,by simp,rfl⟩
  obtain⟨ts,dR,tR,fR⟩:=dR;have e2:=Heap.get?_push_of_some (h:=g1) R e1;refine wpAny_setField e2 de (Nat.lt_of_succ_lt sz2) (hq _ ?_);have Te:g1.objs.size≠e:=Nat.ne_of_gt (Heap.lt_size e1);have keep:∀{b o},b≠e→g1.get? b=some o→((g1.push R).update e (Obj.mapFields (·.setIfInBounds 1 (Value.ref g1.objs.size)))).get? b=some o:=fun {b o} nb z=>by
    rw[Heap.get?_update_other _ _ (Ne.symm nb)];exact Heap.get?_push_of_some _ z
  have nr:∀{b o},s.heap.get? b=some o→(∀us,o.data≠.fields us)→b≠e:=fun {b o} z d y=>by
    rw[y,ee] at z;cases z;exact d vs de
  have d3:=Obj.data_mapFields de (·.setIfInBounds 1 (Value.ref g1.objs.size));refine⟨fun b o z=>keep (fun y=>by rw[y,nb] at z;cases z) (st1 b o z),ff.of_keeps fun b o z d=>?_,⟨g1.objs.size,?_⟩,fun b o z d=>?_⟩
  ·obtain⟨sl,y⟩:=x1.2.2 b o z;exact⟨_,keep (nr z d) y,rfl⟩
  · refine⟨_,_,R,ts,Heap.get?_update_self _ e2 (Obj.isFreed_of_fields d3),by rw[Obj.cls_mapFields,Dj],d3,?_,?_,st1.fresh,Te,?_,dR,tR⟩
    ·rw[Array.getElem?_setIfInBounds_ne (by decide)];exact v2
    ·simp[Nat.lt_of_succ_lt sz2]
    ·rw[Heap.get?_update_other _ _ (Ne.symm Te)];exact Heap.get?_push_size g1 fR
  ·obtain⟨sl,y⟩:=x1.2.2 b o z;exact⟨sl,keep (nr z d) y⟩
theorem Qe {oe:Obj} {vs:Array Value} (fr:A.frames=some (env::outer)) (ff:s.heap.FunFrames base (env::outer)) (lf:env.frame=some L) (ee:s.heap.get? e=some oe)
    (st:base.StaysIn s.heap) (nb:base.get? e=none) (de:oe.data = .fields vs) (v1:vs[1]? = some .none) (v2:vs[2]? = some .none) (hq:∀h',Stn base (env::outer) e (oe.cls,oe.dict) (rawInt L) s.heap h'→Q () {s with heap:=h'}) :
    wpAny M A (noteFrame (.ref e) env) Q E s:=by
  unfold noteFrame;simp only[lf];refine wpAny_bind (wpAny_field ee de v1 ?_);rw[if_neg (by decide)];exact RJ fr ff lf ee st nb de v2 hq
theorem HX {cls:Value×Option Addr} {T:Addr} (fr:A.frames=some (env::outer)) (ff:s.heap.FunFrames base (env::outer)) (lf:env.frame=some L) (tr:Trc base s.heap e cls .none T)
    (st:base.StaysIn s.heap) (nb:base.get? e=none) (hq:∀h',Stn base (env::outer) e cls (rawInt L) s.heap h'→Q () {s with heap:=h'}) :
    wpAny M A (noteFrame (.ref e) env) Q E s:=by
  obtain⟨oe,vs,oT,ts,ee,rfl,de,v2,v1,nT,Te,eT,dT,t3⟩:=tr;unfold noteFrame;simp only[lf];refine wpAny_bind (wpAny_field ee de v1 ?_);rw[if_pos (by simp)];refine wpAny_bind (wpAny_field eT dT t3 ?_);rw[if_neg (by simp[rawInt])];refine wpAny_bind (wpAny_setField eT dT (Array.getElem?_eq_some_iff.mp t3).1 ?_);have oth:∀{b},b≠T→(s.heap.update T (Obj.mapFields (·.setIfInBounds 3 Value.none))).get? b=s.heap.get? b:=fun n=>Heap.get?_update_other _ _ (Ne.symm n);have nr:∀{b o},s.heap.get? b=some o→(∀us,o.data≠.fields us)→b≠T:=fun {b o} z d y=>by
    rw[y,eT] at z;cases z;exact d ts dT
  refine RJ (s:={s with heap:=s.heap.update T (Obj.mapFields (·.setIfInBounds 3 Value.none))}) fr (ff.of_keeps fun b o z d=>⟨o,(oth (nr z d)).trans z,rfl⟩) lf ((oth (Ne.symm Te)).trans ee) (fun b o z=>(oth fun y=>by rw[y,nT] at z;cases z).trans (st b o z)) nb de v2 fun h' x=>hq h' ⟨x.stays,x.frames,x.trc,fun b o z d=>x.slots b o ((oth (nr z d)).trans z) d⟩
theorem Dk {cls:Value×Option Addr} {fl:Value} {T:Addr} (ff:s.heap.FunFrames base l) (tr:Trc base s.heap e cls fl T) (st:base.StaysIn s.heap) (hq:∀h',Stn base l e cls .none s.heap h'→Q () {s with heap:=h'}) :
    wpAny M A (setFlight (.ref e) none) Q E s:=by
  obtain⟨oe,vs,oT,ts,ee,rfl,de,v2,v1,nT,Te,eT,dT,t3⟩:=tr;have z3:3<ts.size:=(Array.getElem?_eq_some_iff.mp t3).1;unfold setFlight;refine wpAny_bind (wpAny_field ee de v1 ?_);rw[if_pos (by simp)];refine wpAny_setField eT dT z3 (hq _ ?_);have oth:∀{b} (f:Obj→Obj),b≠T→(s.heap.update T f).get? b=s.heap.get? b:=fun f n=>Heap.get?_update_other _ _ (Ne.symm n);have nr:∀{b o},s.heap.get? b=some o→(∀us,o.data≠.fields us)→b≠T:=fun {b o} z d y=>by
    rw[y,eT] at z;cases z;exact d ts dT
  refine⟨fun b o z=>(oth _ fun y=>by rw[y,nT] at z;cases z).trans (st b o z),ff.of_keeps fun b o z d=>⟨o,(oth _ (nr z d)).trans z,rfl⟩,⟨T,oe,vs,_,_,(oth _ (Ne.symm Te)).trans ee,rfl,de,v2,v1,nT,Te,Heap.get?_update_self _ eT (Obj.isFreed_of_fields (Obj.data_mapFields dT _)),Obj.data_mapFields dT _,?_⟩,fun b o z d=>⟨o.slots,(oth _ (nr z d)).trans z⟩⟩;simp[z3]
theorem RK {cls:Value×Option Addr} (note:∀Q':Unit→Shared→Prop,(∀h',Stn base (env::outer) e cls (rawInt L) s.heap h'→Q' () {s with heap:=h'})→wpAny M A (noteFrame (.ref e) env) Q' E s)
    (hq:∀h',Stn base (env::outer) e cls .none s.heap h'→Q () {s with heap:=h'}):wpAny M A (leaving env (.ref e)) Q E s:=by
  unfold leaving;refine wpAny_bind (note _ fun h1 x1=>?_);obtain⟨T,tr⟩:=x1.trc;exact Dk (s:={s with heap:=h1}) x1.frames tr x1.stays fun h2 x2=>hq h2 ⟨x2.stays,x2.frames,x2.trc,x1.slots.trans x2.slots⟩
end
structure HY (h0 h:Heap) (H:Hp) (a C:Addr) (od:Option Addr):Prop where
  new:h0.get? a=none
  un:H a=none
  ob:∃oe vs,h.get? a=some oe∧(oe.cls,oe.dict)=(Value.ref C,od)∧oe.data = .fields vs∧vs[2]? = some .none∧(vs[1]? = some .none∨
    ∃T oT ts,vs[1]? = some (.ref T)∧T≠a∧h0.get? T=none∧H T=none∧h.get? T=some oT∧oT.data = .fields ts∧ts[3]? = some .none)
structure Ye (h0 h:Heap) (H:Hp) (a C:Addr) (od:Option Addr) (T:Addr):Prop where
  new:h0.get? a=none
  newT:h0.get? T=none
  un:H a=none
  unT:H T=none
  ob:∃oe vs oT ts,h.get? a=some oe∧(oe.cls,oe.dict)=(Value.ref C,od)∧oe.data = .fields vs∧vs[2]? = some .none∧vs[1]? = some (.ref T)∧T≠a∧h.get? T=some oT∧oT.data = .fields ts∧ts[3]? = some .none
theorem Ye.in {h0 h:Heap} {H:Hp} {a C T:Addr} {od:Option Addr} (x:Ye h0 h H a C od T):HY h0 h H a C od:=by
  obtain⟨h1,h2,h3,h4,oe,vs,oT,ts,t1,t2,t3,t4,t5,t6,t7⟩:=x;exact⟨h1,h3,oe,vs,t1,t2,t3,t4,.inr ⟨T,oT,ts,t5,t6,h2,h4,t7⟩⟩
def V9 (P:Program) (w:World):Wv:=fun outer H s E e s'=>∃(a C:Addr) (od:Option Addr) (H':Hp),e = .ref a∧s'.os=s.os∧AllBare s'.gens∧Un (frs outer) [] H H' s.heap s'.heap∧tG P w H' s'.heap∧(∃T,Ye s.heap s'.heap H' a C od T)∧E (.ref C) od H'
theorem Yg {P:Program} {w:World} {H:Hp} {h:Heap} (x:tG P w H h) {b:Addr} (e:h.get? b=none):H b=none:=by
  cases q:H b with
  | none=>rfl
  | some u=>
    obtain⟨o,eo⟩:∃o,h.get? b=some o:=by
      have:=x b u q;cases u with
      | lst xs=>obtain⟨_,_,_,_,e⟩:=this;exact⟨_,e⟩
      | tup xs=>obtain⟨_,_,_,o,e,_⟩:=this;exact⟨_,e⟩
      | dK kvs=>obtain⟨_,_,_,_,o,_,_,e,_⟩:=this;exact⟨_,e⟩
      | dT kvs=>obtain⟨_,_,_,_,o,_,_,e,_⟩:=this;exact⟨_,e⟩
      | set S n=>obtain⟨o,_,_,_,e,_⟩:=this;exact⟨_,e⟩
      | ins C dx fs=>obtain⟨_,_,_,e,_⟩:=this;exact⟨_,e⟩
      | own y=>obtain⟨_,e⟩:=this;exact⟨_,e⟩
      | xd fs=>obtain⟨_,⟨_,_,_,e,_⟩,_⟩:=this;exact⟨_,e⟩
      | rng lo hi=>obtain⟨_,_,_,e⟩:=this;exact⟨_,e⟩
      | K8 ob u=>obtain⟨e,_⟩:=this;exact⟨_,e⟩
      | tbl ps=>exact⟨_,(show h.get? b=some _ from this)⟩
      | met f y=>exact⟨_,(show h.get? b=some _ from this)⟩
      | ext φ=>obtain⟨_,⟨o,e⟩,_⟩:=this;exact⟨_,e⟩
    rw[e] at eo;cases eo
section
variable {X:Cx} {p_:List (Addr×Obj)} {σ:St} {H:Hp} {s:Shared}
theorem Inv.old (I:Inv X p_ σ H s) (hex:X.ex=[]) {b:Addr} (e:s.heap.get? b=none):X.s₀.heap.get? b=none:=by
  cases q:X.s₀.heap.get? b with
  | none=>rfl
  | some o=>
    obtain⟨o',eo⟩:=I.base.there b o q (by rw[hex];simp);rw[e] at eo;cases eo
theorem RL (I:Inv X p_ σ H s) (hex:X.ex=[]) {a C:Addr} {od:Option Addr} {l:List Addr} (hl:∀b∈l,b∈frs X.stack∨(X.s₀.heap.get? b=none∧H b=none)) (ha:X.s₀.heap.get? a=none) (hH:H a=none) (hs:∀b∈frs X.stack,b∈l)
    {E:XK} (hE:E (.ref C) od H) {h':Heap} (x:Stn (W.hideAll s.heap l) X.stack a (.ref C,od) .none s.heap h'):V9 X.prog X.w X.outer X.H₀ X.s₀ E (.ref a) {s with heap:=h'}:=by
  obtain⟨k1,k2,⟨T,oe,vs,oT,ts,t1,t2,t3,t4,tt,t5,t6,t7,t8,t9⟩,k4⟩:=x;have nl:∀{b:Addr} {o:Obj},b∉l→s.heap.get? b=some o→h'.get? b=some o:=fun hb e=>k1 _ _ (W.hideAll_get _ e hb);have qga:∀{b:Addr} {o:Obj},X.s₀.heap.get? b=some o→b∉X.fs→b∉l:=fun {b o} e hb hm=>by
    rcases hl b hm with z | ⟨z,_⟩
    · rcases List.mem_cons.mp (I.wu b z) with z | z
      ·rw[z] at e;exact absurd (Heap.lt_size e) (Nat.not_lt.mpr I.ok.above)
      ·exact hb z
    ·rw[z] at e;cases e
  have trL:∀{b:Addr} {u:HO},H b=some u→b∉l:=fun {b u} e hm=>by
    rcases hl b hm with z | ⟨_,z⟩
    ·rw[I.Bl b z] at e;cases e
    ·rw[z] at e;cases e
  have fsl:∀{b:Addr} {o:Obj},b∈X.fs→s.heap.get? b=some o→∃sl,h'.get? b=some {o with slots:=sl}:=fun {b o} hb e=>by
    obtain⟨_,o2,e2,hd⟩:=I.vD.mem hb;rw[e] at e2;cases e2;exact k4 b o e hd
  have V4:∀b:Addr,b∉X.ex:=fun b=>by rw[hex];simp
  refine⟨a,C,od,H,rfl,I.os,I.bare,⟨fun b o e n hb _=>?_,fun b o e n hb _=>?_,fun b o e n _=>I.base.free b o e n (V4 b),fun b o e _=>?_,I.base.tups,I.base.sY,I.base.tH⟩,fun b u e=>?_,⟨T,ha,?_,hH,?_,oe,vs,oT,ts,t1,t2,t3,t4,tt,t6,t7,t8,t9⟩,hE⟩
  ·exact nl (qga e hb) (I.base.keep b o e n hb (V4 b))
  ·obtain⟨sl,e2⟩:=I.base.slot b o e n hb (V4 b);obtain⟨sl',e3⟩:=fsl hb e2;exact⟨sl',e3⟩
  · obtain⟨o',e2⟩:=I.base.there b o e (V4 b)
    by_cases hb:b∈X.fs
    ·obtain⟨sl,e3⟩:=fsl hb e2;exact⟨_,e3⟩
    ·exact⟨o',nl (qga e hb) e2⟩
  · refine(I.hok b u e).stay (fun c v hc q=>?_) (fun c q=>q) fun c xs q=>q
    rcases hc with rfl | hc
    ·exact nl (trL e) q
    ·exact nl (trL hc) q
  all_goals
    have hT:T∉frs X.stack:=fun hm=>by
      obtain⟨_,o2,e2,hd⟩:=k2.mem hm;rw[t7] at e2;cases e2;exact hd _ t8
    have cs:s.heap.get? T=none∨(X.s₀.heap.get? T=none∧H T=none):=by
      cases q:s.heap.get? T with
      | none=>exact .inl rfl
      | some o=>
        by_cases hm:T∈l
        ·exact .inr ((hl T hm).resolve_left hT)
        ·rw[W.hideAll_get _ q hm] at t5;cases t5
  ·exact cs.elim (fun z=>I.old hex z) fun z=>z.1
  ·exact cs.elim (fun z=>Yg I.hok z) fun z=>z.2
theorem Yh (I:Inv X p_ σ H s) (hst:X.stack=X.env::X.outer) (hfr:X.env.frame=some X.env.locals) (hex:X.ex=[]) {a C:Addr} {od:Option Addr} (x:HY X.s₀.heap s.heap H a C od) {E:XK} (hE:E (.ref C) od H) {E':Value→Shared→Prop} :
    wpAny (model X.prog X.w) X.A (leaving X.env (.ref a)) (fun _ s''=>V9 X.prog X.w X.outer X.H₀ X.s₀ E (.ref a) s'') E' s:=by
  obtain⟨new,un,oe,vs,he,hc,hd,h0,hT⟩:=x;have fr:=I.ok.frames;rw[hst] at fr;have qbY:∀l:List Addr,s.heap.FunFrames (W.hideAll s.heap (frs X.stack++l)) (X.env::X.outer):=fun l=>by
    rw[← hst];exact W.funFrames_hide I.stack fun env he b hb=>List.mem_append_left _ (List.mem_filterMap.mpr ⟨env,he,hb⟩)
  rcases hT with h1 | ⟨T,oT,ts,h1,h2,h3,h4,h5,h6,h7⟩
  · refine RK (base:=W.hideAll s.heap (frs X.stack++[a])) (fun Q' q=>Qe fr (qbY _) hfr he (fun b o e=>W.of_hideAll _ e) (W.hideAll_none _ (by simp)) hd h1 h0 q) fun h' hL=>?_;rw[hc,← hst] at hL;refine RL I hex (fun b hb=>?_) new un (fun b hb=>List.mem_append_left _ hb) hE hL
    rcases List.mem_append.mp hb with z | z
    ·exact .inl z
    ·rw[List.mem_singleton.mp z];exact .inr ⟨new,un⟩
  · refine RK (base:=W.hideAll s.heap (frs X.stack++[a,T])) (cls:=(.ref C,od)) (fun Q' q=>HX fr (qbY _) hfr (T:=T) ⟨oe,vs,oT,ts,he,hc,hd,h0,h1,W.hideAll_none _ (by simp),h2,h5,h6,h7⟩ (fun b o e=>W.of_hideAll _ e) (W.hideAll_none _ (by simp)) q) fun h' hL=>?_;rw[← hst] at hL;refine RL I hex (fun b hb=>?_) new un (fun b hb=>List.mem_append_left _ hb) hE hL
    rcases List.mem_append.mp hb with z | z
    ·exact .inl z
    · simp only[List.mem_cons,List.not_mem_nil,or_false] at z
      rcases z with rfl | rfl
      ·exact .inr ⟨new,un⟩
      ·exact .inr ⟨h3,h4⟩
theorem HY.back {h0 h1 h:Heap} {H:Hp} {a C:Addr} {od:Option Addr} (x:HY h1 h H a C od) (k:∀b,h1.get? b=none→h0.get? b=none):HY h0 h H a C od:=by
  obtain⟨new,un,oe,vs,he,hc,hd,h2,hT⟩:=x;refine⟨k _ new,un,oe,vs,he,hc,hd,h2,?_⟩
  rcases hT with h1 | ⟨T,oT,ts,h1,h2,h3,h4,h5⟩
  ·exact .inl h1
  ·exact .inr ⟨T,oT,ts,h1,h2,k _ h3,h4,h5⟩
def Lets (X:Cx) (E:XK):Prop:=∀(p_:List (Addr×Obj)) (σ:St) (H:Hp) (s:Shared) (a C:Addr) (od:Option Addr),Inv X p_ σ H s→HY X.s₀.heap s.heap H a C od→E (.ref C) od H→X.xe (.ref a) s
theorem Bt {P:Program} {w:World} {K:W.Frag} {mg:Str→Option Value} {base:Heap} {N:List Str} {qual:Str} {scope:Scope} {f:Addr} {cd:Value} {A:Around} {outer:List Env} {s:Shared} {H:Hp} {E:XK} :
    Lets (aA (V9 P w) P w K mg base N qual scope f cd A outer s H E) E:=fun p_ σ H1 s1 a C od I x hE=>Yh I rfl rfl rfl x hE
theorem Lets.passes {X:Cx} {E:XK} (h:Lets X E) (hex:X.ex=[]):Passes (V9 X.prog X.w) X E:=fun p_ σ H s e s' I hx=>by
  obtain⟨a,C,od,H',rfl,ho,hg,un,hok,⟨T,ex⟩,hE⟩:=hx;have I':Inv X p_ σ H' s':=I.call' (ch:=[]) ho un hok hg fun b z=>(nomatch z);exact h p_ σ H' s' a C od I' (ex.in.back fun b e=>I.old hex e) hE
theorem qaV {K:W.Frag} {h:Heap} {C:Addr} {bmB:List Value} {newId:String} (X:K.In h) (q:W.excIn K C bmB newId=true) :
    ∃bm N nm q bs hdct sn sub ab col dd k0 k1 k2 k3 k5 mN,h.get? C=some (excClassObj nm q C N bs bm hdct sn sub ab col dd k0 k1 k2 k3 k5 newId)∧h.Ns N mN∧mN "__init__" = none∧OwnTail h bmB bm∧∀v b,W.mroIn K C v=some b→(Value.ref C::bm).contains v=b:=by
  unfold W.excIn at q;split at q
  · rename_i dd cd sl ho;split at q
    · rename_i C' bm k0 k1 k2 k3 n k5 hm hs;simp only[Bool.and_eq_true,beq_iff_eq,Bool.not_eq_true'] at q;obtain⟨⟨⟨⟨⟨rfl,rfl⟩,hdel⟩,ht⟩,hok⟩,hni⟩:=q;obtain⟨nm,bs,mro,ns,qn,hd,sn,sub,ab,col,del⟩:=cd;dsimp only at hm hdel hok hni;subst hm hdel;obtain rfl:sl = #[k0,k1,k2,k3,some (.builtin n),k5]:=by
        obtain⟨l⟩:=sl;simp only at hs;rw[hs]
      exact⟨bm,ns,nm,qn,bs,hd,sn,sub,ab,col,dd,k0,k1,k2,k3,k5,_,X _ _ ho,.of_isNs (W.isNs_of_in X hok),W.nsMap_none_of_in X hok hni,W.tail_of_in X ht,fun v b e=>by
        unfold W.mroIn W.clsIn at e;rw[ho] at e;simpa using e⟩
    ·cases q
  ·cases q
abbrev nF:List Value:=[.type "ValueError",.type "Exception",.type "BaseException",.type "object"]
def JZ (K:W.Frag) (C:Addr):Prop:=W.excIn K C nF "ValueError.__new__" = true
theorem kj.okE {P:Program} {w:World} {K:W.Frag} {mg:Str→Option Value} {base:Heap} {x qual:Str} {st:Stmt} {f:Addr} {fd:FuncData} {N ps:List Str} {k:Nat} {sp:Sp} (F:kj K x qual st f fd) (S:bA N ps (ao st)) (len:∀vs H Q E,sp vs H Q E→vs.length=ps.length)
    (hbody:∀(cdv:Value) (A:Around) (outer:List Env) (s:Shared) (H:Hp) (vs:List V) (Q:VK) (E:XK),jJ k (A.deeper (envOfC qual (ao st) s.heap.objs.size f cdv))→sp vs H Q E→
      ∃t,G_ (aA (V9 P w) P w K mg base N qual (ao st) f cdv A outer s H E) (aJ st) t∧t {nx:=fun _ H'=>Q .non H',rt:=Q} (start N vs) H):cD P w K mg base (V9 P w) (k+1) f fd ps sp:=by
  obtain⟨oc,od,kV,doc,pm,an,cdv,ct,osl,rfl,lk,hcd⟩:=F.ex;exact qbC lk hcd S len fun A outer s H vs Q E hr hsp=>hbody cdv A outer s H vs Q E hr hsp
theorem Inv.gone {X:Cx} {p_:List (Addr×Obj)} {σ:St} {H:Hp} {s:Shared} {h':Heap} {t':Nat} {ch:List Addr} (I:Inv X p_ σ H s) (hex:X.ex=[])
    (hch:∀b∈ch,X.s₀.heap.get? b=none∧H b=none∧(∀vs o,s.heap.get? b=some o→o.data = .fields vs→True)∧(∃o vs,s.heap.get? b=some o∧o.data = .fields vs)∧∀p∈X.pn++p_,p.1≠b)
    (k1:∀b o,b∉frs X.stack→b∉ch→s.heap.get? b=some o→h'.get? b=some o) (k2:∀b o,s.heap.get? b=some o→(∀vs,o.data≠.fields vs)→∃sl,h'.get? b=some {o with slots:=sl}) :
    Inv X p_ σ H {s with heap:=h',toks:=t'}:=by
  have nf:∀{b o},s.heap.get? b=some o→(∀vs,o.data≠.fields vs)→b∉ch:=fun {b o} e hd hb=>by
    obtain⟨_,_,_,⟨o2,vs,e2,d2⟩,_⟩:=hch b hb;rw[e] at e2;cases e2;exact hd vs d2
  have fsl:∀{b:Addr} {o:Obj},b∈frs X.stack→s.heap.get? b=some o→∃sl,h'.get? b=some {o with slots:=sl}:=fun {b o} hb e=>by
    obtain⟨_,o2,e2,hd⟩:=I.stack.mem hb;rw[e] at e2;cases e2;exact k2 b o e hd
  have ex1:∀{b:Addr} {o:Obj},b∉ch→s.heap.get? b=some o→∃o',h'.get? b=some o':=fun {b o} hb e=>by
    by_cases hf:b∈frs X.stack
    ·obtain⟨sl,z⟩:=fsl hf e;exact⟨_,z⟩
    ·exact⟨o,k1 b o hf hb e⟩
  have old:∀{b:Addr} {o:Obj},X.s₀.heap.get? b=some o→b∉ch:=fun e hb=>by
    rw[(hch _ hb).1] at e;cases e
  have qmg:∀{b:Addr} {o:Obj},X.s₀.heap.get? b=some o→b∉X.fs→b∉frs X.stack:=fun {b o} e hb hm=>by
    rcases List.mem_cons.mp (I.wu b hm) with z | z
    ·rw[z] at e;exact absurd (Heap.lt_size e) (Nat.not_lt.mpr I.ok.above)
    ·exact hb z
  have V4:∀b:Addr,b∉X.ex:=fun b=>by rw[hex];simp
  have cells:∀{c:Addr} {v:Option Value},s.heap.IsCell c v→h'.IsCell c v:=fun {c v} ⟨o,e,d⟩=>by
    obtain⟨sl,z⟩:=k2 c o e (fun vs q=>by rw[d] at q;cases q);exact⟨_,z,d⟩
  have subs:∀{b:Addr},b∈X.fs→b∈frs X.stack:=fun {b} hb=>by
    rcases I.ok.stk with e | ⟨e,hf⟩
    ·rw[e];exact hb
    ·rw[e];show b∈List.filterMap _ (X.env::X.outer);rw[List.filterMap_cons,hf];exact List.mem_cons_of_mem _ hb
  refine⟨I.ok,I.os,I.bare,⟨fun b o e n hb hx=>?_,fun b o e n hb hx=>?_,I.base.free,fun b o e hx=>?_,I.base.tups,I.base.sY,I.base.tH⟩,?_,fun x c e=>?_,I.free,I.jF,fun p hp=>?_,fun b u e=>?_,I.len⟩
  ·exact k1 b o (qmg e hb) (old e) (I.base.keep b o e n hb hx)
  ·obtain⟨sl,z⟩:=I.base.slot b o e n hb hx;obtain⟨sl',z'⟩:=fsl (subs hb) z;exact⟨sl',z'⟩
  ·obtain⟨o',z⟩:=I.base.there b o e hx;exact ex1 (old e) z
  · obtain⟨m,⟨o,es,ep,e,d,r⟩,q⟩:=I.loc;obtain⟨sl,z⟩:=k2 _ o e (fun vs y=>by rw[d] at y;cases y);refine⟨m,⟨_,es,ep,z,d,r⟩,fun i x v e1 e2 e3=>?_⟩;obtain⟨u,rv,l⟩:=q i x v e1 e2 e3;refine⟨u,rv,?_⟩
    rcases l with l | ⟨kd,c,ec,y⟩
    ·exact .inl l
    ·exact .inr ⟨kd,c,ec,cells y⟩
  ·obtain⟨v,z⟩:=I.cell x c e;exact⟨v,cells z⟩
  · obtain⟨e,n,ne,nfs,d⟩:=I.pin p hp;refine⟨k1 _ _ (fun hm=>?_) (fun hm=>(hch _ hm).2.2.2.2 p hp rfl) e,n,ne,nfs,d⟩
    rcases List.mem_cons.mp (I.wu _ hm) with z | z
    ·exact ne z
    ·exact nfs z
  · have no:∀{c:Addr} {u:HO},H c=some u→c∉frs X.stack∧c∉ch:=fun {c u} q=>⟨fun hm=>(by rw[I.Bl _ hm] at q;cases q),fun hm=>(by rw[(hch _ hm).2.1] at q;cases q)⟩;refine(I.hok b u e).stay (fun c v hc q=>?_) (fun c q=>q) fun c xs q=>q
    rcases hc with rfl | hc
    ·exact k1 _ _ (no e).1 (no e).2 q
    ·exact k1 _ _ (no hc).1 (no hc).2 q
end
end L2
namespace L2
open PySem PySem.Spec PySem.W PyProof.Rows
section
variable {prog:Program} {w:World} {A:Around} {E:Value→Shared→Prop} {K:W.Frag} {h:Heap} {g:Array GenState} {d:Drawn} {t:Nat} {os:OsState} {x C:Addr}
def wG (x C:Addr) (h:Heap):Prop:=∃ox vs,h.get? x=some ox∧ox.cls = .ref C∧ox.data = .fields vs∧vs[2]? = some .none
theorem wG.type {M:Model} (e:wG x C h):Looks M h (typeOf (.ref x)) (.ref C):=by
  obtain⟨ox,vs,h1,h2,_⟩:=e;exact h2▸(Looks.ld h1).andThen .now
end
end L2
namespace L2
open PySem PySem.Spec PyProof.Rows
def Cx.caught (X:Cx) (a:Addr):Cx:={X with A:=X.A.mark (some (.ref a)),calm:=false,xe:=fun _ _=>False}
def Cx.tried (X:Cx) (pn:List (Addr×Obj)) (xe:Value→Shared→Prop):Cx:={X with pn:=pn,xe:=xe}
section
variable {X:Cx} {p_:List (Addr×Obj)} {σ:St} {H:Hp} {s:Shared}
theorem Inv.caught (I:Inv X p_ σ H s) (a:Addr):Inv (X.caught a) p_ σ H s:=
  ⟨⟨I.ok.mod,I.ok.kind,I.ok.glob,I.ok.blt,I.ok.above,I.ok.inj,I.ok.has,I.ok.cab,fun z=>(nomatch z),I.ok.frames,I.ok.stk,I.ok.exf,I.ok.bs,I.ok.V3,I.ok.K_,I.ok.La,I.ok.vD,I.ok.ZW⟩,I.os,I.bare,I.base,I.loc,I.cell,I.free,I.jF,I.pin,I.hok,I.len⟩
theorem Inv.uncaught {a:Addr} {s':Shared} (I:Inv X p_ σ H s) {σ':St} {H':Hp} (J:Inv (X.caught a) p_ σ' H' s'):Inv X p_ σ' H' s':=
  ⟨I.ok,J.os,J.bare,J.base,J.loc,J.cell,J.free,J.jF,J.pin,J.hok,J.len⟩
theorem Inv.tried (I:Inv X p_ σ H s) (xe:Value→Shared→Prop):Inv (X.tried (X.pn++p_) xe) [] σ H s:=
  ⟨⟨I.ok.mod,I.ok.kind,I.ok.glob,I.ok.blt,I.ok.above,I.ok.inj,I.ok.has,I.ok.cab,I.ok.hd,I.ok.frames,I.ok.stk,I.ok.exf,I.ok.bs,I.ok.V3,I.ok.K_,I.ok.La,I.ok.vD,I.ok.ZW⟩,I.os,I.bare,I.base,I.loc,I.cell,I.free,I.jF,fun p hp=>I.pin p (by rw[List.append_nil] at hp;exact hp),I.hok,I.len⟩
theorem Inv.xX {xe:Value→Shared→Prop} {B_:List (Addr×Obj)} {s':Shared} (I:Inv X p_ σ H s) {σ':St} {H':Hp} (J:Inv (X.tried (X.pn++p_) xe) B_ σ' H' s'):Inv X p_ σ' H' s':=
  ⟨I.ok,J.os,J.bare,J.base,J.loc,J.cell,J.free,J.jF,fun p hp=>J.pin p (List.mem_append_left _ hp),J.hok,J.len⟩
def Takes (X:Cx) (pn:List (Addr×Obj)) (xe:Value→Shared→Prop) (R:St→Addr→Option Addr→Hp→Prop):Prop:=
  ∀(p_:List (Addr×Obj)) (σ:St) (H:Hp) (s:Shared) (a C:Addr) (od:Option Addr) (T:Addr),Inv (X.tried pn xe) p_ σ H s→Ye X.s₀.heap s.heap H a C od T→(∀p∈pn,p.1≠a∧p.1≠T)→R σ C od H→xe (.ref a) s
def Yi (sp:Sp) (R:St→Addr→Option Addr→Hp→Prop) (t:TA):TE:=fun σ H Q=>t σ H fun vs H1=>Rx sp vs H1 Q ⟨0⟩ (fun v od H'=>∃C,v = .ref C∧R σ C od H')
@[simp ↓] theorem qgb sp R t σ H Q:Yi sp R t σ H Q=t σ H fun vs H1=>Rx sp vs H1 Q ⟨0⟩ (fun v od H'=>∃C,v = .ref C∧R σ C od H'):=rfl
theorem Yj {k:Nat} {f:Addr} {fd:FuncData} {ps:List Str} {sp:Sp} {x:Str} {p pos:Pos} {e:Expr} {es:List Expr} {t:TA} {pn:List (Addr×Obj)} {xe:Value→Shared→Prop} {R:St→Addr→Option Addr→Hp→Prop}
    (hx:Takes X pn xe R) (hex:X.ex=[]) (F:cD X.prog X.w X.K X.mg X.base (V9 X.prog X.w) k f fd ps sp) (hr:jJ k X.A) (hg:Gl X x) (hm:X.mg x=some (.ref f)) (hk:W.keepIn X.K (.ref f)=true) (hb:Binds X.K fd ps [])
    (ha:PA (X.tried pn xe) (e::es) t) (hdb:(x == ("__debug__" : Str))=false:=by decide) (he:starEach (e::es) X.env=(false,eval e X.env)::starEach es X.env:=by rfl) (hpl:(backTo pos (starEach es X.env)).any (·.1)=false:=by rfl) :
    PE (X.tried pn xe) (.Call (.Name x p) (e::es) [] pos) (Yi sp R t):=by
  intro p_ s σ H Q I h;refine wpAny_Call_Name_kw (nH I hg hm ?_ hdb);refine W.callWith_K (h₀:=X.base) I.ok.mod.K9 hk (dD (ha pos p_ s σ H _ I h) fun us s1 zz=>?_) he hpl;obtain⟨vs,H1,I1,r,q⟩:=zz;refine⟨I1.pZ,?_⟩;have hl:us.length=ps.length:=by rw[← r.length];exact F.len _ _ _ _ q
  have hbd:=hb s1 us I1.pZ (by rw[List.append_nil];exact hl);rw[List.append_nil] at hbd;refine wpAny_call (codeAny_mono (F.run X.A X.stack s1 H1 ⟨us,[]⟩ us vs Q _ hr I1.env0 hbd r q) fun rr s' hq=>?_);cases rr with
  | error e=>
    obtain⟨a,C,od,H',rfl,ho,hgn,un,hok,⟨T,ex⟩,C',e2,hR⟩:=hq;cases e2;have I':Inv (X.tried pn xe) p_ σ H' s':=I1.call' (ch:=[]) ho un hok hgn fun b z=>(nomatch z);have old:∀b,s1.heap.get? b=none→X.s₀.heap.get? b=none:=fun b z=>I1.old hex z;refine hx p_ σ H' s' a C od T I' ⟨old _ ex.new,old _ ex.newT,ex.un,ex.unT,ex.ob⟩ (fun p hp=>?_) hR;have e1:=(I1.pin p (List.mem_append_left _ hp)).1;exact⟨fun z=>(by rw[z,ex.new] at e1;cases e1),fun z=>(by rw[z,ex.newT] at e1;cases e1)⟩
  | ok fl=>
    cases fl with
    | ret u=>exact I1.after hq
    | next=>exact False.elim hq
    | brk=>exact False.elim hq
    | cont=>exact False.elim hq
def wH (x C:Addr) (od:Option Addr) (h:Heap):Prop:=∃ox vs,h.get? x=some ox∧(ox.cls,ox.dict)=(Value.ref C,od)∧ox.data = .fields vs∧vs[2]? = some .none
theorem wH.at {x C:Addr} {od:Option Addr} {h:Heap} (e:wH x C od h):wG x C h:=by
  obtain⟨ox,vs,h1,h2,h3,h4⟩:=e;exact⟨ox,vs,h1,congrArg Prod.fst h2,h3,h4⟩
def zF (a C:Addr) (od:Option Addr):HO:=.ext fun h=>wH a C od h
def Dl (K:W.Frag) (C:Addr):Prop:=∀h,K.In h→∃bm N nm q bs hdct sn sub ab col dd k0 k1 k2 k3 k5,h.get? C=some (excClassObj nm q C N bs bm hdct sn sub ab col dd k0 k1 k2 k3 k5 "ValueError.__new__")∧∀v b,W.mroIn K C v=some b→(Value.ref C::bm).contains v=b
theorem Inv.track {a C:Addr} {od:Option Addr} (I:Inv X p_ σ H s) (hex:X.ex=[]) (new:X.s₀.heap.get? a=none) (un:H a=none) (e:wH a C od s.heap) (hp:∀p∈X.pn++p_,p.1≠a):Inv X p_ σ (upd H a (zF a C od)) s:=by
  have nf:∀{b o},s.heap.get? b=some o→(∀vs,o.data≠.fields vs)→b≠a:=fun {b o} eb hd z=>by
    subst z;obtain⟨ox,vs,h1,_,h3,_⟩:=e;rw[eb] at h1;cases h1;exact hd vs h3
  have V4:∀b:Addr,b∉X.ex:=fun b=>by rw[hex];simp
  have old:∀{b o},X.s₀.heap.get? b=some o→b≠a:=fun {b o} eb z=>by
    rw[z,new] at eb;cases eb
  have ne:∀{b:Addr} {u:HO},H b=some u→b≠a:=fun {b u} q z=>by
    rw[z,un] at q;cases q
  refine⟨I.ok,I.os,I.bare,⟨fun b o eb n hb hx=>I.base.keep b o eb n hb hx,I.base.slot,fun b o eb n hx=>?_,I.base.there,fun b xs q=>?_,fun b o u q=>?_,fun b ps q=>?_⟩,I.loc,I.cell,?_,fun x c q=>?_,fun p hpp=>?_,fun b u q=>?_,I.len⟩
  ·rw[aC (old eb)];exact I.base.free b o eb n hx
  ·have z:=I.base.tups b xs q;rw[aC (ne z)];exact z
  ·have z:=I.base.sY b o u q;rw[aC (ne z)];exact z
  ·obtain⟨m,z⟩:=I.base.tH b ps q;exact⟨m,by rw[aC (ne z)];exact z⟩
  ·obtain⟨m,⟨o,es,ep,eo,d,r⟩,_⟩:=I.loc;rw[aC (nf eo fun vs y=>by rw[d] at y;cases y)];exact I.free
  ·obtain⟨v,o,eo,d⟩:=I.cell x c q;rw[aC (nf eo fun vs y=>by rw[d] at y;cases y)];exact I.jF x c q
  ·obtain⟨f1,f2,f3⟩:=I.pin p hpp;refine⟨f1,?_,f3⟩;rw[aC (hp p hpp)];exact f2
  · by_cases hb:b=a
    ·subst hb;rw[ak] at q;cases q;obtain⟨ox,vs,h1,h2,h3,_⟩:=id e;exact⟨e,⟨ox,h1⟩,fun h1 h2 ⟨ox,vs,a1,a2,a3⟩ k=>⟨ox,vs,k _ a1,a2,a3⟩⟩
    · rw[aC hb] at q;refine(I.hok b u q).stay (fun c v _ z=>z) (fun c z=>?_) fun c xs z=>?_
      ·rw[aC (ne z)];exact z
      ·rw[aC (ne z)];exact z
theorem Uu {M:Model} {A:Around} {E:Value→Shared→Prop} {i:Nat} {n:Str} {v:V} {Q:Unit→Shared→Prop} (I:Inv X p_ σ H s) (hN:X.N.Nodup) (hi:X.N[i]? = some n) (hl:X.env.scope.names.lookup n=some .local) (hv:σ[i]? = some (some v))
    (h:∀s',Inv X p_ (σ.set i none) H s'→Q () s'):wpAny M A (unbindName X.env n) Q E s:=by
  obtain⟨m,hn,q⟩:=id I.loc;obtain⟨u,rv,l⟩:=q i n v hi hv (.inl hl);have hm:m n=some u:=by
    rcases l with⟨_,l⟩ | ⟨k,c,_⟩
    ·exact l
    · rcases k with k | k
      ·have:X.env.kindOf n=some .local:=hl;rw[k] at this;cases this
      ·have:X.env.kindOf n=some .local:=hl;rw[k] at this;cases this
  have hcls:(X.env.scope.kind == .class || (X.env.scope.kind == .module && X.env.locals != X.env.globals))=false:=by rw[I.ok.kind];rfl
  have hiσ:i<σ.length:=by rw[I.len];exact(List.getElem?_eq_some_iff.mp hi).1
  refine wpAny_unbindName_local hl hn hm hcls fun h' u' hn' hs=>?_;obtain⟨oL,_,_,hoL,_⟩:=id hn;have loc:∀b o,X.s₀.heap.get? b=some o→b≠X.env.locals:=fun b o e=>Nat.ne_of_lt (Nat.lt_of_lt_of_le (Heap.lt_size e) I.ok.above);refine h _ ⟨I.ok,I.os,I.bare,⟨fun b o e n hb hx=>?_,fun b o e n hb hx=>?_,I.base.free,fun b o e hx=>?_,I.base.tups,I.base.sY,I.base.tH⟩,⟨_,hn',fun j y v' e1 e2 e3=>?_⟩,fun y c e=>?_,I.free,I.jF,fun p hp=>?_,fun b ob e=>?_,by simpa using I.len⟩
  ·exact(hs.2 b (loc b o e)).trans (I.base.keep b o e n hb hx)
  ·obtain⟨sl,z⟩:=I.base.slot b o e n hb hx;exact⟨sl,(hs.2 b (loc b o e)).trans z⟩
  ·obtain⟨o',z⟩:=I.base.there b o e hx;exact⟨o',(hs.2 b (loc b o e)).trans z⟩
  · have hj:j≠i:=fun z=>by
      subst z;rw[List.getElem?_set_self hiσ] at e2;cases e2
    rw[List.getElem?_set_ne (Ne.symm hj)] at e2;obtain⟨u2,r2,l2⟩:=q j y v' e1 e2 e3;refine⟨u2,r2,?_⟩
    rcases l2 with⟨k,e⟩ | ⟨k,c,e,z⟩
    ·have:y≠n:=fun e=>hj (Ca hN e1 (e▸hi));exact .inl ⟨k,by simp[this,e]⟩
    ·exact .inr ⟨k,c,e,z.sameBut hs (I.cne y c e)⟩
  ·obtain⟨w',z⟩:=I.cell y c e;exact⟨w',z.sameBut hs (I.cne y c e)⟩
  ·obtain⟨e,n,ne,nf,d⟩:=I.pin p hp;exact⟨(hs.2 p.1 ne).trans e,n,ne,nf,d⟩
  · have no:∀{c:Addr} {u:HO},H c=some u→c≠X.env.locals:=fun {c u} q z=>by
      rw[z,I.free] at q;cases q
    refine(I.hok b ob e).stay (fun c w' hc q=>(hs.2 c ?_).trans q) (fun _ q=>q) fun _ _ q=>q
    rcases hc with rfl | hc
    ·exact no e
    ·exact no hc
end
section
variable {X:Cx} {p_:List (Addr×Obj)} {σ:St} {H:Hp} {s:Shared} {a:Addr}
end
theorem kj.qdz {P:Program} {w:World} {K:W.Frag} {mg:Str→Option Value} {base:Heap} {x qual:Str} {st:Stmt} {f:Addr} {fd:FuncData} {N ps:List Str} {k:Nat} {sp:Sp} (F:kj K x qual st f fd) (S:bA N ps (ao st)) (len:∀vs H Q E,sp vs H Q E→vs.length=ps.length)
    (hbody:∀(cdv:Value) (A:Around) (outer:List Env) (s:Shared) (H:Hp) (vs:List V) (Q:VK) (E:XK),jJ k (A.deeper (envOfC qual (ao st) s.heap.objs.size f cdv))→sp vs H Q E→
      ∃t,G_ (aA (V9 P w) P w K mg base N qual (ao st) f cdv A outer s H E) (aJ st) t∧t {nx:=fun _ H'=>Q .non H',rt:=Q} (nA N vs) H):cD P w K mg base (V9 P w) (k+1) f fd ps sp:=by
  refine F.okE S len fun cdv A outer s H vs Q E hr h=>?_;obtain⟨t,h1,h2⟩:=hbody cdv A outer s H vs Q E hr h;refine⟨t,h1,?_⟩;have hl:=len _ _ _ _ h;have hp:ps.length≤N.length:=by have:=congrArg List.length S.pre;rw[List.length_take] at this;omega
  rw[uK N vs (by omega)] at h2;exact h2
end L2
namespace L2
open PySem PySem.Spec PySem.W PyProof.Rows
section
variable {prog:Program} {w:World} {A:Around} {E:Value→Shared→Prop} {K:W.Frag} {h:Heap} {g:Array GenState} {d:Drawn} {t:Nat} {os:OsState}
variable {nm q:Str} {C N:Addr} {bs bm:List Value} {hdct:Bool} {sn:List Str} {sub:List Value} {ab:Bool} {col:Option Bool} {dd:Option Addr} {k0 k1 k2 k3 k5:Option Value}
theorem J0 {rest:List Value} {f:Addr} {Q:PySem.Fin→Shared→Prop} (X:K.In h) (T:OwnTail h nF bm) (hi:findIn K (.ref C) "__init__" = some (some (.ref f))) (hf:typeIn K (.ref f)=some (.type "function"))
    (hC:h.get? C=some (excClassObj nm q C N bs bm hdct sn sub ab col dd k0 k1 k2 k3 k5 "ValueError.__new__"))
    (hq:∀h' e,Heap.MadeExcOf h h' e (.ref C) rest→wpAny (model prog w) A (call (.ref f) (.ref e::rest)) (fun r s'=>r = .none∧Q (.done (.ret (.ref e))) s') E ⟨h',g,d,t,os⟩) (hz:rest.length≤sizeLine) :
    wpAny (model prog w) A (Builtin.«type.__call__» ⟨.ref C::rest,[]⟩) Q E ⟨h,g,d,t,os⟩:=by
  have F:=PySem.F.excBase_ValueError
  repeat (first | with_reducible refine wpAny_loadPart_at hC ?_ | with_reducible refine wpAny_madeBy_exc hC ?_ | wp_step)
  refine codeAny_call_builtin_code (Code.quiet_builtin _ F.quiet) (wpAny_check_new_subT F T hC (codeAny_exc_new_subT F T hC ?_ hz));show wpAny _ _ _ _ _ _;generalize hG:(h.push {cls:=.type "tuple",data:=.seq rest.toArray}).push {cls:=.ref C,data:=.fields #[.ref h.objs.size,.none,.none,.none,.bool false,.none]}=G;have kp:∀b o,h.get? b=some o→G.get? b=some o:=fun b o e=>by
    rw[← hG];exact Heap.get?_push_of_some _ (Heap.get?_push_of_some _ e)
  have hget:G.get? (h.objs.size+1)=some {cls:=.ref C,data:=.fields #[.ref h.objs.size,.none,.none,.none,.bool false,.none]}:=by
    rw[← hG]
    heap_get
  have hT:G.get? h.objs.size=some {cls:=.type "tuple",data:=.seq rest.toArray}:=by
    rw[← hG];exact Heap.get?_push_of_some _ (Heap.get?_push_at rfl rfl)
  have X1:K.In G:=fun b o e=>kp b o (X b o e);have hC1:=kp _ _ hC;have hcC:(Value.ref C::bm).contains (.ref C)=true:=by simp
  unfold isInstance
  repeat (first | with_reducible refine wpAny_loadPart_at hget ?_ | (with_reducible refine wpAny_isSubtype_exc hC1 ?_;rw[hcC]) | wp_step)
  show wpAny _ _ (typeLookup (.ref C) _) _ _ _;refine(looks_findIn (M:=model prog w) X1 hi).at ?_;refine wpAny_holding (wpAny_bind ?_);unfold bindSpecial;refine wpAny_bind ((looks_typeIn (M:=model prog w) X1 hf).at ?_);rw[if_pos (by decide)];refine wpAny_pure (wpAny_bind (wpAny_mono (hq G (h.objs.size+1) ⟨kp,Heap.get?_none_of_le (Nat.le_succ _),h.objs.size,hget,Heap.get?_none_of_le (Nat.le_refl _),hT⟩) (fun r s' hr=>?_) fun _ _ x=>x));obtain⟨rfl,hQ⟩:=hr
  wp_walk
  exact hQ
theorem qaW {rest:List Value} {f:Addr} {Q:Value→Shared→Prop} (X:K.In h) (T:OwnTail h nF bm) (hi:findIn K (.ref C) "__init__" = some (some (.ref f))) (hf:typeIn K (.ref f)=some (.type "function"))
    (hC:h.get? C=some (excClassObj nm q C N bs bm hdct sn sub ab col dd k0 k1 k2 k3 k5 "ValueError.__new__"))
    (hq:∀h' e,Heap.MadeExcOf h h' e (.ref C) rest→wpAny (model prog w) (A.under (.builtin "type.__call__" ⟨.ref C::rest,[]⟩)) (call (.ref f) (.ref e::rest)) (fun r s'=>r = .none∧Q (.ref e) s') E ⟨h',g,d,t,os⟩) (hz:rest.length≤sizeLine) :
    wpAny (model prog w) A (call (.ref C) rest) Q E ⟨h,g,d,t,os⟩:=by
  have f1:=tc_lookup;have f2:=tc_bind (.ref C);have hT:(⟨h,g,d,t,os⟩:Shared).TypeIs (.ref C) "type" :=⟨_,hC,rfl⟩;refine wpAny_call (codeAny_of_tree ?_);show wpAny _ _ (callAny (.ref C) _) _ _ _
  repeat (any_goals (first | assumption | with_reducible refine wpAny_loadPart_at hC ?_ | wp_step))
  refine⟨rfl,codeAny_call_builtin_at (Code.quiet_builtin _ (by decide+kernel)) entry_typeCall (wpAny_check_type_call_sub hC (J0 X T hi hf hC (fun h' e hm=>?_) hz))⟩;exact hq h' e hm
theorem qaX {rest:List Value} {e t0:Addr} {oe:Obj} {vs:Array Value} {Q:Value→Shared→Prop} (T:OwnTail h nF bm)
    (hC:h.get? C=some (excClassObj nm q C N bs bm hdct sn sub ab col dd k0 k1 k2 k3 k5 "ValueError.__new__")) (he:h.get? e=some oe) (hc:oe.cls = .ref C) (hd:oe.data = .fields vs) (h0:vs[0]? = some (.ref t0))
    (hq:∀h' t1,(∀b o,b≠e→h.get? b=some o→h'.get? b=some o)→h'.get? e=some {oe with data:=.fields (vs.setIfInBounds 0 (.ref t1))}→Q .none ⟨h',g,d,t,os⟩) (hz:rest.length≤sizeLine) :
    wpAny (model prog w) A (call (.builtin "ValueError.__init__") (.ref e::rest)) Q E ⟨h,g,d,t,os⟩:=by
  have F:=PySem.F.excBase_ValueError;refine wpAny_call (codeAny_call_builtin F.init.plain F.initEntry (wpAny_check_init_subT F T hC he hc ?_));have he1:(h.push {cls:=.type "tuple",data:=.seq rest.toArray}).get? e=some oe:=Heap.get?_push_of_some _ he;unfold Builtin.«BaseException.__init__» Builtin.BaseException.bexcPut
  repeat (first | with_reducible refine wpAny_field he1 hd h0 ?_ | with_reducible refine wpAny_setField he1 hd (Array.getElem?_eq_some_iff.mp h0).1 ?_ | wp_step)
  have d3:=Obj.data_mapFields hd (·.setIfInBounds 0 (Value.ref h.objs.size));refine hq _ h.objs.size (fun b o hb z=>?_) ?_
  ·rw[Heap.get?_update_other _ _ (Ne.symm hb)];exact Heap.get?_push_of_some _ z
  ·refine(Heap.get?_update_self _ he1 (Obj.isFreed_of_fields d3)).trans (congrArg some ?_);obtain⟨c,dct,dat,sl⟩:=oe;cases hd;rfl
def J1 (x C:Addr) (od:Option Addr) (h:Heap):Prop:=∃ox vs t0,h.get? x=some ox∧ox.cls = .ref C∧ox.data = .fields vs∧vs[0]? = some (.ref t0)∧vs[1]? = some .none∧vs[2]? = some .none∧ox.dict=od
theorem J1.at {x C:Addr} {od:Option Addr} {h:Heap} (e:J1 x C od h):wG x C h:=by
  obtain⟨ox,vs,t0,h1,h2,h3,_,_,h5,_⟩:=e;exact⟨ox,vs,h1,h2,h3,h5⟩
structure Qf (K:W.Frag) (C:Addr):Prop where
  ga:findIn K (.ref C) "__getattribute__" = some (some (.builtin "BaseException.__getattribute__"))
  gn:findIn K (.ref C) "__getattr__" = some none
  mb:mroIn K C (.type "BaseException")=some true
  hd:hasDictIn K C=true
theorem Yk {M:Model} {x:Addr} {nameV:Value} {Q:Unit→Shared→Prop} (X:K.In h) (I:wG x C h) (hb:mroIn K C (.type "BaseException")=some true) (hq:Q () ⟨h,g,d,t,os⟩) :
    wpAny M A (checkBuiltinCall "BaseException.__getattribute__" ⟨[.ref x,nameV],[]⟩) Q E ⟨h,g,d,t,os⟩:=by
  have hk:builtinKind "BaseException.__getattribute__" = some .slot:=by decide+kernel
  have hs:splitId "BaseException.__getattribute__" = some ("BaseException", "__getattribute__"):=by decide+kernel
  have L0:=I.type (M:=M);have L1:=looks_mroIn (M:=M) X hb;have ha:=F.args_bexc_ga (.ref x) nameV;simp only[checkBuiltinCall,hk,hs];refine wpAny_bind ?_;unfold isInstance
  repeat (first | with_reducible refine L0.at ?_ | with_reducible refine L1.at ?_ | wp_step)
  exact hq
theorem qaY {x dx:Addr} {mA:Str→Option Value} (e:wH x C (some dx) h) (hn:h.Ns1 dx mA):∃ox od,W.InstAt h x ox C (some od)∧∀name,W.lookIn name od=some (mA name):=by
  obtain⟨ox,vs,h1,h26,h3,_⟩:=e;have h2:ox.cls = .ref C:=congrArg Prod.fst h26;have h6:ox.dict=some dx:=congrArg Prod.snd h26;obtain⟨od,ho,hl⟩:=Hj hn;refine⟨ox,od,⟨h1,h2,?_,?_⟩,hl⟩
  ·unfold W.notCls;rw[h3]
  ·rw[h6];exact ho
theorem qdA {x dx:Addr} {mA:Str→Option Value} {name:Str} {v:Value} {expr:Bool} {Q:Value→Shared→Prop} {s:Shared} (X:K.In s.heap) (e:wH x C (some dx) s.heap) (hn:s.heap.Ns1 dx mA) (G:Qf K C) (ha:findIn K (.ref C) name=some none)
    (hv:mA name=some v) (hv':handedIn v=true) (h:Q v {s with toks:=s.toks+1}):wpAny (model prog w) A (getAttr (.ref x) name expr) Q E s:=by
  obtain⟨ox,od,I,hl⟩:=qaY e hn;obtain⟨hp,g,d,t,os⟩:=s;dsimp only at X e hn h I;have hf:findObj K C (some od) name=some (.value v):=findObj_own G.hd ha rfl (by rw[hl,hv]);have L0:=I.type (M:=model prog w);have L1:=looks_findIn (M:=model prog w) X G.ga;have L2:=looks_findIn (M:=model prog w) X G.gn;have L3:=looks_find (M:=model prog w) X I hf;have f3:=(F.attrBase_ValueError.ga).bind (.ref x);have hx2:(Value.builtin "BaseException.__getattribute__" == Value.builtin "object.__getattribute__")=false:=by decide+kernel
  have hx1:(onTheHeap (Value.ref C) && Value.builtin "BaseException.__getattribute__" == Value.builtin "object.__getattribute__")=false:=by rw[hx2];rfl
  unfold getAttr getAttrBy
  repeat (any_goals (first | assumption | with_reducible refine L0.at ?_ | with_reducible refine L1.at ?_ | with_reducible refine L2.at ?_ | wp_step))
  rw[show(expr && onTheHeap (Value.builtin "BaseException.__getattribute__"))=false from Bool.and_false _,if_neg (by decide)];unfold boundAndCalled;rw[f3];refine wpAny_bind (wpAny_pure ?_);show wpAny _ _ (call (.builtin "BaseException.__getattribute__") [.ref x,.str name t]) _ _ _;refine wpAny_call (codeAny_call_builtin F.attrBase_ValueError.ga.plain F.entry_bexc_ga (Yk X e.at G.mb ?_))
  repeat (any_goals (first | assumption | with_reducible refine L0.at ?_ | with_reducible refine L3.at ?_ | wp_step))
  show wpAny _ _ (handedOut v) _ _ _;rw[handedOut_of hv'];exact wpAny_pure h
structure wI (K:W.Frag) (C PE:Addr):Prop where
  sa:findIn K (.ref C) "__setattr__" = some (some (.builtin "object.__setattr__"))
  mo:mroIn K C (.type "object")=some true
  cl:∃cd,clsIn K C=some cd∧cd.mro = .ref C::.ref PE::nF∧cd.hasDict=true
theorem qdB {x PE:Addr} {name:Str} {tk:Tok} {v:Value} {R:Result→Shared→Prop} (X:K.In h) (I:wG x C h) (S:wI K C PE) (ha:findIn K (.ref C) name=some none)
    (hq:wpAny (model prog w) A.in1 (Builtin.ObjectAttr.storeInOwnDict (.ref x) (.ref C) (.str name tk) name v false)
      (fun fin s'=>match fin with | .done f=>R (.ok f) s' | .again c'=>c'.quiet=true∧codeAny (model prog w) A c' R s') (fun e s'=>R (.error e) s') ⟨h,g,d,t,os⟩) :
    codeAny (model prog w) A (.call (.builtin "object.__setattr__") ⟨[.ref x,.str name tk,v],[]⟩) R ⟨h,g,d,t,os⟩:=by
  have SF:=PySem.F.store_object;obtain⟨cd,hc,hm,_⟩:=S.cl;have L0:=I.type (M:=model prog w);have sub:Looks (model prog w) h (isInstance (.ref x) (.type "object")) true:=L0.andThen (looks_mroIn X S.mo);refine codeAny_call_builtin SF.slot.plain SF.entry (@check_slot (model prog w) _ _ ⟨h,g,d,t,os⟩ "object.__setattr__" "object" "__setattr__" (.ref x) [.str name tk,v] [] _ SF.kind SF.split sub (SF.args (.ref x) (.str name tk) v) ?_);have Lm:Looks (model prog w) h (mroOf (.ref C)) cd.mro:=(looks_clsIn X hc).andThen .now;rw[osa_eq,refuse_eq];refine wpAny_bind (wpAny_bind (Looks.here (s:=⟨h,g,d,t,os⟩) L0 (wpAny_bind (Looks.here (s:=⟨h,g,d,t,os⟩) Lm ?_))));rw[hm,refuseLoop_ref,refuseLoop_ref,PySem.F.store_ValueError.passes];exact wpAny_pure (wpAny_bind (Looks.here (s:=⟨h,g,d,t,os⟩) L0 (wpAny_bind (Looks.here (s:=⟨h,g,d,t,os⟩) (looks_findIn X ha) (wpAny_bind (wpAny_pure hq))))))
theorem Yl {x PE:Addr} {name:Str} {v:Value} {Q:Unit→Shared→Prop} {s:Shared} (X:K.In s.heap) (I:wG x C s.heap) (S:wI K C PE) (ha:findIn K (.ref C) name=some none)
    (hq:∀A':Around,wpAny (model prog w) A' (Builtin.ObjectAttr.storeInOwnDict (.ref x) (.ref C) (.str name s.toks) name v false) (fun fin s'=>fin = .done (.ret .none)∧Q () s') (fun e s'=>False) {s with toks:=s.toks+1}) :
    wpAny (model prog w) A (setAttr (.ref x) name v) Q E s:=by
  have L0:=I.type (M:=model prog w);refine wpAny_bind (wpAny_mkText (wpAny_bind (wpAny_bind (wpAny_bind (L0 _ _ _ _ (fun _ _ e=>e) (looks_findIn X S.sa _ _ _ _ (fun _ _ e=>e) (wpAny_holding ?_)))))));rw[PySem.F.store_object.slot.bind];refine wpAny_bind (wpAny_pure (wpAny_bind (wpAny_call (codeAny_mono (qdB (A:=A) (tk:=s.toks) (v:=v) (R:=fun r s'=>match r with | .ok (.ret _)=>Q () s' | .ok _=>False | .error e=>False) X I S ha (wpAny_mono (hq _) (fun fin s' z=>?_) fun e s' z=>z)) fun r s' z=>?_))))
  ·obtain⟨rfl,z⟩:=z;exact z
  ·rcases r with e | (v | _ | _ | _) <;> first | exact z.elim | exact wpAny_pure (wpAny_pure z)
theorem qaZ {x dx:Addr} {ns:List Str} {mA:Str→Option Value} {name:Str} {tk:Tok} {v:Value} {Q:PySem.Fin→Shared→Prop} {cd:ClassData} (X:K.In h) (e:J1 x C (some dx) h) (hn:h.Ns1 dx mA) (hc:clsIn K C=some cd) (hd:cd.hasDict=true)
    (hw:PySem.Within mA ns) (hsz:ns.length≤sizeLine) (hq:∀h' t',h'.Ns1 dx (fun y=>if y=name then some v else mA y)→Heap.SameBut dx h h'→Q (.done (.ret .none)) ⟨h',g,d,t',os⟩) :
    wpAny (model prog w) A (Builtin.ObjectAttr.storeInOwnDict (.ref x) (.ref C) (.str name tk) name v false) Q E ⟨h,g,d,t,os⟩:=by
  obtain⟨ox,vs,t0,h1,h2,h3,_,_,_,h6⟩:=e;obtain⟨oc,odi,oda,osl⟩:=ox;cases h2;cases h3;cases h6;refine wpAny_bind (wpAny_pure (wpAny_bind (wpAny_bind (wpAny_loadPart h1 (wpAny_bind (Looks.here (s:=⟨h,g,d,t,os⟩) (looks_clsIn X hc) ?_))))));rw[hd];refine wpAny_pure (a:=some dx) (wpAny_bind (wpAny_pure (wpAny_bind ?_)));refine wpAny_nsSet1 (s:=⟨h,g,d,t,os⟩) hn fun h' hn2 hs2=>?_;obtain⟨oD,esD,epD,hoD,hdD,hcD⟩:=hn2.count (PySem.Within.cons name v hw);refine wpAny_bind (wpAny_lookBehind hoD (by rw[hdD];exact pastItsLine_dict (Nat.le_trans hcD (by rw[List.length_cons];omega))) ?_);exact wpAny_pure (hq _ _ hn2 hs2)
theorem qa0 {x:Addr} {name:Str} {tk:Tok} {v:Value} {Q:PySem.Fin→Shared→Prop} {cd:ClassData} (X:K.In h) (e:J1 x C none h) (hc:clsIn K C=some cd) (hd:cd.hasDict=true)
    (hq:∀h' t',h'.Ns1 h.objs.size (fun y=>if y=name then some v else none)→(∀b o,b≠x→h.get? b=some o→h'.get? b=some o)→J1 x C (some h.objs.size) h'→Q (.done (.ret .none)) ⟨h',g,d,t',os⟩) :
    wpAny (model prog w) A (Builtin.ObjectAttr.storeInOwnDict (.ref x) (.ref C) (.str name tk) name v false) Q E ⟨h,g,d,t,os⟩:=by
  obtain⟨ox,vs,t0,h1,h2,h3,h40,h41,h42,h6⟩:=e;obtain⟨oc,odi,oda,osl⟩:=ox;cases h2;cases h3;cases h6;refine wpAny_bind (wpAny_pure (wpAny_bind (wpAny_bind (wpAny_loadPart h1 (wpAny_bind (Looks.here (s:=⟨h,g,d,t,os⟩) (looks_clsIn X hc) ?_))))));rw[hd,if_neg (by decide)];show wpAny _ _ (if (!true || !typeHasDict (Value.ref C))=true then pure none else _) _ _ _
  rw[if_neg (by simp[typeHasDict])];have hxs:x≠h.objs.size:=Nat.ne_of_lt (Heap.lt_size h1);have h1':(h.push {cls:=.type "dict",data:=.dict #[]}).get? x=some ⟨.ref C,none,.fields vs,osl⟩:=Heap.get?_push_of_some _ h1;refine wpAny_bind (wpAny_alloc' ?_);refine wpAny_bind (wpAny_update' h1' ?_);refine wpAny_pure ?_;generalize hG:((h.push {cls:=.type "dict",data:=.dict #[]}).update x fun o=>{cls:=o.cls,dict:=some h.objs.size,data:=o.data,slots:=o.slots})=G;have g1:G.get? h.objs.size=some {cls:=.type "dict",data:=.dict #[]}:=by
    rw[← hG];exact(Heap.get?_update_ne _ _ _ _ hxs.symm).trans (Heap.get?_push_at rfl rfl)
  have g2:G.get? x=some ⟨.ref C,some h.objs.size,.fields vs,osl⟩:=by
    rw[← hG];exact Heap.get?_update_self _ h1' rfl
  have g3:∀b o,b≠x→h.get? b=some o→G.get? b=some o:=fun b o hb z=>by
    rw[← hG];exact(Heap.get?_update_ne _ _ _ _ hb).trans (Heap.get?_push_of_some _ z)
  have hnd:G.Ns h.objs.size (fun _=>none):=⟨_,#[],_,g1,rfl,fun e he=>absurd he (by simp),fun _=>rfl⟩;show wpAny _ _ (Builtin.ObjectAttr.storeInDict h.objs.size (.str name tk) name v) _ _ _;unfold Builtin.ObjectAttr.storeInDict Builtin.ObjectAttr.newKeyGuard;refine wpAny_bind (wpAny_pure (wpAny_bind (wpAny_nsSet1 (Heap.Ns1.of_empty hnd) fun h' hn' hs=>?_)));obtain⟨oD,esD,epD,hoD,hdD,hcD⟩:=hn'.count (Within.cons name v Within.nil);refine wpAny_bind (wpAny_lookBehind hoD (by rw[hdD];exact pastItsLine_dict (Nat.le_trans hcD (by rw[List.length_cons,List.length_nil,sizeLine_eq];omega))) ?_);exact wpAny_pure (hq _ _ hn' (fun b o hb z=>(hs.2 b (Nat.ne_of_lt (Heap.lt_size z))).trans (g3 b o hb z)) ⟨_,vs,t0,(hs.2 x hxs).trans g2,rfl,rfl,h40,h41,h42,rfl⟩)
end
end L2
namespace L2
open PySem PySem.Spec PyProof.Rows
def fV (x C:Addr) (od:Option Addr):HO:=.ext fun h=>J1 x C od h
def jh (dx:Addr) (fs:List (Str×V)):HO:=.ext fun h=>fs.length≤1000∧∃mA,h.Ns1 dx mA∧(∀f,nG (fs.lookup f) (mA f))∧PySem.Within mA (fs.map (·.1))
section
variable {P:Program} {w:World} {H:Hp} {h:Heap} {x C dx:Addr} {od:Option Addr} {fs:List (Str×V)}
theorem J2 (e:J1 x C od h):cA P w H h x (fV x C od):=by
  obtain⟨ox,vs,t0,h1,h2⟩:=id e;exact⟨e,⟨ox,h1⟩,fun g1 g2 ⟨ox,vs,t0,a1,a2⟩ k=>⟨ox,vs,t0,k _ a1,a2⟩⟩
theorem Bu (ok:tG P w H h) (e:H x=some (fV x C od)):J1 x C od h:=((show cA P w H h x (fV x C od) from ok _ _ e)).1
theorem RM {mA:Str→Option Value} (hl:fs.length≤1000) (hn:h.Ns1 dx mA) (hr:∀f,nG (fs.lookup f) (mA f)) (hw:PySem.Within mA (fs.map (·.1))):cA P w H h dx (jh dx fs):=by
  obtain⟨o,es,ep,h1,h2⟩:=id hn;exact⟨⟨hl,mA,hn,hr,hw⟩,⟨o,h1⟩,fun g1 g2 ⟨c,mB,⟨o,es,ep,a1,a2⟩,b⟩ k=>⟨c,mB,⟨o,es,ep,k _ a1,a2⟩,b⟩⟩
theorem RN (ok:tG P w H h) (e:H dx=some (jh dx fs)):fs.length≤1000∧∃mA,h.Ns1 dx mA∧(∀f,nG (fs.lookup f) (mA f))∧PySem.Within mA (fs.map (·.1)):=((show cA P w H h dx (jh dx fs) from ok _ _ e)).1
theorem qdC {o:HO} (e:H x=some o):upd H x o=H:=funext fun b=>by
  by_cases hb:b=x
  ·subst hb;rw[ak,e]
  ·rw[aC hb]
end
section
variable {X:Cx} {p_:List (Addr×Obj)} {σ:St} {H:Hp} {s:Shared}
theorem Inv.qdD {a:Addr} {ob:HO} (I:Inv X p_ σ H s) (hex:X.ex=[]) (new:X.s₀.heap.get? a=none) (un:H a=none) (e:∃ox vs,s.heap.get? a=some ox∧ox.data = .fields vs) (ok:cA X.prog X.w (upd H a ob) s.heap a ob) (hp:∀p∈X.pn++p_,p.1≠a):Inv X p_ σ (upd H a ob) s:=by
  have nf:∀{b o},s.heap.get? b=some o→(∀vs,o.data≠.fields vs)→b≠a:=fun {b o} eb hd z=>by
    subst z;obtain⟨ox,vs,h1,h3⟩:=e;rw[eb] at h1;cases h1;exact hd vs h3
  have old:∀{b o},X.s₀.heap.get? b=some o→b≠a:=fun {b o} eb z=>by
    rw[z,new] at eb;cases eb
  have ne:∀{b:Addr} {u:HO},H b=some u→b≠a:=fun {b u} q z=>by
    rw[z,un] at q;cases q
  refine⟨I.ok,I.os,I.bare,⟨fun b o eb n hb hx=>I.base.keep b o eb n hb hx,I.base.slot,fun b o eb n hx=>?_,I.base.there,fun b xs q=>?_,fun b o u q=>?_,fun b ps q=>?_⟩,I.loc,I.cell,?_,fun x c q=>?_,fun p hpp=>?_,fun b u q=>?_,I.len⟩
  ·rw[aC (old eb)];exact I.base.free b o eb n hx
  ·have z:=I.base.tups b xs q;rw[aC (ne z)];exact z
  ·have z:=I.base.sY b o u q;rw[aC (ne z)];exact z
  ·obtain⟨m,z⟩:=I.base.tH b ps q;exact⟨m,by rw[aC (ne z)];exact z⟩
  ·obtain⟨m,⟨o,es,ep,eo,d,r⟩,_⟩:=I.loc;rw[aC (nf eo fun vs y=>by rw[d] at y;cases y)];exact I.free
  ·obtain⟨v,o,eo,d⟩:=I.cell x c q;rw[aC (nf eo fun vs y=>by rw[d] at y;cases y)];exact I.jF x c q
  ·obtain⟨f1,f2,f3⟩:=I.pin p hpp;refine⟨f1,?_,f3⟩;rw[aC (hp p hpp)];exact f2
  · by_cases hb:b=a
    ·subst hb;rw[ak] at q;cases q;exact ok
    · rw[aC hb] at q;refine(I.hok b u q).stay (fun c v _ z=>z) (fun c z=>?_) fun c xs z=>?_
      ·rw[aC (ne z)];exact z
      ·rw[aC (ne z)];exact z
theorem Inv.qgc {e C:Addr} {args:List Value} {h':Heap} (I:Inv X p_ σ H s) (hex:X.ex=[]) (mk:Heap.MadeExcOf s.heap h' e (.ref C) args):H e=none∧Inv X p_ σ (upd H e (fV e C none)) {s with heap:=h'}:=by
  have un:=Yg I.hok mk.new;obtain⟨t0,ht,_⟩:=mk.there;have I2:Inv X p_ σ H {s with heap:=h',toks:=s.toks}:=I.kept mk.keeps;refine⟨un,I2.qdD hex (I.old hex mk.new) un ⟨_,_,ht,rfl⟩ (J2 ⟨_,_,t0,ht,rfl,rfl,rfl,rfl,rfl,rfl⟩) fun p hp z=>?_⟩;have e1:=(I.pin p hp).1;rw[z,mk.new] at e1;cases e1
end
structure XMk (K:W.Frag) (C B f:Addr):Prop where
  ob:∃nm q N bs hdct sn sub ab col dd k0 k1 k2 k3 k5,K.lookup C=some (excClassObj nm q C N bs (.ref B::nF) hdct sn sub ab col dd k0 k1 k2 k3 k5 "ValueError.__new__")
  pe:JZ K B
  pm:∃cd,W.clsIn K B=some cd∧cd.mro = .ref B::nF
  init:W.findIn K (.ref C) "__init__" = some (some (.ref f))
  fn:W.typeIn K (.ref f)=some (.type "function")
  kp:W.keepIn K (.ref C)=true
theorem XMk.tail {K:W.Frag} {C B f:Addr} {h:Heap} (M:XMk K C B f) (X:K.In h):OwnTail h nF (.ref B::nF):=by
  obtain⟨bm,N,nm,qn,bs,hdct,sn,sub,ab,col,dd,k0,k1,k2,k3,k5,mN,hC0,hN0,hni,T0,_⟩:=qaV X M.pe;obtain⟨cd,h1,h2⟩:=M.pm;have e:bm=nF:=by
    unfold W.clsIn at h1;split at h1
    ·rename_i c' d' cd' sl' ho;cases h1;have z:=X _ _ ho;rw[hC0] at z;cases z;simpa using h2
    ·cases h1
  subst e;exact .own hC0 hN0 hni .base
section
variable {X:Cx} {C B f:Addr} {x:Str} {np p pos apos:Pos} {e:Expr} {es:List Expr} {t:TA}
structure qgd (K:W.Frag) (B:Addr):Prop where
  sg:W.specialIn K (.ref B) "__getattribute__" = some (some (.builtin "type.__getattribute__"))
  rd:W.readsIn K B (.type "type")=true
  fc:W.findCls K (.ref B) (.type "type") "__init__" = some (.val (.builtin "ValueError.__init__"))
def qbZ (C:Addr) (t:TA):TE:=fun σ H Q=>t σ H fun vs H1=>ar2 vs fun v y=>isRef v fun a=>∃od,H1 a=some (fV a C od)∧Q .non H1
@[simp ↓] theorem qlb C t σ H Q:qbZ C t σ H Q=t σ H fun vs H1=>ar2 vs fun v y=>isRef v fun a=>∃od,H1 a=some (fV a C od)∧Q .non H1:=rfl
theorem RP {pl:Sem Bool} (M:XMk X.K C B f) (N:qgd X.K B) (hg:Gl X x) (hm:X.mg x=some (.ref B)) (ha:PA X (e::es) t) (hdb:(x == ("__debug__" : Str))=false:=by decide)
    (he:starEach (e::es) X.env=(false,eval e X.env)::starEach es X.env:=by rfl) (hpl:(backTo pos (starEach es X.env)).any (·.1)=false:=by rfl)
    (ht:eval (.Call (.Attribute (.Name x np) "__init__" apos) (e::es) [] pos) X.env=(do
      let ov ← eval (.Name x np) X.env
      standAt apos.atName
      let (f,first) ← holding [ov] (getMethod ov "__init__" pl)
      callWith pos f first (backTo pos (starEach (e::es) X.env)) (backToKw pos (keywordEach [] X.env))):=by rfl) :
    PE X (.Call (.Attribute (.Name x np) "__init__" apos) (e::es) [] pos) (qbZ C t):=by
  intro p_ s σ H Q I h;refine W.methodCall_KW (pl:=pl) (nH I hg hm ?_ hdb) ht;refine W.method_cls I.pZ N.sg (W.cls_value I.pZ N.rd N.fc rfl ?_);have I0:Inv X p_ σ H {s with toks:=s.toks+1}:=I.tok _;refine PyProof.Rows.callWith_builtin1 (dD (ha pos p_ _ σ H _ I0 h) fun us s1 zz=>?_) he hpl;obtain⟨vs,H1,I1,r,q⟩:=zz;obtain⟨v,y,rfl,q⟩:=ar2.out q;obtain⟨a,rfl,od,ea,q⟩:=isRef.out q;obtain⟨u1,u2,rfl,r1,r2⟩:=r.two;obtain rfl:u1=Value.ref a:=r1;obtain⟨nm,qn,N,bs,hdct,sn,sub,ab,col,dd,k0,k1,k2,k3,k5,hC⟩:=M.ob;have T:=M.tail I1.pZ;have hC1:=I1.pZ _ _ hC;obtain⟨ox,vs,t0,h1,h2,h3,h4,h5,h6,h7⟩:=Bu I1.hok ea;obtain⟨hh,g,d,tk,os⟩:=s1;refine qaX T hC1 h1 h2 h3 h4 (fun h' t1 keep he'=>?_) (by show 1≤sizeLine;decide);have sz:0<vs.size:=(Array.getElem?_eq_some_iff.mp h4).1;have new:J1 a C od h':=⟨_,vs.setIfInBounds 0 (.ref t1),t1,he',h2,rfl,by simp[sz],by rw[Array.getElem?_setIfInBounds_ne (by decide)];exact h5,by rw[Array.getElem?_setIfInBounds_ne (by decide)];exact h6,h7⟩;have I2:Inv X p_ σ (upd H1 a (fV a C od)) {(⟨hh,g,d,tk,os⟩:Shared) with heap:=h',toks:=tk}:=I1.write (x:=a) (e:=a) (by rw[ea];exact True.intro) (.inl rfl) keep ⟨_,he'⟩ (J2 new);rw[qdC ea] at I2;exact⟨.non,H1,I2,rfl,q⟩
end
section
variable {X:Cx} {C B:Addr} {o value:Expr} {f:Str} {pos pos':Pos} {ta tv:TE}
def sX0 (C:Addr) (ta tv:TE) (f:Str):TS:=fun D σ H=>tv σ H fun y H1=>ta σ H1 fun x H2=>isRef x fun a=>H2 a=some (fV a C none)∧∀dx,H2 dx=none→D.nx σ (upd (upd H2 dx (jh dx [(f,y)])) a (fV a C (some dx)))
@[simp ↓] theorem qpn C ta tv f D σ H:sX0 C ta tv f D σ H=tv σ H fun y H1=>ta σ H1 fun x H2=>isRef x fun a=>H2 a=some (fV a C none)∧∀dx,H2 dx=none→D.nx σ (upd (upd H2 dx (jh dx [(f,y)])) a (fV a C (some dx))):=rfl
theorem qb0 (S:wI X.K C B) (hn:W.findIn X.K (.ref C) f=some none) (ha:PE X o ta) (hv:PE X value tv) (hs:swapsWith value (some (.Attribute o f pos')) pos.line X.env=pure false):PS X (.Assign [.Attribute o f pos'] value pos) (sX0 C ta tv f):=by
  intro p_ s σ H D I h;refine plainObj_wpAny_Assign_Attribute (dD (hv p_ s σ H _ I h) fun u s1 z1=>?_) hs;obtain⟨y,H1,I1,ry,q⟩:=z1;refine dD (ha p_ s1 σ H1 _ I1 q) fun ov s2 z2=>?_;obtain⟨x,H2,I2,rx,q2⟩:=z2;obtain⟨a,rfl,ea,q2⟩:=isRef.out q2;obtain rfl:ov=Value.ref a:=rx;have E0:=Bu I2.hok ea;obtain⟨cd,hc,_,hd⟩:=S.cl;have K9:=I2.pZ;refine Yl K9 E0.at S hn fun A'=>?_;obtain⟨hh,g,d,tk,os⟩:=s2;refine qa0 K9 E0 hc hd fun h' t' hns keep E1=>⟨rfl,?_⟩;have hf:H2 hh.objs.size=none:=I2.hok.fresh (Nat.le_refl _);obtain⟨oD,es,ep,eD,rest⟩:=id hns;obtain⟨ox,_,_,ex1,_⟩:=id E0;have axs:a≠hh.objs.size:=Nat.ne_of_lt (Heap.lt_size ex1);have nfr:oD.isFreed=false:=(Heap.get?_some_iff.mp eD).2;have hgD:(hh.push oD).get? hh.objs.size=some oD:=Heap.get?_push_size hh nfr;have hns':(hh.push oD).Ns1 hh.objs.size (fun y'=>if y'=f then some u else none):=⟨oD,es,ep,hgD,rest⟩
  have rel:∀f',nG ([(f,y)].lookup f') (if f'=f then some u else none):=fun f'=>by
    have e:=pq f f' y [];rw[show[(f,y)].lookup f'=(lQ f y []).lookup f' from rfl,e]
    by_cases z:f'=f
    ·rw[if_pos z,if_pos z];exact ry
    ·rw[if_neg z,if_neg z];exact True.intro
  have wi:PySem.Within (fun y'=>if y'=f then some u else none) ([(f,y)].map (·.1)):=Within.cons f u Within.nil
  have I3:Inv X p_ σ (upd H2 hh.objs.size (jh hh.objs.size [(f,y)])) {(⟨hh,g,d,tk,os⟩:Shared) with heap:=hh.push oD,toks:=tk}:=I2.laid (fun b o z=>Heap.get?_push_of_some _ z) (Nat.le_refl _) (RM (by show(1:Nat)≤1000;decide) hns' rel wi);have I4:Inv X p_ σ (upd (upd H2 hh.objs.size (jh hh.objs.size [(f,y)])) a (fV a C (some hh.objs.size))) {(⟨hh.push oD,g,d,tk,os⟩:Shared) with heap:=h',toks:=t'}:=by
    refine I3.write (x:=a) (e:=a) (by rw[aC axs,ea];exact True.intro) (.inl rfl) (fun b o hb z=>?_) ?_ (J2 E1)
    · by_cases hbs:b=hh.objs.size
      ·subst hbs;rw[hgD] at z;cases z;exact eD
      ·rw[Heap.get?_push_ne _ _ _ hbs] at z;exact keep b o hb z
    ·obtain⟨ox',_,_,z,_⟩:=id E1;exact⟨_,z⟩
  exact⟨σ,_,I4,q2 _ hf⟩
def sX1 (C:Addr) (ta tv:TE) (f:Str):TS:=fun D σ H=>tv σ H fun y H1=>ta σ H1 fun x H2=>isRef x fun a=>∃dx fs,H2 a=some (fV a C (some dx))∧H2 dx=some (jh dx fs)∧fs.length<1000∧D.nx σ (upd H2 dx (jh dx (lQ f y fs)))
@[simp ↓] theorem qpo C ta tv f D σ H:sX1 C ta tv f D σ H=tv σ H fun y H1=>ta σ H1 fun x H2=>isRef x fun a=>∃dx fs,H2 a=some (fV a C (some dx))∧H2 dx=some (jh dx fs)∧fs.length<1000∧D.nx σ (upd H2 dx (jh dx (lQ f y fs))):=rfl
theorem qge (S:wI X.K C B) (hn:W.findIn X.K (.ref C) f=some none) (ha:PE X o ta) (hv:PE X value tv) (hs:swapsWith value (some (.Attribute o f pos')) pos.line X.env=pure false):PS X (.Assign [.Attribute o f pos'] value pos) (sX1 C ta tv f):=by
  intro p_ s σ H D I h;refine plainObj_wpAny_Assign_Attribute (dD (hv p_ s σ H _ I h) fun u s1 z1=>?_) hs;obtain⟨y,H1,I1,ry,q⟩:=z1;refine dD (ha p_ s1 σ H1 _ I1 q) fun ov s2 z2=>?_;obtain⟨x,H2,I2,rx,q2⟩:=z2;obtain⟨a,rfl,dx,fs,ea,ed,hl,q2⟩:=isRef.out q2;obtain rfl:ov=Value.ref a:=rx;have E0:=Bu I2.hok ea;obtain⟨hl0,mA,hns,hr,hw⟩:=RN I2.hok ed;obtain⟨cd,hc,_,hd⟩:=S.cl;have K9:=I2.pZ;refine Yl K9 E0.at S hn fun A'=>?_;obtain⟨hh,g,d,tk,os⟩:=s2;refine qaZ K9 E0 hns hc hd hw (by rw[List.length_map,sizeLine_eq];omega) fun h' t' hns' sb=>⟨rfl,?_⟩;have he:∃o,h'.get? dx=some o:=let ⟨o,_,_,e',_⟩:=hns';⟨o,e'⟩;have I4:Inv X p_ σ (upd H2 dx (jh dx (lQ f y fs))) {(⟨hh,g,d,tk,os⟩:Shared) with heap:=h',toks:=t'}:=by
    refine I2.write (x:=dx) (e:=dx) (by rw[ed];exact True.intro) (.inl rfl) (fun b o hb z=>(sb.2 b hb).trans z) he (RM ?_ hns' (fun g'=>?_) fun g' hg=>?_)
    ·have:=tO f y fs;omega
    · show nG ((lQ f y fs).lookup g') (if g'=f then some u else mA g')
      rw[pq]
      by_cases z:g'=f
      ·rw[if_pos z,if_pos z];exact ry
      ·rw[if_neg z,if_neg z];exact hr g'
    · by_cases z:g'=f
      ·rw[z];exact(qD f y fs).1
      · refine(qD f y fs).2 g' (hw g' fun y'=>hg ?_);show(if g'=f then some u else mA g')=none
        rw[if_neg z];exact y'
  exact⟨σ,_,I4,q2⟩
end
inductive Lf:V→PyData→Prop
  | non:Lf .non .none
  | bl (b):Lf (.bl b) (.bool b)
  | int (i):Lf (.int i) (.int i)
  | str (x):Lf (.str x) (.str x)
inductive RQ:List (Str×V)→List (PyData×PyData)→Prop
  | nil:RQ [] []
  | cons {x v d ks kvs}:Lf v d→RQ ks kvs→RQ ((x,v)::ks) ((.str x,d)::kvs)
section
variable {X:Cx} {p_:List (Addr×Obj)} {σ:St} {H:Hp} {s:Shared}
inductive Shw (H:Hp):PyData→V→Prop
  | thg {d v}:Di H d v→d.hasDict=false→Shw H d v
  | dic {a ks kvs}:RQ ks kvs→H a=some (.dK (ks.map fun e=>((Sum.inr e.1:Key),e.2)))→Shw H (.dict kvs) (.ref a)
end
structure Sml (k n:Nat) (d:PyData):Prop where
  sh:d.showable=true
  dp:d.depth≤k
  ln:d.shown.length≤n
end L2
namespace L2
open PySem PySem.Spec
section
variable {σ:St} {H:Hp} {p:Addr}
variable {φ:PyData→Prop}
structure big (t:TE) (σ:St) (H:Hp) (Q:VK):Prop where
  out:t σ H Q
end
end L2
namespace L2
open PySem
end L2
namespace L2
open PySem PySem.Spec PyProof.Rows PySem.SeqAt
structure XC (K:W.Frag) (C B:Addr):Prop where
  cl:∃cd,W.clsIn K C=some cd∧cd.mro = .ref C::.ref B::nF∧cd.hasDict=true
  ty:W.typeIn K (.ref C)=some (.type "type")
  ga:W.findIn K (.ref C) "__getattribute__" = some (some (.builtin "BaseException.__getattribute__"))
  gn:W.findIn K (.ref C) "__getattr__" = some none
  gc:W.findIn K (.ref C) "__class__" = some (some (.builtin "object.__class__"))
  kp:W.keepIn K (.ref C)=true
section
variable {K:W.Frag} {C D B:Addr}
theorem XC.mro (c:XC K C B) (v:Value):W.mroIn K C v=some ((Value.ref C::Value.ref B::nF).contains v):=by
  obtain⟨cd,h1,h2,_⟩:=c.cl;unfold W.mroIn;rw[h1,Option.bind_some,h2];rfl
theorem XC.get (c:XC K C B):Qf K C:=by
  obtain⟨cd,h1,_,h3⟩:=c.cl;refine⟨c.ga,c.gn,by rw[c.mro];simp,?_⟩;unfold W.hasDictIn;rw[h1];exact h3
theorem XC.set (c:XC K C B) (sa:W.findIn K (.ref C) "__setattr__" = some (some (.builtin "object.__setattr__"))):wI K C B:=by
  obtain⟨cd,h1,h2,h3⟩:=c.cl;exact⟨sa,by rw[c.mro];simp,cd,h1,h2,h3⟩
end
def J3:List Addr→Bool
  | []=>true
  | a::l=>!l.contains a && J3 l
theorem H_:∀{l:List Addr},J3 l=true→l.Nodup
  | [],_=>List.Pairwise.nil
  | a::l,h=>by
    simp only[J3,Bool.and_eq_true,Bool.not_eq_true',List.contains_eq_mem,decide_eq_false_iff_not] at h;exact List.nodup_cons.mpr ⟨h.1,H_ h.2⟩
def ar3 (vs:List V) (R:V→V→V→Prop):Prop:=match vs with
  | [u,v,w]=>R u v w
  | _=>False
@[simp ↓] theorem qpp u v w R:ar3 [u,v,w] R=R u v w:=rfl
end L2
namespace L2
open PySem PySem.Spec PyProof.Rows
section
variable {M:Model} {A:Around} {E:Value→Shared→Prop} {s:Shared} {env:Env}
variable {nm q:Str} {C N:Addr} {bs bm:List Value} {hdct:Bool} {sn:List Str} {sub:List Value} {ab:Bool} {col:Option Bool} {dd:Option Addr} {k0 k1 k2 k3 k5:Option Value} {newId:String}
theorem qa1 {x:Sem Value} {Q:Flow→Shared→Prop} (hh:A.handled=none)
    (h:wpAny M A x (fun v s1=>∃(a C:Addr) (oe:Obj) (vs:Array Value) (nm q:Str) (N:Addr) (bs bm:List Value) (hdct:Bool) (sn:List Str) (sub:List Value) (ab:Bool) (col:Option Bool) (dd:Option Addr) (k0 k1 k2 k3 k5:Option Value) (newId:String),v = .ref a∧bm.contains (.type "BaseException")=true∧
      s1.heap.get? C=some (excClassObj nm q C N bs bm hdct sn sub ab col dd k0 k1 k2 k3 k5 newId)∧s1.heap.get? a=some oe∧oe.cls = .ref C∧oe.data = .fields vs∧vs[1]? = some .none∧E (.ref a) s1) E s) :
    wpAny M A (raiseStmt env (some x) none) Q E s:=by
  unfold raiseStmt;refine wpAny_bind (wpAny_mono h (fun v s1 z=>?_) fun _ _ x=>x);obtain⟨a,C,oe,vs,nm,q,N,bs,bm,hdct,sn,sub,ab,col,dd,k0,k1,k2,k3,k5,newId,rfl,hb,hC,he,hc,hd,h1,hE⟩:=z;have hcB:(Value.ref C::bm).contains (.type "BaseException")=true:=by rw[List.contains_cons,hb,Bool.or_true]
  obtain⟨hp,g,d,tk,os⟩:=s1;obtain⟨oc,odd,oda,osl⟩:=oe;cases hc;cases hd
  repeat (first | with_reducible refine wpAny_loadPart_at he ?_ | with_reducible refine wpAny_loadPart_at hC ?_ | (with_reducible refine wpAny_isSubtype_exc hC ?_;rw[hcB]) | wp_step)
  rw[h1];refine wpAny_pure ?_;rw[if_neg (by decide)];exact wpAny_pure (wpAny_raiseNew_none hh hE)
end
section
variable {X:Cx} {p_:List (Addr×Obj)} {σ:St} {H:Hp} {s:Shared}
theorem Inv.qmh {a:Addr} {φ:Heap→Prop} (I:Inv X p_ σ H s) (ea:H a=some (.ext φ)):Inv X p_ σ (hid a H) s:=by
  have ne:∀{b:Addr} {u:HO},hid a H b=some u→b≠a∧H b=some u:=fun {b u} z=>by
    unfold hid at z;split at z
    ·cases z
    ·rename_i h;exact⟨h,z⟩
  have kp:∀{b:Addr} {u:HO},b≠a→H b=some u→hid a H b=some u:=fun h z=>wD h z;have nn:∀{b:Addr},H b=none→hid a H b=none:=fun {b} z=>by
    unfold hid;split
    ·rfl
    ·exact z
  refine⟨I.ok,I.os,I.bare,⟨I.base.keep,I.base.slot,fun b o eb n hx=>nn (I.base.free b o eb n hx),I.base.there,fun b xs q=>?_,fun b o u q=>?_,fun b ps q=>?_⟩,I.loc,I.cell,nn I.free,fun x c q=>nn (I.jF x c q),fun p hpp=>?_,fun b u q=>?_,I.len⟩
  ·have z:=I.base.tups b xs q;exact kp (fun y=>by rw[y,ea] at z;cases z) z
  ·have z:=I.base.sY b o u q;exact kp (fun y=>by rw[y,ea] at z;cases z) z
  ·obtain⟨m,z⟩:=I.base.tH b ps q;exact⟨m,kp (fun y=>by rw[y,ea] at z;cases z) z⟩
  ·obtain⟨f1,f2,f3⟩:=I.pin p hpp;exact⟨f1,nn f2,f3⟩
  · obtain⟨hb,q'⟩:=ne q;refine(I.hok b u q').stay (fun c v _ z=>z) (fun c z=>?_) fun c xs z=>?_
    ·exact kp (fun y=>by rw[y,ea] at z;cases z) z
    ·exact kp (fun y=>by rw[y,ea] at z;cases z) z
end
section
variable {X:Cx} {E:XK} {k:Nat} {C B f:Addr} {fd:FuncData} {ps:List Str} {sp:Sp} {x:Str} {np cpos pos:Pos} {e:Expr} {es:List Expr} {t:TA}
def RV (C:Addr) (sp:Sp) (E:XK) (t:TA):TS:=fun _ σ H=>t σ H fun vs H1=>vs.length≤sizeLine∧∀a,H1 a=none→Rx sp (.ref a::vs) (upd H1 a (fV a C none)) (fun v H2=>v = .non∧∃od,H2 a=some (fV a C od)∧E (.ref C) od (hid a H2)) ⟨0⟩ E0
@[simp ↓] theorem qe_ C sp E t D σ H:RV C sp E t D σ H=t σ H fun vs H1=>vs.length≤sizeLine∧∀a,H1 a=none→Rx sp (.ref a::vs) (upd H1 a (fV a C none)) (fun v H2=>v = .non∧∃od,H2 a=some (fV a C od)∧E (.ref C) od (hid a H2)) ⟨0⟩ E0:=rfl
theorem Ia (hL:Lets X E) (hex:X.ex=[]) (hc:X.calm=true) (M:XMk X.K C B f) (F:cD X.prog X.w X.K X.mg X.base mL k f fd ps sp) (hr:jJ (k+1) X.A) (hg:Gl X x) (hm:X.mg x=some (.ref C)) (hb:Binds X.K fd ps [])
    (ha:PA X (e::es) t) (hdb:(x == ("__debug__" : Str))=false:=by decide) (he:starEach (e::es) X.env=(false,eval e X.env)::starEach es X.env:=by rfl) (hpl:(backTo cpos (starEach es X.env)).any (·.1)=false:=by rfl) :
    PS X (.Raise (some (.Call (.Name x np) (e::es) [] cpos)) none pos) (RV C sp E t):=by
  intro p_ s σ H D I h;show wpAny _ _ (do standAt pos;raiseStmt X.env (some (do let v ← eval (.Call (.Name x np) (e::es) [] cpos) X.env;standAt pos;pure v)) none) _ _ s
  refine wpAny_bind (wpAny_standAt (qa1 (I.ok.hd hc) (wpAny_bind ?_)));refine wpAny_mono (Q:=fun v s1=>∃(a C:Addr) (oe:Obj) (vs:Array Value) (nm q:Str) (N:Addr) (bs bm:List Value) (hdct:Bool) (sn:List Str) (sub:List Value) (ab:Bool) (col:Option Bool) (dd:Option Addr) (k0 k1 k2 k3 k5:Option Value) (newId:String),v = .ref a∧bm.contains (.type "BaseException")=true∧
      s1.heap.get? C=some (excClassObj nm q C N bs bm hdct sn sub ab col dd k0 k1 k2 k3 k5 newId)∧s1.heap.get? a=some oe∧oe.cls = .ref C∧oe.data = .fields vs∧vs[1]? = some .none∧X.xe (.ref a) s1) ?_ (fun v s1 z=>wpAny_bind (wpAny_standAt (wpAny_pure z))) fun _ _ z=>z
  refine wpAny_Call_Name_kw (nH I hg hm ?_ hdb);refine W.callWith_K (h₀:=X.base) I.ok.mod.K9 M.kp (dD (ha cpos p_ s σ H _ I h) fun us s1 zz=>?_) he hpl;obtain⟨vs,H1,I1,r,hz,q⟩:=zz;refine⟨I1.pZ,?_⟩;obtain⟨nm,qn,N,bs,hdct,sn,sub,ab,col,dd,k0,k1,k2,k3,k5,hC⟩:=M.ob;have T:=M.tail I1.pZ;have hC1:=I1.pZ _ _ hC;have K9:=I1.pZ;obtain⟨hh,g,d,tk,os⟩:=s1;refine qaW K9 T M.init M.fn hC1 (fun h' a mk=>?_) (by show us.length≤_;rw[← r.length];exact hz);have new:X.s₀.heap.get? a=none:=I1.old hex mk.new;obtain⟨un,I2⟩:=I1.qgc hex mk;have hq:=q a un;have r2:Vals (V.ref a::vs) (Value.ref a::us):=.cons rfl r;have hl:(Value.ref a::us).length=ps.length:=by rw[← r2.length];exact F.len _ _ _ _ hq
  have hbd:=hb _ (Value.ref a::us) I2.pZ (by rw[List.append_nil];exact hl);rw[List.append_nil] at hbd;refine wpAny_call (codeAny_mono (F.run _ X.stack _ _ ⟨Value.ref a::us,[]⟩ (Value.ref a::us) _ _ _ (hr.make C us []) (I2.env0.make C us []) hbd r2 hq) fun rr s' hq'=>?_);cases rr with
  | error z=>exact False.elim hq'
  | ok fl=>
    cases fl with
    | ret u=>
      obtain⟨v,H',I3,rv,ev,od,ea,hE⟩:=I2.after hq';subst ev;obtain⟨ox,ws,t0,g1,g2,g3,g4,g5,g6,g7⟩:=Bu I3.hok ea;refine⟨rv,a,C,ox,ws,nm,qn,N,bs,_,hdct,sn,sub,ab,col,dd,k0,k1,k2,k3,k5,_,rfl,?_,I3.pZ _ _ hC,g1,g2,g3,g5,?_⟩
      ·simp[nF]
      ·refine hL p_ σ (hid a H') s' a C od (I3.qmh ea) ⟨new,?_,ox,ws,g1,by rw[g2,g7],g3,g6,.inl g5⟩ hE;unfold hid;rw[if_pos rfl]
    | next=>exact False.elim hq'
    | brk=>exact False.elim hq'
    | cont=>exact False.elim hq'
end
theorem Dl.ofX {K:W.Frag} {C B f:Addr} (M:XMk K C B f) (c:XC K C B):Dl K C:=fun h X=>by
  obtain⟨nm,qn,N,bs,hdct,sn,sub,ab,col,dd,k0,k1,k2,k3,k5,hC⟩:=M.ob;exact⟨_,N,nm,qn,bs,hdct,sn,sub,ab,col,dd,k0,k1,k2,k3,k5,X _ _ hC,fun v b e=>by rw[c.mro] at e;exact Option.some.inj e⟩
end L2
namespace L2
open PySem PySem.Spec PyProof.Rows
variable {X:Cx}
@[simp ↓] theorem qmi x y H Q:qfW x y H Q=(isRef x fun l=>isInt y fun k=>∃xs,H l=some (.lst xs)∧-(2 ^ 63)≤k∧k<2 ^ 63∧xs.length * k.toNat≤sizeLine∧∀p,H p=none→Q (.ref p) (upd H p (.lst (List.replicate k.toNat xs).flatten))):=rfl
theorem RW:jP X (binaryOp .Mult) qfW:=by
  refine qcS.mono fun {x y H Q} h=>?_;obtain⟨l,rfl,h1⟩:=isRef.out h;obtain⟨k,rfl,xs,h2⟩:=isInt.out h1;exact⟨l,k,xs,rfl,rfl,h2⟩
end L2
namespace L2
open PySem PySem.Spec PyProof.Rows
theorem Inv.qdE {X:Cx} {p_:List (Addr×Obj)} {σ:St} {H:Hp} {s:Shared} {a:Addr} {ob:HO} (I:Inv X p_ σ H s) (new:X.s₀.heap.objs.size≤a) (fp:vG X p_ H a) (ok:cA X.prog X.w (upd H a ob) s.heap a ob):Inv X p_ σ (upd H a ob) s:=by
  obtain⟨un,f1,f2,f3,f4,f5⟩:=fp;have old:∀{b o},X.s₀.heap.get? b=some o→b≠a:=fun {b o} eb z=>by
    have:=Heap.lt_size eb;rw[z] at this;exact absurd (Nat.lt_of_lt_of_le this new) (Nat.lt_irrefl _)
  have ne:∀{b:Addr} {u:HO},H b=some u→b≠a:=fun {b u} q z=>by
    rw[z,un] at q;cases q
  refine⟨I.ok,I.os,I.bare,⟨fun b o eb n hb hx=>I.base.keep b o eb n hb hx,I.base.slot,fun b o eb n hx=>?_,I.base.there,fun b xs q=>?_,fun b o u q=>?_,fun b ps q=>?_⟩,I.loc,I.cell,?_,fun x c q=>?_,fun p hpp=>?_,fun b u q=>?_,I.len⟩
  ·rw[aC (old eb)];exact I.base.free b o eb n hx
  ·have z:=I.base.tups b xs q;rw[aC (ne z)];exact z
  ·have z:=I.base.sY b o u q;rw[aC (ne z)];exact z
  ·obtain⟨m,z⟩:=I.base.tH b ps q;exact⟨m,by rw[aC (ne z)];exact z⟩
  ·rw[aC f1.symm];exact I.free
  ·rw[aC (f4 x c q)];exact I.jF x c q
  ·obtain⟨g1,g2,g3⟩:=I.pin p hpp;refine⟨g1,?_,g3⟩;rw[aC (f5 p hpp)];exact g2
  · by_cases hb:b=a
    ·subst hb;rw[ak] at q;cases q;exact ok
    · rw[aC hb] at q;refine(I.hok b u q).stay (fun _ _ _ qq=>qq) (fun d qd=>?_) fun d zs qd=>?_
      ·rw[aC (ne qd)];exact qd
      ·rw[aC (ne qd)];exact qd
def arT (xs:List V) (R:V→V→V→Prop):Prop:=match xs with | [x,y,z]=>R x y z | _=>False
@[simp ↓] theorem qpq x y z R:arT [x,y,z] R=R x y z:=rfl
section
variable {X:Cx} {C B:Addr} {o:Expr} {f:Str} {pos:Pos} {ta:TE}
theorem qa2 {P:Program} {w:World} {H:Hp} {h:Heap} {x C:Addr} {od:Option Addr} (hok:∀b u,H b=some u→cA P w H h b u) (e:H x=some (zF x C od)):wH x C od h:=(hok x _ e).1
def Ym (C:Addr) (ta:TE) (f:Str):TE:=fun σ H Q=>ta σ H fun x H1=>isRef x fun a=>∃dx fs,H1 a=some (zF a C (some dx))∧H1 dx=some (jh dx fs)∧∃v,fs.lookup f=some v∧Q v H1
@[simp ↓] theorem qgf C ta f σ H Q:Ym C ta f σ H Q=ta σ H fun x H1=>isRef x fun a=>∃dx fs,H1 a=some (zF a C (some dx))∧H1 dx=some (jh dx fs)∧∃v,fs.lookup f=some v∧Q v H1:=rfl
theorem Dm (G:Qf X.K C) (hn:W.findIn X.K (.ref C) f=some none) (he:PE X o ta) (hb:attributeBase o f X.env (eval o X.env)=eval o X.env):PE X (.Attribute o f pos) (Ym C ta f):=by
  intro p_ s σ H Q I h;refine Rk hb (dD (he p_ s σ H _ I h) fun u s1 z1=>?_);obtain⟨x,H1,I1,rx,q⟩:=z1;obtain⟨a,rfl,dx,fs,ea,ed,v,hv,q⟩:=isRef.out q;obtain rfl:u=Value.ref a:=rx;obtain⟨hl0,mA,hns,hr,hw⟩:=RN I1.hok ed;obtain⟨u',hu,ru⟩:=nG.some_of (v:=v) (o:=mA f) (by rw[← hv];exact hr f);exact qdA I1.pZ (qa2 I1.hok ea) hns G hn hu (Hl ru) ⟨v,H1,I1.tok _,ru,q⟩
end
section
variable {M:Model} {A:Around} {E:Value→Shared→Prop} {h:Heap} {g:Array GenState} {d:Drawn} {t:Nat} {os:OsState}
variable {nm q:Str} {C N:Addr} {bs bm:List Value} {hdct:Bool} {sn:List Str} {sub:List Value} {ab:Bool} {col:Option Bool} {dd:Option Addr} {k0 k1 k2 k3 k5:Option Value} {newId:String}
variable {nm' q':Str} {D N':Addr} {bs' bm':List Value} {qgg:Bool} {sn':List Str} {sub':List Value} {ab':Bool} {col':Option Bool} {dd':Option Addr} {j0 j1 j2 j3 j5:Option Value} {newId':String}
theorem wJ {e:Addr} {oe:Obj} {b:Bool} {Q:Bool→Shared→Prop} (hC:h.get? C=some (excClassObj nm q C N bs bm hdct sn sub ab col dd k0 k1 k2 k3 k5 newId))
    (hD:h.get? D=some (excClassObj nm' q' D N' bs' bm' qgg sn' sub' ab' col' dd' j0 j1 j2 j3 j5 newId')) (he:h.get? e=some oe) (hcls:oe.cls = .ref C) (hDB:(Value.ref D::bm').contains (.type "BaseException")=true) (hCD:(Value.ref C::bm).contains (.ref D)=b)
    (hq:Q b ⟨h,g,d,t,os⟩):wpAny M A (excMatches (.ref e) (.ref D)) Q E ⟨h,g,d,t,os⟩:=by
  have f:=tc_notTuple;unfold excMatches;cases b with
  | true=>
    repeat (first | (with_reducible refine wpAny_loadPart_at he ?_;rw[hcls]) | with_reducible refine wpAny_loadPart_at hD ?_ | (with_reducible refine wpAny_isSubtype_exc hD ?_;rw[hDB]) | (with_reducible refine wpAny_isSubtype_exc hC ?_;rw[hCD]) | wp_step)
    exact hq
  | false=>
    repeat (first | (with_reducible refine wpAny_loadPart_at he ?_;rw[hcls]) | with_reducible refine wpAny_loadPart_at hD ?_ | (with_reducible refine wpAny_isSubtype_exc hD ?_;rw[hDB]) | (with_reducible refine wpAny_isSubtype_exc hC ?_;rw[hCD]) | wp_step)
    exact hq
end
structure Clause (K:W.Frag) (D:Addr):Prop where
  ob:Dl K D
  be:W.mroIn K D (.type "BaseException")=some true
theorem Clause.of {K:W.Frag} {C B f:Addr} (M:XMk K C B f) (c:XC K C B):Clause K C:=⟨Dl.ofX M c,by rw[c.mro];simp⟩
def Yn (i:Nat) (ts:Addr→TS) (Dn:Ends) (σ1:St) (C:Addr) (od:Option Addr) (H1:Hp):Prop:=∀a,H1 a=none→
    ts a {nx:=fun σ2 H2=>Dn.nx (σ2.set i none) H2,rt:=Dn.rt,bk:=fun σ2 H2=>Dn.bk (σ2.set i none) H2,ct:=fun σ2 H2=>Dn.ct (σ2.set i none) H2} (σ1.set i (some (.ref a))) (upd H1 a (zF a C od))
def Mz (i:Nat) (K:W.Frag) (D1 D2:Addr) (t1 t2:Addr→TS) (Dn:Ends):St→Addr→Option Addr→Hp→Prop:=fun σ1 C od H1=>Dl K C∧
  ((W.mroIn K C (.ref D1)=some true∧Yn i t1 Dn σ1 C od H1)∨(W.mroIn K C (.ref D1)=some false∧W.mroIn K C (.ref D2)=some true∧Yn i t2 Dn σ1 C od H1))
def qb1 (i:Nat) (K:W.Frag) (D1 D2:Addr) (t1 t2:Addr→TS) (tb:(St→Addr→Option Addr→Hp→Prop)→TS):TS:=fun Dn σ H=>tb (Mz i K D1 D2 t1 t2 Dn) Dn σ H
@[simp ↓] theorem qlc i K D1 D2 t1 t2 tb Dn σ H:qb1 i K D1 D2 t1 t2 tb Dn σ H=tb (Mz i K D1 D2 t1 t2 Dn) Dn σ H:=rfl
section
variable {X:Cx} {body su1 su2:List Stmt} {b1 b2:Stmt} {i:Nat} {n c1 c2:Str} {np1 np2 hp1 hp2 pos:Pos} {D1 D2:Addr} {t1 t2:Addr→TS} {tb:(St→Addr→Option Addr→Hp→Prop)→TS}
theorem qa3 (hst:X.stack=X.env::X.outer) (hfr:X.env.frame=some X.env.locals) (hex:X.ex=[]) (hN:X.N.Nodup) (hi:X.N[i]? = some n) (hl:X.env.scope.names.lookup n=some .local)
    (hb:∀R pn xe,Takes X pn xe R→G_ (X.tried pn xe) body (tb R)) (hg1:Gl X c1) (hm1:X.mg c1=some (.ref D1)) (cl1:Clause X.K D1) (hg2:Gl X c2) (hm2:X.mg c2=some (.ref D2)) (cl2:Clause X.K D2)
    (hs1:∀a,G_ (X.caught a) (b1::su1) (t1 a)) (hs2:∀a,G_ (X.caught a) (b2::su2) (t2 a)) (qgh:(c1 == ("__debug__" : Str))=false:=by decide) (qmj:(c2 == ("__debug__" : Str))=false:=by decide) :
    PS X (.Try body [.ExceptHandler (some (.Name c1 np1)) (some n) (b1::su1) hp1,.ExceptHandler (some (.Name c2 np2)) (some n) (b2::su2) hp2] [] [] pos) (qb1 i X.K D1 D2 t1 t2 tb):=by
  intro p_ s σ H Dn I h;have hiσ:∀{σ':St} {H':Hp} {s':Shared},Inv X p_ σ' H' s'→i<σ'.length:=fun J=>by rw[J.len];exact(List.getElem?_eq_some_iff.mp hi).1
  refine wpAny_Try_except (wpAny_mono (hb (Mz i X.K D1 D2 t1 t2 Dn) (X.pn++p_) (fun e s1=>∃a C od T σ1 H1,e = .ref a∧Inv X p_ σ1 H1 s1∧Ye X.s₀.heap s1.heap H1 a C od T∧(∀p∈X.pn++p_,p.1≠a∧p.1≠T)∧Mz i X.K D1 D2 t1 t2 Dn σ1 C od H1) ?_ [] s σ H Dn (I.tried _) h) (fun f s1 hf=>?_) fun e s1 hx=>?_)
  ·intro B_ σ1 H1 s1 a C od T J ex hp hR;exact⟨a,C,od,T,σ1,H1,rfl,I.xX J,ex,hp,hR⟩
  · cases f with
    | next=>obtain⟨σ',H',J,q⟩:=hf;exact wpAny_execs_nil ⟨σ',H',I.xX J,q⟩
    | brk=>obtain⟨σ',H',J,q⟩:=hf;exact⟨σ',H',I.xX J,q⟩
    | cont=>obtain⟨σ',H',J,q⟩:=hf;exact⟨σ',H',I.xX J,q⟩
    | ret u=>obtain⟨v,σ',H',J,r,q⟩:=hf;exact⟨v,σ',H',I.xX J,r,q⟩
  · obtain⟨a,C,od,T,σ1,H1,rfl,J,ex,hp,clC,hR⟩:=hx;obtain⟨new,newT,un,unT,oe,vs,oT,tts,t1',t2',t3,t4,t5,t6,t7,t8,t9⟩:=ex;have fr:=J.ok.frames;rw[hst] at fr;have st0:(W.hideAll s1.heap (frs X.stack++[a,T])).StaysIn s1.heap:=fun b o e=>W.of_hideAll _ e;have na:(W.hideAll s1.heap (frs X.stack++[a,T])).get? a=none:=W.hideAll_none _ (by simp);have ff:s1.heap.FunFrames (W.hideAll s1.heap (frs X.stack++[a,T])) (X.env::X.outer):=by
      rw[← hst];exact W.funFrames_hide J.stack fun env he b hb=>List.mem_append_left _ (List.mem_filterMap.mpr ⟨env,he,hb⟩)
    have tr0:Trc (W.hideAll s1.heap (frs X.stack++[a,T])) s1.heap a (.ref C,od) .none T:=⟨oe,vs,oT,tts,t1',t2',t3,t4,t5,W.hideAll_none _ (by simp),t6,t7,t8,t9⟩;have gone:∀(h':Heap),(W.hideAll s1.heap (frs X.stack++[a,T])).StaysIn h'→s1.heap.UpToSlots h'→Inv X p_ σ1 H1 {s1 with heap:=h'}:=fun h' k1 k2=>by
      refine J.gone (t':=s1.toks) (ch:=[a,T]) hex (fun b hb=>?_) (fun b o hf hc e=>k1 b o (W.hideAll_get _ e (by rw[List.mem_append];exact fun z=>z.elim hf hc))) fun b o e hd=>k2 b o e hd;simp only[List.mem_cons,List.not_mem_nil,or_false] at hb
      rcases hb with rfl | rfl
      ·exact⟨new,un,fun _ _ _ _=>trivial,⟨oe,vs,t1',t3⟩,fun p q=>(hp p q).1⟩
      ·exact⟨newT,unT,fun _ _ _ _=>trivial,⟨oT,tts,t7,t8⟩,fun p q=>(hp p q).2⟩
    refine HX fr ff hfr tr0 st0 na fun h4 x4=>?_;obtain⟨T4,tr4⟩:=x4.trc;refine Dk (s:={s1 with heap:=h4}) x4.frames tr4 x4.stays fun h5 x5=>?_;obtain⟨T5,tr5⟩:=x5.trc;have J5:=gone h5 x5.stays (x4.slots.trans x5.slots);obtain⟨oe5,vs5,oT5,ts5,u1,u2,u3,_⟩:=id tr5;obtain⟨bm,N,nm,q,bs,hdct,sn,sub,ab,col,dd,k0,k1,k2,k3,k5,hC,hmro⟩:=clC _ J5.pZ;obtain⟨bm1,N1,nm1,q1,bs1,qpr,sn1,qpM,ab1,qpN,dd1,j0,j1,j2,j3,j5,hD1,qgi⟩:=cl1.ob _ J5.pZ;obtain⟨bm2,N2,Ib,q2,bs2,qps,sn2,qpO,ab2,qpP,dd2,i0,i1,i2,i3,i5,hD2,qmk⟩:=cl2.ob _ J5.pZ;have run:∀{b₀:Stmt} {suite:List Stmt} {hpos:Pos} {ts:Addr→TS},(∀a,G_ (X.caught a) (b₀::suite) (ts a))→Yn i ts Dn σ1 C od H1→
        codeAny (model X.prog X.w) (X.A.mark (some (.ref a))) (.handlers (.ref a) [.ExceptHandler none (some n) (b₀::suite) hpos] X.env) (fun r s₂=>match r with
          | .ok f=>wpAny (model X.prog X.w) X.A (do bindName X.env n .none;unbindBehindTheSuite X.env n hpos) (fun _ s₃=>SP X p_ Dn f s₃) X.xe s₂
          | .error x=>cameBackBy (model X.prog X.w) X.A X.env X.xe x s₂) {s1 with heap:=h5}:=by
      intro b₀ suite hpos ts hsu hR;refine codeAny_handlers_suite_as ?_;refine Dk (s:={s1 with heap:=h5}) x5.frames tr5 x5.stays fun h6 x6=>?_;have J6:=gone h6 x6.stays ((x4.slots.trans x5.slots).trans x6.slots);obtain⟨T6,oe6,vs6,oT6,ts6,v1,v2,v3,v4,_⟩:=x6.trc;have J7:=J6.track hex new un ⟨oe6,vs6,v1,v2,v3,v4⟩ fun p q=>(hp p q).1;refine uH J7 hN hi (.inl hl) (v:=.ref a) rfl (fun s8 J8 _=>?_) (.inr hl);refine wpAny_mono (hsu a p_ s8 _ _ _ (J8.caught a) (hR a un)) (fun f s9 hf=>?_) fun _ _ z=>False.elim z;show wpAny (model X.prog X.w) X.A (do bindName X.env n .none;unbindBehindTheSuite X.env n hpos) (fun _ s₃=>SP X p_ Dn f s₃) X.xe s9
      have go:∀{σ':St} {H':Hp} (Q':Shared→Prop),Inv X p_ σ' H' s9→(∀s',Inv X p_ (σ'.set i none) H' s'→Q' s')→wpAny (model X.prog X.w) X.A (do bindName X.env n .none;unbindBehindTheSuite X.env n hpos) (fun _ s₃=>Q' s₃) X.xe s9:=fun {σ' H'} Q' J9 hq=>by
        refine wpAny_bind ?_;unfold bindName;refine wpAny_bind (wpAny_holding (wpAny_point (wpAny_bind (uH J9 hN hi (.inl hl) (v:=.non) rfl (fun Z4 J10 _=>wpAny_point ?_) (.inr hl)))));unfold unbindBehindTheSuite;refine wpAny_onRaise (Uu (v:=.non) J10 hN hi hl (List.getElem?_set_self (hiσ J9)) fun s11 J11=>?_);rw[List.set_set] at J11;exact hq s11 J11
      cases f with
      | next=>obtain⟨σ',H',J9,q⟩:=hf;exact go _ (I.uncaught J9) fun s' J'=>⟨_,H',J',q⟩
      | brk=>obtain⟨σ',H',J9,q⟩:=hf;exact go _ (I.uncaught J9) fun s' J'=>⟨_,H',J',q⟩
      | cont=>obtain⟨σ',H',J9,q⟩:=hf;exact go _ (I.uncaught J9) fun s' J'=>⟨_,H',J',q⟩
      | ret u=>obtain⟨v,σ',H',J9,r,q⟩:=hf;exact go _ (I.uncaught J9) fun s' J'=>⟨v,_,H',J',r,q⟩
    rcases hR with⟨hCD,hR⟩ | ⟨hC1,hCD,hR⟩
    ·refine wpAny_handleBy_cons (codeAny_handlers_test (nH (J5.caught a) hg1 hm1 ?_ qgh)) (by intro q;cases q);exact wJ hC hD1 u1 (congrArg Prod.fst u2) (qgi _ _ cl1.be) (hmro _ _ hCD) (run hs1 hR)
    ·refine wpAny_handleBy_cons (codeAny_handlers_test (nH (J5.caught a) hg1 hm1 ?_ qgh)) (by intro q;cases q);refine wJ hC hD1 u1 (congrArg Prod.fst u2) (qgi _ _ cl1.be) (hmro _ _ hC1) ?_;refine wpAny_handleBy_cons (codeAny_handlers_test (nH (J5.caught a) hg2 hm2 ?_ qmj)) (by intro q;cases q);exact wJ hC hD2 u1 (congrArg Prod.fst u2) (qmk _ _ cl2.be) (hmro _ _ hCD) (run hs2 hR)
end
end L2
namespace L2
open PySem
theorem uN {fx:Nat→Option Int} {ps:List (Str×Str)} {n:Nat} {a b:Str}:(n,a,b)∈aG fx ps 0↔∃e,ps[n]? = some e∧(((fx n).getD 0=0∧a=e.1∧b=e.2)∨((fx n).getD 1=1∧a=e.2∧b=e.1)):=by
  rw[j4];constructor
  ·rintro⟨j,e,h1,h2⟩;obtain⟨h3,h4⟩:=lV.mp h2;rw[Nat.zero_add] at h3 h4;simp only at h3 h4;subst h3;exact⟨e,h1,h4⟩
  ·rintro⟨e,h1,h2⟩;exact⟨n,e,h1,lV.mpr ⟨by simp,by rw[Nat.zero_add];exact h2⟩⟩
end L2
local macro_rules | `(tactic| left) => `(tactic| simp -dsimp [L2.aA,L2.stC,-Bool.exists_bool,-Prod.forall,-Prod.exists])
local macro_rules | `(tactic| right) => `(tactic| simp -dsimp [L2.aA,L2.stC,-Bool.exists_bool])
local macro_rules | `(tactic| nofun) => `(tactic| simp -dsimp [L2.aA,L2.stC,-Bool.exists_bool,-List.map_take,-Prod.forall,-Prod.exists])
local macro_rules | `(tactic| ac_nf) => `(tactic| simp -dsimp [L2.aA,L2.stC,-Bool.exists_bool,-List.map_take])
local macro_rules | `(tactic| symm) => `(tactic| decide +kernel)
local macro_rules | `(tactic| exists $H, $p, $v, $s:ident, $e:ident, $G:ident, $h) => `(tactic| (have $s : L2.Same $H (L2.upd $H $p $v) := L2.au $h; have $e : L2.upd $H $p $v $p = some $v := L2.ak; generalize L2.upd $H $p $v = $G at $s:ident $e:ident ⊢))
local macro_rules | `(tactic| exists $a, $b) => `(tactic| refine $a $b (fun $(Lean.mkIdent `vs) $(Lean.mkIdent `H) $(Lean.mkIdent `Q) $(Lean.mkIdent `E) $(Lean.mkIdent `h) => ?_) (fun $(Lean.mkIdent `cdv) $(Lean.mkIdent `A) $(Lean.mkIdent `outer) $(Lean.mkIdent `s) $(Lean.mkIdent `H) $(Lean.mkIdent `vs) $(Lean.mkIdent `Q) $(Lean.mkIdent `E) $(Lean.mkIdent `hr) $(Lean.mkIdent `h) => ?_))
local macro_rules | `(tactic| ac_rfl) => `(tactic| exact ⟨rfl, rfl, rfl, by decide +kernel, rfl, by decide +kernel, by decide +kernel⟩)
namespace K35
open PySem L2
def top (i:Nat):Stmt:=PySem.Challenge.pw_pointways_k35_whole_pointed_or_barred.main.body.getD i (.Pass ⟨0,0,0,0⟩)
abbrev dJ:Stmt:=top 1
abbrev fu:Stmt:=top 2
abbrev cN:Stmt:=top 3
abbrev gC:Stmt:=top 4
abbrev qj:Stmt:=top 5
abbrev dM:Stmt:=inClass (top 10) 0
abbrev dN:Stmt:=inClass (top 11) 0
abbrev ju:Stmt:=top 17
abbrev iy:Stmt:=top 18
abbrev iV:Stmt:=top 19
abbrev dO:Stmt:=top 20
abbrev jL:Stmt:=top 21
abbrev gD:Stmt:=top 22
abbrev gF:Stmt:=inClass (top 23) 0
abbrev fB:Stmt:=inClass (top 23) 1
abbrev iz:Stmt:=inClass (top 23) 2
abbrev iB:Stmt:=inClass (top 23) 3
abbrev gj:Stmt:=top 24
abbrev cO:Stmt:=top 25
abbrev cY:Stmt:=top 27
abbrev cZ:Stmt:=top 28
abbrev fW:Stmt:=top 29
abbrev gG:Stmt:=top 30
abbrev ql:Stmt:=top 31
abbrev ji:Stmt:=top 32
abbrev fC:Stmt:=top 33
abbrev iW:Stmt:=top 35
abbrev jw:Stmt:=top 36
abbrev xY:Stmt:=top 38
abbrev rE:Stmt:=top 39
abbrev mQ:Stmt:=top 40
abbrev nY:Stmt:=top 41
abbrev xZ:Stmt:=top 42
abbrev sW:Stmt:=top 43
abbrev jx:Stmt:=top 44
abbrev fM:Stmt:=top 45
abbrev jj:Stmt:=top 46
abbrev gH:Stmt:=top 47
abbrev cP:Stmt:=top 48
abbrev iC:Stmt:=top 49
abbrev jM:Stmt:=top 50
abbrev rF:Stmt:=top 51
abbrev nZ:Stmt:=top 52
abbrev fO:Stmt:=top 53
abbrev cj:Stmt:=top 54
abbrev n6:Stmt:=top 55
abbrev dU:Stmt:=top 56
abbrev yc:Stmt:=top 57
theorem jk:bA ["web", "fixed", "steps", "number", "first", "second"] ["web", "fixed"] (ao dJ):=by ac_rfl
theorem dW:bA ["start", "steps", "ways", "row", "at", "here", "number", "origin", "goal"] ["start", "steps"] (ao fu):=by ac_rfl
theorem ud:bA ["web", "start", "steps", "ways"] ["web", "start", "steps"] (ao cN):=by ac_rfl
theorem pF:bA ["web", "steps", "told", "point"] ["web"] (ao gC):=by ac_rfl
theorem rG:bA ["web", "steps", "told", "number", "first", "second", "lot"] ["web"] (ao qj):=by ac_rfl
theorem Dq:bA ["self", "lot"] ["self", "lot"] (ao dM):=by ac_rfl
theorem Ds:bA ["self", "tie", "lot"] ["self", "tie", "lot"] (ao dN):=by ac_rfl
theorem Qg:bA ["thing"] ["thing"] (ao ju):=by ac_rfl
theorem MF:bA ["thing"] ["thing"] (ao iy):=by ac_rfl
theorem Qh:bA ["thing"] ["thing"] (ao iV):=by ac_rfl
theorem Gz:bA ["thing"] ["thing"] (ao dO):=by ac_rfl
theorem Uv:bA ["thing", "points"] ["thing", "points"] (ao jL):=by ac_rfl
theorem MJ:bA ["thing", "points"] ["thing", "points"] (ao gD):=by ac_rfl
theorem MK:bA ["self", "points", "ties"] ["self", "points", "ties"] (ao gF):=by ac_rfl
theorem GC:bA ["self"] ["self"] (ao fB):=by ac_rfl
theorem MN:bA ["self"] ["self"] (ao iz):=by ac_rfl
theorem MP:bA ["self"] ["self"] (ao iB):=by ac_rfl
theorem J4:bA ["web", "thing"] ["web", "thing"] (ao gj):=by ac_rfl
theorem Dt:bA ["web", "thing"] ["web", "thing"] (ao cO):=by ac_rfl
theorem iU:bA ["web", "parts", "barring", "number", "lot"] ["web"] (ao cY):=by ac_rfl
theorem dB:bA ["web", "start", "numbers", "ties", "points", "here", "number", "first", "second"] ["web", "start", "numbers"] (ao cZ):=by ac_rfl
theorem pG:bA ["web", "met", "point", "number", "steps", "ways", "ends"] ["web", "met", "point", "number"] (ao fW):=by ac_rfl
theorem jl:bA ["web", "met", "left", "ties", "ready", "first", "second", "start", "goal"] ["web", "met", "left"] (ao gG):=by ac_rfl
theorem pH:bA ["web", "met", "left", "row", "start", "numbers"] ["web"] (ao ql):=by ac_rfl
theorem qJ:bA ["web", "thing", "met", "gone", "start", "numbers", "points", "between"] ["web", "thing", "met", "gone"] (ao ji):=by ac_rfl
theorem fP:bA ["web", "thing", "met", "gone", "ear", "start", "numbers"] ["web", "thing"] (ao fC):=by ac_rfl
theorem jX:bA ["web", "row", "ties", "leads", "start", "numbers", "number", "goal"] ["web", "row"] (ao iW):=by ac_rfl
theorem Qi:bA ["web"] ["web"] (ao jw):=by ac_rfl
theorem Yo:bA ["_law_script", "_law_k", "_law_cell"] ["_law_script", "_law_k"] (ao xY):=by ac_rfl
theorem RX:bA ["_law_pot_here", "_law_many", "_law_digit"] ["_law_pot_here", "_law_many"] (ao rE):=by ac_rfl
theorem qK:bA ["_law_pot_here", "_law_many", "_law_letters", "_law_begin", "_law_found", "_law_k", "_law_more"] ["_law_pot_here", "_law_many"] (ao mQ):=by ac_rfl
theorem Du:bA ["_law_pot_here", "_law_things", "_law_found", "_law_thing"] ["_law_pot_here", "_law_things"] (ao nY):=by ac_rfl
theorem Qj:bA ["_law_pot_here", "_law_names_here", "_law_a", "_law_b"] ["_law_pot_here", "_law_names_here"] (ao xZ):=by ac_rfl
theorem rJ:bA ["_law_pot_here", "_law_points", "_law_most", "_law_names_here", "_law_kind", "_law_ties", "_law_row", "_law_k", "_law_turns"] ["_law_pot_here", "_law_points", "_law_most"] (ao sW):=by ac_rfl
theorem mj:bA ["_law_web_here", "_law_pointing", "_law_start", "_law_found", "_law_here", "_law_a", "_law_b", "_law_turn"] ["_law_web_here", "_law_pointing", "_law_start"] (ao jx):=by ac_rfl
theorem rK:bA ["_law_web_here", "_law_pointing", "_law_there", "_law_back"] ["_law_web_here", "_law_pointing"] (ao fM):=by ac_rfl
theorem Uw:bA ["_law_web_here", "_law_lot"] ["_law_web_here", "_law_lot"] (ao jj):=by ac_rfl
theorem M4:bA ["_law_web_here", "_law_lot"] ["_law_web_here", "_law_lot"] (ao gH):=by ac_rfl
theorem Dv:bA ["_law_web_here", "_law_row"] ["_law_web_here", "_law_row"] (ao cP):=by ac_rfl
theorem Ai:bA ["_law_web_here", "_law_start", "_law_k", "_law_rest"] ["_law_web_here", "_law_start", "_law_k"] (ao iC):=by ac_rfl
theorem Ux:bA ["_law_web_here"] ["_law_web_here"] (ao jM):=by ac_rfl
theorem yd:bA ["_law_made", "_law_found", "e"] ["_law_made"] (ao rF):=by ac_rfl
theorem qL:bA ["_law_made", "_law_web_here", "_law_word", "_law_told", "_law_first", "_law_k", "_law_lot"] ["_law_made", "_law_web_here"] (ao nZ):=by ac_rfl
theorem dg:bA ["_law_pot_here", "_law_names_here", "_law_many", "_law_ties", "_law_listed", "_law_turn", "_law_new", "_law_start", "_law_end", "_law_row"] ["_law_pot_here"] (ao fO):=by ac_rfl
theorem bL:bA ["_law_pot_here", "_law_names_here", "_law_ties", "_law_listed", "_law_order", "_law_turns", "_law_told", "_law_k", "_law_a", "_law_b", "_law_row", "_law_start", "_law_numbers", "_law_handed", "_law_web_here", "_law_due", "_law_made", "_law_found"] ["_law_pot_here"] (ao cj):=by ac_rfl
theorem Yp:bA ["_law_word", "_law_told"] ["_law_word", "_law_told"] (ao n6):=by ac_rfl
theorem kZ:bA ["_law_made", "_law_web_here", "_law_word", "_law_told", "_law_kept"] ["_law_made", "_law_web_here"] (ao dU):=by ac_rfl
theorem Dw:bA ["_law_script", "_law_k", "_law_pot_here", "_law_web_here", "_law_made"] ["_law_script"] (ao yc):=by ac_rfl
set_option genInjectivity false in
structure Adr where
  dX:Addr
  k_:FuncData
  fD:Addr
  mR:FuncData
  dY:Addr
  lg:FuncData
  iD:Addr
  pI:FuncData
  rM:Addr
  Bv:FuncData
  cQ:Addr
  lq:FuncData
  cR:Addr
  lu:FuncData
  jy:Addr
  rN:FuncData
  iG:Addr
  pJ:FuncData
  jz:Addr
  rO:FuncData
  fG:Addr
  mU:FuncData
  lA:Addr
  uO:FuncData
  iH:Addr
  pK:FuncData
  gJ:Addr
  pL:FuncData
  dZ:Addr
  mV:FuncData
  gK:Addr
  pO:FuncData
  gM:Addr
  pP:FuncData
  gk:Addr
  n_:FuncData
  d8:Addr
  lB:FuncData
  dh:Addr
  jR:FuncData
  dj:Addr
  jT:FuncData
  iI:Addr
  pQ:FuncData
  iJ:Addr
  pR:FuncData
  rP:Addr
  Bw:FuncData
  lC:Addr
  uP:FuncData
  fH:Addr
  mW:FuncData
  jA:Addr
  rQ:FuncData
  jB:Addr
  rR:FuncData
  yg:Addr
  J_:FuncData
  rT:Addr
  Bx:FuncData
  oh:Addr
  yh:FuncData
  ou:Addr
  yj:FuncData
  yp:Addr
  Ka:FuncData
  yq:Addr
  Kc:FuncData
  jC:Addr
  rW:FuncData
  gq:Addr
  oA:FuncData
  lD:Addr
  uQ:FuncData
  iK:Addr
  pU:FuncData
  eE:Addr
  lE:FuncData
  iM:Addr
  pW:FuncData
  lF:Addr
  uR:FuncData
  rY:Addr
  BJ:FuncData
  oE:Addr
  yr:FuncData
  gw:Addr
  oF:FuncData
  fJ:Addr
  mX:FuncData
  oG:Addr
  yt:FuncData
  eO:Addr
  lG:FuncData
  Aj:Addr
  Kd:FuncData
  mq:Value
  fX:Value
  gO:Value
  jm:Value
  bW:Addr
  aW:Addr
  gA:Addr
  eU:Addr
  bH:Addr
  bF:Addr
def qdF (a:Adr):List Addr:=[a.gA,a.eU,a.bH,a.bF]
structure Txt (K:W.Frag) (mg:Str→Option Value) (a:Adr):Prop where
  jN:kj K "steps_along" "steps_along" dJ a.dX a.k_
  mY:Binds K a.k_ ["web", "fixed"] []
  mZ:mg "steps_along" = some (.ref a.dX)
  oH:kj K "ways_along" "ways_along" fu a.fD a.mR
  rZ:Binds K a.mR ["start", "steps"] []
  su:mg "ways_along" = some (.ref a.fD)
  m5:kj K "found_along" "found_along" cN a.dY a.lg
  qm:Binds K a.lg ["web", "start", "steps"] []
  qp:mg "found_along" = some (.ref a.dY)
  wK:kj K "clusters" "clusters" gC a.iD a.pI
  Dy:Binds K a.pI ["web"] []
  Dz:mg "clusters" = some (.ref a.iD)
  Qk:kj K "bars" "bars" qj a.rM a.Bv
  Yq:Binds K a.Bv ["web"] []
  Yr:mg "bars" = some (.ref a.rM)
  vM:kj K "__init__" "Parted.__init__" dM a.cQ a.lq
  vN:Binds K a.lq ["self", "lot"] []
  vO:kj K "__init__" "Barred.__init__" dN a.cR a.lu
  vP:Binds K a.lu ["self", "tie", "lot"] []
  j7:kj K "is_list" "is_list" ju a.jy a.rN
  mz:Binds K a.rN ["thing"] []
  mC:mg "is_list" = some (.ref a.jy)
  wL:kj K "is_whole" "is_whole" iy a.iG a.pJ
  DG:Binds K a.pJ ["thing"] []
  DK:mg "is_whole" = some (.ref a.iG)
  qM:kj K "is_name" "is_name" iV a.jz a.rO
  uT:Binds K a.rO ["thing"] []
  uU:mg "is_name" = some (.ref a.jz)
  sy:kj K "are_points" "are_points" dO a.fG a.mU
  yu:Binds K a.mU ["thing"] []
  yx:mg "are_points" = some (.ref a.fG)
  DN:kj K "is_tie" "is_tie" jL a.lA a.uO
  M5:Binds K a.uO ["thing", "points"] []
  M6:mg "is_tie" = some (.ref a.lA)
  wM:kj K "are_ties" "are_ties" gD a.iH a.pK
  DP:Binds K a.pK ["thing", "points"] []
  DQ:mg "are_ties" = some (.ref a.iH)
  DR:kj K "__init__" "Web.__init__" gF a.gJ a.pL
  wN:Binds K a.pL ["self", "points", "ties"] []
  yC:kj K "points" "Web.points" fB a.dZ a.mV
  jD:Binds K a.mV ["self"] []
  DW:kj K "ties" "Web.ties" iz a.gK a.pO
  mD:Binds K a.pO ["self"] []
  DX:kj K "many" "Web.many" iB a.gM a.pP
  oR:Binds K a.pP ["self"] []
  uf:kj K "is_number" "is_number" gj a.gk a.n_
  Ak:Binds K a.n_ ["web", "thing"] []
  Al:mg "is_number" = some (.ref a.gk)
  qt:kj K "are_numbers" "are_numbers" cO a.d8 a.lB
  vQ:Binds K a.lB ["web", "thing"] []
  vR:mg "are_numbers" = some (.ref a.d8)
  oU:kj K "sure_of_ears" "sure_of_ears" cY a.dh a.jR
  ug:Binds K a.jR ["web"] []
  uh:mg "sure_of_ears" = some (.ref a.dh)
  h_:kj K "points_along" "points_along" cZ a.dj a.jT
  jo:Binds K a.jT ["web", "start", "numbers"] []
  jq:mg "points_along" = some (.ref a.dj)
  wO:kj K "way_back" "way_back" fW a.iI a.pQ
  DY:Binds K a.pQ ["web", "met", "point", "number"] []
  D_:mg "way_back" = some (.ref a.iI)
  wQ:kj K "next_ear" "next_ear" gG a.iJ a.pR
  Ea:Binds K a.pR ["web", "met", "left"] []
  Eb:mg "next_ear" = some (.ref a.iJ)
  Ql:kj K "ears" "ears" ql a.rP a.Bw
  Ys:Binds K a.Bw ["web"] []
  Yt:mg "ears" = some (.ref a.rP)
  Ec:kj K "is_ear" "is_ear" ji a.lC a.uP
  M7:Binds K a.uP ["web", "thing", "met", "gone"] []
  M8:mg "is_ear" = some (.ref a.lC)
  sE:kj K "reads_ears" "reads_ears" fC a.fH a.mW
  yD:Binds K a.mW ["web", "thing"] []
  yE:mg "reads_ears" = some (.ref a.fH)
  qN:kj K "by_ears" "by_ears" iW a.jA a.rQ
  uV:Binds K a.rQ ["web", "row"] []
  uW:mg "by_ears" = some (.ref a.jA)
  zG:kj K "pointed" "pointed" jw a.jB a.rR
  Ie:Binds K a.rR ["web"] []
  Ig:mg "pointed" = some (.ref a.jB)
  Yu:kj K "_law_pot" "_law_pot" xY a.yg a.J_
  qb2:Binds K a.J_ ["_law_script", "_law_k"] []
  qb3:mg "_law_pot" = some (.ref a.yg)
  iQ:kj K "_law_take" "_law_take" rE a.rT a.Bx
  i_:Binds K a.Bx ["_law_pot_here", "_law_many"] []
  jc:mg "_law_take" = some (.ref a.rT)
  BK:kj K "_law_names" "_law_names" mQ a.oh a.yh
  Ke:Binds K a.yh ["_law_pot_here", "_law_many"] []
  Kf:mg "_law_names" = some (.ref a.oh)
  uX:kj K "_law_mixed" "_law_mixed" nY a.ou a.yj
  yF:Binds K a.yj ["_law_pot_here", "_law_things"] []
  yG:mg "_law_mixed" = some (.ref a.ou)
  Yv:kj K "_law_tie" "_law_tie" xZ a.yp a.Ka
  qb4:Binds K a.Ka ["_law_pot_here", "_law_names_here"] []
  qb5:mg "_law_tie" = some (.ref a.yp)
  Yw:kj K "_law_web" "_law_web" sW a.yq a.Kc
  qb6:Binds K a.Kc ["_law_pot_here", "_law_points", "_law_most"] []
  qb7:mg "_law_web" = some (.ref a.yq)
  oK:kj K "_law_reached" "_law_reached" jx a.jC a.rW
  qO:Binds K a.rW ["_law_web_here", "_law_pointing", "_law_start"] []
  qP:mg "_law_reached" = some (.ref a.jC)
  pX:kj K "_law_is_strong" "_law_is_strong" fM a.gq a.oA
  um:Binds K a.oA ["_law_web_here", "_law_pointing"] []
  uo:mg "_law_is_strong" = some (.ref a.gq)
  yH:kj K "_law_is_lot" "_law_is_lot" jj a.lD a.uQ
  Ed:Binds K a.uQ ["_law_web_here", "_law_lot"] []
  Ef:mg "_law_is_lot" = some (.ref a.lD)
  wR:kj K "_law_crossing" "_law_crossing" gH a.iK a.pU
  Eh:Binds K a.pU ["_law_web_here", "_law_lot"] []
  Ei:mg "_law_crossing" = some (.ref a.iK)
  qu:kj K "_law_is_pointing" "_law_is_pointing" cP a.eE a.lE
  vU:Binds K a.lE ["_law_web_here", "_law_row"] []
  vV:mg "_law_is_pointing" = some (.ref a.eE)
  wU:kj K "_law_together" "_law_together" iC a.iM a.pW
  Ej:Binds K a.pW ["_law_web_here", "_law_start", "_law_k"] []
  Ek:mg "_law_together" = some (.ref a.iM)
  yI:kj K "_law_bars" "_law_bars" jM a.lF a.uR
  El:Binds K a.uR ["_law_web_here"] []
  Em:mg "_law_bars" = some (.ref a.lF)
  En:kj K "_law_said" "_law_said" rF a.rY a.BJ
  Kg:Binds K a.BJ ["_law_made"] []
  Kh:mg "_law_said" = some (.ref a.rY)
  BL:kj K "_law_right" "_law_right" nZ a.oE a.yr
  Kl:Binds K a.yr ["_law_made", "_law_web_here"] []
  Km:mg "_law_right" = some (.ref a.oE)
  uq:kj K "_law_by_ears" "_law_by_ears" fO a.gw a.oF
  Am:Binds K a.oF ["_law_pot_here"] []
  Ao:mg "_law_by_ears" = some (.ref a.gw)
  sG:kj K "_law_ears_right" "_law_ears_right" cj a.fJ a.mX
  yJ:Binds K a.mX ["_law_pot_here"] []
  yK:mg "_law_ears_right" = some (.ref a.fJ)
  Ko:kj K "_law_spoil" "_law_spoil" n6 a.oG a.yt
  RZ:Binds K a.yt ["_law_word", "_law_told"] []
  R0:mg "_law_spoil" = some (.ref a.oG)
  qw:kj K "_law_twice_right" "_law_twice_right" dU a.eO a.lG
  vW:Binds K a.lG ["_law_made", "_law_web_here"] []
  vX:mg "_law_twice_right" = some (.ref a.eO)
  qb8:kj K "law" "law" yc a.Aj a.Kd
  qgj:Binds K a.Kd ["_law_script"] []
  qgk:mg "law" = some (.ref a.Aj)
  Ih:mg "LETTERS" = some a.mq
  Ii:RelV (.str "abcdefghijklmnopqrstuvwxyz") a.mq
  ur:mg "MOST_LETTERS" = some a.fX
  uw:RelV (.int 4) a.fX
  vY:mg "MOST_POINTS" = some a.gO
  vZ:RelV (.int 9) a.gO
  Aq:mg "MOST_TIES" = some a.jm
  Ar:RelV (.int 20) a.jm
  Yx:mg "Web" = some (.ref a.bW)
  j8:Cls K a.bW
  Kp:nq K a.bW "names"
  BP:nq K a.bW "pairs"
  Yy:Mk K a.bW a.gJ
  jE:Meth K a.bW "points" a.dZ
  mF:Meth K a.bW "ties" a.gK
  oV:Meth K a.bW "many" a.gM
  sH:mg "PointError" = some (.ref a.aW)
  qa4:mg "NoWeb" = some (.ref a.gA)
  Yz:mg "NoEars" = some (.ref a.eU)
  Eo:mg "Parted" = some (.ref a.bH)
  Ep:mg "Barred" = some (.ref a.bF)
  iR:JZ K a.aW
  yL:JZ K a.gA
  ux:JZ K a.eU
  YB:XC K a.gA a.aW
  Uy:XC K a.eU a.aW
  qQ:XC K a.bH a.aW
  mG:XC K a.bF a.aW
  ib:W.isClsIn K a.aW=true
  tb:W.typeIn K (.ref a.aW)=some (.type "type")
  ini:qgd K a.aW
  M9:W.specialIn K (.builtin "object.__class__") "__get__" = some (some (.builtin "getset_descriptor.__get__"))
  M_:W.takesIn K (.builtin "object.__class__")=some true
  nd:(a.aW::qdF a).Nodup
  lH:mg "ValueError" = none
  qR:XMk K a.bH a.aW a.cQ
  Ij:wI K a.bH a.aW
  gP:W.findIn K (.ref a.bH) "lot" = some none
  qT:XMk K a.bF a.aW a.cR
  zH:wI K a.bF a.aW
  gQ:W.findIn K (.ref a.bF) "tie" = some none
  gR:W.findIn K (.ref a.bF) "lot" = some none
  nm:Nm mg
  Ib:Nm2 mg
  nm3:Nm3 mg
end K35
namespace K35
open PySem L2
variable {P:Program} {w:World} {K:W.Frag} {mg:Str→Option Value} {base:Heap} {a:Adr}
def jY (H:Hp) (p:Addr):Prop:=∃x y:Int,H p=some (.lst [.int x,.int y])∧0≤x∧0≤y∧y<4294967296
def qdG (K:W.Frag):Sp:=fun vs H Q _=>∃(l:Addr) (ns:List Int) (k:Nat),vs=[.ref l,.int k]∧aY K H l (ns.map V.int)∧k<100∧∀p H',H p=none→jY H' p→But p H H'→Q (.ref p) H'
def qa5:Sp:=fun vs H Q _=>∃(p:Addr) (m:Int),vs=[.ref p,.int m]∧jY H p∧0<m∧m<1000000∧∀(d:Int) H',0≤d→d<m→jY H' p→But p H H'→Q (.int d) H'
theorem qdH (T:Txt K mg a):cD P w K mg base mL 1 a.yg a.J_ ["_law_script", "_law_k"] (qdG K):=by
  exists T.Yu.o_,Yo
  ·obtain⟨l,ns,k,rfl,_⟩:=h;rfl
  · obtain⟨l,ns,k,rfl,hS,hk,q⟩:=h;refine⟨_,(aB (bw (i:=2) Yo.nd rfl (Or.inl rfl) (xg (aZ tZ (aH 1) (aM (bT (K:=K) rfl) rfl T.nm.len PySem.boot_len (aj (aH 0) aq)) (bM _)) (bC (bG (K:=K) rfl) (aH 0) (aH 1) (fun _ _=>rfl)) aD))
      (aF (bB (cV (aj (aM (Dg rfl) rfl T.nm.max boot_max (aj aD (aj (b_ xT (aM HS rfl T.nm.abs boot_abs (aj (aH 2) aq)) (b_ qaT aD aD)) aq))) (aj (b_ fj (b_ fj (b_ uM (aM HS rfl T.nm.abs boot_abs (aj (aH 2) aq)) aD) (b_ Bs aD (aH 1))) aD) aq)))))),?_⟩
    have fin:∀(x y:Int),0≤x→0≤y→y<4294967296→∀p:Addr,H p=none→Q (.ref p) (upd H p (.lst [.int x,.int y])):=fun x y h1 h2 h3 p hp=>
      q p _ hp ⟨x,y,ak,h1,h2,h3⟩ fun b o hb e=>by rw[aC hb];exact e
    simp -dsimp[aA,stC];refine⟨_,.inl hS,dz.of (fun h=>?_) (fun h=>?_)⟩
    · have hlt:k<ns.length:=by simpa using h
      simp -dsimp[aA,stC];refine⟨_,.inl hS,.int (ns[k]'hlt),aP (by simp[hlt]),?_⟩;simp -dsimp[aA,stC];exact fin _ _ (zpa _) (zpb _ _) (zpc _ hk)
    ·simp -dsimp[aA,stC];exact fin _ _ (by first | omega | (split <;> omega)) (by omega) (by omega)
theorem gB (T:Txt K mg a):cD P w K mg base mL 1 a.rT a.Bx ["_law_pot_here", "_law_many"] qa5:=by
  exists T.iQ.o_,RX
  ·obtain⟨p,m,rfl,_⟩:=h;rfl
  · obtain⟨p,m,rfl,⟨x,y,hp,hx,hy,hy2⟩,hm,hm2,q⟩:=h;refine⟨_,(aB (cU (aZ t_ (bC (bG (K:=K) rfl) (aH 0) aD (fun _ _=>rfl)) aD (bM _)) (aB (kh (aM JX rfl T.nm.divmod boot_divmod (aj (bC (bG (K:=K) rfl) (aH 0) aD (fun _ _=>rfl)) (aj (aH 1) aq))) (PG.eqv (cF (K:=K) (n:=2) rfl rfl (eX.eqv (aR (Wi (aH 0) aD HW) (eX.eqv (aR (aN (i:=2) RX.nd rfl (Or.inl rfl)) (eX.mono bZ cX)) (aU _ _))) (aU _ _))) (cI _ _ _)))
      (aF (bB (aH 2)))) bQ)
      (aB (kh (b_ uM (b_ fj (b_ Bs (bC (bG (K:=K) rfl) (aH 0) aD (fun _ _=>rfl)) aD) aD) aD) (Wi (aH 0) aD HW))
      (aF (bB (b_ uM (b_ Yb (b_ uM (b_ Bs (bC (bG (K:=K) rfl) (aH 0) aD (fun _ _=>rfl)) (bC (bG (K:=K) rfl) (aH 0) aD (fun _ _=>rfl))) aD) aD) (aH 1)))))),?_⟩
    have hl:aY K H p [.int x,.int y]:=aY.of hp;simp -dsimp[aA,stC];refine⟨_,.inl hl,_,aP (j:=0) rfl,?_⟩;simp -dsimp[aA,stC];refine dz.of (fun h=>?_) (fun h=>?_)
    ·simp -dsimp[aA,stC];refine⟨_,.inl hl,_,aP (j:=0) rfl,?_⟩;simp -dsimp[aA,stC];refine⟨⟨hm,by omega⟩,fun t ht=>?_⟩;have npt:p≠t:=aQ hp ht;refine⟨_,cM.of ak,rfl,_,(by rw[aC npt];exact hp),0,rfl,?_⟩;refine q _ _ (Int.emod_nonneg _ (by omega)) (Int.emod_lt_of_pos _ hm) ⟨_,_,ak,Int.ediv_nonneg hx (by omega),hy,hy2⟩ fun b o hb e=>?_;rw[aC hb,aC (aQ e ht)];exact e
    ·have z0:0≤(y * 48271+12345) % 2147483647:=Int.emod_nonneg _ (by decide);have z1:(y * 48271+12345) % 2147483647<2147483647:=Int.emod_lt_of_pos _ (by decide);simp -dsimp[aA,stC];refine⟨_,.inl hl,_,aP (j:=1) rfl,?_⟩;simp -dsimp[aA,stC];refine⟨_,hp,1,rfl,_,.inl (aY.of ak),_,aP (j:=1) rfl,_,.inl (aY.of ak),_,aP (j:=1) rfl,?_⟩;simp -dsimp[aA,stC];refine⟨⟨by omega,by omega⟩,hm,?_⟩;refine q _ _ (Int.emod_nonneg _ (by omega)) (Int.emod_lt_of_pos _ hm) ⟨_,_,ak,hx,z0,by omega⟩ fun b o hb e=>?_;rw[aC hb];exact e
def Qm:Sp:=fun vs H Q _=>∃p xs,vs=[.ref p]∧Sq H p xs∧∀H',Same H H'→Q (.bl true) H'
theorem mH (T:Txt K mg a):cD P w K mg base mL 1 a.jy a.rN ["thing"] Qm:=by
  exists T.j7.o_,Qg
  ·obtain⟨p,xs,rfl,_⟩:=h;rfl
  · obtain⟨p,xs,rfl,hp,q⟩:=h;refine⟨_,(aF (bB (aM (qdy (K:=K) rfl) rfl T.nm.isinstance boot_isinstance (aj (aH 0) (aj (dH (aj (j_ (v:=.ty "list") rfl T.nm.list boot_list rfl) (aj (j_ (v:=.ty "tuple") rfl T.nm.tuple boot_tuple rfl) aq))) aq))))),?_⟩;ac_nf;refine fun t ht=>⟨_,_,ak,?_⟩
    rcases(hp.same (au ht)).ty (K:=K) with ty | ty
    ·exact⟨_,ty,true,by simp[W.kitAny,W.kitOne],q _ (au ht)⟩
    ·exact⟨_,ty,true,by simp[W.kitAny,W.kitOne];rfl,q _ (au ht)⟩
def Qn:Sp:=fun vs H Q _=>∃x,vs=[.str x]∧x.length≤sizeLine∧∀H',Same H H'→Q (.bl (nameB x)) H'
theorem wV (T:Txt K mg a):cD P w K mg base mL 1 a.jz a.rO ["thing"] Qn:=by
  exists T.qM.o_,Qh
  ·obtain⟨x,rfl,_⟩:=h;rfl
  · obtain⟨x,rfl,hx,q⟩:=h;refine⟨_,(aB (cU (PW.pt (lK (eV (cH (aM (rD (K:=K) rfl) rfl T.nm.isinstance boot_isinstance (aj (aH 0) (aj (j_ (v:=.ty "str") rfl T.nm.str boot_str rfl) aq))))) (jG (eV (HJ C_ C_ aD (aM qdx rfl T.nm.len PySem.boot_len (aj (aH 0) aq)) (Bm rfl T.ur T.uw)))))) (aF (bB j9)) bQ)
      (aF (bB (aM (lY rfl) rfl T.nm.all lR (aj (dG rfl rfl (show bx (ao iV) _ ["thing"] ["sign"] [] ["sign"] from⟨rfl,by symm,by symm,rfl,by symm,by symm⟩) rfl (PI.eqv (qcV (aH 0)) (X8 _)) (fun C s H fp pn=>(aN (i:=0) (show(["sign"]:List Str).Nodup by symm) rfl (Or.inl rfl))) (fun C s H fp pn=>dF) (fun C s H fp pn=>(cC (qmb (K:=K) rfl) (aH 0) (Bm rfl T.Ih T.Ii) rfl))) aq))))),?_⟩
    ac_nf;refine⟨_,.str x,_,Ae K,dz.neg rfl ?_⟩;ac_nf;refine⟨hx,dz.of (fun h1=>?_) (fun h1=>?_)⟩
    · have h1':1≤x.length:=by simp at h1;omega
      ac_nf;refine dz.of (fun h2=>?_) (fun h2=>?_)
      · have h2':¬x.length≤4:=by simp at h2;omega
        have e:nameB x=false:=by
          unfold nameB;rw[decide_eq_false h2'];simp
        rw[e] at q;ac_nf;exact q H (Same.refl H)
      · have h2':x.length≤4:=by simp at h2;omega
        ac_nf;refine fun D hD=>cmS (fun i σ' H'=>(∃o,σ'=[o])∧Same H H'∧H' D=some (.lst ((x.cps.toList.take i).map fun c=>.bl (Z2 c)))) ⟨⟨none,rfl⟩,au hD,by simpa using ak⟩ ?_ ?_
        · rintro i c σ' H' hc ⟨⟨o,rfl⟩,sm,GD⟩;have h4:4<sizeLine:=by decide
          have hsz:x.cps.size=x.length:=rfl;ac_nf;refine⟨_,GD,by simp;omega,aV sm hD,?_⟩;rw[ak,take_one (l:=x.cps.toList) (x:=c) (by simpa using hc),List.map_append];rfl
        · rintro σ' H' ⟨⟨o,rfl⟩,sm,GD⟩;ac_nf;refine⟨_,GD,_,zp Z2 _,?_⟩;rw[Pu];have e:nameB x=(x.cps.toList.take x.cps.size).all Z2:=by
            unfold nameB;rw[decide_eq_true h1',decide_eq_true h2',show x.cps.toList.take x.cps.size=x.cps.toList from List.take_of_length_le (by simp)];rfl
          rw[← e];exact q H' sm
    · have h1':¬1≤x.length:=by simp at h1;omega
      have e:nameB x=false:=by
        unfold nameB;rw[decide_eq_false h1'];simp
      rw[e] at q;ac_nf;exact q H (Same.refl H)
theorem YC {xs:List Str} {i:Nat} {x:V} (h:(xs.map V.str)[i]? = some x):∃z,z∈xs∧x = .str z:=by
  rw[List.getElem?_map] at h;cases e:xs[i]? with
  | none=>rw[e] at h;cases h
  | some z=>
    rw[e] at h;exact⟨z,List.mem_of_getElem? e,(Option.some.inj h).symm⟩
theorem wW {x:Str} (h:nameB x=true):x.length≤sizeLine:=by
  unfold nameB at h;simp at h;have h4:4≤sizeLine:=by decide
  omega
theorem mJ:∀n,pA (List.replicate n (.bl true)) (List.replicate n true)
  | 0=>rfl
  | n+1=>⟨true,_,rfl,rfl,mJ n⟩
theorem Er:∀xs:List Str,keysOf (xs.map V.str)=xs.map Sum.inr
  | []=>rfl
  | x::xs=>by
    show Sum.inr x::keysOf (xs.map V.str)=_;rw[Er xs];rfl
theorem YD {xs:List Str} (h:xs.Nodup):(Gn (fun i=>(keysOf (xs.map V.str))[i]?.getD (Sum.inl 0)) (xs.map V.str).length).length=xs.length:=by
  rw[Er,List.length_map];refine(Pq _ xs.length fun i j hi hj e=>?_).1;simp[hi,hj] at e;exact(List.getElem_inj h).mp e
structure GF (xs:List Str):Prop where
  len:1≤xs.length∧xs.length≤9
  nm:∀x∈xs,nameB x=true
  nd:xs.Nodup
def GJ:Sp:=fun vs H Q _=>∃p xs,vs=[.ref p]∧Sq H p (xs.map V.str)∧GF xs∧∀H',Same H H'→Q (.bl true) H'
theorem GK (T:Txt K mg a):cD P w K mg base mL 2 a.fG a.mU ["thing"] GJ:=by
  exists T.sy.o_,Gz
  ·obtain⟨p,xs,rfl,_⟩:=h;rfl
  · obtain⟨p,xs,rfl,hp,hx,q⟩:=h;refine⟨_,(aB (cU (PW.pt (lK (eV (cH (PE.eqv (aO (mH T) hr.d rfl T.mC T.j7.kp T.mz .nil bh (aj (aH 0) aq)) (aK _ _ _)))) (jG (eV (HJ C_ C_ aD (aM (bT (K:=K) rfl) rfl T.nm.len PySem.boot_len (aj (aH 0) aq)) (Bm rfl T.vY T.vZ)))))) (aF (bB j9)) bQ)
      (aF (bB (f9 (aM (lY rfl) rfl T.nm.all lR (aj (dG rfl rfl (show bx (ao dO) _ ["thing"] ["one"] [] ["one"] from⟨rfl,by symm,by symm,rfl,by symm,by symm⟩) rfl (PI.eqv (nP (K:=K) rfl (aH 0)) (kY _ _)) (fun C s H fp pn=>(aN (i:=0) (show(["one"]:List Str).Nodup by symm) rfl (Or.inl rfl))) (fun C s H fp pn=>dF) (fun C s H fp pn=>(PE.eqv (aO (wV T) hr.d rfl T.uU T.qM.kp T.uT .nil bh (aj (aH 0) aq)) (aK _ _ _)))) aq)) (lN (cC g_ (aM zj rfl T.nm.len PySem.boot_len (aj (fQ (zf rfl) rfl T.nm.set yX (aj (aH 0) aq)) aq)) (aM (bT (K:=K) rfl) rfl T.nm.len PySem.boot_len (aj (aH 0) aq)) (bM _))))))),?_⟩
    have hl:=hx.len;have h60:60<sizeLine:=by decide
    ac_nf;refine⟨p,_,rfl,hp,fun H1 s1=>?_⟩;have hp1:=hp.same s1;ac_nf;refine⟨_,hp1.q,dz.pos (by simp;omega) ?_⟩;ac_nf;refine dz.neg (by simp;omega) ?_;obtain⟨b,hb⟩:=hp.b;ac_nf;refine⟨b,⟨_,hb K H1 s1⟩,fun D hD=>cmQ (xs.map V.str) (fun i σ' H'=>(∃o,σ'=[o])∧Same H1 H'∧H' D=some (.lst (List.replicate i (.bl true)))) ⟨⟨none,rfl⟩,au hD,ak⟩ (fun i σ' H' _ h=>hb K H' (s1.trans h.2.1)) ?_ ?_⟩
    · rintro i x σ' H' hi ⟨⟨o,rfl⟩,sm,GD⟩;obtain⟨z,hz,rfl⟩:=YC hi;have hi2:i<xs.length:=by simpa using (List.getElem?_eq_some_iff.mp hi).1
      ac_nf;refine⟨z,rfl,wW (hx.nm z hz),fun H2 s2=>?_⟩;ac_nf;refine⟨_,s2 _ _ GD,by simp;omega,aV (sm.trans s2) hD,?_⟩;rw[ak,hx.nm z hz,← List.replicate_succ']
    ·rintro σ' H' ⟨⟨o,rfl⟩,sm,GD⟩;have hp2:=hp1.same sm;ac_nf;refine⟨_,GD,_,mJ _,?_⟩;rw[show(List.replicate (xs.map V.str).length true).all id=true by simp];ac_nf;refine⟨_,hp2.q,by simp[isKey],by simp;unfold scanBound;omega,fun t ht=>⟨_,ak,_,(hp2.same (au ht)).q,?_⟩⟩;rw[decide_eq_true (by rw[YD hx.nd];simp)];exact q _ (s1.trans (sm.trans (au ht)))
theorem qa6 {x:Str} {xs:List Str} (h:x∈xs):inV (.str x) (xs.map V.str)=true:=by
  unfold inV;rw[List.any_eq_true];exact⟨.str x,List.mem_map.mpr ⟨x,h,rfl⟩,by simp[Tw]⟩
theorem YF (xs:List Str):(xs.map V.str).all jZ=true:=by
  rw[List.all_eq_true];intro v hv;obtain⟨x,_,rfl⟩:=List.mem_map.mp hv;rfl
def Uz:Sp:=fun vs H Q _=>∃t p x y xs,vs=[.ref t,.ref p]∧Sq H t [.str x,.str y]∧Sq H p (xs.map V.str)∧GF xs∧x∈xs∧y∈xs∧x≠y∧∀H',Same H H'→Q (.bl true) H'
theorem UG (T:Txt K mg a):cD P w K mg base mL 2 a.lA a.uO ["thing", "points"] Uz:=by
  exists T.DN.o_,Uv
  ·obtain⟨t,p,x,y,xs,rfl,_⟩:=h;rfl
  · obtain⟨t,p,x,y,xs,rfl,ht,hp,hx,R3,hym,hne,q⟩:=h;refine⟨_,(aB (cU (PW.pt (lK (eV (cH (PE.eqv (aO (mH T) hr.d rfl T.mC T.j7.kp T.mz .nil bh (aj (aH 0) aq)) (aK _ _ _)))) (jG (aZ kW (aM (bT (K:=K) rfl) rfl T.nm.len PySem.boot_len (aj (aH 0) aq)) aD (bM _))))) (aF (bB j9)) bQ)
      (aB (cU (eV (cH (aM (lY rfl) rfl T.nm.all lR (aj (dG rfl rfl (show bx (ao jL) _ ["thing", "points"] ["end"] [1] ["end", "points"] from⟨rfl,by symm,by symm,rfl,by symm,by symm⟩) rfl (PI.eqv (nP (K:=K) rfl (aH 0)) (kY _ _)) (fun C s H fp pn=>(aN (i:=0) (show(["end", "points"]:List Str).Nodup by symm) rfl (Or.inl rfl))) (fun C s H fp pn=>dF) (fun C s H fp pn=>(f9 (PE.eqv (aO (wV T) hr.d rfl T.uU T.qM.kp T.uT .nil bh (aj (aH 0) aq)) (aK _ _ _)) (lN (cC (xV (K:=K) rfl) (aH 0) (aH 1) rfl))))) aq)))) (aF (bB j9)) bQ)
      (aF (bB (cC kW (bC (bG (K:=K) rfl) (aH 0) aD (fun _ _=>rfl)) (bC (bG (K:=K) rfl) (aH 0) aD (fun _ _=>rfl)) (bM _)))))),?_⟩
    have h60:60<sizeLine:=by decide
    right;refine⟨t,_,rfl,ht,fun H1 s1=>?_⟩;right;refine⟨_,(ht.same s1).q,false,rfl,dz.neg rfl ?_⟩;obtain⟨b,hb⟩:=ht.b;right;refine⟨b,⟨_,hb K H1 s1⟩,fun D hD=>cmQ [.str x,.str y] (fun i σ' H'=>(∃o,σ'=[o,some (.ref p)])∧Same H1 H'∧H' D=some (.lst (List.replicate i (.bl true)))) ⟨⟨none,rfl⟩,au hD,ak⟩ (fun i σ' H' _ h=>hb K H' (s1.trans h.2.1)) ?_ ?_⟩
    · rintro i v σ' H' hi ⟨⟨o,rfl⟩,sm,GD⟩;obtain⟨z,hz,rfl⟩:∃z,z∈xs∧v = .str z:=by
        match i,hi with
        | 0,hi=>exact⟨x,R3,(Option.some.inj hi).symm⟩
        | 1,hi=>exact⟨y,hym,(Option.some.inj hi).symm⟩
      have hi2:i<2:=(List.getElem?_eq_some_iff.mp hi).1;right;refine⟨z,rfl,wW (hx.nm z hz),fun H2 s2=>?_⟩;rw[hx.nm z hz];right;refine⟨_,(hp.same (s1.trans (sm.trans s2))).q,rfl,List.all_eq_true.mp (YF xs),_,s2 _ _ GD,by simp;omega,aV (sm.trans s2) hD,?_⟩;rw[ak,qa6 hz,← List.replicate_succ']
    ·rintro σ' H' ⟨⟨o,rfl⟩,sm,GD⟩;have Ik:=ht.same (s1.trans sm);right;refine⟨_,GD,_,mJ _,?_⟩;rw[show(List.replicate [V.str x,V.str y].length true).all id=true by simp];right;refine⟨_,Ik.q,_,aP (j:=0) rfl,_,Ik.q,_,aP (j:=1) rfl,?_⟩;right;refine⟨true,by simp[hne],?_⟩;exact q _ (s1.trans sm)
def Es (H:Hp) (v:V) (e:Str×Str):Prop:=∃t,v = .ref t∧Sq H t [.str e.1,.str e.2]
theorem Es.same {H H':Hp} {v:V} {e:Str×Str} (h:Es H v e) (s:Same H H'):Es H' v e:=by
  obtain⟨t,rfl,h⟩:=h;exact⟨t,rfl,h.same s⟩
def oJ (H:Hp) (vs:List V) (ps:List (Str×Str)):Prop:=vs.length=ps.length∧∀(i:Nat) v e,vs[i]? = some v→ps[i]? = some e→Es H v e
theorem oJ.same {H H':Hp} {vs:List V} {ps:List (Str×Str)} (h:oJ H vs ps) (s:Same H H'):oJ H' vs ps:=⟨h.1,fun i v e h1 h2=>(h.2 i v e h1 h2).same s⟩
theorem oJ.at {H:Hp} {vs:List V} {ps:List (Str×Str)} (h:oJ H vs ps) {i:Nat} {v:V} (hv:vs[i]? = some v):∃e,ps[i]? = some e∧Es H v e:=by
  have hi:i<ps.length:=by rw[← h.1];exact(List.getElem?_eq_some_iff.mp hv).1
  exact⟨ps[i],by simp[hi],h.2 i v _ hv (by simp[hi])⟩
structure je (xs:List Str) (ps:List (Str×Str)):Prop where
  len:ps.length≤20
  ok:∀e∈ps,e.1∈xs∧e.2∈xs∧e.1≠e.2
def Nb:Sp:=fun vs H Q _=>∃t p tv xs ps,vs=[.ref t,.ref p]∧Sq H t tv∧oJ H tv ps∧Sq H p (xs.map V.str)∧GF xs∧je xs ps∧∀H',Same H H'→Q (.bl true) H'
theorem Nf (T:Txt K mg a):cD P w K mg base mL 3 a.iH a.pK ["thing", "points"] Nb:=by
  exists T.wM.o_,MJ
  ·obtain⟨t,p,tv,xs,ps,rfl,_⟩:=h;rfl
  · obtain⟨t,p,tv,xs,ps,rfl,ht,hpr,hp,hx,hts,q⟩:=h;refine⟨_,(aB (cU (PW.pt (lK (eV (cH (PE.eqv (aO (mH T) hr.d rfl T.mC T.j7.kp T.mz .nil bh (aj (aH 0) aq)) (aK _ _ _)))) (jG (aZ t_ (aM (bT (K:=K) rfl) rfl T.nm.len PySem.boot_len (aj (aH 0) aq)) (Bm rfl T.Aq T.Ar) (bM _))))) (aF (bB j9)) bQ)
      (aF (bB (aM (lY rfl) rfl T.nm.all lR (aj (dG rfl rfl (show bx (ao gD) _ ["thing", "points"] ["one"] [1] ["one", "points"] from⟨rfl,by symm,by symm,rfl,by symm,by symm⟩) rfl (PI.eqv (nP (K:=K) rfl (aH 0)) (kY _ _)) (fun C s H fp pn=>(aN (i:=0) (show(["one", "points"]:List Str).Nodup by symm) rfl (Or.inl rfl))) (fun C s H fp pn=>dF) (fun C s H fp pn=>(PE.eqv (aO (UG T) hr.d rfl T.M6 T.DN.kp T.M5 .nil bh (aj (aH 0) (aj (aH 1) aq))) (aK _ _ _)))) aq))))),?_⟩
    have hlen:=hpr.1;have Bc:=hts.len;have h60:60<sizeLine:=by decide
    right;refine⟨t,_,rfl,ht,fun H1 s1=>?_⟩;right;refine⟨_,(ht.same s1).q,dz.neg (by simp;omega) ?_⟩;obtain⟨b,hb⟩:=ht.b;right;refine⟨b,⟨_,hb K H1 s1⟩,fun D hD=>cmQ tv (fun i σ' H'=>(∃o,σ'=[o,some (.ref p)])∧Same H1 H'∧H' D=some (.lst (List.replicate i (.bl true)))) ⟨⟨none,rfl⟩,au hD,ak⟩ (fun i σ' H' _ h=>hb K H' (s1.trans h.2.1)) ?_ ?_⟩
    ·rintro i v σ' H' hi ⟨⟨o,rfl⟩,sm,GD⟩;obtain⟨e,he,t2,rfl,Ik⟩:=hpr.at hi;have hi2:i<tv.length:=(List.getElem?_eq_some_iff.mp hi).1;obtain⟨h1,h2,h3⟩:=hts.ok e (List.mem_of_getElem? he);have s2:=s1.trans sm;right;refine⟨t2,p,e.1,e.2,xs,rfl,Ik.same s2,hp.same s2,hx,h1,h2,h3,fun H2 s3=>?_⟩;right;refine⟨_,s3 _ _ GD,by simp;omega,aV (sm.trans s3) hD,?_⟩;rw[ak,← List.replicate_succ']
    ·rintro σ' H' ⟨⟨o,rfl⟩,sm,GD⟩;right;refine⟨_,GD,_,mJ _,?_⟩;rw[show(List.replicate tv.length true).all id=true by simp];exact q _ (s1.trans sm)
def bI (H:Hp) (vs:List V) (ps:List (Str×Str)):Prop:=vs.length=ps.length∧∀(i:Nat) v e,vs[i]? = some v→ps[i]? = some e→∃t,v = .ref t∧H t=some (.tup [.str e.1,.str e.2])
def cG (H H':Hp):Prop:=∀b xs,H b=some (.tup xs)→H' b=some (.tup xs)
theorem bI.keep {H H':Hp} {vs:List V} {ps:List (Str×Str)} (h:bI H vs ps) (s:cG H H'):bI H' vs ps:=⟨h.1,fun i v e h1 h2=>by
  obtain⟨t,rfl,e⟩:=h.2 i v e h1 h2;exact⟨t,rfl,s _ _ e⟩⟩
theorem bI.snoc {H:Hp} {vs:List V} {ps:List (Str×Str)} {t:Addr} {e:Str×Str} (h:bI H vs ps) (ht:H t=some (.tup [.str e.1,.str e.2])):bI H (vs++[.ref t]) (ps++[e]):=by
  refine⟨by simp[h.1],fun i v d h1 h2=>?_⟩
  by_cases hi:i<vs.length
  ·rw[List.getElem?_append_left hi] at h1;rw[List.getElem?_append_left (by rw[← h.1];exact hi)] at h2;exact h.2 i v d h1 h2
  · rw[List.getElem?_append_right (by omega)] at h1;rw[List.getElem?_append_right (by rw[← h.1];omega),← h.1] at h2;cases hk:i - vs.length with
    | zero=>
      rw[hk] at h1 h2;cases h1;cases h2;exact⟨t,rfl,ht⟩
    | succ j=>
      rw[hk] at h1;simp at h1
structure ig (C:Addr) (H:Hp) (o:Addr) (xs:List Str) (ps:List (Str×Str)):Prop where
  ex:∃dx n m tv,H o=some (.ins C dx [("names",V.ref n),("pairs",V.ref m)])∧H n=some (.tup (xs.map V.str))∧H m=some (.tup tv)∧bI H tv ps∧ps.length≤20
def qa7 (C:Addr):Sp:=fun vs H Q _=>∃o dx p t tv xs ps,vs=[.ref o,.ref p,.ref t]∧H o=some (.ins C dx [])∧Sq H t tv∧oJ H tv ps∧Sq H p (xs.map V.str)∧GF xs∧je xs ps∧
  ∀H',ig C H' o xs ps→But o H H'→Q .non H'
theorem Av (T:Txt K mg a):cD P w K mg base mL 4 a.gJ a.pL ["self", "points", "ties"] (qa7 a.bW):=by
  exists T.DR.o_,MK
  ·obtain⟨o,dx,p,t,tv,xs,ps,rfl,_⟩:=h;rfl
  · obtain⟨o,dx,p,t,tv,xs,ps,rfl,ho,ht,hpr,hp,hx,hts,q⟩:=h;refine⟨_,(aB (cU (eV (cH (PE.eqv (aO (GK T) hr.d rfl T.yx T.sy.kp T.yu .nil bh (aj (aH 1) aq)) (aK _ _ _)))) (aF Ce) bQ)
      (aB (cU (eV (cH (PE.eqv (aO (Nf T) hr.d rfl T.DQ T.wM.kp T.DP .nil bh (aj (aH 2) (aj (aH 1) aq))) (aK _ _ _)))) (aF Ce) bQ)
      (aB (Rw (K:=K) rfl (aH 0) (fQ zy rfl T.nm.tuple boot_tuple (aj (aH 1) aq)) rfl)
      (aF (Rw (K:=K) rfl (aH 0) (fQ zy rfl T.nm.tuple boot_tuple (aj (dG rfl rfl (show bx (ao gF) _ ["self", "points", "ties"] ["pair"] [] ["pair"] from⟨rfl,by symm,by symm,rfl,by symm,by symm⟩) rfl (PI.eqv (nP (K:=K) rfl (aH 2)) (kY _ _)) (fun C s H fp pn=>(aN (i:=0) (show(["pair"]:List Str).Nodup by symm) rfl (Or.inl rfl))) (fun C s H fp pn=>dF) (fun C s H fp pn=>(dH (aj (bC (bG (K:=K) rfl) (aH 0) aD (fun _ _=>rfl)) (aj (bC (bG (K:=K) rfl) (aH 0) aD (fun _ _=>rfl)) aq))))) aq)) rfl))))),?_⟩
    right;refine⟨p,xs,rfl,hp,hx,fun H1 s1=>?_⟩;right;refine⟨t,p,tv,xs,ps,rfl,ht.same s1,hpr.same s1,hp.same s1,hx,hts,fun H2 s2'=>?_⟩;have s2:=s1.trans s2';right;refine⟨_,hp.same s2,fun n H3 hn s3'=>?_⟩;have s3:=s2.trans s3';have nno:n≠o:=BZ hn (s3 _ _ ho) (by intro z;cases z);refine⟨_,_,_,s3 _ _ ho,T.j8,T.Kp,by simp,?_⟩;have hto:t≠o:=by rcases ht with z | z <;> exact BZ z ho (by intro y;cases y)
    have qgl:∀{ob:HO} {b:Addr} {u:HO},b≠o→H b=some u→upd H3 o ob b=some u:=fun hb e=>by rw[aC hb];exact s3 _ _ e
    obtain⟨b,hb⟩:∃b,∀H',(∀c u,c≠o→H c=some u→H' c=some u)→Z0 b K H' t tv:=by
      rcases ht with z | z
      ·exact⟨true,fun H' k=>aY.of (k _ _ hto z)⟩
      ·exact⟨false,fun H' k=>cM.of (k _ _ hto z)⟩
    have e1:lQ "names" (V.ref n) []=([("names",V.ref n)]:List (Str×V)):=rfl;rw[e1];have st4:∀(c:Addr) (u:HO),c≠o→H c=some u→upd H3 o (.ins a.bW dx [("names",V.ref n)]) c=some u:=fun c u hc e=>qgl hc e;generalize h4:upd H3 o (.ins a.bW dx [("names",V.ref n)])=H4 at st4 ⊢;have ho4:H4 o=some (.ins a.bW dx [("names",V.ref n)]):=by rw[← h4];exact ak
    have hn4:H4 n=some (.tup (xs.map V.str)):=by rw[← h4,aC nno];exact hn
    refine⟨b,⟨_,hb H4 st4⟩,fun D hD=>cmQ tv (fun i σ' H'=>(∃o',σ'=[o'])∧Same H4 H'∧∃tvs,H' D=some (.lst tvs)∧bI H' tvs (ps.take i)) ⟨⟨none,rfl⟩,au hD,[],ak,by simp[bI]⟩ (fun i σ' H' _ h=>hb H' fun c u hc e=>h.2.1 _ _ (st4 c u hc e)) ?_ ?_⟩
    · rintro i v σ' H' hi ⟨⟨o',rfl⟩,sm,tvs,GD,htv⟩;have hi2:i<tv.length:=(List.getElem?_eq_some_iff.mp hi).1;have hlen:=hpr.1;have Bc:=hts.len;obtain⟨e,he,t2,rfl,Ik⟩:=hpr.at hi;have t2o:t2≠o:=by rcases Ik with z | z <;> exact BZ z ho (by intro y;cases y)
      have ht3:Sq H' t2 [.str e.1,.str e.2]:=by
        rcases Ik with z | z
        ·exact .inl (sm _ _ (st4 _ _ t2o z))
        ·exact .inr (sm _ _ (st4 _ _ t2o z))
      right;refine⟨_,ht3.q,_,aP (j:=0) rfl,_,ht3.q,_,aP (j:=1) rfl,fun pt hpt=>?_⟩;have hDp:D≠pt:=aQ GD hpt;refine⟨tvs,by rw[aC hDp];exact GD,?_,aV (sm.trans (au hpt)) hD,_,ak,?_⟩
      · have h4':20<sizeLine:=by decide
        have:=htv.1;simp at this;omega
      · rw[take_one he];refine(htv.keep ?_).snoc ?_
        ·intro c zs ec;rw[aC (BZ ec GD (by intro y;cases y)),aC (aQ ec hpt)];exact ec
        ·rw[aC (Ne.symm hDp)];exact ak
    · rintro σ' H' ⟨⟨o',rfl⟩,sm,tvs,GD,htv⟩;right;refine⟨tvs,.inl GD,fun m H5 hm s5=>⟨_,_,_,s5 _ _ (sm _ _ ho4),T.j8,T.BP,by simp,?_⟩⟩;have ho5:=s5 _ _ (sm _ _ ho4);have mno:m≠o:=BZ hm ho5 (by intro z;cases z);have e2:lQ "pairs" (V.ref m) ([("names",V.ref n)]:List (Str×V))=([("names",V.ref n),("pairs",V.ref m)]:List (Str×V)):=by
        show(if ("names" : Str) = "pairs" then _ else (("names" : Str),V.ref n)::lQ "pairs" (V.ref m) [])=_
        rw[if_neg (by symm)];rfl
      rw[e2];refine q _ ⟨dx,n,m,tvs,ak,?_,?_,?_,hts.len⟩ fun c u hc e=>?_
      ·rw[aC nno];exact s5 _ _ (sm _ _ hn4)
      ·rw[aC mno];exact hm
      ·have hl:=hpr.1;rw[hl,List.take_length] at htv;refine htv.keep fun c zs ec=>?_;rw[aC (BZ (s5 _ _ ec) ho5 (by intro z;cases z))];exact s5 _ _ ec
      ·rw[aC hc];exact s5 _ _ (sm _ _ (st4 c u hc e))
def UJ (C:Addr):Sp:=fun vs H Q _=>∃o xs ps,vs=[.ref o]∧ig C H o xs ps∧∀l,H l=none→Q (.ref l) (upd H l (.lst (xs.map V.str)))
theorem jO (T:Txt K mg a):cD P w K mg base mL 1 a.dZ a.mV ["self"] (UJ a.bW):=by
  exists T.yC.o_,GC
  ·obtain⟨o,xs,ps,rfl,_⟩:=h;rfl
  ·obtain⟨o,xs,ps,rfl,⟨dx,n,m,tv,h1,h2,h3,h4,h5⟩,q⟩:=h;refine⟨_,(aF (bB (fQ (qI (K:=K) rfl) rfl T.nm.list boot_list (aj (PE.eqv (Jx (K:=K) rfl (aH 0) rfl) (JT _ _ _)) aq)))),?_⟩;right;refine⟨_,_,_,h1,T.j8,T.Kp,_,rfl,_,.inr (cM.of h2),q⟩
def qa8 (C:Addr):Sp:=fun vs H Q _=>∃o xs ps,vs=[.ref o]∧ig C H o xs ps∧∀l tv,H l=none→bI H tv ps→Q (.ref l) (upd H l (.lst tv))
theorem m_ (T:Txt K mg a):cD P w K mg base mL 1 a.gK a.pO ["self"] (qa8 a.bW):=by
  exists T.DW.o_,MN
  ·obtain⟨o,xs,ps,rfl,_⟩:=h;rfl
  ·obtain⟨o,xs,ps,rfl,⟨dx,n,m,tv,h1,h2,h3,h4,h5⟩,q⟩:=h;refine⟨_,(aF (bB (fQ (qI (K:=K) rfl) rfl T.nm.list boot_list (aj (PE.eqv (Jx (K:=K) rfl (aH 0) rfl) (JT _ _ _)) aq)))),?_⟩;right;refine⟨_,_,_,h1,T.j8,T.BP,_,rfl,_,.inr (cM.of h3),fun l hl=>q l tv hl h4⟩
theorem jY.upd {p q:Addr} {H:Hp} {u:HO} (x:jY H p) (h:p≠q):jY (L2.upd H q u) p:=by
  obtain⟨a,b,e,r⟩:=x;exact⟨a,b,by rw[aC h];exact e,r⟩
theorem jY.ne {p q:Addr} {H:Hp} (x:jY H p) (h:H q=none):p≠q:=by
  obtain⟨a,b,e,r⟩:=x;exact aQ e h
theorem jY.none {p b:Addr} {H H':Hp} (x:But p H H') (hp:jY H' p) (h:H' b = .none):H b = .none:=by
  obtain⟨a,b,e,r⟩:=hp;exact x.none e h
def YG:Sp:=fun vs H Q _=>∃p l xs,vs=[.ref p,.ref l]∧jY H p∧l≠p∧H l=some (.lst xs)∧xs.length≤100∧∀r ys H',H r=none→H' r=some (.lst ys)→ys.Perm xs→jY H' p→But p H H'→Q (.ref r) H'
theorem yM (T:Txt K mg a):cD P w K mg base mL 2 a.ou a.yj ["_law_pot_here", "_law_things"] YG:=by
  exists T.uX.o_,Du
  ·obtain⟨p,l,xs,rfl,_⟩:=h;rfl
  · obtain⟨p,l,xs,rfl,hp,hlp,hl,h100,q⟩:=h;refine⟨_,(aB (bw (i:=2) Du.nd rfl (Or.inl rfl) (cV aq))
      (aB (jf PassesOwn.never rfl (PI.eqv (cg (K:=K) rfl (aH 1)) (bV _ _)) (aN (i:=3) Du.nd rfl (Or.inl rfl))
      (aF (cB (gZ (K:=K) rfl PySem.F.plainAttrs_list PySem.F.slot_list_insert PySem.F.type_list_insert P_ (aH 2) (aj (PE.eqv (aO (gB T) hr.d rfl T.jc T.iQ.kp T.i_ .nil bh (aj (aH 0) (aj (b_ fj (aM (bT (K:=K) rfl) rfl T.nm.len PySem.boot_len (aj (aH 2) aq)) aD) aq))) (aK _ _ _)) (aj (aH 3) aq))))))
      (aF (bB (aH 2))))),?_⟩
    have h4':100<sizeLine:=by decide
    simp -dsimp[aA,stC];intro r hr0;have hpr:p≠r:=hp.ne hr0;refine⟨⟨_,aY.of (bN hl hr0)⟩,frL xs (fun i σ H'=>∃v ys,σ=[some (.ref p),some (.ref l),some (.ref r),v]∧H' r=some (.lst ys)∧ys.Perm (xs.take i)∧jY H' p∧But p H H') ⟨none,[],rfl,ak,by simp,hp.upd hpr,(But.refl _ _).new hr0⟩ (fun i σ H' _ ⟨_,_,_,_,_,_,hb⟩=>aY.of (hb _ _ hlp hl)) ?_ ?_⟩
    · rintro i x σ H' hi ⟨v,ys,rfl,hr',hperm,hP,hB⟩;have hi2:i<xs.length:=(List.getElem?_eq_some_iff.mp hi).1;have hly:ys.length=i:=by
        have:=hperm.length_eq;simp at this;omega
      simp -dsimp[aA,stC];refine⟨⟨_,aY.of hr'⟩,ys,.inl (aY.of hr'),p,_,rfl,hP,by omega,by omega,fun d H1 hd0 hd1 GP Il=>?_⟩;have hr1:H1 r=some (.lst ys):=Il _ _ (Ne.symm hpr) hr';simp -dsimp[aA,stC];refine⟨ys,hr1,hd0,by omega,by omega,_,ak,?_,GP.upd hpr,(hB.trans Il).new hr0⟩
      · rw[take_one hi];have e:(ys.take d.toNat++x::ys.drop d.toNat).Perm (x::ys):=by
          refine List.perm_middle.trans ?_;rw[List.take_append_drop]
        exact e.trans ((List.Perm.cons x hperm).trans (List.perm_append_singleton x _).symm)
    ·rintro σ H' ⟨v,ys,rfl,hr',hperm,hP,hB⟩;rw[List.take_length] at hperm;simp -dsimp[aA,stC];exact q r ys H' hr0 hr' hperm hP hB
def qdI:Sp:=fun vs H Q _=>∃(p l:Addr) (xs:List Str),vs=[.ref p,.ref l]∧jY H p∧l≠p∧H l=some (.lst (xs.map V.str))∧2≤xs.length∧xs.length≤9∧xs.Nodup∧∀t x y H',H t=none→H' t=some (.tup [.str x,.str y])→x∈xs→y∈xs→x≠y→jY H' p→But p H H'→Q (.ref t) H'
theorem qdJ (T:Txt K mg a):cD P w K mg base mL 2 a.yp a.Ka ["_law_pot_here", "_law_names_here"] qdI:=by
  exists T.Yv.o_,Qj
  ·obtain⟨p,l,xs,rfl,_⟩:=h;rfl
  · obtain⟨p,l,xs,rfl,hp,hlp,hl,h2,h9,hnd,q⟩:=h;refine⟨_,(aB (bw (i:=2) Qj.nd rfl (Or.inl rfl) (PE.eqv (aO (gB T) hr.d rfl T.jc T.iQ.kp T.i_ .nil bh (aj (aH 0) (aj (aM (bT (K:=K) rfl) rfl T.nm.len PySem.boot_len (aj (aH 1) aq)) aq))) (aK _ _ _)))
      (aB (bw (i:=3) Qj.nd rfl (Or.inl rfl) (b_ uM (b_ fj (b_ fj (aH 2) aD) (PE.eqv (aO (gB T) hr.d rfl T.jc T.iQ.kp T.i_ .nil bh (aj (aH 0) (aj (b_ xT (aM (bT (K:=K) rfl) rfl T.nm.len PySem.boot_len (aj (aH 1) aq)) aD) aq))) (aK _ _ _))) (aM (bT (K:=K) rfl) rfl T.nm.len PySem.boot_len (aj (aH 1) aq))))
      (aF (bB (dH (aj (bC (bG (K:=K) rfl) (aH 1) (aH 2) (fun _ _=>rfl)) (aj (bC (bG (K:=K) rfl) (aH 1) (aH 3) (fun _ _=>rfl)) aq))))))),?_⟩
    simp -dsimp[aA,stC];refine⟨_,.inl (aY.of hl),p,_,rfl,hp,by simp;omega,by simp;omega,fun d H1 hd0 hd1 GP Il=>?_⟩;have hl1:=Il _ _ hlp hl;simp -dsimp[aA,stC];refine⟨_,.inl (aY.of hl1),p,_,rfl,GP,by simp;omega,by simp;omega,fun e H2 he0 he1 hP2 hB2=>?_⟩;have hl2:=hB2 _ _ hlp hl1;simp only[List.length_map] at hd1 he1;obtain⟨m0,m1,m2⟩:=qc3 hd0 hd1 he0 he1;obtain⟨vx,ex,ax⟩:=Ru (xs:=xs.map V.str) hd0 (by simpa using hd1);obtain⟨vy,ey,ay⟩:=Ru (xs:=xs.map V.str) m0 (by simpa using m1);obtain⟨x,ex',rfl⟩:=qg ex;obtain⟨y,ey',rfl⟩:=qg ey;have sl:=aY.of (K:=K) hl2;simp -dsimp[aA,stC];refine⟨_,.inl sl,by simp;omega,_,.inl sl,_,ax,_,.inl sl,_,(by simpa using ay),fun t ht=>?_⟩;refine q t x y _ (jY.none (Il.trans hB2) hP2 ht) ak (List.mem_of_getElem? ex') (List.mem_of_getElem? ey') (fun z=>?_) (hP2.upd (hP2.ne ht)) ((Il.trans hB2).same (au ht));subst z;have:=tV hnd ex' ey';omega
def YH:Sp:=fun vs H Q _=>∃(p:Addr) (m:Nat),vs=[.ref p,.int m]∧jY H p∧1≤m∧m≤9∧∀(r:Addr) (xs:List Str) (H':Hp),H r=none→H' r=some (.lst (xs.map V.str))→GF xs→xs.length=m→jY H' p→But p H H'→Q (.ref r) H'
theorem Ng (T:Txt K mg a):cD P w K mg base mL 2 a.oh a.yh ["_law_pot_here", "_law_many"] YH:=by
  exists T.BK.o_,qK
  ·obtain⟨p,m,rfl,_⟩:=h;rfl
  · obtain⟨p,m,rfl,hp,h1,h9,q⟩:=h;refine⟨_,(aB (bw (i:=2) qK.nd rfl (Or.inr rfl) nj)
      (aB (bw (i:=3) qK.nd rfl (Or.inl rfl) (PE.eqv (aO (gB T) hr.d rfl T.jc T.iQ.kp T.i_ .nil bh (aj (aH 0) (aj aD aq))) (aK _ _ _)))
      (aB (bw (i:=4) qK.nd rfl (Or.inl rfl) (cV aq))
      (aB (jf PassesOwn.never rfl (PI.eqv (lO rfl T.nm.range (aj (aH 1) aq)) (lX _)) (aN (i:=5) qK.nd rfl (Or.inl rfl))
      (aB (iu (i:=6) qK.nd rfl rfl rfl rfl (show bx (ao mQ) _ ["_law_pot_here", "_law_many", "_law_letters", "_law_begin", "_law_found", "_law_k", "_law_more"] ["_law_j"] [2,0] ["_law_j", "_law_letters", "_law_pot_here"] from⟨rfl,by symm,by symm,rfl,by symm,by symm⟩) rfl (PI.eqv (lO rfl T.nm.range (aj (PE.eqv (aO (gB T) hr.d rfl T.jc T.iQ.kp T.i_ .nil bh (aj (aH 0) (aj aD aq))) (aK _ _ _)) aq)) (lX _)) (fun C s H fp pn=>(aN (i:=0) (show(["_law_j", "_law_letters", "_law_pot_here"]:List Str).Nodup by symm) rfl (Or.inl rfl))) (fun C s H fp pn=>dF) (fun C s H fp pn=>(bC RG (aH 1) (PE.eqv (aO (gB T) hr.d rfl T.jc T.iQ.kp T.i_ .nil bh (aj (aH 2) (aj aD aq))) (aK _ _ _)) (fun _ _=>rfl))))
      (aF (cB (gZ (K:=K) rfl PySem.F.plainAttrs_list PySem.F.slot_list_append PySem.F.type_list_append cu (aH 4) (aj (b_ Ms (bC RG (aH 2) (b_ uM (b_ fj (aH 3) (b_ Bs aD (aH 5))) aD) (fun _ _=>rfl)) (gZ (K:=K) rfl PySem.F.plainAttrs_str PySem.F.slot_str_join PySem.F.type_str_join Yc nj (aj (aH 6) aq))) aq))))))
      (aF (bB (aH 4))))))),?_⟩
    nofun;refine⟨p,_,rfl,hp,by decide,by decide,fun d H1 hd0 hd1 GP Il=>?_⟩;obtain⟨b,rfl,qpQ,hbl⟩:=tW hd0 hd1;have hP2:=GP;have hB2:=Il;nofun;intro r hr0;refine⟨by omega,frR (fun i σ H'=>∃v8 v9 ws,σ=[some (.ref p),some (.int m),some (.str (Str.ofString "abcdefghijklmnopqrstuvwxyz")),some (.int b),some (.ref r),v8,v9]∧H' r=some (.lst (ws.map V.str))∧ws.length=i∧(∀(j:Nat) x,ws[j]? = some x→∃k,1≤k∧k≤4∧rm (97+(b+5 * j) % 26) k x)∧jY H' p∧But p H H') ⟨none,none,[],rfl,ak,rfl,fun j x e=>by simp at e,hP2.upd (hP2.ne hr0),hB2.same (au hr0)⟩ ?_ ?_⟩
    · rintro i σ H' hi ⟨v8,v9,ws,rfl,hr',hl,hw,hP,hB⟩;nofun;obtain⟨c,hc,qml,hcl⟩:=tW (i:=((b:Int)+5 * i) % 26) (by omega) (by omega);have hc':c=(b+5 * i) % 26:=by omega
      have pr:r≠p:=fun z=>by subst z;obtain⟨_,_,u,_⟩:=hP2;rw[hr0] at u;cases u
      refine⟨p,_,rfl,hP,by decide,by decide,fun e H3 he0 he1 Im hB3=>?_⟩;nofun;have hDr:∀{D:Addr},H3 D=none→r≠D:=fun hD=>aQ (hB3 _ _ pr hr') hD;refine⟨by omega,by omega,fun D hD=>cmR (fun j σ H4=>∃v ys,σ=[v,some (.str (Str.ofString "abcdefghijklmnopqrstuvwxyz")),some (.ref p)]∧H4 D=some (.lst (ys.map V.str))∧H4 r=some (.lst (ws.map V.str))∧ys.length=j∧(∀y∈ys,∃n,n<26∧y=(⟨#[97+n]⟩:Str))∧jY H4 p∧But p H H4) ⟨_,[],rfl,ak,bN (hB3 _ _ pr hr') hD,rfl,by simp,Im.upd (Im.ne hD),(hB.trans hB3).same (au hD)⟩ ?_ ?_⟩
      · rintro j σ H4 hj ⟨v,ys,rfl,Kq,hr4,hyl,hys,Et,Io⟩;have hDp:D≠p:=(Im.ne hD).symm;nofun;refine⟨p,_,rfl,Et,by decide,by decide,fun f H5 hf0 hf1 K5 Kr=>?_⟩;obtain⟨n,rfl,qmm,hnl⟩:=tW hf0 hf1;simp -dsimp[aA,stC,-Bool.exists_bool,-List.map_take,-Prod.forall,-Prod.exists,Ad,hnl];have UL:=of_eq_true Gy;refine⟨_,Kr _ _ hDp Kq,by simp;omega,ys++[⟨#[97+n]⟩],by rw[ak];simp,by rw[aC (hDr hD)];exact Kr _ _ pr hr4,by simp[hyl],fun y hy=>?_,K5.upd hDp.symm,(Io.trans Kr).new (jY.none (hB.trans hB3) Im hD)⟩
        rcases List.mem_append.mp hy with hy | hy
        ·exact hys y hy
        ·exact⟨n,qmm,by simpa using hy⟩
      · rintro σ H4 ⟨v,ys,rfl,Kq,hr4,hyl,hys,Et,Io⟩;have hy3:=tY ys hys;nofun;have hw4:=(rm.one qml).glue (by decide) hys;have UL:=of_eq_true Gy;refine⟨⟨_,aY.of hr4⟩,Ad,_,hcl,?_⟩;have hlen:(⟨#[97+c]⟩:Str).length+(Txt.join (Str.ofString "") ys).length=1+ys.length:=by
          rw[← hw4.len];exact(Array.size_append).symm
        refine⟨ys,Kq,by rw[hy3.2.2];show _+_ * 0≤_;omega,by omega,_,hr4,by simp;omega,ws++[_],by rw[ak];simp;rfl,by simp[hl],fun j y e=>?_,Et.upd pr.symm,Io.new (jY.none hB2 hP2 hr0)⟩
        by_cases hj:j<ws.length
        ·rw[List.getElem?_append_left hj] at e;exact hw j y e
        · rw[List.getElem?_append_right (by omega)] at e;cases hk:j - ws.length with
          | zero=>
            rw[hk] at e;simp at e;subst e;have ej:j=i:=by omega
            subst ej;exact⟨1+ys.length,by omega,by omega,by rw[← hc'];exact hw4⟩
          | succ k=>
            rw[hk] at e;simp at e
    · rintro σ H' ⟨v8,v9,ws,rfl,hr',hl,hw,hP,hB⟩;nofun;have nd:ws.Nodup:=by
        unfold List.Nodup;rw[List.pairwise_iff_getElem];intro i j hi hj hij e;obtain⟨k1,_,_,w1⟩:=hw i _ (by simp[hi]:ws[i]? = some ws[i]);obtain⟨k2,_,_,w2⟩:=hw j _ (by simp[hj]:ws[j]? = some ws[j]);have z:=w1.fst;rw[e,w2.fst] at z;simp at z;omega
      refine q r ws H' (jY.none hB2 hP2 hr0) hr' ⟨by omega,fun x hx=>?_,nd⟩ hl hP hB;obtain⟨j,hj,e⟩:=List.mem_iff_getElem.mp hx;obtain⟨k,k1,k4,w⟩:=hw j x (by simp[hj,e]);exact w.name k1 k4
theorem bI.perm {H:Hp} {vs ys:List V} {ps:List (Str×Str)} (h:bI H vs ps) (hp:ys.Perm vs):∃qs:List (Str×Str),bI H ys qs∧qs.Perm ps:=by
  have e1:vs=(vs.zip ps).map (·.1):=by rw[List.map_fst_zip (by rw[h.1];exact Nat.le_refl _)]
  have e2:ps=(vs.zip ps).map (·.2):=by rw[List.map_snd_zip (by rw[h.1];exact Nat.le_refl _)]
  obtain⟨l',pl,e⟩:=nQ hp _ e1;refine⟨l'.map (·.2),⟨by rw[e];simp,fun i v d h1 h2=>?_⟩,by rw[e2];exact pl.map _⟩;rw[e,List.getElem?_map] at h1;rw[List.getElem?_map] at h2;cases hz:l'[i]? with
  | none=>rw[hz] at h1;cases h1
  | some z=>
    rw[hz] at h1 h2;cases h1;cases h2;have hm:z∈vs.zip ps:=pl.mem_iff.mp (List.mem_of_getElem? hz);obtain⟨j,hj,ez⟩:=List.mem_iff_getElem.mp hm;have hj':j<vs.length∧j<ps.length:=by
      simp at hj;omega
    simp at ez;subst ez;exact h.2 j _ _ (by simp[hj'.1]) (by simp[hj'.2])
theorem bI.at {H:Hp} {vs:List V} {ps:List (Str×Str)} (h:bI H vs ps) {i:Nat} {v:V} (hv:vs[i]? = some v):∃e,ps[i]? = some e∧∃t,v = .ref t∧H t=some (.tup [.str e.1,.str e.2]):=by
  have hi:i<ps.length:=by rw[← h.1];exact(List.getElem?_eq_some_iff.mp hv).1
  exact⟨ps[i],by simp[hi],h.2 i v _ hv (by simp[hi])⟩
theorem bI.but {p:Addr} {H H':Hp} {vs:List V} {ps:List (Str×Str)} (h:bI H vs ps) (hp:jY H p) (b:But p H H'):bI H' vs ps:=h.keep fun c xs e=>b c _ (fun z=>by
  subst z;obtain⟨_,_,u,_⟩:=hp;rw[e] at u;cases u) e
theorem bI.same {H H':Hp} {vs:List V} {ps:List (Str×Str)} (h:bI H vs ps) (b:Same H H'):bI H' vs ps:=h.keep fun c xs e=>b c _ e
theorem jY.nl {p q:Addr} {H:Hp} (x:jY H p) (h:H q = .none):q≠p:=fun z=>(x.ne h) z.symm
def qdK:Sp:=fun vs H Q _=>∃(p:Addr) (m k:Nat),vs=[.ref p,.int m,.int k]∧jY H p∧1≤m∧m≤9∧m≤k∧k≤20∧∀(t n l:Addr) (xs:List Str) (tv:List V) (ps:List (Str×Str)) (H':Hp),
  H t=none→H n=none→H l=none→H' t=some (.tup [.ref n,.ref l])→H' n=some (.lst (xs.map V.str))→H' l=some (.lst tv)→bI H' tv ps→GF xs→je xs ps→xs.length≤m→ps.length≤k→jY H' p→But p H H'→Q (.ref t) H'
theorem qdL (T:Txt K mg a):cD P w K mg base mL 3 a.yq a.Kc ["_law_pot_here", "_law_points", "_law_most"] qdK:=by
  exists T.Yw.o_,rJ
  ·obtain⟨p,m,k,rfl,_⟩:=h;rfl
  · obtain⟨p,m,k,rfl,hp,h1,h9,hmk,hk,q⟩:=h;refine⟨_,(aB (bw (i:=3) rJ.nd rfl (Or.inl rfl) (PE.eqv (aO (Ng T) hr.d rfl T.Kf T.BK.kp T.Ke .nil bh (aj (aH 0) (aj (b_ fj aD (PE.eqv (aO (gB T) hr.d rfl T.jc T.iQ.kp T.i_ .nil bh (aj (aH 0) (aj (aH 1) aq))) (aK _ _ _))) aq))) (aK _ _ _)))
      (aB (bw (i:=4) rJ.nd rfl (Or.inl rfl) (PE.eqv (aO (gB T) hr.d rfl T.jc T.iQ.kp T.i_ .nil bh (aj (aH 0) (aj aD aq))) (aK _ _ _)))
      (aB (bw (i:=5) rJ.nd rfl (Or.inl rfl) (cV aq))
      (aB (cU (aZ t_ (aM (bT (K:=K) rfl) rfl T.nm.len PySem.boot_len (aj (aH 3) aq)) aD (bM _)) (aB (bw (i:=6) rJ.nd rfl (Or.inr rfl) (PE.eqv (aO (yM T) hr.d rfl T.yG T.uX.kp T.yF .nil bh (aj (aH 0) (aj (aH 3) aq))) (aK _ _ _)))
      (aB (cU (aZ t_ (aH 4) aD (bM _)) (aF (iu (i:=5) rJ.nd rfl rfl rfl rfl (show bx (ao sW) _ ["_law_pot_here", "_law_points", "_law_most", "_law_names_here", "_law_kind", "_law_ties", "_law_row", "_law_k", "_law_turns"] ["_law_k"] [6] ["_law_k", "_law_row"] from⟨rfl,by symm,by symm,rfl,by symm,by symm⟩) rfl (PI.eqv (Td rfl T.nm.range (aj (fQ P0 rfl T.nm.int yW (aj (cC g_ (aH 4) aD (bM _)) aq)) (aj (aM (bT (K:=K) rfl) rfl T.nm.len PySem.boot_len (aj (aH 6) aq)) aq))) (Us _)) (fun C s H fp pn=>(aN (i:=0) (show(["_law_k", "_law_row"]:List Str).Nodup by symm) rfl (Or.inl rfl))) (fun C s H fp pn=>dF) (fun C s H fp pn=>(dH (aj (bC (bG (K:=K) rfl) (aH 1) (b_ xT (aH 0) aD) (fun _ _=>rfl)) (aj (bC (bG (K:=K) rfl) (aH 1) (aH 0) (fun _ _=>rfl)) aq)))))) bQ)
      (aF (jf PassesOwn.never rfl (PI.eqv (lO rfl T.nm.range (aj (PE.eqv (aO (gB T) hr.d rfl T.jc T.iQ.kp T.i_ .nil bh (aj (aH 0) (aj (b_ fj (b_ xT (aH 2) (aM (bT (K:=K) rfl) rfl T.nm.len PySem.boot_len (aj (aH 5) aq))) aD) aq))) (aK _ _ _)) aq)) (lX _)) (aN (i:=7) rJ.nd rfl (Or.inl rfl))
      (aF (cB (gZ (K:=K) rfl PySem.F.plainAttrs_list PySem.F.slot_list_append PySem.F.type_list_append cu (aH 5) (aj (PE.eqv (aO (qdJ T) hr.d rfl T.qb5 T.Yv.kp T.qb4 .nil bh (aj (aH 0) (aj (aH 3) aq))) (aK _ _ _)) aq)))))))) bQ)
      (aB (iu (i:=8) rJ.nd rfl rfl rfl rfl (show bx (ao sW) _ ["_law_pot_here", "_law_points", "_law_most", "_law_names_here", "_law_kind", "_law_ties", "_law_row", "_law_k", "_law_turns"] ["_law_tie_here"] [0] ["_law_tie_here", "_law_pot_here"] from⟨rfl,by symm,by symm,rfl,by symm,by symm⟩) rfl (PI.eqv (cg (K:=K) rfl (aH 5)) (bV _ _)) (fun C s H fp pn=>(aN (i:=0) (show(["_law_tie_here", "_law_pot_here"]:List Str).Nodup by symm) rfl (Or.inl rfl))) (fun C s H fp pn=>dF) (fun C s H fp pn=>(PE.eqv (aO (gB T) hr.d rfl T.jc T.iQ.kp T.i_ .nil bh (aj (aH 1) (aj aD aq))) (aK _ _ _))))
      (aB (iu (i:=5) rJ.nd rfl rfl rfl rfl (show bx (ao sW) _ ["_law_pot_here", "_law_points", "_law_most", "_law_names_here", "_law_kind", "_law_ties", "_law_row", "_law_k", "_law_turns"] ["_law_turn", "_law_a", "_law_b"] [] ["_law_turn", "_law_a", "_law_b"] from⟨rfl,by symm,by symm,rfl,by symm,by symm⟩) rfl (PI.eqv (JC (K:=K) rfl rfl T.nm.zip (aj (aH 5) (aj (aH 8) aq))) (Dd _ _)) (fun C s H fp pn=>(PG.eqv (cF (K:=K) (n:=2) rfl rfl (eX.eqv (aR (PG.eqv (cF (K:=K) (n:=2) rfl rfl (eX.eqv (aR (aN (i:=1) (show(["_law_turn", "_law_a", "_law_b"]:List Str).Nodup by symm) rfl (Or.inl rfl)) (eX.eqv (aR (aN (i:=2) (show(["_law_turn", "_law_a", "_law_b"]:List Str).Nodup by symm) rfl (Or.inl rfl)) (eX.mono bZ cX)) (aU _ _))) (aU _ _))) (cI _ _ _)) (eX.eqv (aR (aN (i:=0) (show(["_law_turn", "_law_a", "_law_b"]:List Str).Nodup by symm) rfl (Or.inl rfl)) (eX.mono bZ cX)) (aU _ _))) (aU _ _))) (cI _ _ _))) (fun C s H fp pn=>dF) (fun C s H fp pn=>(bC (bG (K:=K) rfl) (cV (aj (dH (aj (aH 1) (aj (aH 2) aq))) (aj (dH (aj (aH 2) (aj (aH 1) aq))) aq))) (aH 0) (fun _ _=>rfl))))
      (aF (bB (dH (aj (aH 3) (aj (PE.eqv (aO (yM T) hr.d rfl T.yG T.uX.kp T.yF .nil bh (aj (aH 0) (aj (aH 5) aq))) (aK _ _ _)) aq))))))))))),?_⟩
    left;refine⟨p,_,rfl,hp,qmc h1,zlt h9 (by decide),fun d H1 hd0 hd1 GP Il=>?_⟩;left;refine⟨p,d.toNat+1,?_,GP,Nat.le_add_left 1 _,ztn hd0 hd1 h9,fun n xs H2 hn hn2 hX hxl hP2 hB2'=>?_⟩
    ·simp;exact qme hd0 1
    have R3:xs.length≤m:=by rw[hxl];exact ztn hd0 hd1 (Nat.le_refl m)
    have hx9:=Nat.le_trans R3 h9;have hB2:=Il.trans hB2';left;refine⟨p,_,rfl,hP2,by decide,by decide,fun kd H3 hk0 hk1 Im qa9=>?_⟩;have hB3:=hB2.trans qa9;have np:n≠p:=fun z=>by subst z;obtain⟨_,_,u,_⟩:=GP;rw[hn] at u;cases u
    have hn3:=qa9 _ _ np hn2;left;refine fun L hL=>⟨_,.inl (aY.of (bN hn3 hL)),CK (fun σ H4=>∃v6 v7 L tv ps,σ=[some (.ref p),some (.int m),some (.int k),some (.ref n),some (.int kd),some (.ref L),v6,v7,none]∧H L=none∧H4 L=some (.lst tv)∧bI H4 tv ps∧je xs ps∧ps.length≤k∧H4 n=some (.lst (xs.map V.str))∧jY H4 p∧But p H H4) ?_ ?_⟩
    · rintro σ H4 ⟨v6,v7,L,tv,ps,rfl,hL0,Ip,htv,hts,hpk,hn4,Et,Io⟩;left;have Lp:L≠p:=hp.nl hL0;have Qo:tv.length≤20:=by rw[htv.1];exact Nat.le_trans hpk hk
      have UL:=of_eq_true Gy;refine⟨⟨_,aY.of Ip⟩,fun D hD=>Ma tv (fun i σ H'=>∃v ds,σ=[v,some (.ref p)]∧H' D=some (.lst (ds.map V.int))∧ds.length=i∧(∀d∈ds,0≤d∧d<2)∧H' L=some (.lst tv)∧bI H' tv ps∧H' n=some (.lst (xs.map V.str))∧jY H' p∧But p H H') ⟨none,[],rfl,ak,rfl,by simp,bN Ip hD,htv.same (au hD),bN hn4 hD,Et.upd (Et.ne hD),Io.same (au hD)⟩ (fun i σ H' _ h=>by
        obtain⟨_,_,_,_,_,_,z,_⟩:=h;exact aY.of z) ?_ ?_⟩
      · rintro i x σ H5 hi ⟨v,ds,rfl,Bd,hl,hds,Z5,qdM,hn5,K5,Kr⟩;have hi2:i<tv.length:=(List.getElem?_eq_some_iff.mp hi).1;left;refine⟨p,_,rfl,K5,by decide,by decide,fun d H6 hd0 hd1 YJ R4=>?_⟩;have Dp:D≠p:=Et.nl hD;have LD:L≠D:=aQ Ip hD;have nD:n≠D:=aQ hn4 hD;have YK:=R4 _ _ Dp Bd;left;refine⟨_,YK,by rw[List.length_map,hl];exact zsz hi2 Qo,ds++[d],by rw[ak];simp,by simp[hl],?_,by rw[aC LD];exact R4 _ _ Lp Z5,(qdM.but K5 R4).keep (fun c zs e=>q_ e YK (by intro z;cases z)),by rw[aC nD];exact R4 _ _ np hn5,YJ.upd (Dp.symm),(Kr.trans R4).new (jY.none Io Et hD)⟩;intro z hz
        rcases List.mem_append.mp hz with y | y
        ·exact hds z y
        ·simp at y;subst y;exact⟨hd0,hd1⟩
      · rintro σ H5 ⟨v,ds,rfl,Bd,hl,hds,Z5,qdM,hn5,K5,Kr⟩;left;have hD0:=jY.none Io Et hD;have LD:L≠D:=aQ Ip hD;refine⟨⟨_,aY.of Z5⟩,⟨_,aY.of Bd⟩,fun D2 hD2=>cmZ tv (ds.map V.int) (fun i σ H'=>(∃o1 o2 o3,σ=[o1,o2,o3])∧∃tvs qs,H' D2=some (.lst tvs)∧bI H' tvs qs∧qs.length=i∧(∀e∈qs,e.1∈xs∧e.2∈xs∧e.1≠e.2)∧H' L=some (.lst tv)∧H' D=some (.lst (ds.map V.int))∧bI H' tv ps∧H' n=some (.lst (xs.map V.str))∧jY H' p∧But p H H') ⟨⟨_,_,_,rfl⟩,[],[],ak,⟨rfl,by simp⟩,rfl,by simp,bN Z5 hD2,bN Bd hD2,qdM.same (au hD2),bN hn5 hD2,K5.upd (K5.ne hD2),Kr.same (au hD2)⟩ (by simp[hl]) (fun i σ H' _ h=>by
          obtain⟨_,_,_,_,_,_,_,z1,z2,_⟩:=h;exact⟨aY.of z1,aY.of z2⟩) ?_ ?_⟩
        · rintro i x y t σ H6 hx hy ht ⟨⟨o1,o2,o3,rfl⟩,tvs,qs,qdN,zJ,hql,hqs,hL6,YK,qdO,hn6,YJ,R4⟩;left;obtain⟨e,he,tt,rfl,htt⟩:=qdO.at hx;have hi2:i<tv.length:=(List.getElem?_eq_some_iff.mp hx).1;have hem:=List.mem_of_getElem? he;rw[List.getElem?_map] at hy;obtain⟨d,hd,rfl⟩:∃d,ds[i]? = some d∧y = .int d:=by
            cases z:ds[i]? with
            | none=>rw[z] at hy;cases hy
            | some d=>rw[z] at hy;exact⟨d,rfl,(Option.some.inj hy).symm⟩
          have hd2:=hds d (List.mem_of_getElem? hd);refine⟨_,cM.of ak,rfl,_,cM.of (bN htt ht),rfl,?_⟩;left;refine fun p1 h1 p2 h2 p3 h3=>⟨_,.inl (aY.of ak),?_⟩;have hp1:=bN (u:=HO.lst [V.ref p1,V.ref p2]) (bN (u:=HO.tup [.str e.2,.str e.1]) (ak (H:=upd H6 t (HO.tup [V.ref tt,V.int d])) (a:=p1) (o:=HO.tup [.str e.1,.str e.2])) h2) h3;have hp2:=bN (u:=HO.lst [V.ref p1,V.ref p2]) (ak (H:=upd (upd H6 t (HO.tup [V.ref tt,V.int d])) p1 (HO.tup [.str e.1,.str e.2])) (a:=p2) (o:=HO.tup [.str e.2,.str e.1])) h3;have sm:=(((au (o:=HO.tup [V.ref tt,V.int d]) ht).trans (au (o:=HO.tup [.str e.1,.str e.2]) h1)).trans (au (o:=HO.tup [.str e.2,.str e.1]) h2)).trans (au (o:=HO.lst [V.ref p1,V.ref p2]) h3);generalize upd (upd (upd (upd H6 t (HO.tup [V.ref tt,V.int d])) p1 (HO.tup [.str e.1,.str e.2])) p2 (HO.tup [.str e.2,.str e.1])) p3 (HO.lst [V.ref p1,V.ref p2])=H9 at hp1 hp2 sm ⊢;have key:∃(pp:Addr) (e':Str×Str),xG [V.ref p1,V.ref p2] d=some (.ref pp)∧H9 pp=some (.tup [.str e'.1,.str e'.2])∧e'.1∈xs∧e'.2∈xs∧e'.1≠e'.2:=by
            have ⟨q1,q2,q3⟩:=hts.ok e hem;have:d=0∨d=1:=z01 hd2.1 hd2.2
            rcases this with rfl | rfl
            ·exact⟨p1,e,rfl,hp1,q1,q2,q3⟩
            ·exact⟨p2,(e.2,e.1),rfl,hp2,q2,q1,Ne.symm q3⟩
          obtain⟨pp,e',a1,hpp,k1,k2,k3⟩:=key;have D2n:=hD2;have D2p:D2≠p:=K5.nl hD2;have LD2:L≠D2:=aQ Z5 hD2;have DD2:D≠D2:=aQ Bd hD2;have nD2:n≠D2:=aQ hn5 hD2;have qgm:=sm _ _ qdN;have kp:cG H9 (upd H9 D2 (.lst (tvs++[.ref pp]))):=fun c zs e=>q_ e qgm (by intro z;cases z);have hP9:jY H9 p:=by
            obtain⟨u1,u2,u3,u4⟩:=YJ;exact⟨u1,u2,sm _ _ u3,u4⟩
          refine⟨_,a1,_,qgm,?_,_,ak,qs++[e'],((zJ.same sm).keep kp).snoc (kp _ _ hpp),by simp[hql],?_,by rw[aC LD2];exact sm _ _ hL6,by rw[aC DD2];exact sm _ _ YK,(qdO.same sm).keep kp,by rw[aC nD2];exact sm _ _ hn6,hP9.upd D2p.symm,(R4.same sm).new (jY.none Kr K5 hD2)⟩
          ·rw[zJ.1,hql];exact zsz hi2 Qo
          · intro z hz
            rcases List.mem_append.mp hz with y | y
            ·exact hqs z y
            ·simp at y;subst y;exact⟨k1,k2,k3⟩
        · rintro σ H6 ⟨⟨o1,o2,o3,rfl⟩,tvs,qs,qdN,zJ,hql,hqs,hL6,YK,qdO,hn6,YJ,R4⟩;left;have D2p:D2≠p:=K5.nl hD2;have qpR:=jY.none Kr K5 hD2;have tl:tvs.length=tv.length:=by rw[zJ.1,hql]
          refine⟨p,D2,_,rfl,YJ,D2p,qdN,by rw[tl];exact Nat.le_trans Qo (by decide),fun l ys H7 hl0 hl7 hperm Z6 YL=>?_⟩;left;intro t ht;obtain⟨rs,hrs,hrp⟩:=(zJ.but YJ YL).perm hperm;refine q t n l xs ys rs _ (jY.none (R4.trans YL) Z6 ht) (jY.none Il GP hn) (jY.none R4 YJ hl0) ak (bN (YL _ _ np hn6) ht) (bN hl7 ht) (hrs.same (au ht)) hX ⟨?_,fun e he=>hqs e (hrp.mem_iff.mp he)⟩ R3 ?_ (Z6.upd (Z6.ne ht)) ((R4.trans YL).same (au ht))
          ·rw[hrp.length_eq,hql];exact Qo
          ·rw[hrp.length_eq,hql,htv.1];exact hpk
    · intro N hN;refine dz.of (fun h=>?_) (fun h=>?_)
      · left;have hx2:2≤xs.length:=by simp at h;exact z2 h
        have qgn:upd H3 L (.lst []) n=some (.lst (xs.map V.str)):=bN hn3 hL;refine⟨p,n,_,rfl,Im.upd (Im.ne hL),np,qgn,by rw[List.length_map];exact Nat.le_trans hx9 (by decide),fun rw ys H4 hrw qgo hperm Et Qp=>?_⟩;have Io:=(hB3.same (au hL)).trans Qp;obtain⟨zs,hzp,rfl⟩:=nQ hperm xs rfl;have hzl:zs.length=xs.length:=hzp.length_eq;have qgp:zs.Nodup:=hzp.nodup_iff.mpr hX.nd;have hn4:=Qp _ _ np qgn;have Ip:H4 L=some (.lst []):=Qp _ _ (Im.nl hL) ak;have hL0:=jY.none hB3 Im hL;left;refine CK (fun σ H5=>∃v6 v7 L tv ps,σ=[some (.ref p),some (.int m),some (.int k),some (.ref n),some (.int kd),some (.ref L),v6,v7,none]∧H L=none∧H5 L=some (.lst tv)∧bI H5 tv ps∧je xs ps∧ps.length≤m∧H5 n=some (.lst (xs.map V.str))∧jY H5 p∧But p H H5) ?_ ?_
        · rintro σ H5 ⟨v6,v7,L,tv,ps,rfl,hL0,Z5,htv,hts,hpm,hn5,K5,Kr⟩;left;have Lp:L≠p:=hp.nl hL0;have Qo:tv.length=ps.length:=htv.1;have UL:=of_eq_true Gy;have htk:tv.length≤k:=by rw[Qo];exact Nat.le_trans hpm hmk
          refine⟨_,.inl (aY.of Z5),p,_,rfl,K5,zk1 htk,zk2 hk (by decide),fun f H6 hf0 hf1 YJ qa_=>?_⟩;left;refine⟨zlo hf0,Int.lt_trans hf1 (zk2 hk (by decide)),frR (fun i σ H7=>∃v7 tv ps,σ=[some (.ref p),some (.int m),some (.int k),some (.ref n),some (.int kd),some (.ref L),v6,v7,none]∧H7 L=some (.lst tv)∧bI H7 tv ps∧je xs ps∧ps.length+f.toNat≤k+i∧H7 n=some (.lst (xs.map V.str))∧jY H7 p∧But p H H7) ⟨v7,tv,ps,rfl,qa_ _ _ Lp Z5,htv.but K5 qa_,hts,zk3 hf0 hf1 Qo,qa_ _ _ np hn5,YJ,Kr.trans qa_⟩ ?_ ?_⟩
          · rintro i σ H7 hi ⟨v7,tv,ps,rfl,V_,Nh,qdP,hpl,hn7,Z6,YL⟩;left;refine⟨⟨_,aY.of V_⟩,p,n,xs,rfl,Z6,np,hn7,hx2,hx9,hX.nd,fun t x y H8 ht ht8 hx hy hxy hP8 hB8=>?_⟩;left;have hL8:=hB8 _ _ Lp V_;have hl7:=Nh.1;have kp:cG H8 (upd H8 L (.lst (tv++[.ref t]))):=fun c zs e=>q_ e hL8 (by intro z;cases z);have nL:n≠L:=fun z=>by subst z;rw[jY.none Il GP hn] at hL0;rw[hn7] at V_;cases tv with
              | nil=>simp at V_;rw[V_] at hx2;simp at hx2
              | cons v tv=>
                obtain⟨e,_,u,rfl,_⟩:=Nh.at (i:=0) rfl;cases xs with
                | nil=>simp at hx2
                | cons x xs=>simp at V_
            refine⟨_,hL8,zk4 hl7 hpl hi hk,_,ak,ps++[(x,y)],((Nh.but Z6 hB8).keep kp).snoc (kp _ _ ht8),⟨by rw[List.length_append];exact Nat.succ_le_succ (zk5 hpl hi hk),?_⟩,by rw[List.length_append];exact zk6 hpl,by rw[aC nL];exact hB8 _ _ np hn7,hP8.upd Lp.symm,(YL.trans hB8).new hL0⟩;intro e he
            rcases List.mem_append.mp he with z | z
            ·exact qdP.ok e z
            ·simp at z;subst z;exact⟨hx,hy,hxy⟩
          ·rintro σ H7 ⟨v7,tv,ps,rfl,V_,Nh,qdP,hpl,hn7,Z6,YL⟩;left;exact hN _ _ ⟨_,_,L,tv,ps,rfl,hL0,V_,Nh,qdP,zk7 hpl,hn7,Z6,YL⟩
        · intro N2 hN2;refine dz.of (fun h=>?_) (fun h=>?_)
          · left;obtain⟨lo,hlo,lo1⟩:∃lo:Nat,(if kd=3 then (1:Int) else 0)=lo∧lo≤1:=by
              split
              ·exact⟨1,rfl,Nat.le_refl _⟩
              ·exact⟨0,rfl,by decide⟩
            simp only[hlo];have UL:=of_eq_true Gy;refine⟨_,.inl (aY.of qgo),⟨qmd,zlt lo1 (by decide),zlt (by rw[List.length_map,hzl];exact hx9) (by decide)⟩,fun D hD=>cmR (fun i σ H5=>(∃o,σ=[o,some (.ref rw)])∧∃tvs qs,H5 D=some (.lst tvs)∧bI H5 tvs qs∧qs.length=i∧(∀e∈qs,e.1∈xs∧e.2∈xs∧e.1≠e.2)∧Same H4 H5) ⟨⟨_,rfl⟩,[],[],ak,⟨rfl,by simp⟩,rfl,by simp,au hD⟩ ?_ ?_⟩
            · rintro i σ H5 hi ⟨⟨o,rfl⟩,tvs,qs,Bd,zJ,hql,hqs,sm⟩;have hk:lo+i<zs.length:=by simp at hi;exact qmf hi
              obtain⟨j,vx,hj,ex,ax⟩:=Xk (xs:=zs.map V.str) (k:=lo+i) (by rw[List.length_map,hzl];exact hx2) (by simpa using hk);obtain⟨x,ex',rfl⟩:=qg ex;have ey':zs[lo+i]? = some (zs[lo+i]'hk):=by simp[hk]
              have ay:xG (zs.map V.str) ((lo+i:Nat):Int)=some (.str (zs[lo+i]'hk)):=aP (by rw[List.getElem?_map,ey'];rfl);have c1:((lo+i:Nat):Int)=(lo:Int)+i:=Int.natCast_add ..;rw[c1] at ax ay;have sl:=aY.of (K:=K) (sm _ _ qgo);left;refine⟨_,.inl sl,_,ax,_,.inl sl,_,ay,fun pt hpt=>?_⟩;have Dpt:=aQ Bd hpt;have YK:upd H5 pt (.tup [.str x,.str (zs[lo+i]'hk)]) D=some (.lst tvs):=bN Bd hpt;have kp:cG (upd H5 pt (.tup [.str x,.str (zs[lo+i]'hk)])) (upd (upd H5 pt (.tup [.str x,.str (zs[lo+i]'hk)])) D (.lst (tvs++[.ref pt]))):=fun c zs e=>q_ e YK (by intro z;cases z);have hl:=zJ.1;refine⟨_,YK,by rw[hl,hql];exact zsz (Nat.lt_of_le_of_lt (Nat.le_add_left i lo) hk) (by rw[hzl];exact Nat.le_trans hx9 (by decide)),_,ak,qs++[(x,zs[lo+i]'hk)],((zJ.same (au hpt)).keep kp).snoc (kp _ _ ak),by simp[hql],?_,aV (sm.trans (au hpt)) hD⟩;intro e he
              rcases List.mem_append.mp he with z | z
              ·exact hqs e z
              ·simp at z;subst z;refine⟨hzp.mem_iff.mp (List.mem_of_getElem? ex'),hzp.mem_iff.mp (List.mem_of_getElem? ey'),fun z=>hj ?_⟩;simp only at z;rw[← z] at ey';exact tV qgp ex' ey'
            · rintro σ H5 ⟨⟨o,rfl⟩,tvs,qs,Bd,zJ,hql,hqs,sm⟩;left;simp at hql;have hqm:qs.length≤m:=by rw[hql,hzl];exact Nat.le_trans (Nat.sub_le ..) R3
              have K5:jY H5 p:=by
                obtain⟨u1,u2,u3,u4⟩:=Et;exact⟨u1,u2,sm _ _ u3,u4⟩
              exact hN2 _ _ ⟨_,_,D,tvs,qs,rfl,jY.none Io Et hD,Bd,zJ,⟨Nat.le_trans hqm (Nat.le_trans h9 (by decide)),hqs⟩,hqm,sm _ _ hn4,K5,Io.same sm⟩
          ·left;exact hN2 _ _ ⟨_,_,L,[],[],rfl,hL0,Ip,⟨rfl,by simp⟩,⟨by simp,by simp⟩,by simp,hn4,Et,Io⟩
      ·left;exact hN _ _ ⟨_,_,L,[],[],rfl,jY.none hB3 Im hL,ak,⟨rfl,by simp⟩,⟨by simp,by simp⟩,by simp,bN hn3 hL,Im.upd (Im.ne hL),hB3.same (au hL)⟩
theorem qgq {m:Str} {u v:V} (h1:¬m = "names") (h2:¬m = "pairs"):∀p∈([("names",u),("pairs",v)]:List (Str×V)),¬m=p.1:=fun p hp=>by
  simp at hp
  rcases hp with rfl | rfl
  ·exact h1
  ·exact h2
theorem ig.same {C:Addr} {H H':Hp} {o:Addr} {xs:List Str} {ps:List (Str×Str)} (h:ig C H o xs ps) (s:Same H H'):ig C H' o xs ps:=by
  obtain⟨dx,n,m,tv,h1,h2,h3,h4,h5⟩:=h.ex;exact⟨⟨dx,n,m,tv,s _ _ h1,s _ _ h2,s _ _ h3,bI.same h4 s,h5⟩⟩
theorem ig.ins {C:Addr} {H:Hp} {o:Addr} {xs:List Str} {ps:List (Str×Str)} (h:ig C H o xs ps) {m:Str} (h1:¬m = "names") (h2:¬m = "pairs"):∃dx fs,H o=some (.ins C dx fs)∧∀p∈fs,¬m=p.1:=by
  obtain⟨dx,n,mm,tv,e,_⟩:=h.ex;exact⟨dx,_,e,qgq h1 h2⟩
theorem m6:¬(("ties" : Str) = "names")∧¬(("ties" : Str) = "pairs"):=by symm
theorem iY:¬(("points" : Str) = "names")∧¬(("points" : Str) = "pairs"):=by symm
theorem uY:¬(("many" : Str) = "names")∧¬(("many" : Str) = "pairs"):=by symm
def Eu (C:Addr):Sp:=fun vs H Q _=>∃o d xs ps fx,vs=[.ref o,.ref d]∧ig C H o xs ps∧qbL H d fx∧∀l tv H',H l=none→H' l=some (.lst tv)→eZ H' tv (aG fx ps 0)→tv.length≤40→Same H H'→Q (.ref l) H'
theorem oW (T:Txt K mg a):cD P w K mg base mL 2 a.dX a.k_ ["web", "fixed"] (Eu a.bW):=by
  exists T.jN.o_,jk
  ·obtain⟨o,d,xs,ps,fx,rfl,_⟩:=h;rfl
  · obtain⟨o,d,xs,ps,fx,rfl,hw,hfx,q⟩:=h;refine⟨_,(aB (bw (i:=2) jk.nd rfl (Or.inl rfl) (cV aq))
      (aB (jf PassesOwn.never rfl (PI.eqv (Bp (K:=K) rfl rfl T.Ib.enumerate (aj (PE.eqv (fZ (aH 0) T.j8 T.mF (m_ T) hr.d T.mD .nil bh) (gb _ _ _ _ _ _)) aq)) (uL _ _)) (PG.eqv (cF (K:=K) (n:=2) rfl rfl (eX.eqv (aR (aN (i:=3) jk.nd rfl (Or.inl rfl)) (eX.eqv (aR (PG.eqv (cF (K:=K) (n:=2) rfl rfl (eX.eqv (aR (aN (i:=4) jk.nd rfl (Or.inl rfl)) (eX.eqv (aR (aN (i:=5) jk.nd rfl (Or.inl rfl)) (eX.mono bZ cX)) (aU _ _))) (aU _ _))) (cI _ _ _)) (eX.mono bZ cX)) (aU _ _))) (aU _ _))) (cI _ _ _))
      (aB (cU (aZ g_ (PE.eqv (L_ (vI hr) (aH 1) (aH 3) aD ⟨rfl,rfl,rfl,rfl⟩) (HN _ _ _)) aD (bM _)) (aF (cB (gZ (K:=K) rfl PySem.F.plainAttrs_list PySem.F.slot_list_append PySem.F.type_list_append cu (aH 2) (aj (dH (aj (aH 3) (aj (aH 4) (aj (aH 5) aq)))) aq)))) bQ)
      (aF (cU (aZ g_ (PE.eqv (L_ (vI hr) (aH 1) (aH 3) aD ⟨rfl,rfl,rfl,rfl⟩) (HN _ _ _)) aD (bM _)) (aF (cB (gZ (K:=K) rfl PySem.F.plainAttrs_list PySem.F.slot_list_append PySem.F.type_list_append cu (aH 2) (aj (dH (aj (aH 3) (aj (aH 5) (aj (aH 4) aq)))) aq)))) bQ))))
      (aF (bB (aH 2))))),?_⟩
    obtain⟨dx,fs,hi,hno⟩:=hw.ins m6.1 m6.2;obtain⟨_,_,_,_,_,_,_,_,Bc⟩:=hw.ex;left;intro L hL;refine⟨_,_,bN hi hL,hno,o,xs,ps,rfl,hw.same (au hL),fun l2 Aw hl2 UW=>?_⟩;have sa:Same H (upd (upd H L (.lst [])) l2 (.lst Aw)):=(au hL).trans (au hl2);have eL:upd (upd H L (.lst [])) l2 (.lst Aw) L=some (.lst []):=bN ak hl2;have e2:upd (upd H L (.lst [])) l2 (.lst Aw) l2=some (.lst Aw):=ak;have Ks:=bI.same UW (au (o:=HO.lst Aw) hl2);have L2n:L≠l2:=fun z=>by subst z;rw[ak] at hl2;cases hl2
    generalize upd (upd H L (.lst [])) l2 (.lst Aw)=H1 at sa eL e2 Ks ⊢;obtain⟨kvs,hd,hv⟩:=hfx;have dL:d≠L:=aQ hd hL;left;refine⟨⟨_,aY.of e2⟩,frE Aw (fun i σ H'=>(∃v3 v4 v5 sv,σ=[some (.ref o),some (.ref d),some (.ref L),v3,v4,v5]∧H' L=some (.lst sv)∧eZ H' sv (aG fx (ps.take i) 0)∧sv.length≤2 * i)∧H' l2=some (.lst Aw)∧bI H' Aw ps∧Same H H') ⟨⟨_,_,_,[],rfl,eL,bJ.nil,by simp⟩,e2,Ks,sa⟩ (fun i σ H' _ h=>aY.of h.2.1) ?_ ?_⟩
    · rintro i x t σ H2 hi ht ⟨⟨v3,v4,v5,sv,rfl,hL2,hsv,hsl⟩,qgr,htv,s2⟩;have hi2:i<Aw.length:=(List.getElem?_eq_some_iff.mp hi).1;have tl:=htv.1;obtain⟨e,he,tt,rfl,htt⟩:=htv.at hi;rw[rB fx he];unfold kE;left;have st:Same H2 (upd H2 t (.tup [.int i,.ref tt])):=au ht;refine⟨_,cM.of ak,rfl,_,cM.of (st _ _ htt),rfl,isD (st _ _ (s2 _ _ hd)),_,qc_ i (st _ _ (s2 _ _ hd)),?_⟩;have tL:L≠t:=aQ hL2 ht;have Ni:=st _ _ hL2;have GQ:=st _ _ qgr;have Ks:=bI.same htv st;have s3:=s2.trans st;have qdQ:=eZ.keep hsv (L2.cG.of st);generalize upd H2 t (.tup [.int i,.ref tt])=H3 at Ni GQ Ks s3 qdQ ⊢;have s60:60≤sizeLine:=by decide
      have add:∀(H3:Hp) (sv:List V) (S:List jd) (n:Nat) (x y:Str) (b:Addr),H3 L=some (.lst sv)→eZ H3 sv S→H3 b=none→H3 l2=some (.lst Aw)→bI H3 Aw ps→Same H H3→
          (upd (upd H3 b (.tup [.int n,.str x,.str y])) L (.lst (sv++[.ref b])) L=some (.lst (sv++[.ref b]))∧eZ (upd (upd H3 b (.tup [.int n,.str x,.str y])) L (.lst (sv++[.ref b]))) (sv++[.ref b]) (S++[(n,x,y)]))∧upd (upd H3 b (.tup [.int n,.str x,.str y])) L (.lst (sv++[.ref b])) l2=some (.lst Aw)∧bI (upd (upd H3 b (.tup [.int n,.str x,.str y])) L (.lst (sv++[.ref b]))) Aw ps∧Same H (upd (upd H3 b (.tup [.int n,.str x,.str y])) L (.lst (sv++[.ref b]))):=by
        intro H3 sv S n x y b Ni hsv hb hl2 htv s3;have sb:Same H3 (upd H3 b (.tup [.int n,.str x,.str y])):=au hb;have kp:L2.cG (upd H3 b (.tup [.int n,.str x,.str y])) (upd (upd H3 b (.tup [.int n,.str x,.str y])) L (.lst (sv++[.ref b]))):=L2.cG.set (sb _ _ Ni) (by intro z e;cases e);refine⟨⟨ak,bJ.snoc (eZ.keep (eZ.keep hsv (L2.cG.of sb)) kp) ⟨b,rfl,kp _ _ ak⟩⟩,by rw[aC L2n.symm];exact sb _ _ hl2,(bI.same htv sb).keep kp,aV (s3.trans sb) hL⟩
      rw[hv i,Mg];left;refine CK (fun σ H4=>(∃sv,σ=[some (.ref o),some (.ref d),some (.ref L),some (.int i),some (.str e.1),some (.str e.2)]∧H4 L=some (.lst sv)∧eZ H4 sv (aG fx (ps.take i) 0++if (fx i).getD 0=0 then [(i,e.1,e.2)] else [])∧sv.length≤2 * i+1)∧H4 l2=some (.lst Aw)∧bI H4 Aw ps∧Same H H4) ?_ ?_
      · rintro σ H4 ⟨⟨sv,rfl,Ip,qgs,qdR⟩,U0,U3,s4⟩;left;refine⟨isD (s4 _ _ hd),_,qc_ i (s4 _ _ hd),?_⟩;rw[hv i,Mg];left;refine dz.of (fun h=>?_) (fun h=>?_)
        · have h':(fx i).getD 1=1:=by simpa using h
          left;refine⟨⟨_,aY.of Ip⟩,fun b hb=>?_⟩;refine⟨_,bN Ip hb,zs1 qdR hi2 tl Bc,?_⟩;obtain⟨⟨k1,k2⟩,k3,k4,k5⟩:=add H4 sv _ i e.2 e.1 b Ip qgs hb U0 U3 s4;refine⟨⟨_,k1,?_,by rw[List.length_append];exact zs2 qdR⟩,k3,k4,k5⟩;rw[if_pos h',← List.append_assoc];exact k2
        · have h':¬(fx i).getD 1=1:=by simpa using h
          left;refine⟨⟨_,Ip,?_,Nat.le_of_succ_le (zs2 qdR)⟩,U0,U3,s4⟩;rw[if_neg h',List.append_nil];exact qgs
      · intro N hN;refine dz.of (fun h=>?_) (fun h=>?_)
        · have h':(fx i).getD 0=0:=by simpa using h
          left;refine⟨⟨_,aY.of Ni⟩,fun b hb=>?_⟩;refine⟨_,bN Ni hb,zs1 (Nat.le_succ_of_le hsl) hi2 tl Bc,?_⟩;obtain⟨⟨k1,k2⟩,k3,k4,k5⟩:=add H3 sv _ i e.1 e.2 b Ni qdQ hb GQ Ks s3;refine hN _ _ ⟨⟨_,rfl,k1,?_,by rw[List.length_append];exact Nat.succ_le_succ hsl⟩,k3,k4,k5⟩;rw[if_pos h'];exact k2
        · have h':¬(fx i).getD 0=0:=by simpa using h
          left;refine hN _ _ ⟨⟨_,rfl,Ni,?_,Nat.le_succ_of_le hsl⟩,GQ,Ks,s3⟩;rw[if_neg h',List.append_nil];exact qdQ
    ·rintro σ H2 ⟨⟨v3,v4,v5,sv,rfl,hL2,hsv,hsl⟩,qgr,htv,s2⟩;left;rw[htv.1,List.take_length] at hsv;have tl:=htv.1;exact q L sv H2 hL hL2 hsv (zs3 hsl tl Bc) s2
def GR:Sp:=fun vs H Q _=>∃(start:Str) (l:Addr) (tv:List V) (S:List jd) (xs:List Str),vs=[.str start,.ref l]∧H l=some (.lst tv)∧eZ H tv S∧start∈xs∧(∀s∈S,s.2.2∈xs)∧xs.length≤9∧
  ∀(d:Addr) (kvs:List (Key×V)) (R:BR) (H':Hp),H d=none→H' d=some (.dK kvs)→g8 H' kvs R→Ov S start R.length R→Yd S start R→nW H kvs→Same H H'→Q (.ref d) H'
theorem wg (T:Txt K mg a):cD P w K mg base mL 1 a.fD a.mR ["start", "steps"] GR:=by
  exists T.oH.o_,dW
  ·obtain⟨start,l,tv,S,xs,rfl,_⟩:=h;rfl
  · obtain⟨start,l,tv,S,xs,rfl,hl,hS,hsx,Ku,h9,q⟩:=h;refine⟨_,(aB (bw (i:=2) dW.nd rfl (Or.inl rfl) (qaC (Xi (aH 0) (cV aq) qaB) rfl rfl (by simp) (by decide)))
      (aB (bw (i:=3) dW.nd rfl (Or.inl rfl) (cV (aj (aH 0) aq)))
      (aB (bw (i:=4) dW.nd rfl (Or.inl rfl) aD)
      (aB (Ld PassesOwn.never (aZ tZ (aH 4) (aM (bT (K:=K) rfl) rfl T.nm.len PySem.boot_len (aj (aH 3) aq)) (bM _))
      (aB (bw (i:=5) dW.nd rfl (Or.inl rfl) (bC (bG (K:=K) rfl) (aH 3) (aH 4) (fun _ _=>rfl)))
      (aB (jf PassesOwn.never rfl (PI.eqv (cg (K:=K) rfl (aH 1)) (bV _ _)) (PG.eqv (cF (K:=K) (n:=3) rfl rfl (eX.eqv (aR (aN (i:=6) dW.nd rfl (Or.inl rfl)) (eX.eqv (aR (aN (i:=7) dW.nd rfl (Or.inl rfl)) (eX.eqv (aR (aN (i:=8) dW.nd rfl (Or.inl rfl)) (eX.mono bZ cX)) (aU _ _))) (aU _ _))) (aU _ _))) (cI _ _ _))
      (aF (cU (PW.pt (tK (aZ g_ (aH 7) (aH 5) (bM _)) (uI (JG (PC.eqv (Ua (vI hr) (aH 8) (aH 2)) (PX _ _)))))) (aB (PS.eqv (Rv (vI hr) (aH 2) (aH 8) (b_ pC (PE.eqv (JB (vI hr) (aH 2) (aH 5) (fun _ _=>rfl)) (Df _ _)) (cV (aj (aH 6) aq))) rfl) (Mw _ _ _))
      (aF (cB (gZ (K:=K) rfl PySem.F.plainAttrs_list PySem.F.slot_list_append PySem.F.type_list_append cu (aH 3) (aj (aH 8) aq))))) bQ)))
      (aF (PS.mono (qcx (i:=4) dW.nd rfl (Or.inl rfl) aD qaU) qdw)))))
      (aF (bB (aH 2))))))),?_⟩
    simp -dsimp[aA,stC];intro d hd p1 hp1;refine⟨bN ak hp1,[(Sum.inr start,.ref p1)],rfl,by simp,fun rl hrl=>?_⟩;have em:wC [] [((Sum.inr start:Key),V.ref p1)]=[(Sum.inr start,.ref p1)]:=rfl;rw[em] at hrl ⊢;have dp1:d≠p1:=fun z=>by subst z;rw[ak] at hp1;cases hp1
    have U4:H p1=none:=bU (au hd) hp1;have sa:Same H (upd (upd (upd H d (.dK [])) p1 (.lst [])) d (.dK [(Sum.inr start,.ref p1)])):=aV ((au hd).trans (au hp1)) hd;have YM:H rl=none:=bU sa hrl;have e1:upd (upd (upd H d (.dK [])) p1 (.lst [])) d (.dK [(Sum.inr start,.ref p1)]) d=some (.dK [(Sum.inr start,.ref p1)]):=ak;have e2:upd (upd (upd H d (.dK [])) p1 (.lst [])) d (.dK [(Sum.inr start,.ref p1)]) p1=some (.lst []):=by rw[aC dp1.symm];exact ak
    generalize upd (upd (upd H d (.dK [])) p1 (.lst [])) d (.dK [(Sum.inr start,.ref p1)])=H1 at sa hrl e1 e2 ⊢;have sb:=sa.trans (au (o:=.lst [.str start]) hrl);have dr:d≠rl:=aQ e1 hrl;have qgt:nW H [((Sum.inr start:Key),V.ref p1)]:=by
      intro kv hkv q hq;simp at hkv;subst hkv;cases hq;exact U4
    refine whB (fun σ H'=>∃(n:Nat) (R:BR) (kvs:List (Key×V)) (o5 o6 o7 o8:Option V),σ=[some (.str start),some (.ref l),some (.ref d),some (.ref rl),some (.int n),o5,o6,o7,o8]∧H' d=some (.dK kvs)∧g8 H' kvs R∧H' rl=some (.lst (R.map fun yw=>.str yw.1))∧Ov S start n R∧tu S start n=R∧nW H kvs∧n≤R.length∧Same H H')
      (fun σ _=>qfS 4 σ)
      ⟨0,[(start,[])],[(Sum.inr start,.ref p1)],none,none,none,none,rfl,bN e1 hrl,⟨rfl,?_⟩,ak,Ov.begin S start,rfl,qgt,by simp,sb⟩ ?_ Mx
    · intro i kv yw h1 h2;have hi:i=0:=by have:=(List.getElem?_eq_some_iff.mp h1).1;simp at this;omega
      subst hi;simp at h1 h2;subst h1 h2;exact⟨rfl,p1,rfl,bN e2 hrl⟩
    · rintro σ H2 ⟨n,R,kvs,o5,o6,o7,o8,rfl,hd2,hW2,hr2,hB,hF,hN,hnR,s2⟩;have hR9:R.length≤9:=by
        have h1:=bY hB.nd (hB.sub hsx Ku);simp at h1;omega
      simp -dsimp[aA,stC];refine⟨_,.inl (aY.of hr2),dz.of (fun hlt=>?_) (fun hlt=>?_)⟩
      · have hlt':n<R.length:=by simpa using hlt
        simp -dsimp[aA,stC];obtain⟨⟨hh,wh⟩,hR⟩:∃x,R[n]? = some x:=⟨R[n],by simp[hlt']⟩;refine⟨_,.inl (aY.of hr2),.str hh,aP (by rw[List.getElem?_map,hR];rfl),⟨_,aY.of (s2 _ _ hl)⟩,frL tv (fun j σ H'=>∃(R:BR) (kvs:List (Key×V)) (o6 o7 o8:Option V),σ=[some (.str start),some (.ref l),some (.ref d),some (.ref rl),some (.int n),some (.str hh),o6,o7,o8]∧H' d=some (.dK kvs)∧g8 H' kvs R∧H' rl=some (.lst (R.map fun yw=>.str yw.1))∧nu S (S.take j) start n hh wh R∧vL (S.take j) hh wh (tu S start n)=R∧nW H kvs∧Same H H') ⟨R,kvs,o6,o7,o8,rfl,hd2,hW2,hr2,nu.enter hB hR,hF,hN,s2⟩ (fun j σ H' _ h=>by
          obtain⟨_,_,_,_,_,_,_,_,_,_,_,_,z⟩:=h;exact aY.of (z _ _ hl)) ?_ ?_⟩
        · rintro j x σ H3 hj ⟨R,kvs,o6,o7,o8,rfl,hd3,hW3,hr3,hM,Z7,hN3,s3⟩;obtain⟨⟨sn,so,sg⟩,hs,t,rfl,ht⟩:=hS.at hj;have hR9:R.length≤9:=by
            have h1:=bY hM.bf.nd (hM.bf.sub hsx Ku);simp at h1;omega
          have hFs:=Qc (S.take j) (sn,so,sg) hh wh (tu S start n);rw[Z7] at hFs;rw[take_one hs];simp -dsimp[aA,stC];refine⟨_,cM.of (s3 _ _ ht),rfl,?_⟩;simp -dsimp[aA,stC]
          by_cases hoh:so=hh
          · subst hoh;refine dz.pos (by simp) ?_;simp -dsimp[aA,stC];refine⟨_,Xm sg hd3,?_⟩;rw[hW3.qlR hM.bf.nd];refine dz.of (fun hg=>?_) (fun hg=>?_)
            · have hg':¬sg∈R.map (·.1):=by simpa using hg
              obtain⟨pw,hpw,qmn⟩:=hW3.some hM.bf.nd (List.mem_of_getElem? hM.hr);have hwl:=hM.bf.qfR (List.mem_of_getElem? hM.hr);have UL:=of_eq_true Gy;simp -dsimp[aA,stC];refine⟨.ref pw,?_,fun b hb=>?_⟩
              ·have:=Xm so hd3;rw[hpw] at this;exact this
              refine⟨_,bN qmn hb,_,ak,by simp;omega,fun c hc=>?_⟩;have s4:Same H3 (upd (upd H3 b (.lst [.int sn])) c (.lst (wh.map (fun n:Nat=>V.int n)++[.int sn]))):=(au hb).trans (au hc);have ec:upd (upd H3 b (.lst [.int sn])) c (.lst (wh.map (fun n:Nat=>V.int n)++[.int sn])) c=some (.lst (wh.map (fun n:Nat=>V.int n)++[.int sn])):=ak;generalize upd (upd H3 b (.lst [.int sn])) c (.lst (wh.map (fun n:Nat=>V.int n)++[.int sn]))=H4 at s4 ec ⊢;have hd4:=s4 _ _ hd3;have hr4:=s4 _ _ hr3;have hkl:=hW3.len;have epk:putK kvs (Sum.inr sg) (.ref c)=kvs++[(Sum.inr sg,.ref c)]:=Cu _ (hW3.none hg');refine⟨_,qlP sg hd4 (by omega),?_⟩;rw[epk];have Wa:upd H4 d (.dK (kvs++[(Sum.inr sg,.ref c)])) rl=some (.lst (R.map fun yw=>.str yw.1)):=by rw[aC dr.symm];exact hr4
              have ne0:∀w:List Nat,R.map (fun yw=>V.str yw.1)≠w.map (fun n:Nat=>V.int n):=fun w e=>by
                have hst:=hM.bf.st;cases R with
                | nil=>simp at hst
                | cons r R=>
                  cases w with
                  | nil=>simp at e
                  | cons n w=>simp at e
              have kp:∀(p:Addr) (w:List Nat),H4 p=some (.lst (w.map fun n:Nat=>V.int n))→upd (upd H4 d (.dK (kvs++[(Sum.inr sg,.ref c)]))) rl (.lst (R.map (fun yw=>V.str yw.1)++[.str sg])) p=some (.lst (w.map fun n:Nat=>V.int n)):=fun p w e=>by
                have h1:p≠d:=fun z=>by subst z;rw[hd4] at e;cases e
                have h2:p≠rl:=fun z=>by subst z;rw[hr4] at e;exact ne0 w (HO.lst.inj (Option.some.inj e))
                rw[aC h2,aC h1];exact e
              have ec':H4 c=some (.lst ((wh++[sn]).map fun n:Nat=>V.int n)):=by rw[ec];simp
              refine⟨⟨_,aY.of Wa⟩,_,Wa,by simp;omega,R++[(sg,wh++[sn])],_,by rw[aC dr];exact ak,?_,by rw[ak];simp,hM.add (List.mem_of_getElem? hs) hg',hFs.trans (if_pos ⟨rfl,hg'⟩),hN3.snoc (bU (s3.trans (au hb)) hc),aV (aV (s3.trans s4) hd) YM⟩;refine g8.snoc (g8.keep (H:=H4) (g8.keep hW3 fun p w e=>s4 _ _ e) kp) (kp _ _ ec')
            · have hg':sg∈R.map (·.1):=by simpa using hg
              simp -dsimp[aA,stC];exact⟨R,kvs,hd3,hW3,hr3,hM.skip fun _=>hg',hFs.trans (if_neg (fun z=>z.2 hg')),hN3,s3⟩
          ·refine dz.neg (by simp[hoh]) ?_;simp -dsimp[aA,stC];exact⟨R,kvs,hd3,hW3,hr3,hM.skip fun z=>absurd z hoh,hFs.trans (if_neg (fun z=>hoh z.1)),hN3,s3⟩
        · rintro σ H3 ⟨R,kvs,o6,o7,o8,rfl,hd3,hW3,hr3,hM,Z7,hN3,s3⟩;have hl3:S.take tv.length=S:=by rw[hS.1,List.take_length]
          rw[hl3] at hM Z7;simp -dsimp[aA,stC];have hlen:=(List.getElem?_eq_some_iff.mp hM.hr).1;refine⟨⟨n+1,by omega,R,kvs,hd3,hW3,hr3,hM.leave,(Ut (by rw[hF];exact hR)).trans Z7,hN3,hlen,s3⟩,?_⟩;simp[qfS];omega
      · have hlt':¬n<R.length:=by simpa using hlt
        have en:n=R.length:=by omega
        subst en;simp -dsimp[aA,stC];exact q d kvs R H2 hd hd2 hW2 hB hF hN s2
def Ew (C:Addr):Sp:=fun vs H Q _=>∃(o:Addr) (start:Str) (l:Addr) (tv:List V) (S:List jd) (xs:List Str) (ps:List (Str×Str)),vs=[.ref o,.str start,.ref l]∧ig C H o xs ps∧H l=some (.lst tv)∧eZ H tv S∧start∈xs∧(∀s∈S,s.2.2∈xs)∧xs.length≤9∧
  ∀(r:Addr) (H':Hp),H r=none→H' r=some (.lst ((lM S xs start).map V.str))→Same H H'→Q (.ref r) H'
theorem uy (T:Txt K mg a):cD P w K mg base mL 2 a.dY a.lg ["web", "start", "steps"] (Ew a.bW):=by
  exists T.m5.o_,ud
  ·obtain⟨o,start,l,tv,S,xs,ps,rfl,_⟩:=h;rfl
  · obtain⟨o,start,l,tv,S,xs,ps,rfl,hw,hl,hS,hsx,Ku,h9,q⟩:=h;refine⟨_,(aB (bw (i:=3) ud.nd rfl (Or.inr rfl) (PE.eqv (aO (wg T) hr.d rfl T.su T.oH.kp T.rZ .nil bh (aj (aH 1) (aj (aH 2) aq))) (aK _ _ _)))
      (aF (bB (dG rfl rfl (show bx (ao cN) _ ["web", "start", "steps", "ways"] ["point"] [3] ["point", "ways"] from⟨rfl,by symm,by symm,rfl,by symm,by symm⟩) rfl (PI.eqv (cg (K:=K) rfl (PE.eqv (fZ (aH 0) T.j8 T.jE (jO T) hr.d T.jD .nil bh) (gb _ _ _ _ _ _))) (bV _ _)) (fun C s H fp pn=>(aN (i:=0) (show(["point", "ways"]:List Str).Nodup by symm) rfl (Or.inl rfl))) (fun C s H fp pn=>(nM (JG (PC.eqv (Xg (vI hr) (aH 0) (aH 1)) (RD _ _))))) (fun C s H fp pn=>(aH 0)))))),?_⟩
    left;refine⟨start,l,tv,S,xs,rfl,hl,hS,hsx,Ku,h9,fun d kvs R H1 hd hd1 hW hB _ _ s1=>?_⟩;obtain⟨dx,fs,hi,hno⟩:=(hw.same s1).ins iY.1 iY.2;left;refine⟨_,_,hi,hno,o,xs,ps,rfl,hw.same s1,fun l2 hl2=>?_⟩;exists H1,l2,(.lst (xs.map V.str)),s2,e2,H2,hl2;have hd2:=s2 _ _ hd1;have hW2:=hW.keep fun p w e=>s2 _ _ e;have UL:=of_eq_true Gy;left;refine⟨⟨_,aY.of e2⟩,fun D hD=>Ma (xs.map V.str) (fun i σ H'=>(∃o,σ=[o,some (.ref d)])∧H' D=some (.lst ((lM S (xs.take i) start).map V.str))∧Same H2 H') ⟨⟨_,rfl⟩,ak,au hD⟩ (fun i σ H' _ h=>aY.of (h.2.2 _ _ e2)) ?_ ?_⟩
    · rintro i x σ H3 hi ⟨⟨o',rfl⟩,Ir,s3⟩;obtain⟨y,hy,rfl⟩:=qg hi;have hi2:i<xs.length:=(List.getElem?_eq_some_iff.mp hy).1;left;refine⟨_,Xm y (s3 _ _ hd2),?_⟩;rw[hW2.has hB.nd,Xo hy (decide (y∈R.map (·.1))) (by rw[decide_eq_true_eq];exact hB.iff y)];refine dz.of (fun h=>?_) (fun h=>?_)
      ·rw[if_pos h];left;have hfl:=Bq (S:=S) (xs:=xs.take i) (x:=start);rw[List.length_take] at hfl;refine⟨_,Ir,by simp;omega,by simp[ak],aV s3 hD⟩
      ·rw[if_neg (by rw[h];exact Bool.false_ne_true),List.append_nil];left;exact⟨Ir,s3⟩
    ·rintro σ H3 ⟨⟨o',rfl⟩,Ir,s3⟩;rw[List.length_map,List.take_length] at Ir;left;exact q D H3 (bU (s1.trans s2) hD) Ir ((s1.trans s2).trans s3)
theorem yN {xs:List Str} {ps:List (Str×Str)} {fx:Nat→Option Int} (h:je xs ps):∀s∈aG fx ps 0,s.2.2∈xs:=by
  intro s hs;obtain⟨j,e,h1,h2⟩:=j4.mp hs;obtain⟨q1,q2,_⟩:=h.ok e (List.mem_of_getElem? h1);obtain⟨_,q | q⟩:=lV.mp h2
  ·rw[q.2.2];exact q2
  ·rw[q.2.2];exact q1
def Nj (C:Addr):Sp:=fun vs H Q _=>∃(o:Addr) (xs:List Str) (ps:List (Str×Str)),vs=[.ref o]∧ig C H o xs ps∧GF xs∧je xs ps∧
  ∀(l:Addr) (rs:List V) (H':Hp),H l=none→H' l=some (.lst rs)→xQ H' rs (Bb (aG (fun _=>none) ps 0) xs xs)→(∀v∈rs,∀b,v = .ref b→H b=none)→Same H H'→Q (.ref l) H'
theorem Nk (T:Txt K mg a):cD P w K mg base mL 3 a.iD a.pI ["web"] (Nj a.bW):=by
  exists T.wK.o_,pF
  ·obtain⟨o,xs,ps,rfl,_⟩:=h;rfl
  · obtain⟨o,xs,ps,rfl,hw,hX,hTs,q⟩:=h;refine⟨_,(aB (bw (i:=1) pF.nd rfl (Or.inl rfl) (PE.eqv (aO (oW T) hr.d rfl T.mZ T.jN.kp T.mY .nil bh (aj (aH 0) (aj xO aq))) (aK _ _ _)))
      (aB (bw (i:=2) pF.nd rfl (Or.inl rfl) (cV aq))
      (aB (jf PassesOwn.never rfl (PI.eqv (cg (K:=K) rfl (PE.eqv (fZ (aH 0) T.j8 T.jE (jO T) hr.d T.jD .nil bh) (gb _ _ _ _ _ _))) (bV _ _)) (aN (i:=3) pF.nd rfl (Or.inr rfl))
      (aF (cU (eV (cH (aM (zA rfl) rfl T.Ib.any zm (aj (dG rfl rfl (show bx (ao gC) _ ["web", "steps", "told", "point"] ["cluster"] [3] ["cluster", "point"] from⟨rfl,by symm,by symm,rfl,by symm,by symm⟩) rfl (PI.eqv (cg (K:=K) rfl (aH 2)) (bV _ _)) (fun C s H fp pn=>(aN (i:=0) (show(["cluster", "point"]:List Str).Nodup by symm) rfl (Or.inl rfl))) (fun C s H fp pn=>dF) (fun C s H fp pn=>(cC (xV (K:=K) rfl) (aH 1) (aH 0) rfl))) aq)))) (aF (cB (gZ (K:=K) rfl PySem.F.plainAttrs_list PySem.F.slot_list_append PySem.F.type_list_append cu (aH 2) (aj (PE.eqv (aO (uy T) hr.d rfl T.qp T.m5.kp T.qm .nil bh (aj (aH 0) (aj (aH 3) (aj (aH 1) aq)))) (aK _ _ _)) aq)))) bQ)))
      (aF (bB (aH 2)))))),?_⟩
    have Ku:=yN (fx:=fun _=>none) hTs;nofun;intro d hd;refine⟨o,d,xs,ps,fun _=>none,rfl,hw.same (au hd),CQ ak,fun l tv H1 hl0 hl1 hS _ s1'=>?_⟩;have s1:=(au hd).trans s1';have qpS:=bU (au hd) hl0;nofun;intro L hL;obtain⟨dx,fs,hi,hno⟩:=(hw.same (s1.trans (au (o:=HO.lst []) hL))).ins iY.1 iY.2;refine⟨_,_,hi,hno,o,xs,ps,rfl,hw.same (s1.trans (au hL)),fun l2 hl2=>?_⟩;have s2:Same H1 (upd (upd H1 L (.lst [])) l2 (.lst (xs.map V.str))):=(au hL).trans (au hl2);have e2:upd (upd H1 L (.lst [])) l2 (.lst (xs.map V.str)) l2=some (.lst (xs.map V.str)):=ak;have eL:upd (upd H1 L (.lst [])) l2 (.lst (xs.map V.str)) L=some (.lst []):=bN ak hl2;have l2L:l2≠L:=fun z=>by subst z;rw[ak] at hl2;cases hl2
    generalize upd (upd H1 L (.lst [])) l2 (.lst (xs.map V.str))=H2 at s2 e2 eL ⊢;have hL0:=bU s1 hL;have UL:=of_eq_true Gy;have l9:=hX.len;nofun;refine⟨⟨_,aY.of e2⟩,frL (xs.map V.str) (fun i σ H'=>(∃v3 rs,σ=[some (.ref o),some (.ref l),some (.ref L),v3]∧H' L=some (.lst rs)∧xQ H' rs (Bb (aG (fun _=>none) ps 0) xs (xs.take i))∧∀v∈rs,∀b,v = .ref b→H b=none∧b≠L)∧H' l2=some (.lst (xs.map V.str))∧Same H1 H') ⟨⟨_,[],rfl,eL,bJ.nil,by simp⟩,e2,s2⟩ (fun i σ H' _ h=>aY.of h.2.1) ?_ ?_⟩
    · rintro i x σ H3 hi ⟨⟨v3,rs,rfl,Ni,hrs,hfr⟩,GQ,s3⟩;obtain⟨y,hy,rfl⟩:=qg hi;have hi2:i<xs.length:=(List.getElem?_eq_some_iff.mp hy).1;have hcl:=Mh (S:=aG (fun _=>none) ps 0) (xs:=xs) (xs.take i) [];have qcT:(Bb (aG (fun _=>none) ps 0) xs (xs.take i)).length≤i:=by
        unfold Bb;rw[List.length_take] at hcl;simp at hcl;omega
      have hrl:=hrs.1;rw[Ue hy];generalize hcs:Bb (aG (fun _=>none) ps 0) xs (xs.take i)=cs at hrs qcT hrl ⊢;nofun;refine⟨⟨_,aY.of Ni⟩,fun D hD=>Ma rs (fun j σ H'=>(∃o',σ=[o',some (.str y)])∧H' D=some (.lst ((cs.take j).map fun c=>V.bl (decide (y∈c))))∧Same H3 H') ⟨⟨_,rfl⟩,ak,au hD⟩ (fun j σ H' _ h=>aY.of (h.2.2 _ _ Ni)) ?_ ?_⟩
      ·rintro j x σ H4 hj ⟨⟨o',rfl⟩,Kq,s4⟩;obtain⟨c,hc,t,rfl,ht⟩:=hrs.at hj;have hj2:j<cs.length:=(List.getElem?_eq_some_iff.mp hc).1;nofun;refine⟨_,.inl (aY.of (s4 _ _ ht)),rfl,List.all_eq_true.mp (bR c),_,Kq,by simp;omega,?_,aV s4 hD⟩;rw[ak,bD,take_one hc];simp
      · rintro σ H4 ⟨⟨o',rfl⟩,Kq,s4⟩;rw[hrl,List.take_length] at Kq;nofun;refine⟨_,Kq,_,zp _ _,?_⟩;have ea:(cs.map fun c=>decide (y∈c)).any id=cs.any fun c=>decide (y∈c):=by rw[List.any_map];rfl
        rw[ea];have Ip:=s4 _ _ Ni;refine dz.of (fun h=>?_) (fun h=>?_)
        · have h':(cs.any fun c=>decide (y∈c))=false:=by simpa using h
          have ef:gW (aG (fun _=>none) ps 0) xs cs y=cs++[lM (aG (fun _=>none) ps 0) xs y]:=by unfold gW;rw[if_neg (by rw[h'];exact Bool.false_ne_true)]
          rw[ef];have hl4:=s4 _ _ (s3 _ _ hl1);have hS4:=eZ.keep hS (L2.cG.of (s3.trans s4));nofun;refine⟨⟨_,aY.of Ip⟩,o,y,l,tv,aG (fun _=>none) ps 0,xs,ps,rfl,hw.same ((s1.trans s3).trans s4),hl4,hS4,List.mem_of_getElem? hy,Ku,l9.2,fun r H5 hr0 Wa s5=>?_⟩;have Z5:=s5 _ _ Ip;have rL:r≠L:=fun z=>by subst z;rw[Ip] at hr0;cases hr0
          have s6:Same H1 (upd H5 L (.lst (rs++[.ref r]))):=aV ((s3.trans s4).trans s5) hL;have l2n:l2≠L:=l2L;nofun;refine⟨_,Z5,by omega,⟨_,ak,?_,?_⟩,by rw[aC l2n];exact s5 _ _ (s4 _ _ GQ),s6⟩
          ·have kp:∀v c,v∈rs→Xn H3 v c→Xn (upd H5 L (.lst (rs++[.ref r]))) v c:=fun v c hv ⟨t,e,ht⟩=>⟨t,e,by rw[aC (hfr v hv t e).2];exact s5 _ _ (s4 _ _ ht)⟩;refine bJ.snoc ⟨hrs.1,fun j v c h1 h2=>kp v c (List.mem_of_getElem? h1) (hrs.2 j v c h1 h2)⟩ ⟨r,rfl,by rw[aC rL];exact Wa⟩
          · intro v hv b e
            rcases List.mem_append.mp hv with z | z
            ·exact hfr v z b e
            ·simp at z;rw[z] at e;cases e;exact⟨bU ((s1.trans s3).trans s4) hr0,rL⟩
        · have h':(cs.any fun c=>decide (y∈c))=true:=by simpa using h
          have ef:gW (aG (fun _=>none) ps 0) xs cs y=cs:=by unfold gW;rw[if_pos h']
          rw[ef];nofun;exact⟨⟨rs,Ip,hrs.same s4,hfr⟩,s4 _ _ GQ,s3.trans s4⟩
    ·rintro σ H3 ⟨⟨v3,rs,rfl,Ni,hrs,hfr⟩,GQ,s3⟩;rw[List.length_map,List.take_length] at hrs;nofun;exact q L rs H3 hL0 Ni hrs (fun v hv b e=>(hfr v hv b e).1) (s1.trans s3)
def qba (C:Addr):Sp:=fun vs H Q _=>∃(o:Addr) (xs:List Str) (ps:List (Str×Str)),vs=[.ref o]∧ig C H o xs ps∧GF xs∧je xs ps∧
  ∀(l:Addr) (rs:List V) (H':Hp),H l=none→H' l=some (.lst rs)→∀(zs:List (Addr×Nat×List Str)),bJ zx H' rs zs→zs.map (·.2)=kO ps xs→(zs.map (·.1)).Nodup→(∀z∈zs,H z.1=none∧z.1≠l)→Same H H'→Q (.ref l) H'
theorem qbb (T:Txt K mg a):cD P w K mg base mL 3 a.rM a.Bv ["web"] (qba a.bW):=by
  exists T.Qk.o_,rG
  ·obtain⟨o,xs,ps,rfl,_⟩:=h;rfl
  · obtain⟨o,xs,ps,rfl,hw,hX,hTs,q⟩:=h;refine⟨_,(aB (bw (i:=1) rG.nd rfl (Or.inl rfl) (PE.eqv (aO (oW T) hr.d rfl T.mZ T.jN.kp T.mY .nil bh (aj (aH 0) (aj xO aq))) (aK _ _ _)))
      (aB (bw (i:=2) rG.nd rfl (Or.inl rfl) (cV aq))
      (aB (jf PassesOwn.never rfl (PI.eqv (Bp (K:=K) rfl rfl T.Ib.enumerate (aj (PE.eqv (fZ (aH 0) T.j8 T.mF (m_ T) hr.d T.mD .nil bh) (gb _ _ _ _ _ _)) aq)) (uL _ _)) (PG.eqv (cF (K:=K) (n:=2) rfl rfl (eX.eqv (aR (aN (i:=3) rG.nd rfl (Or.inr rfl)) (eX.eqv (aR (PG.eqv (cF (K:=K) (n:=2) rfl rfl (eX.eqv (aR (aN (i:=4) rG.nd rfl (Or.inl rfl)) (eX.eqv (aR (aN (i:=5) rG.nd rfl (Or.inl rfl)) (eX.mono bZ cX)) (aU _ _))) (aU _ _))) (cI _ _ _)) (eX.mono bZ cX)) (aU _ _))) (aU _ _))) (cI _ _ _))
      (aB (bw (i:=6) rG.nd rfl (Or.inl rfl) (PE.eqv (aO (uy T) hr.d rfl T.qp T.m5.kp T.qm .nil bh (aj (aH 0) (aj (aH 5) (aj (dG rfl rfl (show bx (ao qj) _ ["web", "steps", "told", "number", "first", "second", "lot"] ["step"] [3] ["step", "number"] from⟨rfl,by symm,by symm,rfl,by symm,by symm⟩) rfl (PI.eqv (cg (K:=K) rfl (aH 1)) (bV _ _)) (fun C s H fp pn=>(aN (i:=0) (show(["step", "number"]:List Str).Nodup by symm) rfl (Or.inl rfl))) (fun C s H fp pn=>(nM (aZ kW (bC (bG (K:=K) rfl) (aH 0) aD (fun _ _=>rfl)) (aH 1) (bM _)))) (fun C s H fp pn=>(aH 0))) aq)))) (aK _ _ _)))
      (aF (cU (aZ (nU (K:=K) rfl) (aH 4) (aH 6) rfl) (aF (cB (gZ (K:=K) rfl PySem.F.plainAttrs_list PySem.F.slot_list_append PySem.F.type_list_append cu (aH 2) (aj (dH (aj (aH 3) (aj (aH 6) aq))) aq)))) bQ))))
      (aF (bB (aH 2)))))),?_⟩
    have Ku:=yN (fx:=fun _=>none) hTs;have s50:50≤sizeLine:=by decide
    have l9:=hX.len;left;intro d hd;refine⟨o,d,xs,ps,fun _=>none,rfl,hw.same (au hd),CQ ak,fun l tv H1 hl0 hl1 hS qpt s1'=>?_⟩;have s1:=(au hd).trans s1';left;intro L hL;obtain⟨dx,fs,hi,hno⟩:=(hw.same (s1.trans (au (o:=HO.lst []) hL))).ins m6.1 m6.2;refine⟨_,_,hi,hno,o,xs,ps,rfl,hw.same (s1.trans (au hL)),fun l2 Aw hl2 UW=>?_⟩;have s2:Same H1 (upd (upd H1 L (.lst [])) l2 (.lst Aw)):=(au hL).trans (au hl2);have e2:upd (upd H1 L (.lst [])) l2 (.lst Aw) l2=some (.lst Aw):=ak;have eL:upd (upd H1 L (.lst [])) l2 (.lst Aw) L=some (.lst []):=bN ak hl2;have l2L:l2≠L:=fun z=>by subst z;rw[ak] at hl2;cases hl2
    have Ks:=bI.same UW (au (o:=HO.lst Aw) hl2);generalize upd (upd H1 L (.lst [])) l2 (.lst Aw)=H2 at s2 e2 eL Ks ⊢;have hL0:=bU s1 hL;left;refine⟨⟨_,aY.of e2⟩,frE Aw (fun i σ H'=>(∃o3 o4 o5 o6 rs zs,σ=[some (.ref o),some (.ref l),some (.ref L),o3,o4,o5,o6]∧H' L=some (.lst rs)∧bJ zx H' rs zs∧zs.map (·.2)=lW (kJ ps xs) (ps.take i) 0∧(zs.map (·.1)).Nodup∧∀z∈zs,H z.1=none∧z.1≠L)∧H' l2=some (.lst Aw)∧bI H' Aw ps∧Same H1 H') ⟨⟨_,_,_,_,[],[],rfl,eL,bJ.nil,rfl,by simp,by simp⟩,e2,Ks,s2⟩ (fun i σ H' _ h=>aY.of h.2.1) ?_ ?_⟩
    · rintro i x t σ H3 hi ht ⟨⟨o3,o4,o5,o6,rs,zs,rfl,Ni,hrs,hzs,hzn,hfr⟩,GQ,htv,s3⟩;obtain⟨e,he,tt,rfl,htt⟩:=htv.at hi;have hem:=List.mem_of_getElem? he;obtain⟨q1,q2,q3⟩:=hTs.ok e hem;have hi2:i<ps.length:=(List.getElem?_eq_some_iff.mp he).1;have hcl:(lW (kJ ps xs) (ps.take i) 0).length≤20:=by
        have h1:=xR (Ug ps xs) (ps.take i) 0;rw[List.length_take] at h1;have:=hTs.len;omega
      have hrl:rs.length=(lW (kJ ps xs) (ps.take i) 0).length:=by rw[hrs.1,← hzs,List.length_map]
      have st:Same H3 (upd H3 t (.tup [.int i,.ref tt])):=au ht;rw[uJ _ he];generalize hcs:lW (kJ ps xs) (ps.take i) 0=cs at hzs hcl hrl ⊢;left;refine⟨_,cM.of ak,rfl,_,cM.of (st _ _ htt),rfl,?_⟩;have Ip:=st _ _ Ni;have U0:=st _ _ GQ;have U3:=bI.same htv st;have s4:=s3.trans st;have qdS:=zx.same hrs st;generalize upd H3 t (.tup [.int i,.ref tt])=H4 at Ip U0 U3 s4 qdS ⊢;have hl4:=s4 _ _ hl1;have hS4:=eZ.keep hS (L2.cG.of s4);refine⟨⟨_,aY.of hl4⟩,fun D hD=>Ma tv (fun j σ H'=>(∃o',σ=[o',some (.int i)])∧(∃fv,H' D=some (.lst fv)∧fv.length≤j∧eZ H' fv ((((aG (fun _=>none) ps 0)).take j).filter (PB i)))∧Same H4 H') ⟨⟨_,rfl⟩,⟨[],ak,by simp,bJ.nil⟩,au hD⟩ (fun j σ H' _ h=>aY.of (h.2.2 _ _ hl4)) ?_ ?_⟩
      · rintro j x σ H5 hj ⟨⟨o',rfl⟩,⟨fv,Bd,hfl,hfv⟩,s5⟩;obtain⟨⟨sn,so,sg⟩,hs,t5,rfl,ht5⟩:=hS4.at hj;have hj2:j<tv.length:=(List.getElem?_eq_some_iff.mp hj).1;rw[take_one hs,List.filter_append];left;refine⟨_,.inr (cM.of (s5 _ _ ht5)),_,aP (j:=0) rfl,?_⟩;left
        by_cases hsi:sn=i
        · refine⟨false,by simp[hsi],dz.neg rfl ?_⟩;have ef : [((sn,so,sg):jd)].filter (PB i)=[]:=by simp[PB,hsi]
          rw[ef,List.append_nil];left;exact⟨⟨fv,Bd,by omega,hfv⟩,s5⟩
        · refine⟨true,?_,dz.pos rfl ?_⟩
          ·simp;omega
          have ef : [((sn,so,sg):jd)].filter (PB i)=[(sn,so,sg)]:=by simp[PB,hsi]
          rw[ef];left;have kp:L2.cG H5 (upd H5 D (.lst (fv++[.ref t5]))):=L2.cG.set Bd (by intro z e;cases e);exact⟨_,Bd,by omega,⟨_,ak,by simp;omega,bJ.snoc (eZ.keep hfv kp) ⟨t5,rfl,kp _ _ (s5 _ _ ht5)⟩⟩,aV s5 hD⟩
      · rintro σ H5 ⟨⟨o',rfl⟩,⟨fv,Bd,hfl,hfv⟩,s5⟩;rw[hS.1,List.take_length] at hfv;left;refine⟨o,e.2,D,fv,_,xs,ps,rfl,hw.same ((s1.trans s4).trans s5),Bd,hfv,q2,fun s hs=>Ku s ((List.mem_filter.mp hs).1),l9.2,fun r H6 hr0 hr6 s6=>?_⟩;have qgu:H6 r=some (.lst ((eY ps xs i e.2).map V.str)):=hr6;left;refine⟨_,.inl (aY.of qgu),rfl,List.all_eq_true.mp (bR _),?_⟩;rw[bD];have hL6:=s6 _ _ (s5 _ _ Ip);have sH5:Same H H5:=(s1.trans s4).trans s5;have rH:H r=none:=bU sH5 hr0;have rL:r≠L:=fun z=>by subst z;rw[s5 _ _ Ip] at hr0;cases hr0
        have qgv:=zx.same (zx.same qdS s5) s6;refine⟨!decide (e.1∈eY ps xs i e.2),by simp,dz.of (fun h=>?_) (fun h=>?_)⟩
        · have h':¬e.1∈eY ps xs i e.2:=by simpa using h
          have eb:kJ ps xs e i=[(i,eY ps xs i e.2)]:=by unfold kJ;rw[if_neg h']
          rw[eb];left;refine⟨⟨_,aY.of hL6⟩,fun t7 ht7=>?_⟩;have s7:Same H6 (upd H6 t7 (.tup [.int i,.ref r])):=au ht7;have V_:=s7 _ _ hL6;have e7:upd H6 t7 (.tup [.int i,.ref r]) t7=some (.tup [.int i,.ref r]):=ak;have hr7:=s7 _ _ qgu;have qdT:=zx.same qgv s7;have t7H:H t7=none:=bU (sH5.trans s6) ht7;have s27:=(s4.trans s5).trans (s6.trans s7);have qgw:=s7 _ _ (s6 _ _ (s5 _ _ U0));have Nh:=bI.same U3 ((s5.trans s6).trans s7);generalize upd H6 t7 (.tup [.int i,.ref r])=H7 at s7 V_ e7 hr7 qdT s27 qgw Nh ⊢;have kt:L2.cG H7 (upd H7 L (.lst (rs++[.ref t7]))):=L2.cG.set V_ (by intro z e;cases e);have rzs:¬r∈zs.map (·.1):=fun z=>by
            obtain⟨y,hy,e0⟩:=List.mem_map.mp z;have:=zx.there (zx.same qdS s5) y hy;rw[e0,hr0] at this;cases this
          refine⟨_,V_,by omega,⟨_,ak,zs++[(r,i,eY ps xs i e.2)],?_,by simp[hzs],?_,?_⟩,by rw[aC l2L];exact qgw,Nh.keep kt,aV s27 hL⟩
          ·refine bJ.snoc ⟨qdT.1,fun j v z h1 h2=>?_⟩ ⟨t7,rfl,kt _ _ e7,by rw[aC rL];exact hr7⟩;obtain⟨t',z1,z2,z3⟩:=qdT.2 j v z h1 h2;exact⟨t',z1,kt _ _ z2,by rw[aC (hfr z (List.mem_of_getElem? h2)).2];exact z3⟩
          ·rw[List.map_append,List.nodup_append];refine⟨hzn,by simp,?_⟩;intro x hx y hy e0;simp at hy;subst hy;exact rzs (e0▸hx)
          · intro z hz
            rcases List.mem_append.mp hz with y | y
            ·exact hfr z y
            ·simp at y;subst y;exact⟨rH,rL⟩
        · have h':e.1∈eY ps xs i e.2:=by simpa using h
          have eb:kJ ps xs e i=[]:=by unfold kJ;rw[if_pos h']
          rw[eb,List.append_nil];left;exact⟨⟨rs,hL6,zs,qgv,hzs,hzn,hfr⟩,s6 _ _ (s5 _ _ U0),bI.same U3 (s5.trans s6),(s4.trans s5).trans s6⟩
    ·rintro σ H3 ⟨⟨o3,o4,o5,o6,rs,zs,rfl,Ni,hrs,hzs,hzn,hfr⟩,GQ,htv,s3⟩;rw[htv.1,List.take_length] at hzs;left;exact q L rs H3 hL0 Ni zs hrs hzs hzn hfr (s1.trans s3)
def R5 (H:Hp) (e C:Addr) (fs:List (Str×V)):Prop:=∃dx,dx≠e∧H e=some (fV e C (some dx))∧H dx=some (jh dx fs)
def YQ (C:Addr) (f:Str):Sp:=fun vs H Q _=>∃(e l:Addr) (xs:List V),vs=[.ref e,.ref l]∧H e=some (fV e C none)∧H l=some (.lst xs)∧
  ∀(b:Addr) (H':Hp),H b=none→H' b=some (.lst xs)→R5 H' e C [(f,.ref b)]→But e H H'→Q .non H'
theorem Np {H:Hp} {e l C:Addr} {xs:List V} {f:Str} {Q:VK} {K:W.Frag} (he:H e=some (fV e C none)) (hl:H l=some (.lst xs)) (q:∀(b:Addr) (H':Hp),H b=none→H' b=some (.lst xs)→R5 H' e C [(f,.ref b)]→But e H H'→Q .non H') :
    (∃x,H e=some (fV e C x))∧∃ys,(aY K H l ys∨cM K H l ys)∧∀(l:Addr),H l=none→upd H l (.lst ys) e=some (fV e C none)∧∀dx,upd H l (.lst ys) dx=none→Q .non (upd (upd (upd H l (.lst ys)) dx (jh dx [(f,.ref l)])) e (fV e C (some dx))):=by
  refine⟨⟨_,he⟩,xs,.inl (aY.of hl),fun b hb=>?_⟩;exists H,b,(.lst xs),s1,e1,H1,hb;refine⟨s1 _ _ he,fun dx hdx=>?_⟩;have ne:dx≠e:=fun z=>by rw[z,s1 _ _ he] at hdx;cases hdx
  have be:b≠e:=fun z=>by rw[z,he] at hb;cases hb
  have bd:b≠dx:=fun z=>by rw[← z,e1] at hdx;cases hdx
  refine q b _ hb (by rw[aC be,aC bd];exact e1) ⟨dx,ne,ak,by rw[aC ne];exact ak⟩ fun c o hc z=>?_;rw[aC hc,aC (fun y=>by rw[← y,s1 _ _ z] at hdx;cases hdx)];exact s1 _ _ z
theorem Nq {H:Hp} {e l C:Addr} {xs:List V} {f g:Str} {y:V} {Q:VK} {K:W.Frag} (fg:g≠f) (he:H e=some (fV e C none)) (hl:H l=some (.lst xs)) (q:∀(b:Addr) (H':Hp),H b=none→H' b=some (.lst xs)→R5 H' e C [(f,y),(g,.ref b)]→But e H H'→Q .non H') :
    (∃x,H e=some (fV e C x))∧H e=some (fV e C none)∧∀dx,H dx=none→∃ys,(aY K (upd (upd H dx (jh dx [(f,y)])) e (fV e C (some dx))) l ys∨cM K (upd (upd H dx (jh dx [(f,y)])) e (fV e C (some dx))) l ys)∧
      ∀(l:Addr),upd (upd H dx (jh dx [(f,y)])) e (fV e C (some dx)) l=none→∃d2,upd (upd (upd H dx (jh dx [(f,y)])) e (fV e C (some dx))) l (.lst ys) e=some (fV e C (some d2))∧∃fs,upd (upd (upd H dx (jh dx [(f,y)])) e (fV e C (some dx))) l (.lst ys) d2=some (jh d2 fs)∧fs.length<1000∧
        Q .non (upd (upd (upd (upd H dx (jh dx [(f,y)])) e (fV e C (some dx))) l (.lst ys)) d2 (jh d2 (lQ g (.ref l) fs))):=by
  refine⟨⟨_,he⟩,he,fun dx hdx=>?_⟩;have ne:dx≠e:=fun z=>by rw[z,he] at hdx;cases hdx
  have le:l≠e:=fun z=>by rw[z,he] at hl;cases hl
  have ld:l≠dx:=fun z=>by rw[z,hdx] at hl;cases hl
  have e1:upd (upd H dx (jh dx [(f,y)])) e (fV e C (some dx)) e=some (fV e C (some dx)):=ak;have d1:upd (upd H dx (jh dx [(f,y)])) e (fV e C (some dx)) dx=some (jh dx [(f,y)]):=by rw[aC ne];exact ak
  have b1:But e H (upd (upd H dx (jh dx [(f,y)])) e (fV e C (some dx))):=fun c o hc z=>by
    rw[aC hc,aC (fun y=>by rw[y,hdx] at z;cases z)];exact z
  generalize upd (upd H dx (jh dx [(f,y)])) e (fV e C (some dx))=H1 at e1 d1 b1 ⊢;refine⟨xs,.inl (aY.of (b1 _ _ le hl)),fun b hb=>?_⟩;exists H1,b,(.lst xs),s2,e2,H2,hb;refine⟨dx,s2 _ _ e1,_,s2 _ _ d1,by show(1:Nat)<1000;decide,?_⟩;have bd:b≠dx:=fun z=>by rw[z,d1] at hb;cases hb
  have be:b≠e:=fun z=>by rw[z,e1] at hb;cases hb
  have hb0:H b=none:=by
    cases z:H b with
    | none=>rfl
    | some o=>rw[b1 _ _ be z] at hb;cases hb
  have ep:lQ g (.ref b) [(f,y)]=[(f,y),(g,.ref b)]:=by
    show(if f=g then _ else _)=_
    rw[if_neg (fun z=>fg z.symm)];rfl
  rw[ep];refine q b _ hb0 (by rw[aC bd];exact e2) ⟨dx,ne,by rw[aC (Ne.symm ne)];exact s2 _ _ e1,ak⟩ fun c o hc z=>?_;rw[aC (fun y=>by rw[y,hdx] at z;cases z)];exact s2 _ _ (b1 _ _ hc z)
def YS (C:Addr) (f g:Str):Sp:=fun vs H Q _=>∃(e l:Addr) (y:V) (xs:List V),vs=[.ref e,y,.ref l]∧H e=some (fV e C none)∧H l=some (.lst xs)∧
  ∀(b:Addr) (H':Hp),H b=none→H' b=some (.lst xs)→R5 H' e C [(f,y),(g,.ref b)]→But e H H'→Q .non H'
theorem Ey (T:Txt K mg a):cD P w K mg base mL 1 a.cQ a.lq ["self", "lot"] (YQ a.bH "lot"):=by
  exists T.vM.o_,Dq
  ·obtain⟨e,l,xs,rfl,_⟩:=h;rfl
  · obtain⟨e,l,xs,rfl,he,hl,q⟩:=h;refine⟨_,(aB (cB (RP T.qR T.ini rfl T.sH (aj (aH 0) (aj nj aq))))
      (aF (qb0 T.Ij T.gP (aH 0) (fQ (qI (K:=K) rfl) rfl T.nm.list boot_list (aj (aH 1) aq)) rfl))),?_⟩
    simp -dsimp[aA,stC];exact Np he hl q
theorem Ez (T:Txt K mg a):cD P w K mg base mL 1 a.cR a.lu ["self", "tie", "lot"] (YS a.bF "tie" "lot"):=by
  exists T.vO.o_,Ds
  ·obtain⟨e,l,y,xs,rfl,_⟩:=h;rfl
  · obtain⟨e,l,y,xs,rfl,he,hl,q⟩:=h;refine⟨_,(aB (cB (RP T.qT T.ini rfl T.sH (aj (aH 0) (aj nj aq))))
      (aB (qb0 T.zH T.gQ (aH 0) (aH 1) rfl)
      (aF (qge T.zH T.gR (aH 0) (fQ (qI (K:=K) rfl) rfl T.nm.list boot_list (aj (aH 2) aq)) rfl)))),?_⟩
    simp -dsimp[aA,stC];exact Nq (by decide) he hl q
def oX (ps:List (Str×Str)) (xs:List Str):List (List Str):=Bb (aG (fun _=>none) ps 0) xs xs
def Bf (C Pa Ba:Addr):Sp:=fun vs H Q E=>∃(o:Addr) (xs:List Str) (ps:List (Str×Str)),vs=[.ref o]∧ig C H o xs ps∧GF xs∧je xs ps∧
  ((oX ps xs).length≤1→kO ps xs=[]→∀H',Same H H'→Q .non H')∧
  (∀c r,oX ps xs=c::r→r≠[]→∀(dx cc:Addr) (H':Hp),H cc=none→H' dx=some (jh dx [("lot",.ref cc)])→H' cc=some (.lst (c.map V.str))→Same H H'→E (.ref Pa) (some dx) H')∧
  ((oX ps xs).length≤1→∀k lot rest,kO ps xs=(k,lot)::rest→∀(dx c:Addr) (H':Hp),H c=none→H' dx=some (jh dx [("tie",.int (k:Nat)),("lot",.ref c)])→H' c=some (.lst (lot.map V.str))→Same H H'→E (.ref Ba) (some dx) H')
theorem Bg (T:Txt K mg a):cD P w K mg base (V9 P w) 5 a.dh a.jR ["web"] (Bf a.bW a.bH a.bF):=by
  exists T.oU.qdz,iU
  ·obtain⟨o,xs,ps,rfl,_⟩:=h;rfl
  · obtain⟨o,xs,ps,rfl,hw,hX,hTs,q1,q2,q3⟩:=h;refine⟨_,(aB (bw (i:=1) iU.nd rfl (Or.inl rfl) (PE.eqv (aO (Nk T) hr.d rfl T.Dz T.wK.kp T.Dy .nil bh (aj (aH 0) aq)) (aK _ _ _)))
      (aB (cU (aZ t_ (aM (bT (K:=K) rfl) rfl T.nm.len PySem.boot_len (aj (aH 1) aq)) aD (bM _)) (aF (Ia (E:=E) Bt rfl rfl T.qR (Ey T) hr.d rfl T.Eo T.vN (aj (bC (bG (K:=K) rfl) (aH 1) aD (fun _ _=>rfl)) aq))) bQ)
      (aB (bw (i:=2) iU.nd rfl (Or.inl rfl) (PE.eqv (aO (qbb T) hr.d rfl T.Yr T.Qk.kp T.Yq .nil bh (aj (aH 0) aq)) (aK _ _ _)))
      (aF (cU (aZ t_ (aM (bT (K:=K) rfl) rfl T.nm.len PySem.boot_len (aj (aH 2) aq)) aD (bM _)) (aB (kh (bC (bG (K:=K) rfl) (aH 2) aD (fun _ _=>rfl)) (PG.eqv (cF (K:=K) (n:=2) rfl rfl (eX.eqv (aR (aN (i:=3) iU.nd rfl (Or.inl rfl)) (eX.eqv (aR (aN (i:=4) iU.nd rfl (Or.inl rfl)) (eX.mono bZ cX)) (aU _ _))) (aU _ _))) (cI _ _ _)))
      (aF (Ia (E:=E) Bt rfl rfl T.qT (Ez T) hr.d rfl T.Ep T.vP (aj (aH 3) (aj (aH 4) aq))))) bQ))))),?_⟩
    simp -dsimp[aA,stC];refine⟨o,xs,ps,rfl,hw,hX,hTs,fun l1 rs1 H1 hl1 e1 hls hnw s1=>?_⟩;have hcl:rs1.length=(oX ps xs).length:=hls.1;simp -dsimp[aA,stC];refine⟨_,.inl (aY.of e1),dz.of (fun h=>?_) (fun h=>?_)⟩
    · have hpos:=of_decide_eq_true h;obtain⟨c,r,hcr⟩:∃c r,oX ps xs=c::r:=by
        cases hc:oX ps xs with
        | nil=>rw[hc] at hcl;simp at hcl;rw[hcl] at hpos;simp at hpos
        | cons c r=>exact⟨c,r,rfl⟩
      have hr0:r≠[]:=fun z=>by rw[hcr,z] at hcl;simp at hcl;rw[hcl] at hpos;simp at hpos
      obtain⟨v,hv⟩:∃v,rs1[0]? = some v:=⟨_,List.getElem?_eq_getElem (by rw[hcl,hcr];simp)⟩;obtain⟨c',hc',t,rfl,ht⟩:=hls.at hv;have:c'=c:=by
        have h2:(oX ps xs)[0]? = some c':=hc';rw[hcr] at h2;simpa using h2.symm
      subst this;simp -dsimp[aA,stC];refine⟨_,.inl (aY.of e1),_,aP (j:=0) hv,?_⟩;intro e5 he5;have s5:Same H1 (upd H1 e5 (fV e5 a.bH none)):=au he5;have x5:upd H1 e5 (fV e5 a.bH none) e5=some (fV e5 a.bH none):=ak;have hc5:=s5 _ _ ht;have e50:H e5=none:=bU s1 he5;have S5:=s1.trans s5;generalize upd H1 e5 (fV e5 a.bH none)=H5 at s5 x5 hc5 S5 ⊢;refine⟨e5,t,_,rfl,x5,hc5,fun cc H6 hc0 ec hbe hB=>⟨rfl,?_⟩⟩;obtain⟨dx,dxe,hx5,hdx⟩:=hbe;have ce:cc≠e5:=fun z=>by rw[z,x5] at hc0;cases hc0
      refine⟨_,hx5,q2 _ _ hcr hr0 dx cc _ (bU S5 hc0) (wD dxe hdx) (wD ce ec) fun b' u e=>?_⟩;have be:b'≠e5:=fun z=>by rw[z,e50] at e;cases e
      exact wD be (hB b' u be (S5 _ _ e))
    · have h1:(oX ps xs).length≤1:=by
        have h0:=of_decide_eq_false h;omega
      simp -dsimp[aA,stC];refine⟨o,xs,ps,rfl,hw.same s1,hX,hTs,fun l rs H2 hl0 e2 zs hzs YT qgp hzn s2=>?_⟩;have S2:=s1.trans s2;simp -dsimp[aA,stC];refine⟨_,.inl (aY.of e2),dz.of (fun h=>?_) (fun h=>?_)⟩
      · have hpos:=of_decide_eq_true h;cases rs with
        | nil=>simp at hpos
        | cons v rs=>
        cases zs with
        | nil=>have:=hzs.1;simp at this
        | cons z zs=>
        obtain⟨t,rfl,ht,hc⟩:=hzs.2 0 v z rfl rfl;have hz0:=(hzn z List.mem_cons_self).1;rw[List.map_cons] at YT;simp -dsimp[aA,stC];refine⟨_,.inl (aY.of e2),_,aP (j:=0) rfl,?_⟩;simp -dsimp[aA,stC];refine⟨_,cM.of ht,rfl,?_⟩;simp -dsimp[aA,stC];intro e5 he5;have s5:Same H2 (upd H2 e5 (fV e5 a.bF none)):=au he5;have x5:upd H2 e5 (fV e5 a.bF none) e5=some (fV e5 a.bF none):=ak;have hc5:=s5 _ _ hc;have e50:H e5=none:=bU S2 he5;have S5:=S2.trans s5;generalize upd H2 e5 (fV e5 a.bF none)=H5 at s5 x5 hc5 S5 ⊢;refine⟨e5,z.1,.int z.2.1,_,rfl,x5,hc5,fun c H6 hc0 ec hbe hB=>⟨rfl,?_⟩⟩;obtain⟨dx,dxe,hx,hdx⟩:=hbe;have ce:c≠e5:=fun z=>by rw[z,x5] at hc0;cases hc0
        refine⟨_,hx,q3 h1 z.2.1 z.2.2 _ YT.symm dx c _ (bU S5 hc0) (wD dxe hdx) (wD ce ec) fun b' u e=>?_⟩;have be:b'≠e5:=fun z=>by rw[z,e50] at e;cases e
        exact wD be (hB b' u be (S5 _ _ e))
      · have h0:=of_decide_eq_false h;cases zs with
        | cons z zs=>have:=hzs.1;simp at this;omega
        | nil=>
          simp -dsimp[aA,stC];exact q1 h1 YT.symm _ S2
def aX (ks:List Nat):List V:=ks.map fun k=>V.int (k:Nat)
def ni (ps:List (Str×Str)) (here:Str) (k:Nat):Option Str:=match ps[k]? with
  | some e=>if here=e.1 then some e.2 else if here=e.2 then some e.1 else none
  | none=>none
def bK (ps:List (Str×Str)):Str→List Nat→List Str
  | _,[]=>[]
  | h,k::ks=>match ni ps h k with
    | some y=>y::bK ps y ks
    | none=>[]
theorem gU {ps:List (Str×Str)} {h:Str} {k:Nat} {ks:List Nat}:bK ps h (k::ks)=match ni ps h k with
    | some y=>y::bK ps y ks
    | none=>[]:=rfl
def Bh (C:Addr):Sp:=fun vs H Q _=>∃(o l:Addr) (start:Str) (xs:List Str) (ps:List (Str×Str)) (ks:List Nat),vs=[.ref o,.str start,.ref l]∧ig C H o xs ps∧je xs ps∧Sq H l (aX ks)∧(∀k∈ks,k<ps.length)∧ks.length≤20∧
  ∀(r:Addr) (H':Hp),H r=none→H' r=some (.lst ((bK ps start ks).map V.str))→Same H H'→Q (.ref r) H'
theorem jU (T:Txt K mg a):cD P w K mg base mL 2 a.dj a.jT ["web", "start", "numbers"] (Bh a.bW):=by
  exists T.h_.o_,dB
  ·obtain⟨o,l,start,xs,ps,ks,rfl,_⟩:=h;rfl
  · obtain⟨o,l,start,xs,ps,ks,rfl,hw,hTs,hl,hks,Bc,q⟩:=h;refine⟨_,(aB (bw (i:=3) dB.nd rfl (Or.inl rfl) (PE.eqv (fZ (aH 0) T.j8 T.mF (m_ T) hr.d T.mD .nil bh) (gb _ _ _ _ _ _)))
      (aB (bw (i:=4) dB.nd rfl (Or.inl rfl) (cV aq))
      (aB (bw (i:=5) dB.nd rfl (Or.inl rfl) (aH 1))
      (aB (jf PassesOwn.never rfl (PI.eqv (nP (K:=K) rfl (aH 2)) (kY _ _)) (aN (i:=6) dB.nd rfl (Or.inl rfl))
      (aB (kh (bC (bG (K:=K) rfl) (aH 3) (aH 6) (fun _ _=>rfl)) (PG.eqv (cF (K:=K) (n:=2) rfl rfl (eX.eqv (aR (aN (i:=7) dB.nd rfl (Or.inl rfl)) (eX.eqv (aR (aN (i:=8) dB.nd rfl (Or.inl rfl)) (eX.mono bZ cX)) (aU _ _))) (aU _ _))) (cI _ _ _)))
      (aB (cU (PW.pt (tK (aZ kW (aH 5) (aH 7) (bM _)) (uI (aZ kW (aH 5) (aH 8) (bM _))))) (aF (bB (aH 4))) bQ)
      (aB (bw (i:=5) dB.nd rfl (Or.inl rfl) (xg (aZ g_ (aH 5) (aH 7) (bM _)) (aH 8) (aH 7)))
      (aF (cB (gZ (K:=K) rfl PySem.F.plainAttrs_list PySem.F.slot_list_append PySem.F.type_list_append cu (aH 4) (aj (aH 5) aq))))))))
      (aF (bB (aH 4))))))),?_⟩
    have Nr:200≤sizeLine:=by decide
    obtain⟨bq,hq⟩:=hl.b;obtain⟨dx,fs,hi,hno⟩:=hw.ins m6.1 m6.2;left;refine⟨_,_,hi,hno,o,xs,ps,rfl,hw,fun tl tv htl htv=>?_⟩;have s1:Same H (upd H tl (.lst tv)):=au htl;have e1:upd H tl (.lst tv) tl=some (.lst tv):=ak;have Nt:=htv.same s1;generalize upd H tl (.lst tv)=H1 at s1 e1 Nt ⊢;left;intro pl hpl;have s2:Same H1 (upd H1 pl (.lst [])):=au hpl;have e2:upd H1 pl (.lst []) pl=some (.lst (([]:List Str).map V.str)):=ak;generalize upd H1 pl (.lst [])=H2 at s2 e2 ⊢;have S2:=s1.trans s2;have pl0:H pl=none:=bU s1 hpl;have qmo:tl≠pl:=fun z=>by rw[z,hpl] at e1;cases e1
    refine⟨bq,⟨_,hq K H2 S2⟩,frQ (aX ks) (fun i σ H'=>(∃here o6 o7 o8 GX,σ=[some (.ref o),some (.str start),some (.ref l),some (.ref tl),some (.ref pl),some (.str here),o6,o7,o8]∧H' pl=some (.lst (GX.map V.str))∧GX.length=i∧bK ps start ks=GX++bK ps here (ks.drop i))∧H' tl=some (.lst tv)∧Same H H') ⟨⟨_,_,_,_,[],rfl,e2,rfl,rfl⟩,s2 _ _ e1,S2⟩ (fun i σ H' _ h=>hq K H' h.2.2) ?_ ?_⟩
    · rintro i v σ H3 hiv ⟨⟨here,o6,o7,o8,GX,rfl,e3,qgx,hpt⟩,et3,s3⟩;obtain⟨k,hk,rfl⟩:∃k,ks[i]? = some k∧v = .int (k:Nat):=by
        unfold aX at hiv;rw[List.getElem?_map] at hiv;obtain⟨k,hk,rfl⟩:=Option.map_eq_some_iff.mp hiv;exact⟨k,hk,rfl⟩
      have hi2:=(List.getElem?_eq_some_iff.mp hk).1;have hdr:ks.drop i=k::ks.drop (i+1):=by
        rw[List.drop_eq_getElem_cons hi2];congr 1;exact(List.getElem?_eq_some_iff.mp hk).2
      have hkl:=hks k (List.mem_of_getElem? hk);obtain⟨e,he⟩:∃e,ps[k]? = some e:=⟨_,List.getElem?_eq_getElem hkl⟩;obtain⟨w,hw'⟩:∃w,tv[k]? = some w:=⟨_,List.getElem?_eq_getElem (by rw[htv.1];exact hkl)⟩;obtain⟨t,rfl,ht⟩:=htv.2 k w e hw' he;rw[hdr,gU] at hpt;have hnx:ni ps here k=if here=e.1 then some e.2 else if here=e.2 then some e.1 else none:=by unfold ni;rw[he]
      rw[hnx] at hpt;left;refine⟨_,.inl (aY.of et3),_,aP hw',?_⟩;left;refine⟨_,cM.of (s3 _ _ ht),rfl,?_⟩;have fin:∀y:Str,bK ps start ks=GX++y::bK ps y (ks.drop (i+1))→upd H3 pl (.lst (GX.map V.str++[.str y])) pl=some (.lst ((GX++[y]).map V.str))∧(GX++[y]).length=i+1∧bK ps start ks=(GX++[y])++bK ps y (ks.drop (i+1))∧upd H3 pl (.lst (GX.map V.str++[.str y])) tl=some (.lst tv)∧Same H (upd H3 pl (.lst (GX.map V.str++[.str y]))):=fun y hy=>⟨by rw[ak];simp,by simp[qgx],by rw[hy];simp,by rw[aC qmo];exact et3,aV s3 pl0⟩;have hsz:(GX.map V.str).length<sizeLine:=by rw[List.length_map];omega
      left
      by_cases h1:here=e.1
      ·refine⟨false,by simp[h1],dz.neg rfl ?_⟩;rw[if_pos h1] at hpt;obtain⟨f1,f2,f3,f4,f5⟩:=fin _ hpt;left;rw[decide_eq_true h1];left;exact⟨⟨_,aY.of e3⟩,_,e3,hsz,⟨_,f1,f2,f3⟩,f4,f5⟩
      · refine⟨true,by simp[h1],dz.pos rfl ?_⟩;rw[if_neg h1] at hpt;left
        by_cases h2:here=e.2
        ·refine⟨false,by simp[h2],dz.neg rfl ?_⟩;rw[if_pos h2] at hpt;obtain⟨f1,f2,f3,f4,f5⟩:=fin _ hpt;left;rw[decide_eq_false h1];left;exact⟨⟨_,aY.of e3⟩,_,e3,hsz,⟨_,f1,f2,f3⟩,f4,f5⟩
        ·refine⟨true,by simp[h2],dz.pos rfl ?_⟩;rw[if_neg h2] at hpt;left;exact q pl H3 pl0 (by rw[hpt];simpa using e3) s3
    · rintro σ H3 ⟨⟨here,o6,o7,o8,GX,rfl,e3,qgx,hpt⟩,et3,s3⟩;have hd:ks.drop (aX ks).length=[]:=by unfold aX;simp
      rw[hd] at hpt;have qmp:bK ps start ks=GX:=by rw[hpt];simp[bK]
      left;exact q pl H3 pl0 (by rw[qmp];exact e3) s3
def Z8 (ms:List Str) (k:Nat) (s:jd):Bool:=decide (s.1≠k) && !decide (s.2.1∈ms)
def U5 (ps:List (Str×Str)) (ms:List Str) (k:Nat):List jd:=(aG (fun _=>none) ps 0).filter (Z8 ms k)
def inR (R:BR) (y:Str):Bool:=decide (y∈R.map (·.1))
def BkD (ps:List (Str×Str)) (ms:List Str) (k:Nat) (g:Str) (w:List Nat):Prop:=∃R z rest,Yd (U5 ps ms k) g R∧ms.filter (inR R)=z::rest∧(R.map (·.1)).Nodup∧(z,w)∈R
theorem U6 {α β:Type} {R:List (α×β)} (nd:(R.map (·.1)).Nodup) {a:α} {b c:β} (h1:(a,b)∈R) (h2:(a,c)∈R):b=c:=by
  obtain⟨i,hi,e1⟩:=List.mem_iff_getElem.mp h1;obtain⟨j,hj,e2⟩:=List.mem_iff_getElem.mp h2;have hij:i=j:=by
    have hi':i<(R.map (·.1)).length:=by simpa using hi
    have hj':j<(R.map (·.1)).length:=by simpa using hj
    have e:(R.map (·.1))[i]=(R.map (·.1))[j]:=by simp[e1,e2]
    exact(List.getElem_inj nd).mp e
  subst hij;rw[e1] at e2;exact(Prod.mk.inj e2).2
theorem BkD.uniq {ps:List (Str×Str)} {ms:List Str} {k:Nat} {g:Str} {w w':List Nat} (h:BkD ps ms k g w) (h':BkD ps ms k g w'):w=w':=by
  obtain⟨R,z,rest,h1,h2,h3,h4⟩:=h;obtain⟨R',z',rest',h1',h2',h3',h4'⟩:=h';obtain rfl:=h1.uniq h1';rw[h2] at h2';cases h2';exact U6 h3 h4 h4'
def Nu (C:Addr):Sp:=fun vs H Q _=>∃(o m:Addr) (k:Nat) (g:Str) (xs ms:List Str) (ps:List (Str×Str)),vs=[.ref o,.ref m,.str g,.int k]∧ig C H o xs ps∧GF xs∧je xs ps∧H m=some (.lst (ms.map V.str))∧ms.length≤9∧g∈xs∧(∃z∈ms,RT (dI (U5 ps ms k)) g z)∧
  ∀(r:Addr) (w:List Nat) (vs:List Str) (z:Str) (H':Hp),H r=none→H' r=some (.lst (aX w))→oO (U5 ps ms k) g w vs z→vs.Nodup→z∈ms→w.length≤9→BkD ps ms k g w→Same H H'→Q (.ref r) H'
theorem Nv (T:Txt K mg a):cD P w K mg base mL 3 a.iI a.pQ ["web", "met", "point", "number"] (Nu a.bW):=by
  exists T.wO.o_,pG
  ·obtain⟨o,m,k,g,xs,ms,ps,rfl,_⟩:=h;rfl
  · obtain⟨o,m,k,g,xs,ms,ps,rfl,hw,hX,hTs,hm,h9,hg,hz,q⟩:=h;refine⟨_,(aB (iu (i:=4) pG.nd rfl rfl rfl rfl (show bx (ao fW) _ ["web", "met", "point", "number", "steps", "ways", "ends"] ["step"] [3,1] ["step", "number", "met"] from⟨rfl,by symm,by symm,rfl,by symm,by symm⟩) rfl (PI.eqv (cg (K:=K) rfl (PE.eqv (aO (oW T) hr.d rfl T.mZ T.jN.kp T.mY .nil bh (aj (aH 0) (aj xO aq))) (aK _ _ _))) (bV _ _)) (fun C s H fp pn=>(aN (i:=0) (show(["step", "number", "met"]:List Str).Nodup by symm) rfl (Or.inl rfl))) (fun C s H fp pn=>(nM (PW.pt (tK (aZ kW (bC (bG (K:=K) rfl) (aH 0) aD (fun _ _=>rfl)) (aH 1) (bM _)) (uI (aZ (nU (K:=K) rfl) (bC (bG (K:=K) rfl) (aH 0) aD (fun _ _=>rfl)) (aH 2) rfl)))))) (fun C s H fp pn=>(aH 0)))
      (aB (bw (i:=5) pG.nd rfl (Or.inr rfl) (PE.eqv (aO (wg T) hr.d rfl T.su T.oH.kp T.rZ .nil bh (aj (aH 2) (aj (aH 4) aq))) (aK _ _ _)))
      (aB (iu (i:=6) pG.nd rfl rfl rfl rfl (show bx (ao fW) _ ["web", "met", "point", "number", "steps", "ways", "ends"] ["end"] [5] ["end", "ways"] from⟨rfl,by symm,by symm,rfl,by symm,by symm⟩) rfl (PI.eqv (cg (K:=K) rfl (aH 1)) (bV _ _)) (fun C s H fp pn=>(aN (i:=0) (show(["end", "ways"]:List Str).Nodup by symm) rfl (Or.inl rfl))) (fun C s H fp pn=>(nM (JG (PC.eqv (Xg (vI hr) (aH 0) (aH 1)) (RD _ _))))) (fun C s H fp pn=>(aH 0)))
      (aF (bB (PE.eqv (JB (vI hr) (aH 5) (bC (bG (K:=K) rfl) (aH 6) aD (fun _ _=>rfl)) (fun _ _=>rfl)) (Df _ _))))))),?_⟩
    have Nr:200≤sizeLine:=by decide
    right;intro d hd;have s1:Same H (upd H d (.dK [])):=au hd;have hf1:=CQ (ak (H:=H) (a:=d) (o:=.dK []));generalize upd H d (.dK [])=H1 at s1 hf1 ⊢;refine⟨o,d,xs,ps,fun _=>none,rfl,hw.same s1,hf1,fun l tv H2 hl0 hl2 hS h40 s2=>?_⟩;have S2:=s1.trans s2;have hm2:=S2 _ _ hm;right;refine⟨⟨_,aY.of hl2⟩,fun D hD=>Ma tv (fun i σ H'=>(∃o',σ=[o',some (.int (k:Nat)),some (.ref m)])∧(∃sv,H' D=some (.lst sv)∧eZ H' sv (((aG (fun _=>none) ps 0).take i).filter (Z8 ms k))∧sv.length≤i)∧Same H2 H') ⟨⟨_,rfl⟩,⟨[],ak,bJ.nil,by simp⟩,au hD⟩ (fun i σ H' _ h=>aY.of (h.2.2 _ _ hl2)) ?_ ?_⟩
    · rintro i v σ H3 hi ⟨⟨o',rfl⟩,⟨sv,Ir,hsv,hsl⟩,s3⟩;have hi2:=(List.getElem?_eq_some_iff.mp hi).1;obtain⟨st,hst⟩:∃st,(aG (fun _=>none) ps 0)[i]? = some st:=⟨_,List.getElem?_eq_getElem (by rw[← hS.1];exact hi2)⟩;obtain⟨t,rfl,ht⟩:=hS.2 i v st hi hst;have ht3:=s3 _ _ ht;have hm3:=s3 _ _ hm2;rw[take_one hst,List.filter_append];right;refine⟨_,.inr (cM.of ht3),_,aP (j:=0) rfl,?_⟩;right
      by_cases hk:st.1=k
      · refine⟨false,by simp[hk],dz.neg rfl ?_⟩;right;have e0:([st].filter (Z8 ms k))=[]:=by simp[Z8,hk]
        exact⟨⟨sv,Ir,by rw[e0,List.append_nil];exact hsv,by omega⟩,s3⟩
      · refine⟨true,by simp;omega,dz.pos rfl ?_⟩;right;refine⟨_,.inr (cM.of ht3),_,aP (j:=1) rfl,_,.inl (aY.of hm3),rfl,List.all_eq_true.mp (bR _),?_⟩;rw[bD]
        by_cases hin:st.2.1∈ms
        · refine⟨false,by simp[hin],dz.neg rfl ?_⟩;right;have e0:([st].filter (Z8 ms k))=[]:=by simp[Z8,hin]
          exact⟨⟨sv,Ir,by rw[e0,List.append_nil];exact hsv,by omega⟩,s3⟩
        · refine⟨true,by simp[hin],dz.pos rfl ?_⟩;right;have e0:([st].filter (Z8 ms k))=[st]:=by simp[Z8,hin,hk]
          have kp:cG H3 (upd H3 D (.lst (sv++[.ref t]))):=fun c zs e=>q_ e Ir (by intro z;cases z);refine⟨_,Ir,by omega,⟨_,ak,?_,by simp;omega⟩,aV s3 hD⟩;rw[e0];exact bJ.snoc (eZ.keep hsv kp) ⟨t,rfl,kp _ _ ht3⟩
    · rintro σ H3 ⟨⟨o',rfl⟩,⟨sv,Ir,hsv,hsl⟩,s3⟩;rw[hS.1,List.take_length] at hsv;have S3:=S2.trans s3;have Ku:∀st∈U5 ps ms k,st.2.2∈xs:=fun st hst=>yN (fx:=fun _=>none) hTs st (List.mem_filter.mp hst).1;right;refine⟨g,D,sv,U5 ps ms k,xs,rfl,Ir,hsv,hg,Ku,hX.len.2,fun dw kvs R H4 hdw edw hW hB hF hN s4=>?_⟩;have S4:=S3.trans s4;have hm4:=S4 _ _ hm;right;refine⟨⟨_,aY.of hm4⟩,fun D2 hD2=>Ma (ms.map V.str) (fun i σ H'=>(∃o',σ=[o',some (.ref dw)])∧H' D2=some (.lst (((ms.take i).filter (inR R)).map V.str))∧Same H4 H') ⟨⟨_,rfl⟩,ak,au hD2⟩ (fun i σ H' _ h=>aY.of (h.2.2 _ _ hm4)) ?_ ?_⟩
      · rintro i v σ H5 hi ⟨⟨o',rfl⟩,Bd,s5⟩;obtain⟨y,hy,rfl⟩:=qg hi;have hi2:=(List.getElem?_eq_some_iff.mp hy).1;have fl:((ms.take i).filter (inR R)).length≤i:=Nat.le_trans (List.length_filter_le _ _) (by rw[List.length_take];omega);rw[take_one hy,List.filter_append];have hhas:=hW.has hB.nd y;right;refine⟨_,Xm y (s5 _ _ edw),?_⟩;rw[hhas];refine dz.of (fun h=>?_) (fun h=>?_)
        · have h:=of_decide_eq_true h;right;refine⟨_,Bd,by rw[List.length_map];omega,?_,aV s5 hD2⟩;rw[ak];have e0:([y].filter (inR R))=[y]:=by rw[List.filter_cons,if_pos (show inR R y=true from decide_eq_true h)];rfl
          rw[e0];simp
        · have h:=of_decide_eq_false h;right;refine⟨?_,s5⟩;have e0:([y].filter (inR R))=[]:=by rw[List.filter_cons,if_neg (by rw[show inR R y=false from decide_eq_false h];decide)];rfl
          rw[e0];simpa using Bd
      · rintro σ H5 ⟨⟨o',rfl⟩,Bd,s5⟩;rw[List.length_map,List.take_length] at Bd;obtain⟨z,rest,hzr,hzm,hzR⟩:∃z rest,(ms.filter (inR R))=z::rest∧z∈ms∧z∈R.map (·.1):=by
          obtain⟨z,hz1,hz2⟩:=hz;have hzR:=(hB.iff z).mpr hz2;have hmem:z∈ms.filter (inR R):=List.mem_filter.mpr ⟨hz1,decide_eq_true hzR⟩;cases hf:(ms.filter (inR R)) with
          | nil=>rw[hf] at hmem;cases hmem
          | cons z' rest=>
            have:=List.mem_filter.mp (show z'∈ms.filter (inR R) by rw[hf];exact List.mem_cons_self);exact⟨z',rest,rfl,this.1,of_decide_eq_true this.2⟩
        rw[hzr] at Bd;obtain⟨⟨z',w'⟩,hzw,hz'⟩:=List.mem_map.mp hzR;obtain rfl:z'=z:=hz';obtain⟨p,hp1,hp2⟩:=hW.some hB.nd hzw;obtain⟨vs,hpv,hvn,_⟩:=hB.pth _ _ hzw;have hwl:=hB.qfR hzw;have hRl:=bY hB.nd (hB.sub hg Ku);have x9:=hX.len.2;rw[List.length_map] at hRl;right;refine⟨_,.inl (aY.of Bd),_,aP (j:=0) rfl,_,(by rw[← hp1];exact Xm z' (s5 _ _ edw)),?_⟩;exact q p w' vs z' H5 (bU S3 (hN.at hp1)) (s5 _ _ hp2) hpv hvn hzm (by omega) ⟨R,z',rest,hF,hzr,hB.nd,hzw⟩ (S4.trans s5)
def touch (ps:List (Str×Str)) (ms:List Str) (k:Nat):Bool:=match ps[k]? with
  | some e=>decide (e.1∈ms) || decide (e.2∈ms)
  | none=>false
theorem yO {ps:List (Str×Str)} {ms:List Str} {k:Nat} {e:Str×Str} (h:ps[k]? = some e):touch ps ms k=(decide (e.1∈ms) || decide (e.2∈ms)):=by unfold touch;rw[h]
def NxD (ps:List (Str×Str)) (ms:List Str) (lf_:List Nat) (start:Str) (k:Nat) (w:List Nat):Prop:=∃rest d,lf_.filter (touch ps ms)=k::rest∧ps[k]? = some d∧((d.1∈ms∧start=d.1∧BkD ps ms k d.2 w)∨(¬d.1∈ms∧start=d.2∧BkD ps ms k d.1 w))
theorem NxD.uniq {ps:List (Str×Str)} {ms:List Str} {lf_:List Nat} {start start':Str} {k k':Nat} {w w':List Nat} (h:NxD ps ms lf_ start k w) (h':NxD ps ms lf_ start' k' w'):start=start'∧k=k'∧w=w':=by
  obtain⟨rest,d,h1,h2,h3⟩:=h;obtain⟨rest',d',h1',h2',h3'⟩:=h';rw[h1] at h1';cases h1';rw[h2] at h2';cases h2'
  rcases h3 with⟨a,rfl,b⟩ | ⟨a,rfl,b⟩ <;> rcases h3' with⟨a',rfl,b'⟩ | ⟨a',rfl,b'⟩
  ·exact⟨rfl,rfl,b.uniq b'⟩
  ·exact absurd a a'
  ·exact absurd a' a
  ·exact⟨rfl,rfl,b.uniq b'⟩
structure NxE (ps:List (Str×Str)) (ms:List Str) (lf_:List Nat) (start:Str) (k:Nat) (w:List Nat):Prop where
  sm:start∈ms
  kl:k∈lf_
  ex:∃goal vs z,ni ps start k=some goal∧oO (U5 ps ms k) goal w vs z∧vs.Nodup∧z∈ms
  wl:w.length≤9
  dt:NxD ps ms lf_ start k w
def Nx (C:Addr):Sp:=fun vs H Q _=>∃(o m lf:Addr) (xs ms:List Str) (ps:List (Str×Str)) (lf_:List Nat),vs=[.ref o,.ref m,.ref lf]∧ig C H o xs ps∧GF xs∧je xs ps∧H m=some (.lst (ms.map V.str))∧ms.length≤9∧H lf=some (.lst (aX lf_))∧lf_.length≤20∧(∀k∈lf_,k<ps.length)∧(∃k∈lf_,touch ps ms k=true)∧
  (∀k e,k∈lf_→ps[k]? = some e→(e.1∈ms→∃z∈ms,RT (dI (U5 ps ms k)) e.2 z)∧(e.2∈ms→∃z∈ms,RT (dI (U5 ps ms k)) e.1 z))∧
  ∀(t r:Addr) (start:Str) (k:Nat) (w:List Nat) (H':Hp),H t=none→H r=none→H' t=some (.tup [.str start,.ref r])→H' r=some (.lst (aX (k::w)))→NxE ps ms lf_ start k w→Same H H'→Q (.ref t) H'
theorem Ny (T:Txt K mg a):cD P w K mg base mL 4 a.iJ a.pR ["web", "met", "left"] (Nx a.bW):=by
  exists T.wQ.o_,jl
  ·obtain⟨o,m,lf,xs,ms,ps,lf_,rfl,_⟩:=h;rfl
  · obtain⟨o,m,lf,xs,ms,ps,lf_,rfl,hw,hX,hTs,hm,h9,hlf,Bc,hkl,hto,hbk,q⟩:=h;refine⟨_,(aB (bw (i:=3) jl.nd rfl (Or.inr rfl) (PE.eqv (fZ (aH 0) T.j8 T.mF (m_ T) hr.d T.mD .nil bh) (gb _ _ _ _ _ _)))
      (aB (iu (i:=4) jl.nd rfl rfl rfl rfl (show bx (ao gG) _ ["web", "met", "left", "ties", "ready", "first", "second", "start", "goal"] ["number"] [1,3] ["number", "met", "ties"] from⟨rfl,by symm,by symm,rfl,by symm,by symm⟩) rfl (PI.eqv (cg (K:=K) rfl (aH 2)) (bV _ _)) (fun C s H fp pn=>(aN (i:=0) (show(["number", "met", "ties"]:List Str).Nodup by symm) rfl (Or.inl rfl))) (fun C s H fp pn=>(nM (PW.pt (lK (aZ (xV (K:=K) rfl) (bC (bG (K:=K) rfl) (bC (bG (K:=K) rfl) (aH 2) (aH 0) (fun _ _=>rfl)) aD (fun _ _=>rfl)) (aH 1) rfl) (jG (aZ (xV (K:=K) rfl) (bC (bG (K:=K) rfl) (bC (bG (K:=K) rfl) (aH 2) (aH 0) (fun _ _=>rfl)) aD (fun _ _=>rfl)) (aH 1) rfl)))))) (fun C s H fp pn=>(aH 0)))
      (aB (kh (bC (bG (K:=K) rfl) (aH 3) (bC (bG (K:=K) rfl) (aH 4) aD (fun _ _=>rfl)) (fun _ _=>rfl)) (PG.eqv (cF (K:=K) (n:=2) rfl rfl (eX.eqv (aR (aN (i:=5) jl.nd rfl (Or.inl rfl)) (eX.eqv (aR (aN (i:=6) jl.nd rfl (Or.inl rfl)) (eX.mono bZ cX)) (aU _ _))) (aU _ _))) (cI _ _ _)))
      (aB (kh (xg (aZ (xV (K:=K) rfl) (aH 5) (aH 1) rfl) (dH (aj (aH 5) (aj (aH 6) aq))) (dH (aj (aH 6) (aj (aH 5) aq)))) (PG.eqv (cF (K:=K) (n:=2) rfl rfl (eX.eqv (aR (aN (i:=7) jl.nd rfl (Or.inl rfl)) (eX.eqv (aR (aN (i:=8) jl.nd rfl (Or.inl rfl)) (eX.mono bZ cX)) (aU _ _))) (aU _ _))) (cI _ _ _)))
      (aF (bB (dH (aj (aH 7) (aj (b_ pC (cV (aj (bC (bG (K:=K) rfl) (aH 4) aD (fun _ _=>rfl)) aq)) (PE.eqv (aO (Nv T) hr.d rfl T.D_ T.wO.kp T.DY .nil bh (aj (aH 0) (aj (aH 1) (aj (aH 8) (aj (bC (bG (K:=K) rfl) (aH 4) aD (fun _ _=>rfl)) aq))))) (aK _ _ _))) aq))))))))),?_⟩
    have Nr:200≤sizeLine:=by decide
    obtain⟨dx,fs,hi,hno⟩:=hw.ins m6.1 m6.2;left;refine⟨_,_,hi,hno,o,xs,ps,rfl,hw,fun tl tv htl htv=>?_⟩;have s1:Same H (upd H tl (.lst tv)):=au htl;have e1:upd H tl (.lst tv) tl=some (.lst tv):=ak;have Nt:=htv.same s1;generalize upd H tl (.lst tv)=H1 at s1 e1 Nt ⊢;have at1:∀{k:Nat} {e:Str×Str} {H':Hp},Same H1 H'→ps[k]? = some e→∃t,tv[k]? = some (.ref t)∧H' t=some (.tup [.str e.1,.str e.2]):=fun {k e H'} s he=>by
      obtain⟨w,hw'⟩:∃w,tv[k]? = some w:=⟨_,List.getElem?_eq_getElem (by rw[htv.1];exact(List.getElem?_eq_some_iff.mp he).1)⟩;obtain⟨t,rfl,ht⟩:=Nt.2 k w e hw' he;exact⟨t,hw',s _ _ ht⟩
    have hm1:=s1 _ _ hm;have qgy:=s1 _ _ hlf;left;refine⟨⟨_,aY.of qgy⟩,fun D hD=>Ma (aX lf_) (fun i σ H'=>(∃o',σ=[o',some (.ref m),some (.ref tl)])∧H' D=some (.lst (aX ((lf_.take i).filter (touch ps ms))))∧Same H1 H') ⟨⟨_,rfl⟩,ak,au hD⟩ (fun i σ H' _ h=>aY.of (h.2.2 _ _ qgy)) ?_ ?_⟩
    · rintro i v σ H2 hiv ⟨⟨o',rfl⟩,hD2,s2⟩;obtain⟨k,hk,rfl⟩:∃k,lf_[i]? = some k∧v = .int (k:Nat):=by
        unfold aX at hiv;rw[List.getElem?_map] at hiv;obtain⟨k,hk,rfl⟩:=Option.map_eq_some_iff.mp hiv;exact⟨k,hk,rfl⟩
      have hi2:=(List.getElem?_eq_some_iff.mp hk).1;have qmq:=hkl k (List.mem_of_getElem? hk);obtain⟨e,he⟩:∃e,ps[k]? = some e:=⟨_,List.getElem?_eq_getElem qmq⟩;obtain⟨t,EY,ht⟩:=at1 s2 he;have hte:=yO (ms:=ms) he;have hm2:=s2 _ _ hm1;have et2:=s2 _ _ e1;have fl:((lf_.take i).filter (touch ps ms)).length≤i:=Nat.le_trans (List.length_filter_le _ _) (by rw[List.length_take];omega);rw[take_one hk,List.filter_append];left;refine⟨_,.inl (aY.of et2),_,aP EY,?_⟩;left;refine⟨_,.inr (cM.of ht),_,aP (j:=0) rfl,_,.inl (aY.of hm2),rfl,List.all_eq_true.mp (bR _),?_⟩;rw[bD];have add:touch ps ms k=true→upd H2 D (.lst (aX ((lf_.take i).filter (touch ps ms))++[.int (k:Nat)])) D=some (.lst (aX ((lf_.take i).filter (touch ps ms)++[k].filter (touch ps ms)))):=fun h=>by
        rw[ak,List.filter_cons,if_pos h];simp[aX]
      have non:touch ps ms k=false→H2 D=some (.lst (aX ((lf_.take i).filter (touch ps ms)++[k].filter (touch ps ms)))):=fun h=>by
        rw[List.filter_cons,if_neg (by rw[h];decide)];simpa using hD2
      have hsz:(aX ((lf_.take i).filter (touch ps ms))).length<sizeLine:=by simp[aX];omega
      by_cases h1:e.1∈ms
      ·refine dz.pos (decide_eq_true h1) ?_;left;exact⟨_,hD2,hsz,add (by rw[hte,decide_eq_true h1];rfl),aV s2 hD⟩
      · refine dz.neg (decide_eq_false h1) ?_;left;refine⟨_,.inl (aY.of et2),_,aP EY,?_⟩;left;refine⟨_,.inr (cM.of ht),_,aP (j:=1) rfl,_,.inl (aY.of hm2),rfl,List.all_eq_true.mp (bR _),?_⟩;rw[bD]
        by_cases h2:e.2∈ms
        ·refine dz.pos (decide_eq_true h2) ?_;left;exact⟨_,hD2,hsz,add (by rw[hte,decide_eq_true h2];simp),aV s2 hD⟩
        ·refine dz.neg (decide_eq_false h2) ?_;left;exact⟨non (by rw[hte,decide_eq_false h1,decide_eq_false h2];rfl),s2⟩
    · rintro σ H2 ⟨⟨o',rfl⟩,hD2,s2⟩;have nl:(aX lf_).length=lf_.length:=by simp[aX]
      rw[nl,List.take_length] at hD2;obtain⟨k,rest,hkr,hkm,hkt⟩:∃k rest,lf_.filter (touch ps ms)=k::rest∧k∈lf_∧touch ps ms k=true:=by
        obtain⟨k,h1,h2⟩:=hto;have hmem:k∈lf_.filter (touch ps ms):=List.mem_filter.mpr ⟨h1,h2⟩;cases hf:lf_.filter (touch ps ms) with
        | nil=>rw[hf] at hmem;cases hmem
        | cons k' rest=>
          have:=List.mem_filter.mp (show k'∈lf_.filter (touch ps ms) by rw[hf];exact List.mem_cons_self);exact⟨k',rest,rfl,this.1,this.2⟩
      rw[hkr] at hD2;obtain⟨e,he⟩:∃e,ps[k]? = some e:=⟨_,List.getElem?_eq_getElem (hkl k hkm)⟩;obtain⟨t,EY,ht⟩:=at1 s2 he;obtain⟨b1,b2⟩:=hbk k e hkm he;obtain⟨m1,m2,mne⟩:=hTs.ok e (List.mem_of_getElem? he);have hte:=yO (ms:=ms) he;have S2:=s1.trans s2;have hm2:=s2 _ _ hm1;have et2:=s2 _ _ e1;left;refine⟨_,.inl (aY.of hD2),_,aP (j:=0) rfl,?_⟩;left;refine⟨_,.inl (aY.of et2),_,aP EY,?_⟩;left;refine⟨_,cM.of ht,rfl,?_⟩;left;refine⟨_,.inl (aY.of hm2),rfl,List.all_eq_true.mp (bR _),?_⟩;rw[bD]
      by_cases h1:e.1∈ms
      ·refine dz.pos (decide_eq_true h1) ?_;left;intro pt hpt;exists H2,pt,(.tup [.str e.1,.str e.2]),s3,e3,H3,hpt;refine⟨_,cM.of e3,rfl,?_⟩;left;refine⟨_,.inl (aY.of (s3 _ _ hD2)),_,aP (j:=0) rfl,fun p4 hp4=>?_⟩;exists H3,p4,(.lst [.int (k:Nat)]),s4,e4,H4,hp4;have S4:=(S2.trans s3).trans s4;refine⟨_,.inl (aY.of (s4 _ _ (s3 _ _ hD2))),_,aP (j:=0) rfl,?_⟩;refine⟨o,m,k,_,xs,ms,ps,rfl,hw.same S4,hX,hTs,S4 _ _ hm,h9,m2,b1 h1,fun r5 w5 vs5 z5 H5 Wa e5 hpv hvn hzm hwl hbd s5=>?_⟩;left;refine⟨_,s5 _ _ e4,_,e5,by simp[aX];omega,fun p6 hp6=>?_⟩;have ek : [V.int (k:Nat)]++aX w5=aX (k::w5):=rfl;rw[ek];exists H5,p6,(.lst (aX (k::w5))),s6,e6,H6,hp6;have S5:=S4.trans s5;have S6:=S5.trans s6;intro p7 hp7;exact q p7 p6 _ k w5 _ (bU S6 hp7) (bU S5 hp6) ak (bN e6 hp7) ⟨h1,hkm,⟨_,vs5,z5,(by unfold ni;rw[he];simp),hpv,hvn,hzm⟩,hwl,⟨rest,e,hkr,he,.inl ⟨h1,rfl,hbd⟩⟩⟩ (S6.trans (au hp7))
      · refine dz.neg (decide_eq_false h1) ?_;have h2:e.2∈ms:=by
          rw[hte,decide_eq_false h1] at hkt;simpa using hkt
        left;intro pt hpt;exists H2,pt,(.tup [.str e.2,.str e.1]),s3,e3,H3,hpt;refine⟨_,cM.of e3,rfl,?_⟩;left;refine⟨_,.inl (aY.of (s3 _ _ hD2)),_,aP (j:=0) rfl,fun p4 hp4=>?_⟩;exists H3,p4,(.lst [.int (k:Nat)]),s4,e4,H4,hp4;have S4:=(S2.trans s3).trans s4;refine⟨_,.inl (aY.of (s4 _ _ (s3 _ _ hD2))),_,aP (j:=0) rfl,?_⟩;refine⟨o,m,k,_,xs,ms,ps,rfl,hw.same S4,hX,hTs,S4 _ _ hm,h9,m1,b2 h2,fun r5 w5 vs5 z5 H5 Wa e5 hpv hvn hzm hwl hbd s5=>?_⟩;left;refine⟨_,s5 _ _ e4,_,e5,by simp[aX];omega,fun p6 hp6=>?_⟩;have ek : [V.int (k:Nat)]++aX w5=aX (k::w5):=rfl;rw[ek];exists H5,p6,(.lst (aX (k::w5))),s6,e6,H6,hp6;have S5:=S4.trans s5;have S6:=S5.trans s6;intro p7 hp7;exact q p7 p6 _ k w5 _ (bU S6 hp7) (bU S5 hp6) ak (bN e6 hp7) ⟨h2,hkm,⟨_,vs5,z5,(by unfold ni;rw[he];simp[mne.symm]),hpv,hvn,hzm⟩,hwl,⟨rest,e,hkr,he,.inr ⟨h1,rfl,hbd⟩⟩⟩ (S6.trans (au hp7))
theorem Nz {f:Str×Str→Nat→List (Nat×List Str)}:∀{ps:List (Str×Str)} {k:Nat},lW f ps k=[]→∀(j:Nat) e,ps[j]? = some e→f e (k+j)=[]
  | [],k,_,j,e,h=>by simp at h
  | d::ps,k,h,j,e,he=>by
    rw[lW,List.append_eq_nil_iff] at h;cases j with
    | zero=>simp at he;subst he;exact h.1
    | succ j=>
      have:=Nz h.2 j e (by simpa using he)
      rwa [show k+(j+1)=k+1+j by omega]
theorem YW {ps:List (Str×Str)} {xs:List Str} (h:kO ps xs=[]):∀(j:Nat) e,ps[j]? = some e→RT (jW (fun i=>i≠j) ps) e.1 e.2:=fun j e he=>by
  have h1:=Nz h j e he;rw[Nat.zero_add] at h1;unfold kJ at h1;split at h1
  ·rename_i h2;exact((j6.mp h2).2).symm fun _ _ z=>z.symm
  ·cases h1
theorem qx {ps:List (Str×Str)} {n:Nat} {a b:Str}:(n,a,b)∈aG (fun _=>none) ps 0↔∃e,ps[n]? = some e∧((a=e.1∧b=e.2)∨(a=e.2∧b=e.1)):=by
  rw[uN];simp
theorem qdU {ps:List (Str×Str)}:∀a b,dI (aG (fun _=>none) ps 0) a b→dI (aG (fun _=>none) ps 0) b a:=fun a b ⟨n,h⟩=>by
  obtain⟨e,he,h⟩:=qx.mp h;exact⟨n,qx.mpr ⟨e,he,h.elim (fun z=>.inr ⟨z.2,z.1⟩) fun z=>.inl ⟨z.2,z.1⟩⟩⟩
theorem NK {S:List jd} {xs:List Str}:∀(ys:List Str) (acc:List (List Str)) (c:List Str),c∈acc→c∈ys.foldl (gW S xs) acc
  | [],acc,c,h=>h
  | y::ys,acc,c,h=>by
    refine NK ys _ c ?_;unfold gW;split
    ·exact h
    ·exact List.mem_append_left _ h
theorem E_ {S:List jd} {xs:List Str}:∀(ys:List Str) (acc:List (List Str)) (y:Str),y∈ys→y∈xs→∃c∈ys.foldl (gW S xs) acc,y∈c
  | [],acc,y,h,_=>by cases h
  | x::ys,acc,y,h,hx=>by
    rcases List.mem_cons.mp h with rfl | h
    · obtain⟨c,hc,hy⟩:∃c∈gW S xs acc y,y∈c:=by
        unfold gW;split
        ·rename_i h2;obtain⟨c,h1,h2⟩:=List.any_eq_true.mp h2;exact⟨c,h1,of_decide_eq_true h2⟩
        ·exact⟨lM S xs y,by simp,kI.mpr ⟨hx,.refl _⟩⟩
      exact⟨c,NK ys _ c hc,hy⟩
    ·exact E_ ys _ y h hx
theorem YX {ps:List (Str×Str)} {xs:List Str} (h:(oX ps xs).length≤1):∀x∈xs,∀y∈xs,RT (dI (aG (fun _=>none) ps 0)) x y:=fun x hx y hy=>by
  unfold oX Bb at h;obtain⟨c,hc,h1⟩:=E_ (S:=aG (fun _=>none) ps 0) (xs:=xs) xs [] x hx hx;obtain⟨d,hd,h2⟩:=E_ (S:=aG (fun _=>none) ps 0) (xs:=xs) xs [] y hy hy;have hm:=Mi (S:=aG (fun _=>none) ps 0) (xs:=xs) xs [] (by simp) (fun z hz=>hz);generalize xs.foldl (gW (aG (fun _=>none) ps 0) xs) []=cs at h hc hd hm;have hcd:c=d:=by
    match cs,h,hc,hd with
    | [z],_,hc,hd=>
      rw[List.mem_singleton] at hc hd;rw[hc,hd]
  subst hcd;obtain⟨x0,_,rfl⟩:=hm c hc;exact((kI.mp h1).2.symm qdU).trans (kI.mp h2).2
structure EI (ps:List (Str×Str)) (xs ms:List Str) (lf_:List Nat):Prop where
  ne:∃x,x∈ms
  sub:∀x∈ms,x∈xs
  nd:ms.Nodup
  lt:∀k∈lf_,k<ps.length
  us:∀k e,ps[k]? = some e→k∉lf_→e.1∈ms∧e.2∈ms
theorem EI.full {ps:List (Str×Str)} {xs ms:List Str} {lf_:List Nat} (h:EI ps xs ms lf_) (con:∀x∈xs,∀y∈xs,RT (dI (aG (fun _=>none) ps 0)) x y) (hno:∀k∈lf_,touch ps ms k=false):∀x∈xs,x∈ms:=fun x hx=>by
  obtain⟨x0,hx0⟩:=h.ne;refine RT.closed (P:=fun y=>y∈ms) (fun p q hs hp=>?_) hx0 (con x0 (h.sub _ hx0) x hx);obtain⟨n,hn⟩:=hs;obtain⟨e,he,hn⟩:=qx.mp hn
  by_cases hl:n∈lf_
  · have:=hno n hl;rw[yO he] at this;simp at this
    rcases hn with⟨rfl,rfl⟩ | ⟨rfl,rfl⟩
    ·exact absurd hp this.1
    ·exact absurd hp this.2
  · have:=h.us n e he hl
    rcases hn with⟨rfl,rfl⟩ | ⟨rfl,rfl⟩
    ·exact this.2
    ·exact this.1
theorem EI.touch {ps:List (Str×Str)} {xs ms:List Str} {lf_:List Nat} (h:EI ps xs ms lf_) (hTs:je xs ps) (con:∀x∈xs,∀y∈xs,RT (dI (aG (fun _=>none) ps 0)) x y) (hl:lf_≠[]):∃k∈lf_,touch ps ms k=true:=by
  apply Classical.byContradiction;intro hno;have hno':∀k∈lf_,K35.touch ps ms k=false:=fun k hk=>by
    cases ht:K35.touch ps ms k with
    | false=>rfl
    | true=>exact absurd ⟨k,hk,ht⟩ hno
  have hf:=h.full con hno';obtain⟨k,r,rfl⟩:∃k r,lf_=k::r:=by
    cases lf_ with
    | nil=>exact absurd rfl hl
    | cons k r=>exact⟨k,r,rfl⟩
  obtain⟨e,he⟩:∃e,ps[k]? = some e:=⟨_,List.getElem?_eq_getElem (h.lt k List.mem_cons_self)⟩;have:=hno' k List.mem_cons_self;rw[yO he] at this;simp at this;exact this.1 (hf _ (hTs.ok e (List.mem_of_getElem? he)).1)
theorem NP {ps:List (Str×Str)} {ms:List Str} {k:Nat} {g y:Str} (h:RT (jW (fun i=>i≠k) ps) g y) (hy:y∈ms):∃z∈ms,RT (dI (U5 ps ms k)) g z:=by
  have key:∀y,RT (jW (fun i=>i≠k) ps) g y→(∃z∈ms,RT (dI (U5 ps ms k)) g z)∨RT (dI (U5 ps ms k)) g y:=by
    intro y h
    induction h with
    | refl=>exact .inr (.refl _)
    | @tail b c _ st ih=>
      rcases ih with ih | ih
      ·exact .inl ih
      · by_cases hb:b∈ms
        ·exact .inl ⟨b,hb,ih⟩
        · obtain⟨n,hn,he⟩:=st;refine .inr (.tail ih ⟨n,List.mem_filter.mpr ⟨qx.mpr ?_,by simp[Z8,hn,hb]⟩⟩)
          rcases he with he | he
          ·exact⟨_,he,.inl ⟨rfl,rfl⟩⟩
          ·exact⟨_,he,.inr ⟨rfl,rfl⟩⟩
  rcases key y h with h | h
  ·exact h
  ·exact⟨y,hy,h⟩
theorem U7 {ps:List (Str×Str)} {xs:List Str} (hTs:je xs ps) {n:Nat} {b c:Str} (h:(n,b,c)∈aG (fun _=>none) ps 0):ni ps b n=some c:=by
  obtain⟨e,he,h⟩:=qx.mp h;have hne:=(hTs.ok e (List.mem_of_getElem? he)).2.2;unfold ni;rw[he]
  rcases h with⟨rfl,rfl⟩ | ⟨rfl,rfl⟩
  ·simp
  ·simp[hne.symm]
theorem YZ {ps:List (Str×Str)} {xs ms:List Str} (hTs:je xs ps) {k:Nat} {a b:Str} {w:List Nat} {vs:List Str} (h:oO (U5 ps ms k) a w vs b):∀ks,bK ps a (w++ks)=vs.tail++bK ps b ks:=by
  induction h with
  | nil=>intro ks;rfl
  | @snoc w vs b c n hp hs ih=>
    intro ks;have hl:=hp.len;rw[List.append_assoc,ih];show vs.tail++bK ps b (n::ks)=_;rw[gU,U7 hTs (List.mem_filter.mp hs).1];cases vs with
    | nil=>simp at hl
    | cons v vs=>simp
theorem qbc {ps:List (Str×Str)} {xs ms:List Str} (hTs:je xs ps) {k:Nat} {start goal z:Str} {w:List Nat} {vs:List Str} (hg:ni ps start k=some goal) (h:oO (U5 ps ms k) goal w vs z):bK ps start (k::w)=vs:=by
  rw[gU,hg];have h1:=YZ hTs h [];rw[List.append_nil] at h1;obtain⟨l1,l2,_⟩:=h.at
  show goal::bK ps goal w=vs;rw[h1];cases vs with
  | nil=>simp at l2
  | cons v vs=>
    simp at l2;subst l2;simp[bK]
structure wj (ps:List (Str×Str)) (ms:List Str) (gone:List Nat) (e:Str×List Nat):Prop where
  sm:e.1∈ms
  ne:e.2≠[]
  nd:e.2.Nodup
  lt:∀k∈e.2,k<ps.length
  fr:∀k∈e.2,k∉gone
  ln:(bK ps e.1 e.2).length=e.2.length
  en:∃z,(bK ps e.1 e.2).getLast? = some z∧z∈ms
  pn:(bK ps e.1 e.2).dropLast.Nodup
  pf:∀p∈(bK ps e.1 e.2).dropLast,p∉ms
inductive jr (ps:List (Str×Str)) (jV:List Str):List (Str×List Nat)→List Str→List Nat→Prop where
  | nil:jr ps jV [] jV []
  | snoc {row:List (Str×List Nat)} {ms:List Str} {gone:List Nat} {e:Str×List Nat}:jr ps jV row ms gone→wj ps ms gone e→jr ps jV (row++[e]) (ms++(bK ps e.1 e.2).dropLast) (gone++e.2)
theorem qbd {ms:List Str} {w:List Nat} {vs:List Str} {S:List jd} {a z:Str} (h:oO S a w vs z) (hz:z∈ms):∀v∈vs,v∈ms++vs.dropLast:=fun v hv=>by
  obtain⟨l1,_,l3,_⟩:=h.at
  have hne:vs≠[]:=fun z=>by rw[z] at l1;simp at l1
  have e:vs=vs.dropLast++[vs.getLast hne]:=(List.dropLast_concat_getLast hne).symm;have hl:vs.getLast hne=z:=by
    have:vs.getLast? = some z:=by rw[List.getLast?_eq_getElem?,l1];exact l3
    rw[List.getLast?_eq_some_getLast hne] at this;exact Option.some.inj this
  rw[e,hl] at hv
  rcases List.mem_append.mp hv with hv | hv
  ·exact List.mem_append_right _ hv
  ·rw[List.mem_singleton] at hv;rw[hv];exact List.mem_append_left _ hz
theorem EI.next {ps:List (Str×Str)} {xs ms:List Str} {lf_ gone:List Nat} {start:Str} {k:Nat} {w:List Nat} (h:EI ps xs ms lf_) (hTs:je xs ps) (hlg:∀j∈lf_,j∉gone) (x:NxE ps ms lf_ start k w) :
    wj ps ms gone (start,k::w)∧EI ps xs (ms++(bK ps start (k::w)).dropLast) (lf_.filter fun j=>!decide (j∈k::w)):=by
  obtain⟨goal,vs,z,hg,hp,hvn,hz⟩:=x.ex;have U8:=qbc hTs hg hp;obtain⟨l1,l2,l3,l4⟩:=hp.at
  have hst:∀(i:Nat) n,w[i]? = some n→∃u v,vs[i]? = some u∧vs[i+1]? = some v∧(n,u,v)∈aG (fun _=>none) ps 0∧n≠k∧u∉ms:=fun i n hn=>by
    obtain⟨u,v,h1,h2,h3⟩:=l4 i n hn;obtain⟨h4,h5⟩:=List.mem_filter.mp h3;simp[Z8] at h5;exact⟨u,v,h1,h2,h4,h5.1,h5.2⟩
  have wl:∀n∈w,n∈lf_∧n≠k:=fun n hn=>by
    obtain⟨i,hi,rfl⟩:=List.mem_iff_getElem.mp hn;obtain⟨u,v,h1,h2,h3,h4,h5⟩:=hst i _ (List.getElem?_eq_getElem hi);refine⟨Classical.byContradiction fun hnl=>?_,h4⟩;obtain⟨e,he,h6⟩:=qx.mp h3;have:=h.us _ e he hnl
    rcases h6 with⟨rfl,_⟩ | ⟨rfl,_⟩
    ·exact h5 this.1
    ·exact h5 this.2
  have vin:∀v∈vs,v∈xs:=fun v hv=>by
    obtain⟨i,hi,rfl⟩:=List.mem_iff_getElem.mp hv;cases i with
    | zero=>
      have e0:vs[0]=goal:=by rw[List.getElem?_eq_getElem hi] at l2;exact Option.some.inj l2
      rw[e0];unfold ni at hg;cases hk:ps[k]? with
      | none=>rw[hk] at hg;cases hg
      | some e=>
        rw[hk] at hg;obtain⟨m1,m2,_⟩:=hTs.ok e (List.mem_of_getElem? hk);simp only at hg;split at hg
        ·cases hg;exact m2
        · split at hg
          ·cases hg;exact m1
          ·cases hg
    | succ i=>
      obtain⟨u,v,_,h2,h3,_⟩:=hst i _ (List.getElem?_eq_getElem (by omega));rw[List.getElem?_eq_getElem hi] at h2;cases h2;obtain⟨e,he,h6⟩:=qx.mp h3;obtain⟨m1,m2,_⟩:=hTs.ok e (List.mem_of_getElem? he)
      rcases h6 with⟨_,h7⟩ | ⟨_,h7⟩
      ·rw[h7];exact m2
      ·rw[h7];exact m1
  have wnd:w.Nodup:=by
    unfold List.Nodup;rw[List.pairwise_iff_getElem];intro i j hi hj hij e;obtain⟨u,v,h1,h2,h3,_⟩:=hst i _ (List.getElem?_eq_getElem hi);obtain⟨u',v',g1,g2,g3,_⟩:=hst j _ (List.getElem?_eq_getElem hj);obtain⟨d,hd,h4⟩:=qx.mp h3;rw[e] at hd;obtain⟨d',hd',g4⟩:=qx.mp g3;rw[hd] at hd';cases hd';have inj:∀{i j:Nat} {y:Str},vs[i]? = some y→vs[j]? = some y→i=j:=fun h1 h2=>tV hvn h1 h2
    rcases h4 with⟨a1,a2⟩ | ⟨a1,a2⟩ <;> rcases g4 with⟨b1,b2⟩ | ⟨b1,b2⟩
    ·have:=inj (a1▸h1) (b1▸g1);omega
    ·have:=inj (a1▸h1) (b2▸g2);omega
    ·have:=inj (a1▸h1) (b2▸g2);omega
    ·have:=inj (a1▸h1) (b1▸g1);omega
  have dn:∀p∈vs.dropLast,p∉ms:=fun p hp'=>by
    obtain⟨i,hi,rfl⟩:=List.mem_iff_getElem.mp hp';rw[List.length_dropLast] at hi;obtain⟨u,v,h1,_,_,_,h5⟩:=hst i _ (List.getElem?_eq_getElem (by omega));rw[List.getElem_dropLast];rw[List.getElem?_eq_getElem (by omega)] at h1;cases h1;exact h5
  have dnd:vs.dropLast.Nodup:=hvn.sublist (List.dropLast_sublist _);have kw:(k::w).Nodup:=List.nodup_cons.mpr ⟨fun z=>(wl k z).2 rfl,wnd⟩;have K9:∀j∈k::w,j∈lf_:=fun j hj=>by
    rcases List.mem_cons.mp hj with rfl | hj
    ·exact x.kl
    ·exact(wl j hj).1
  have qdV:=qbd hp hz;refine⟨⟨x.sm,by simp,kw,fun j hj=>h.lt j (K9 j hj),fun j hj=>hlg j (K9 j hj),by rw[U8];simp[l1],⟨z,by rw[U8,List.getLast?_eq_getElem?,l1];exact l3,hz⟩,by rw[U8];exact dnd,by rw[U8];exact dn⟩,?_⟩;rw[U8];refine⟨⟨start,List.mem_append_left _ x.sm⟩,fun y hy=>?_,?_,fun j hj=>h.lt j (List.mem_filter.mp hj).1,fun j e he hj=>?_⟩
  · rcases List.mem_append.mp hy with hy | hy
    ·exact h.sub y hy
    ·exact vin y (List.dropLast_subset _ hy)
  ·exact List.nodup_append.mpr ⟨h.nd,dnd,fun a ha b hb z=>dn b hb (z▸ha)⟩
  · by_cases hjl:j∈lf_
    · have hjk:j∈k::w:=by
        apply Classical.byContradiction;intro hn;exact hj (List.mem_filter.mpr ⟨hjl,by simpa using hn⟩)
      rcases List.mem_cons.mp hjk with rfl | hjw
      · have hgv:goal∈ms++vs.dropLast:=qdV goal (List.mem_of_getElem? l2);have hsm:start∈ms++vs.dropLast:=List.mem_append_left _ x.sm;unfold ni at hg;rw[he] at hg;simp only at hg;split at hg
        ·rename_i h1;cases hg;exact⟨h1▸hsm,hgv⟩
        · split at hg
          ·rename_i h2;cases hg;exact⟨hgv,h2▸hsm⟩
          ·cases hg
      · obtain⟨i,hi,rfl⟩:=List.mem_iff_getElem.mp hjw;obtain⟨u,v,h1,h2,h3,_⟩:=hst i _ (List.getElem?_eq_getElem hi);obtain⟨d,hd,h4⟩:=qx.mp h3;rw[he] at hd;cases hd;have hu:=qdV u (List.mem_of_getElem? h1);have hv:=qdV v (List.mem_of_getElem? h2)
        rcases h4 with⟨rfl,rfl⟩ | ⟨rfl,rfl⟩
        ·exact⟨hu,hv⟩
        ·exact⟨hv,hu⟩
    ·have:=h.us j e he hjl;exact⟨List.mem_append_left _ this.1,List.mem_append_left _ this.2⟩
def qbe (C:Addr):Sp:=fun vs H Q _=>∃o xs ps,vs=[.ref o]∧ig C H o xs ps∧Q (.int ps.length) H
theorem pY (T:Txt K mg a):cD P w K mg base mL 1 a.gM a.pP ["self"] (qbe a.bW):=by
  exists T.DX.o_,MP
  ·obtain⟨o,xs,ps,rfl,_⟩:=h;rfl
  ·obtain⟨o,xs,ps,rfl,⟨dx,n,m,tv,h1,h2,h3,h4,h5⟩,q⟩:=h;refine⟨_,(aF (bB (aM (bT (K:=K) rfl) rfl T.nm.len PySem.boot_len (aj (PE.eqv (Jx (K:=K) rfl (aH 0) rfl) (JT _ _ _)) aq)))),?_⟩;left;refine⟨_,_,_,h1,T.j8,T.BP,_,rfl,_,.inr (cM.of h3),?_⟩;rw[h4.1];exact q
theorem Y0 {K:W.Frag} {g:Int→Int→V} {i:Nat} {x:V}:∀(σ:St) (H:Hp) (Q Q':Bool→Hp→Prop),(∀(b:Bool) (H1:Hp),Q b H1→Q' b H1)→
    qH (V6 (V8 g) (tCB (Dc K) (Ho (fVar i) O9)) (tC x)) σ H Q→qH (V6 (V8 g) (tCB (Dc K) (Ho (fVar i) O9)) (tC x)) σ H Q':=by
  intro σ H Q Q' f h;refine getSt.imp (fun v h=>isRef.imp (fun p h=>?_) h) h;obtain⟨ys,h1,h2⟩:=h;refine⟨ys,h1,?_⟩;obtain⟨n,rfl,h3⟩:=isInt.out (x:=x) h2;exact sZ.imp (fun b h=>f _ _ h) h3
def qdW (σ:List (Option V)) (H:Hp):Nat:=match σ[2]? with
  | some (some (V.ref t))=>(match H t with
    | some (.lst vs)=>vs.length
    | _=>0)
  | _=>0
theorem R6 {o0 o1:Option V} {t:Addr} {r:List (Option V)} {H:Hp} {vs:List V} (h:H t=some (.lst vs)):qdW (o0::o1::some (.ref t)::r) H=vs.length:=by
  unfold qdW;simp only[List.getElem?_cons_succ,List.getElem?_cons_zero,h]
def NQ (H0:Hp) (rl:Addr) (H:Hp) (v:V) (e:Str×List Nat):Prop:=∃t r,v = .ref t∧H t=some (.tup [.str e.1,.ref r])∧H r=some (.lst (aX e.2))∧H0 r=none∧r≠rl
theorem NQ.same {H0 H H':Hp} {rl:Addr} (s:Same H H'):∀v e,NQ H0 rl H v e→NQ H0 rl H' v e:=fun v e ⟨t,r,h1,h2,h3,h4⟩=>⟨t,r,h1,s _ _ h2,s _ _ h3,h4⟩
theorem qbf {n j:Nat} {d:Nat}:HT.Ab n d (some (j:Int))=min j n:=by
  simp[HT.Ab];intro h;omega
theorem R7 {xs:List V} {j:Nat}:qF xs none (some (j:Int))=xs.take j:=by
  unfold qF;rw[qbf];simp[HT.Ab,List.take_eq_take_iff]
theorem Fb {xs:List V}:qF xs none (some (-1))=xs.dropLast:=by
  unfold qF;have h1:HT.Ab xs.length xs.length (some (-1))=xs.length - 1:=by
    simp[HT.Ab];omega
  have h2:HT.Ab xs.length 0 none=0:=by simp[HT.Ab]
  rw[h1,h2,List.drop_zero,Nat.sub_zero,List.dropLast_eq_take]
theorem NT (x:Int) (xs:List Int):inV (.int x) (xs.map V.int)=decide (x∈xs):=by
  unfold inV
  induction xs with
  | nil=>rfl
  | cons y ys ih=>
    rw[List.map_cons,List.any_cons,ih]
    by_cases h:x=y
    ·subst h;simp[Tw]
    ·simp[Tw,h,Ne.symm h]
theorem Fd (xs:List Int):(xs.map V.int).all jZ=true:=by
  rw[List.all_eq_true];intro v hv;obtain⟨x,_,rfl⟩:=List.mem_map.mp hv;rfl
inductive qU (ps:List (Str×Str)) (jV:List Str):List (Str×List Nat)→List Str→List Nat→Prop where
  | nil:qU ps jV [] jV (List.range ps.length)
  | snoc {row:List (Str×List Nat)} {ms:List Str} {lf_:List Nat} {start:Str} {k:Nat} {w:List Nat}:qU ps jV row ms lf_→NxD ps ms lf_ start k w→qU ps jV (row++[(start,k::w)]) (ms++(bK ps start (k::w)).dropLast) (lf_.filter fun j=>!decide (j∈k::w))
theorem qU.same {ps:List (Str×Str)} {jV:List Str}:∀{row uz:List (Str×List Nat)} {ms NZ:List Str} {lf_ left':List Nat},qU ps jV row ms lf_→qU ps jV uz NZ left'→row.length=uz.length→row=uz∧ms=NZ∧lf_=left':=by
  intro row uz ms NZ lf_ left' h
  induction h generalizing uz NZ left' with
  | nil=>
    intro h' hl;cases h' with
    | nil=>exact⟨rfl,rfl,rfl⟩
    | snoc _ _=>simp at hl
  | snoc h1 h2 ih=>
    intro h' hl;cases h' with
    | nil=>simp at hl
    | snoc h1' h2'=>
      obtain⟨rfl,rfl,rfl⟩:=ih h1' (by simpa using hl);obtain⟨rfl,rfl,rfl⟩:=h2.uniq h2';exact⟨rfl,rfl,rfl⟩
theorem qU.take {ps:List (Str×Str)} {jV:List Str} {row:List (Str×List Nat)} {ms:List Str} {lf_:List Nat} (h:qU ps jV row ms lf_):∀n,n<row.length→∃NZ left',qU ps jV (row.take n) NZ left'∧left'≠[]:=by
  induction h with
  | nil=>intro n hn;simp at hn
  | @snoc row ms lf_ start k w h1 h2 ih=>
    intro n hn
    by_cases hl:n<row.length
    ·obtain⟨NZ,left',h3,h4⟩:=ih n hl;rw[List.take_append_of_le_length (Nat.le_of_lt hl)];exact⟨NZ,left',h3,h4⟩
    · have:n=row.length:=by simp at hn;omega
      subst this;rw[List.take_append_of_le_length (Nat.le_refl _),List.take_length];refine⟨ms,lf_,h1,fun z=>?_⟩;obtain⟨rest,d,h3,_⟩:=h2;rw[z] at h3;simp at h3
theorem qU.uniq {ps:List (Str×Str)} {jV:List Str} {row uz:List (Str×List Nat)} {ms NZ:List Str} (h:qU ps jV row ms []) (h':qU ps jV uz NZ []):row=uz:=by
  have key:∀{row uz:List (Str×List Nat)} {ms NZ:List Str},qU ps jV row ms []→qU ps jV uz NZ []→¬row.length<uz.length:=fun {row uz ms NZ} h h' hl=>by
    obtain⟨m2,l2,h3,h4⟩:=h'.take row.length hl;obtain⟨_,_,e⟩:=qU.same h h3 (by rw[List.length_take];omega);exact h4 e.symm
  have h1:=key h h';have h2:=key h' h;exact(qU.same h h' (by omega)).1
def qbg (C Pa Ba:Addr):Sp:=fun vs H Q E=>∃(o:Addr) (xs:List Str) (ps:List (Str×Str)),vs=[.ref o]∧ig C H o xs ps∧GF xs∧je xs ps∧
  ((oX ps xs).length≤1→kO ps xs=[]→∀(rl:Addr) (tr:List V) (row:List (Str×List Nat)) (ms:List Str) (gone:List Nat) (H':Hp),H rl=none→H' rl=some (.lst tr)→bJ (NQ H rl) H' tr row→jr ps (xs.take 1) row ms gone→EI ps xs ms []→(∀x∈xs,x∈ms)→gone.Nodup→gone.length=ps.length→tr.length≤20→qU ps (xs.take 1) row ms []→Same H H'→Q (.ref rl) H')∧
  (∀c r,oX ps xs=c::r→r≠[]→∀(dx cc:Addr) (H':Hp),H cc=none→H' dx=some (jh dx [("lot",.ref cc)])→H' cc=some (.lst (c.map V.str))→Same H H'→E (.ref Pa) (some dx) H')∧
  ((oX ps xs).length≤1→∀k lot rest,kO ps xs=(k,lot)::rest→∀(dx c:Addr) (H':Hp),H c=none→H' dx=some (jh dx [("tie",.int (k:Nat)),("lot",.ref c)])→H' c=some (.lst (lot.map V.str))→Same H H'→E (.ref Ba) (some dx) H')
theorem qbh (T:Txt K mg a):cD P w K mg base (V9 P w) 6 a.rP a.Bw ["web"] (qbg a.bW a.bH a.bF):=by
  exists T.Ql.qdz,pH
  ·obtain⟨o,xs,ps,rfl,_⟩:=h;rfl
  · obtain⟨o,xs,ps,rfl,hw,hX,hTs,q1,q2,q3⟩:=h;refine⟨_,(aB (cB (PE.eqv (aO (Bg T) hr.d rfl T.uh T.oU.kp T.ug .nil (Bt.passes rfl) (aj (aH 0) aq)) (aK _ _ _)))
      (aB (bw (i:=1) pH.nd rfl (Or.inl rfl) (jg (uc (K:=K) rfl) (PE.eqv (fZ (aH 0) T.j8 T.jE (jO T) hr.d T.jD .nil bh) (gb _ _ _ _ _ _)) mK (PO.eqv (jQ aD) (iT _))))
      (aB (bw (i:=2) pH.nd rfl (Or.inl rfl) (xW rfl rfl T.nm.list rfl T.nm.range (aj (PE.eqv (fZ (aH 0) T.j8 T.oV (pY T) hr.d T.oR .nil bh) (gb _ _ _ _ _ _)) aq)))
      (aB (bw (i:=3) pH.nd rfl (Or.inl rfl) (cV aq))
      (aB (Ld PassesOwn.leaving (aZ t_ (aM (bT (K:=K) rfl) rfl T.nm.len PySem.boot_len (aj (aH 2) aq)) aD (bM _))
      (aB (kh (PE.eqv (aO (Ny T) hr.d rfl T.Eb T.wQ.kp T.Ea .nil bh (aj (aH 0) (aj (aH 1) (aj (aH 2) aq)))) (aK _ _ _)) (PG.eqv (cF (K:=K) (n:=2) rfl rfl (eX.eqv (aR (aN (i:=4) pH.nd rfl (Or.inl rfl)) (eX.eqv (aR (aN (i:=5) pH.nd rfl (Or.inr rfl)) (eX.mono bZ cX)) (aU _ _))) (aU _ _))) (cI _ _ _)))
      (aB (cB (gZ (K:=K) rfl PySem.F.plainAttrs_list PySem.F.slot_list_append PySem.F.type_list_append cu (aH 3) (aj (dH (aj (aH 4) (aj (aH 5) aq))) aq)))
      (aB (bw (i:=1) pH.nd rfl (Or.inl rfl) (b_ pC (aH 1) (jg (uc (K:=K) rfl) (PE.eqv (aO (jU T) hr.d rfl T.jq T.h_.kp T.jo .nil bh (aj (aH 0) (aj (aH 4) (aj (aH 5) aq)))) (aK _ _ _)) mK (PO.eqv (jQ (Rf Br aD)) (iT _)))))
      (aF (iu (i:=2) pH.nd rfl rfl rfl rfl (show bx (ao ql) _ ["web", "met", "left", "row", "start", "numbers"] ["number"] [5] ["number", "numbers"] from⟨rfl,by symm,by symm,rfl,by symm,by symm⟩) rfl (PI.eqv (cg (K:=K) rfl (aH 2)) (bV _ _)) (fun C s H fp pn=>(aN (i:=0) (show(["number", "numbers"]:List Str).Nodup by symm) rfl (Or.inl rfl))) (fun C s H fp pn=>(nM (aZ (nU (K:=K) rfl) (aH 0) (aH 1) rfl))) (fun C s H fp pn=>(aH 0))))))))
      (aF (bB (aH 3)))))))),?_⟩
    have Nr:200≤sizeLine:=by decide
    have Bc:=hTs.len;have x9:=hX.len;left;refine⟨o,xs,ps,rfl,hw,hX,hTs,fun hcl hb H1 s1=>?_,fun c r hcr hr0 dx cc H1 hc hdx ec s1=>q2 c r hcr hr0 dx cc H1 hc hdx ec s1,fun hcl k lot rest hb dx c H1 hc hdx ec s1=>q3 hcl k lot rest hb dx c H1 hc hdx ec s1⟩;have con:=YX hcl;have qgz:=YW hb;obtain⟨dx,fs,hi,hno⟩:=(hw.same s1).ins iY.1 iY.2;left;refine⟨_,_,hi,hno,o,xs,ps,rfl,hw.same s1,fun pl hpl=>?_⟩;exists H1,pl,(.lst (xs.map V.str)),s2,e2,H2,hpl;have S2:=s1.trans s2;refine⟨_,aY.of e2,fun m0 hm0=>?_⟩;rw[show(1:Int)=((1:Nat):Int) from rfl,R7,← List.map_take];exists H2,m0,(.lst ((xs.take 1).map V.str)),s3,e3,H3,hm0;have S3:=S2.trans s3;obtain⟨dx',fs',hi',hno'⟩:=(hw.same S3).ins (m:= "many") (by symm) (by symm);left;refine⟨_,_,hi',hno',o,xs,ps,rfl,hw.same S3,?_⟩;left;refine⟨by omega,fun lf0 qmr=>?_⟩;have s4:Same H3 (upd H3 lf0 (.lst ((List.range ps.length).map fun i=>V.int (i:Nat)))):=au qmr;have e4:upd H3 lf0 (.lst ((List.range ps.length).map fun i=>V.int (i:Nat))) lf0=some (.lst (aX (List.range ps.length))):=ak;generalize upd H3 lf0 (.lst ((List.range ps.length).map fun i=>V.int (i:Nat)))=H4 at s4 e4 ⊢;have S4:=S3.trans s4;intro rl hrl;have s5:Same H4 (upd H4 rl (.lst [])):=au hrl;have e5:upd H4 rl (.lst []) rl=some (.lst []):=ak;have m0r:m0≠rl:=fun z=>by have:=s4 _ _ e3;rw[z,hrl] at this;cases this
    have lfr:lf0≠rl:=fun z=>by rw[z,hrl] at e4;cases e4
    generalize upd H4 rl (.lst [])=H5 at s5 e5 ⊢;have S5:=S4.trans s5;have rl0:H rl=none:=bU S4 hrl;have x1:=hX.len.1;have qms:EI ps xs (xs.take 1) (List.range ps.length):=by
      refine⟨?_,fun x hx=>List.mem_of_mem_take hx,hX.nd.sublist (List.take_sublist _ _),fun k hk=>List.mem_range.mp hk,fun k e he hk=>absurd (List.mem_range.mpr (List.getElem?_eq_some_iff.mp he).1) hk⟩;cases hxs:xs with
      | nil=>rw[hxs] at x1;simp at x1
      | cons x r=>exact⟨x,by simp⟩
    refine whB (fun σ H'=>∃(m lf:Addr) (ms:List Str) (lf_ gone:List Nat) (tr:List V) (row:List (Str×List Nat)) (o4 o5:Option V),σ=[some (.ref o),some (.ref m),some (.ref lf),some (.ref rl),o4,o5]∧H' m=some (.lst (ms.map V.str))∧H' lf=some (.lst (aX lf_))∧m≠rl∧lf≠rl∧EI ps xs ms lf_∧jr ps (xs.take 1) row ms gone∧gone.Nodup∧(∀j,j∈lf_↔j<ps.length∧j∉gone)∧(∀j∈gone,j<ps.length)∧
        H' rl=some (.lst tr)∧bJ (NQ H rl) H' tr row∧tr.length+lf_.length≤ps.length∧qU ps (xs.take 1) row ms lf_∧Same H H') qdW
      ⟨m0,lf0,xs.take 1,List.range ps.length,[],[],[],none,none,rfl,s5 _ _ (s4 _ _ e3),s5 _ _ e4,m0r,lfr,qms,.nil,by simp,fun j=>by simp,by simp,e5,bJ.nil,by simp,.nil,S5⟩ ?_ Y0
    rintro σ H6 ⟨m,lf,ms,lf_,gone,tr,row,o4,o5,rfl,em,elf,mr,qmt,Y4,qb9,gnd,hlg,glt,erl,htr,hln,hED,S6⟩;have nl:(aX lf_).length=lf_.length:=by simp[aX]
    rw[R6 elf];left;refine⟨_,.inl (aY.of elf),dz.of (fun h=>?_) (fun h=>?_)⟩
    · have hpos:=of_decide_eq_true h;rw[nl] at hpos;have hne:lf_≠[]:=fun z=>by rw[z] at hpos;simp at hpos
      have ms9:ms.length≤9:=Nat.le_trans (bY Y4.nd Y4.sub) hX.len.2;left;refine⟨o,m,lf,xs,ms,ps,lf_,rfl,hw.same S6,hX,hTs,em,ms9,elf,by omega,Y4.lt,Y4.touch hTs con hne,fun k e hk he=>⟨fun h1=>NP ((qgz k e he).symm fun _ _ ⟨j,a,b⟩=>⟨j,a,b.symm⟩) h1,fun h2=>NP (qgz k e he) h2⟩,fun t r start k w H7 ht hr et er hNx s7=>?_⟩;obtain⟨U9,qdX⟩:=Y4.next hTs (gone:=gone) (fun j hj=>((hlg j).mp hj).2) hNx;have S7:=S6.trans s7;left;refine⟨_,cM.of et,rfl,?_⟩;have rrl:r≠rl:=fun z=>by rw[z,erl] at hr;cases hr
      have trl:=htr.1;have kwl:(k::w).length≤10:=by have:=hNx.wl;simp;omega
      left;refine⟨⟨_,aY.of (s7 _ _ erl)⟩,fun p8 hp8=>?_⟩;exists H7,p8,(.tup [.str start,.ref r]),s8,e8,H8,hp8;have s68:=s7.trans s8;have qgA:=s68 _ _ erl;refine⟨_,qgA,by omega,?_⟩;have e9:upd H8 rl (.lst (tr++[.ref p8])) rl=some (.lst (tr++[.ref p8])):=ak;have k9:∀b u,b≠rl→H8 b=some u→upd H8 rl (.lst (tr++[.ref p8])) b=some u:=fun b u hb e=>by rw[aC hb];exact e
      have S9:Same H (upd H8 rl (.lst (tr++[.ref p8]))):=aV (S7.trans s8) rl0;generalize upd H8 rl (.lst (tr++[.ref p8]))=H9 at e9 k9 S9 ⊢;have nt:∀{b:Addr} {us:List V},H8 b=some (.tup us)→b≠rl:=fun e z=>by rw[z,qgA] at e;cases e
      have qmu:bJ (NQ H rl) H9 (tr++[.ref p8]) (row++[(start,k::w)]):=bJ.snoc (bJ.keep htr fun v e ⟨t,r,h1,h2,h3,h4,h5⟩=>⟨t,r,h1,k9 _ _ (nt (s68 _ _ h2)) (s68 _ _ h2),k9 _ _ h5 (s68 _ _ h3),h4,h5⟩) ⟨p8,r,rfl,k9 _ _ (nt e8) e8,k9 _ _ rrl (s8 _ _ er),bU S6 hr,rrl⟩;have er9:=k9 _ _ rrl (s8 _ _ er);have em9:=k9 _ _ mr (s68 _ _ em);have qmv:=k9 _ _ qmt (s68 _ _ elf);refine⟨o,r,start,xs,ps,k::w,rfl,hw.same S9,hTs,.inl er9,U9.lt,by omega,fun rp H10 hrp Y5 Z4=>?_⟩;left;refine⟨_,aY.of Y5,fun p11 qbi=>?_⟩;rw[Fb];have edl:((bK ps start (k::w)).map V.str).dropLast=((bK ps start (k::w)).dropLast).map V.str:=by rw[List.map_dropLast]
      rw[edl];exists H10,p11,(.lst (((bK ps start (k::w)).dropLast).map V.str)),s11,e11,H11,qbi;have qdY:=Z4.trans s11;have hpl:(bK ps start (k::w)).dropLast.length≤10:=by rw[List.length_dropLast,U9.ln];simp only;omega
      refine⟨_,qdY _ _ em9,_,e11,by rw[List.length_map,List.length_map];omega,fun m2 hm2=>?_⟩;rw[← List.map_append];have s12:Same H11 (upd H11 m2 (.lst ((ms++(bK ps start (k::w)).dropLast).map V.str))):=au hm2;have e12:upd H11 m2 (.lst ((ms++(bK ps start (k::w)).dropLast).map V.str)) m2=some (.lst ((ms++(bK ps start (k::w)).dropLast).map V.str)):=ak;have m2r:m2≠rl:=fun z=>by have:=qdY _ _ e9;rw[z] at hm2;rw[hm2] at this;cases this
      generalize upd H11 m2 (.lst ((ms++(bK ps start (k::w)).dropLast).map V.str))=Y6 at s12 e12 ⊢;have qbj:=qdY.trans s12;have qb_:=qbj _ _ qmv;have qmw:=qbj _ _ er9;have nKw:aX (k::w)=((k::w).map fun n:Nat=>(n:Int)).map V.int:=by unfold aX;rw[List.map_map];rfl
      refine⟨⟨_,aY.of qb_⟩,fun D hD=>Ma (aX lf_) (fun i σ H'=>(∃o',σ=[o',some (.ref r)])∧H' D=some (.lst (aX ((lf_.take i).filter fun j=>!decide (j∈k::w))))∧Same Y6 H') ⟨⟨_,rfl⟩,ak,au hD⟩ (fun i σ H' _ h=>aY.of (h.2.2 _ _ qb_)) ?_ ?_⟩
      · rintro i v σ H13 hiv ⟨⟨o',rfl⟩,N5,Wb⟩;obtain⟨j,hj,rfl⟩:∃j,lf_[i]? = some j∧v = .int (j:Nat):=by
          unfold aX at hiv;rw[List.getElem?_map] at hiv;obtain⟨j,hj,rfl⟩:=Option.map_eq_some_iff.mp hiv;exact⟨j,hj,rfl⟩
        have hi2:=(List.getElem?_eq_some_iff.mp hj).1;have qdZ:=Wb _ _ qmw;rw[nKw] at qdZ;rw[take_one hj,List.filter_append];have fl:((lf_.take i).filter fun j=>!decide (j∈k::w)).length≤i:=Nat.le_trans (List.length_filter_le _ _) (by rw[List.length_take];omega);have hiff:decide ((j:Int)∈(k::w).map fun n:Nat=>(n:Int))=decide (j∈k::w):=by
          rw[decide_eq_decide];constructor
          · intro h;obtain⟨n,h1,h2⟩:=List.mem_map.mp h;have:n=j:=by omega
            exact this▸h1
          ·exact fun h=>List.mem_map.mpr ⟨j,h,rfl⟩
        generalize hG:((lf_.take i).filter fun j=>!decide (j∈k::w))=g0 at N5 fl ⊢;generalize hK:k::w=kw at qdZ hiff ⊢;left;refine⟨_,.inl (aY.of qdZ),rfl,List.all_eq_true.mp (Fd _),?_⟩;rw[NT,hiff]
        by_cases hin:j∈kw
        ·refine⟨false,by simp[hin],dz.neg rfl ?_⟩;left;refine⟨?_,Wb⟩;simpa [hin] using N5
        ·refine⟨true,by simp[hin],dz.pos rfl ?_⟩;left;refine⟨_,N5,by simp[aX];omega,?_,aV Wb hD⟩;rw[ak];simp[hin,aX]
      · rintro σ H13 ⟨⟨o',rfl⟩,N5,Wb⟩;rw[nl,List.take_length] at N5;have qd0:=qbj.trans Wb;have Dr:D≠rl:=fun z=>by have:=qbj _ _ e9;rw[z] at hD;rw[hD] at this;cases this
        have hlt:(lf_.filter fun j=>!decide (j∈k::w)).length<lf_.length:=List.length_filter_lt_length_iff_exists.mpr ⟨k,hNx.kl,by simp⟩;have qd1:∀j,j∈(lf_.filter fun j=>!decide (j∈k::w))↔j<ps.length∧j∉gone++(k::w):=fun j=>by
          rw[List.mem_filter,hlg j,List.mem_append,not_or];constructor
          ·exact fun h=>⟨h.1.1,h.1.2,by simpa using h.2⟩
          ·exact fun h=>⟨⟨h.1,h.2.1⟩,by simpa using h.2.2⟩
        have qgB:∀j∈gone++(k::w),j<ps.length:=fun j hj=>by
          rcases List.mem_append.mp hj with hj | hj
          ·exact glt j hj
          ·exact U9.lt j hj
        have qgC:(gone++(k::w)).Nodup:=List.nodup_append.mpr ⟨gnd,U9.nd,fun a ha b hb z=>U9.fr b hb (z▸ha)⟩;have qbk:qU ps (xs.take 1) (row++[(start,k::w)]) (ms++(bK ps start (k::w)).dropLast) (lf_.filter fun j=>!decide (j∈k::w)):=.snoc hED hNx.dt;have hE':jr ps (xs.take 1) (row++[(start,k::w)]) (ms++(bK ps start (k::w)).dropLast) (gone++(k::w)):=.snoc qb9 U9;have qca:bJ (NQ H rl) H13 (tr++[.ref p8]) (row++[(start,k::w)]):=bJ.keep qmu (NQ.same qd0);generalize (lf_.filter fun j=>!decide (j∈k::w))=left' at qdX N5 hlt qd1 qbk;generalize ms++(bK ps start (k::w)).dropLast=NZ at qdX e12 hE' qbk;generalize gone++(k::w)=qgD at qd1 qgB qgC hE';generalize row++[(start,k::w)]=uz at hE' qca qbk;have nl':(aX left').length=left'.length:=by simp[aX]
        left;refine⟨⟨NZ,Wb _ _ e12,left',N5,m2r,Dr,qdX,qgD,tr++[.ref p8],uz,hE',qgC,qd1,qgB,qd0 _ _ e9,qca,by simp;omega,qbk,S9.trans qd0⟩,?_⟩;rw[R6 N5,nl,nl'];exact hlt
    · have h0:=of_decide_eq_false h;rw[nl] at h0;have hl0:lf_=[]:=List.eq_nil_of_length_eq_zero (by omega);subst hl0;left;have sX:=Y4.full con (by simp);have N6:gone.length=ps.length:=by
        have h1:=bY gnd (xs:=List.range ps.length) fun j hj=>List.mem_range.mpr (glt j hj);have h2:=bY (List.nodup_range (n:=ps.length)) (xs:=gone) fun j hj=>by
          apply Classical.byContradiction;intro hn;have:=(hlg j).mpr ⟨List.mem_range.mp hj,hn⟩;cases this
        rw[List.length_range] at h1 h2;omega
      exact q1 hcl hb rl tr row ms gone H6 rl0 erl htr qb9 Y4 sX gnd N6 (by omega) hED S6
end K35
namespace L2
open PySem PySem.Spec PyProof.Rows
section
variable {prog:Program} {w:World} {A:Around} {E:Value→Shared→Prop} {s:Shared}
theorem Iu {it t:Addr} {items:Array Value} (hne:t≠it):∀(n i:Nat) (s:Shared) (Q:List Value→Shared→Prop),s.heap.IsListIter it t i→s.heap.IsList t items→i+n≤items.size→
    (∀h',h'.IsListIter it t (i+n)→Heap.SameBut it s.heap h'→Q ((items.toList.drop i).take n) {s with heap:=h'})→wpAny (model prog w) A (draw (.ref it) n) Q E s
  | 0,i,s,Q,hit,_,_,hQ=>by
    show wpAny _ _ (pure []) Q E s;exact wpAny_pure (by simpa using hQ s.heap hit (Heap.SameBut.refl ..))
  | n+1,i,s,Q,hit,ht,hle,hQ=>by
    have hlt:i<items.size:=by omega
    show wpAny _ _ (pyNext (.ref it) >>= _) Q E s;refine wpAny_bind (wpAny_pyNext_list_item hit ht (x:=items[i]) (by simp[hlt]) fun h₁ hit₁ hs₁=>?_);refine wpAny_bind (wpAny_holding (Iu hne n (i+1) _ _ hit₁ (ht.extBut hs₁.extBut hne) (by omega) fun h₂ hit₂ hs₂=>wpAny_pure ?_));have hd:items.toList.drop i=items[i]::items.toList.drop (i+1):=by simp[List.drop_eq_getElem_cons,hlt]
    have:=hQ h₂ (by rw[show i+(n+1)=i+1+n by omega];exact hit₂) (hs₁.trans hs₂);rw[hd,List.take_succ_cons] at this;exact this
theorem zK {t:Addr} {items:Array Value} {Q:List Value→Shared→Prop} (hh:A.handled=none) (ht:s.heap.IsList t items)
    (hQ:∀h',Heap.ExtBut s.heap.objs.size s.heap h'→Q items.toList {s with heap:=h'}):wpAny (model prog w) A (unpackItems (.ref t) items.size none) Q E s:=by
  have hlt:t≠s.heap.objs.size:=by obtain⟨o,ho,_⟩:=ht;exact Nat.ne_of_lt (Heap.lt_size ho)
  unfold unpackItems;refine wpAny_bind ?_
  · unfold notIterableAtAll;refine wpAny_bind (wpAny_specialOf ht.typeIs PySem.F.slot_list_iter.lookup ?_);refine wpAny_pure ?_;simp only[Bool.false_eq_true,if_false];refine wpAny_bind (wpAny_holding (wpAny_pyIter_list ht ?_));refine wpAny_bind (wpAny_holding (Iu hlt items.size 0 _ _ ⟨_,Heap.get?_push_size _ rfl,rfl,rfl⟩ (ht.push _) (by omega) fun h₁ hit₁ hs₁=>?_));have hall:List.take items.size (List.drop 0 items.toList)=items.toList:=by
      rw[List.drop_zero];exact List.take_of_length_le (by simp)
    rw[hall];rw[if_neg (by simp)];have ht₁:h₁.IsList t items:=(ht.push _).extBut hs₁.extBut hlt;refine wpAny_bind (wpAny_holding (wpAny_pyNext_list_end hh hit₁ ht₁ (by simp) fun h₂ he₂=>?_));simp only[Option.isSome_none,Bool.false_eq_true,if_false];refine wpAny_pure (hQ h₂ fun b o hb e=>he₂ b o hb (hs₁.extBut b o hb (Heap.get?_push_of_some _ e)))
theorem yP {env:Env} {elts:List Expr} {x1} {pos:Pos} {t:Addr} {items:Array Value} {Q:Unit→Shared→Prop} (hh:A.handled=none) (ht:s.heap.IsList t items)
    (hn:(assignEach elts env).length=items.size) (hstar:(assignEach elts env).findIdx? (·.1)=none)
    (h:∀h',Heap.ExtBut s.heap.objs.size s.heap h'→wpAny (model prog w) A (assignInOrder ((assignEach elts env).map (·.2)) items.toList) Q E {s with heap:=h'}) :
    wpAny (model prog w) A (assign (.Tuple elts x1 pos) env (.ref t)) Q E s:=by
  rw[assign_Tuple];refine wpAny_bind (wpAny_standAt ?_);unfold unpack;rw[hn,hstar];exact wpAny_bind (wpAny_holding (zK hh ht h))
end
section
variable {X:Cx}
def qcb (K:W.Frag) (n:Nat) (t:Gs):TG:=fun v σ H Q=>isRef v fun a=>∃xs,(aY K H a xs∨cM K H a xs)∧xs.length=n∧t xs σ H Q
@[simp ↓] theorem qbl (K:W.Frag) (n:Nat) (t:Gs) v σ H Q:qcb K n t v σ H Q=(isRef v fun a=>∃xs,(aY K H a xs∨cM K H a xs)∧xs.length=n∧t xs σ H Q):=rfl
theorem BW {K:W.Frag} (hK:X.K=K) {es:List Expr} {k:Nat} {pos:Pos} {t:Gs} {n:Nat} (hc:X.calm=true) (h:eX X es t)
    (hn:(assignEach es X.env).length=n:=by rfl) (hst:(assignEach es X.env).findIdx? (·.1)=none:=by rfl):PG X (.Tuple es k pos) (qcb K n t):=by
  subst hK;intro p_ s σ H v u Q I r hw;rw[qbl] at hw;obtain⟨a,rfl,xs,hq,hl,hw⟩:=isRef.out hw;cases r
  rcases hq with hq | hq
  ·obtain⟨its,rv,ht,hz⟩:=I.list hq;refine yP (I.ok.hd hc) ht.isList (by simp[hn,← hl,rv.length]) hst fun h' hx=>?_;have I1:Inv X p_ σ H {s with heap:=h'}:=I.kept (t':=s.toks) fun b o e=>hx b o (Nat.ne_of_lt (Heap.lt_size e)) e;exact h p_ _ σ H xs _ Q I1 (by simpa using rv) hw
  ·obtain⟨its,rv,ht,hz⟩:=I.tuple hq;refine assign_Tuple_tuple (I.ok.hd hc) ht (by simp[hn,← hl,rv.length]) hst fun h' hx=>?_;have I1:Inv X p_ σ H {s with heap:=h'}:=I.kept (t':=s.toks) fun b o e=>hx b o (Nat.ne_of_lt (Heap.lt_size e)) e;exact h p_ _ σ H xs _ Q I1 (by simpa using rv) hw
end
end L2
namespace K35
open PySem L2
variable {P:Program} {w:World} {K:W.Frag} {mg:Str→Option Value} {base:Heap} {a:Adr}
def N7:Sp:=fun vs H Q _=>∃n:Int,vs=[.int n]∧Q (.bl true) H
theorem N8 (T:Txt K mg a):cD P w K mg base mL 1 a.iG a.pJ ["thing"] N7:=by
  exists T.wL.o_,MF
  ·obtain⟨n,rfl,_⟩:=h;rfl
  ·obtain⟨n,rfl,q⟩:=h;refine⟨_,(aF (bB (f9 (aM (rD (K:=K) rfl) rfl T.nm.isinstance boot_isinstance (aj (aH 0) (aj (j_ (v:=.ty "int") rfl T.nm.int yW rfl) aq))) (lN (JH (aM (rD (K:=K) rfl) rfl T.nm.isinstance boot_isinstance (aj (aH 0) (aj (j_ (v:=.ty "bool") rfl T.Ib.bool wA rfl) aq)))))))),?_⟩;left;refine⟨_,.int _,_,Af K,dz.pos rfl ?_⟩;left;refine⟨_,.int _,_,rA K,?_⟩;exact q
def Kv (C:Addr):Sp:=fun vs H Q _=>∃(o:Addr) (n:Nat) (xs:List Str) (ps:List (Str×Str)),vs=[.ref o,.int n]∧ig C H o xs ps∧n<ps.length∧Q (.bl true) H
theorem Kw (T:Txt K mg a):cD P w K mg base mL 2 a.gk a.n_ ["web", "thing"] (Kv a.bW):=by
  exists T.uf.o_,J4
  ·obtain⟨o,n,xs,ps,rfl,_⟩:=h;rfl
  ·obtain⟨o,n,xs,ps,rfl,hw,hn,q⟩:=h;refine⟨_,(aF (bB (f9 (PE.eqv (aO (N8 T) hr.d rfl T.DK T.wL.kp T.DG .nil bh (aj (aH 1) aq)) (aK _ _ _)) (lN (HF C_ tZ aD (aH 1) (PE.eqv (fZ (aH 0) T.j8 T.oV (pY T) hr.d T.oR .nil bh) (gb _ _ _ _ _ _))))))),?_⟩;obtain⟨dx,fs,hi,hno⟩:=hw.ins uY.1 uY.2;left;refine⟨n,rfl,?_⟩;left;refine⟨_,_,hi,hno,o,xs,ps,rfl,hw,?_⟩;left;rw[decide_eq_true hn];exact q
theorem Fe:∀xs:List Int,keysOf (xs.map V.int)=xs.map Sum.inl
  | []=>rfl
  | x::xs=>by
    show Sum.inl x::keysOf (xs.map V.int)=_;rw[Fe xs];rfl
theorem qd2 {xs:List Int} (h:xs.Nodup):(Gn (fun i=>(keysOf (xs.map V.int))[i]?.getD (Sum.inl 0)) (xs.map V.int).length).length=xs.length:=by
  rw[Fe,List.length_map];refine(Pq _ xs.length fun i j hi hj e=>?_).1;simp[hi,hj] at e;exact(List.getElem_inj h).mp e
theorem Y7 {xs:List Int} {i:Nat} {x:V} (h:(xs.map V.int)[i]? = some x):∃z,xs[i]? = some z∧x = .int z:=by
  rw[List.getElem?_map] at h;cases e:xs[i]? with
  | none=>rw[e] at h;cases h
  | some z=>
    rw[e] at h;exact⟨z,rfl,(Option.some.inj h).symm⟩
structure Nrs (n:Nat) (ks:List Int):Prop where
  ok:∀k∈ks,0≤k∧k<n
  nd:ks.Nodup
  len:ks.length≤20
def Fg (C:Addr):Sp:=fun vs H Q _=>∃(o t:Addr) (xs:List Str) (ps:List (Str×Str)) (ks:List Int),vs=[.ref o,.ref t]∧ig C H o xs ps∧Sq H t (ks.map V.int)∧Nrs ps.length ks∧∀H',Same H H'→Q (.bl true) H'
theorem Fi (T:Txt K mg a):cD P w K mg base mL 3 a.d8 a.lB ["web", "thing"] (Fg a.bW):=by
  exists T.qt.o_,Dt
  ·obtain⟨o,t,xs,ps,ks,rfl,_⟩:=h;rfl
  · obtain⟨o,t,xs,ps,ks,rfl,hw,ht,hk,q⟩:=h;refine⟨_,(aB (cU (PW.pt (lK (eV (cH (PE.eqv (aO (mH T) hr.d rfl T.mC T.j7.kp T.mz .nil bh (aj (aH 1) aq)) (aK _ _ _)))) (jG (eV (cH (aM (lY rfl) rfl T.nm.all lR (aj (dG rfl rfl (show bx (ao cO) _ ["web", "thing"] ["one"] [0] ["one", "web"] from⟨rfl,by symm,by symm,rfl,by symm,by symm⟩) rfl (PI.eqv (nP (K:=K) rfl (aH 1)) (kY _ _)) (fun C s H fp pn=>(aN (i:=0) (show(["one", "web"]:List Str).Nodup by symm) rfl (Or.inl rfl))) (fun C s H fp pn=>dF) (fun C s H fp pn=>(PE.eqv (aO (Kw T) hr.d rfl T.Al T.uf.kp T.Ak .nil bh (aj (aH 1) (aj (aH 0) aq))) (aK _ _ _)))) aq))))))) (aF (bB j9)) bQ)
      (aF (bB (cC g_ (aM zj rfl T.nm.len PySem.boot_len (aj (fQ (zf rfl) rfl T.nm.set yX (aj (aH 1) aq)) aq)) (aM (bT (K:=K) rfl) rfl T.nm.len PySem.boot_len (aj (aH 1) aq)) (bM _))))),?_⟩
    left;refine⟨t,_,rfl,ht,fun H1 s1=>?_⟩;have ht1:=ht.same s1;obtain⟨b,hb⟩:=ht1.b;left;refine⟨b,⟨_,hb K H1 (Same.refl _)⟩,fun D hD=>cmQ (ks.map V.int) (fun i σ H'=>(∃o',σ=[o',some (.ref o)])∧Same H1 H'∧H' D=some (.lst (List.replicate i (.bl true)))) ⟨⟨none,rfl⟩,au hD,ak⟩ (fun i σ' H' _ h=>hb K H' h.2.1) ?_ ?_⟩
    ·rintro i x σ H2 hi ⟨⟨o',rfl⟩,s2,hD2⟩;obtain⟨k,hki,rfl⟩:=Y7 hi;have hi2:i<ks.length:=(List.getElem?_eq_some_iff.mp hki).1;have hk2:=hk.ok k (List.mem_of_getElem? hki);left;refine⟨o,k.toNat,xs,ps,by rw[Int.toNat_of_nonneg hk2.1],hw.same (s1.trans s2),by omega,?_⟩;left;refine⟨_,hD2,by rw[List.length_replicate];exact zsz hi2 hk.len,aV s2 hD,?_⟩;rw[ak,← List.replicate_succ']
    ·rintro σ H2 ⟨⟨o',rfl⟩,s2,hD2⟩;have Ik:=ht1.same s2;left;refine⟨_,hD2,_,mJ _,?_⟩;rw[show(List.replicate (ks.map V.int).length true).all id=true by simp];left;have l20:=hk.len;refine⟨_,Ik.q,by simp[isKey],by simp;unfold scanBound;omega,fun t3 ht3=>⟨_,ak,_,(Ik.same (au ht3)).q,?_⟩⟩;rw[decide_eq_true (by rw[qd2 hk.nd];simp)];exact q _ (s1.trans (s2.trans (au ht3)))
theorem uD (ks:List Nat):aX ks=(ks.map fun n:Nat=>(n:Int)).map V.int:=by unfold aX;rw[List.map_map];rfl
theorem qd3 {ks:List Nat} {m:Nat} (hl:∀k∈ks,k<m) (nd:ks.Nodup) (Bc:ks.length≤20):Nrs m (ks.map fun n:Nat=>(n:Int)):=
  ⟨fun k hk=>by
    obtain⟨n,h1,rfl⟩:=List.mem_map.mp hk;have:=hl n h1;omega,List.Pairwise.map _ (fun x y h z=>h (by omega)) nd,by rw[List.length_map];exact Bc⟩
theorem R8 (j:Nat) (ks:List Nat):inV (.int (j:Nat)) (aX ks)=decide (j∈ks):=by
  rw[uD,NT,decide_eq_decide];constructor
  · intro h;obtain⟨n,h1,h2⟩:=List.mem_map.mp h;have:n=j:=by omega
    exact this▸h1
  ·exact fun h=>List.mem_map.mpr ⟨j,h,rfl⟩
theorem Iv (ks:List Nat):∀z∈aX ks,jZ z=true:=by rw[uD];exact List.all_eq_true.mp (Fd _)
theorem wX:∀n,pA (List.replicate n (.bl false)) (List.replicate n false)
  | 0=>rfl
  | n+1=>⟨false,_,rfl,rfl,wX n⟩
theorem Ln {xs:List V} {v:V} (h:xs.getLast? = some v):xG xs (-1)=some v:=by
  have hl:0<xs.length:=by
    cases xs with
    | nil=>simp at h
    | cons x xs=>simp
  rw[List.getLast?_eq_getElem?] at h;unfold xG Tv;rw[if_neg (by omega),if_pos (by omega)];have e:((-1:Int)+xs.length).toNat=xs.length - 1:=by omega
  show xs[((-1:Int)+xs.length).toNat]? = _;rw[e];exact h
def U_ (C:Addr):Sp:=fun vs H Q _=>∃(o t m g r:Addr) (start:Str) (ks gone:List Nat) (xs ms:List Str) (ps:List (Str×Str)),vs=[.ref o,.ref t,.ref m,.ref g]∧ig C H o xs ps∧GF xs∧je xs ps∧Sq H t [.str start,.ref r]∧Sq H r (aX ks)∧H m=some (.lst (ms.map V.str))∧(∀x∈ms,x∈xs)∧H g=some (.lst (aX gone))∧wj ps ms gone (start,ks)∧ks.length≤20∧
  ∀H',Same H H'→Q (.bl true) H'
theorem Va (T:Txt K mg a):cD P w K mg base mL 4 a.lC a.uP ["web", "thing", "met", "gone"] (U_ a.bW):=by
  exists T.Ec.o_,qJ
  ·obtain⟨o,t,m,g,r,start,ks,gone,xs,ms,ps,rfl,_⟩:=h;rfl
  · obtain⟨o,t,m,g,r,start,ks,gone,xs,ms,ps,rfl,hw,hX,hTs,ht,hr0,hm,hms,hg,hE,Bc,q⟩:=h;refine⟨_,(aB (cU (PW.pt (lK (eV (cH (PE.eqv (aO (mH T) hr.d rfl T.mC T.j7.kp T.mz .nil bh (aj (aH 1) aq)) (aK _ _ _)))) (jG (aZ kW (aM (bT (K:=K) rfl) rfl T.nm.len PySem.boot_len (aj (aH 1) aq)) aD (bM _))))) (aF (bB j9)) bQ)
      (aB (kh (aH 1) (BW (K:=K) (n:=2) rfl rfl (eX.eqv (aR (aN (i:=4) qJ.nd rfl (Or.inl rfl)) (eX.eqv (aR (aN (i:=5) qJ.nd rfl (Or.inl rfl)) (eX.mono bZ cX)) (aU _ _))) (aU _ _))))
      (aB (cU (PW.pt (lK (eV (cH (PE.eqv (aO (wV T) hr.d rfl T.uU T.qM.kp T.uT .nil bh (aj (aH 4) aq)) (aK _ _ _)))) (jG (aZ (nU (K:=K) rfl) (aH 4) (aH 2) rfl)))) (aF (bB j9)) bQ)
      (aB (cU (PW.pt (lK (eV (cH (PE.eqv (aO (Fi T) hr.d rfl T.vR T.qt.kp T.vQ .nil bh (aj (aH 0) (aj (aH 5) aq))) (aK _ _ _)))) (lK (aZ g_ (aM (bT (K:=K) rfl) rfl T.nm.len PySem.boot_len (aj (aH 5) aq)) aD (bM _)) (jG (cH (aM (zA rfl) rfl T.Ib.any zm (aj (dG rfl rfl (show bx (ao ji) _ ["web", "thing", "met", "gone", "start", "numbers", "points", "between"] ["number"] [3] ["number", "gone"] from⟨rfl,by symm,by symm,rfl,by symm,by symm⟩) rfl (PI.eqv (nP (K:=K) rfl (aH 5)) (kY _ _)) (fun C s H fp pn=>(aN (i:=0) (show(["number", "gone"]:List Str).Nodup by symm) rfl (Or.inl rfl))) (fun C s H fp pn=>dF) (fun C s H fp pn=>(cC (xV (K:=K) rfl) (aH 0) (aH 1) rfl))) aq))))))) (aF (bB j9)) bQ)
      (aB (bw (i:=6) qJ.nd rfl (Or.inl rfl) (PE.eqv (aO (jU T) hr.d rfl T.jq T.h_.kp T.jo .nil bh (aj (aH 0) (aj (aH 4) (aj (aH 5) aq)))) (aK _ _ _)))
      (aB (cU (PW.pt (lK (aZ tZ (aM (bT (K:=K) rfl) rfl T.nm.len PySem.boot_len (aj (aH 6) aq)) (aM (bT (K:=K) rfl) rfl T.nm.len PySem.boot_len (aj (aH 5) aq)) (bM _)) (jG (aZ (nU (K:=K) rfl) (bC (bG (K:=K) rfl) (aH 6) (Rf Br aD) (fun _ _=>rfl)) (aH 2) rfl)))) (aF (bB j9)) bQ)
      (aB (bw (i:=7) qJ.nd rfl (Or.inl rfl) (jg (uc (K:=K) rfl) (aH 6) mK (PO.eqv (jQ (Rf Br aD)) (iT _))))
      (aF (bB (f9 (cC g_ (aM zj rfl T.nm.len PySem.boot_len (aj (fQ (zf rfl) rfl T.nm.set yX (aj (aH 7) aq)) aq)) (aM (bT (K:=K) rfl) rfl T.nm.len PySem.boot_len (aj (aH 7) aq)) (bM _)) (lN (JH (aM (zA rfl) rfl T.Ib.any zm (aj (dG rfl rfl (show bx (ao ji) _ ["web", "thing", "met", "gone", "start", "numbers", "points", "between"] ["point"] [2] ["point", "met"] from⟨rfl,by symm,by symm,rfl,by symm,by symm⟩) rfl (PI.eqv (cg (K:=K) rfl (aH 7)) (bV _ _)) (fun C s H fp pn=>(aN (i:=0) (show(["point", "met"]:List Str).Nodup by symm) rfl (Or.inl rfl))) (fun C s H fp pn=>dF) (fun C s H fp pn=>(cC (xV (K:=K) rfl) (aH 0) (aH 1) rfl))) aq)))))))))))))),?_⟩
    have Nr:200≤sizeLine:=by decide
    have hsx:=hX.nm start (hms _ hE.sm);obtain⟨z,hz1,hz2⟩:=hE.en;have hln:=hE.ln;have qmx:ks.length≠0:=fun h=>hE.ne (List.eq_nil_of_length_eq_zero h);left;refine⟨t,_,rfl,ht,fun H1 s1=>?_⟩;have ht1:=ht.same s1;left;refine⟨_,ht1.q,?_⟩;left;refine⟨_,ht1.q,rfl,?_⟩;left;refine⟨start,rfl,wW hsx,fun H2 s2=>?_⟩;rw[hsx];have S2:=s1.trans s2;left;refine⟨_,.inl (aY.of (S2 _ _ hm)),rfl,List.all_eq_true.mp (bR _),false,?_,dz.neg rfl ?_⟩
    ·rw[bD,decide_eq_true hE.sm];rfl
    left;refine⟨o,r,xs,ps,ks.map fun n:Nat=>(n:Int),rfl,hw.same S2,?_,qd3 hE.lt hE.nd Bc,fun H3 s3=>?_⟩
    ·rw[← uD];exact hr0.same S2
    have S3:=S2.trans s3;have hr3:=hr0.same S3;have nl:(aX ks).length=ks.length:=by simp[aX]
    left;refine⟨_,hr3.q,?_⟩;refine dz.neg (decide_eq_false fun h=>qmx (by rw[← nl,h];rfl)) ?_;obtain⟨bq,hq⟩:=hr3.b;have hg3:=S3 _ _ hg;left;refine⟨bq,⟨_,hq K H3 (Same.refl _)⟩,fun D hD=>cmQ (aX ks) (fun i σ H'=>(∃o',σ=[o',some (.ref g)])∧Same H3 H'∧H' D=some (.lst (List.replicate i (.bl false)))) ⟨⟨_,rfl⟩,au hD,ak⟩ (fun i σ' H' _ h=>hq K H' h.2.1) ?_ ?_⟩
    · rintro i v σ H4 hiv ⟨⟨o',rfl⟩,s4,Kq⟩;obtain⟨k,hk,rfl⟩:∃k,ks[i]? = some k∧v = .int (k:Nat):=by
        unfold aX at hiv;rw[List.getElem?_map] at hiv;obtain⟨k,hk,rfl⟩:=Option.map_eq_some_iff.mp hiv;exact⟨k,hk,rfl⟩
      have hi2:=(List.getElem?_eq_some_iff.mp hk).1;have hnk:=hE.fr k (List.mem_of_getElem? hk);left;refine⟨_,.inl (aY.of (s4 _ _ hg3)),rfl,Iv _,?_⟩;rw[R8,decide_eq_false hnk];refine⟨_,Kq,by rw[List.length_replicate];omega,aV s4 hD,?_⟩;rw[ak,← List.replicate_succ']
    · rintro σ H4 ⟨⟨o',rfl⟩,s4,Kq⟩;have S4:=S3.trans s4;left;refine⟨_,Kq,_,wX _,dz.neg (by simp) ?_⟩;left;refine⟨o,r,start,xs,ps,ks,rfl,hw.same S4,hTs,hr0.same S4,hE.lt,Bc,fun rp H5 hrp Y5 s5=>?_⟩;have S5:=S4.trans s5;have qmy:((bK ps start ks).map V.str).length=ks.length:=by rw[List.length_map];exact hln
      left;refine⟨_,.inl (aY.of Y5),_,(hr0.same S5).q,?_⟩;refine dz.neg (decide_eq_false (by rw[qmy,nl];omega)) ?_;have qgE:xG ((bK ps start ks).map V.str) (-1)=some (.str z):=Ln (by rw[List.getLast?_map,hz1];rfl);left;refine⟨_,.inl (aY.of Y5),_,qgE,_,.inl (aY.of (S5 _ _ hm)),rfl,List.all_eq_true.mp (bR _),false,?_,dz.neg rfl ?_⟩
      ·rw[bD,decide_eq_true hz2];rfl
      left;refine⟨_,aY.of Y5,fun p6 hp6=>?_⟩;rw[Fb];have edl:((bK ps start ks).map V.str).dropLast=((bK ps start ks).dropLast).map V.str:=by rw[List.map_dropLast]
      rw[edl];have hbn:=hE.pn;have hbf:=hE.pf;have bl:(bK ps start ks).dropLast.length≤20:=by rw[List.length_dropLast,hln];simp only;omega
      generalize (bK ps start ks).dropLast=bt at hbn hbf bl ⊢;exists H5,p6,(.lst (bt.map V.str)),s6,e6,H6,hp6;have S6:=S5.trans s6;refine⟨_,.inl (aY.of e6),by simp[isKey],by simp;unfold scanBound;omega,fun t7 ht7=>⟨_,ak,_,.inl (aY.of (bN e6 ht7)),?_⟩⟩;rw[decide_eq_true (by rw[YD hbn];simp)];refine dz.pos rfl ?_;generalize hH7:upd H6 t7 _=H7;have s7:Same H6 H7:=by rw[← hH7];exact au ht7
      have e7:=s7 _ _ e6;have hm7:=s7 _ _ (S6 _ _ hm);have S7:=S6.trans s7;left;refine⟨⟨_,aY.of e7⟩,fun D2 hD2=>Ma (bt.map V.str) (fun i σ H'=>(∃o',σ=[o',some (.ref m)])∧Same H7 H'∧H' D2=some (.lst (List.replicate i (.bl false)))) ⟨⟨_,rfl⟩,au hD2,ak⟩ (fun i σ' H' _ h=>aY.of (h.2.1 _ _ e7)) ?_ ?_⟩
      ·rintro i v σ H8 hiv ⟨⟨o',rfl⟩,s8,hD8⟩;obtain⟨y,hy,rfl⟩:=qg hiv;have hi2:=(List.getElem?_eq_some_iff.mp hy).1;have hny:=hbf y (List.mem_of_getElem? hy);left;refine⟨_,.inl (aY.of (s8 _ _ hm7)),rfl,List.all_eq_true.mp (bR _),?_⟩;rw[bD,decide_eq_false hny];refine⟨_,hD8,by rw[List.length_replicate];omega,aV s8 hD2,?_⟩;rw[ak,← List.replicate_succ']
      ·rintro σ H8 ⟨⟨o',rfl⟩,s8,hD8⟩;left;refine⟨_,hD8,_,wX _,?_⟩;rw[show(List.replicate (bt.map V.str).length false).any id=false by simp];exact q _ (S7.trans s8)
def R9 (ps:List (Str×Str)) (jV:List Str) (row:List (Str×List Nat)):List Str:=row.foldl (fun ms e=>ms++(bK ps e.1 e.2).dropLast) jV
def Ox (row:List (Str×List Nat)):List Nat:=row.foldl (fun g e=>g++e.2) []
theorem Fj (ps:List (Str×Str)) (jV:List Str) (row:List (Str×List Nat)) (e:Str×List Nat):R9 ps jV (row++[e])=R9 ps jV row++(bK ps e.1 e.2).dropLast:=by simp[R9]
theorem Fl (row:List (Str×List Nat)) (e:Str×List Nat):Ox (row++[e])=Ox row++e.2:=by simp[Ox]
theorem jr.at {ps:List (Str×Str)} {jV ms:List Str} {row:List (Str×List Nat)} {gone:List Nat} (h:jr ps jV row ms gone):ms=R9 ps jV row∧gone=Ox row∧(∀i,jr ps jV (row.take i) (R9 ps jV (row.take i)) (Ox (row.take i)))∧∀(i:Nat) e,row[i]? = some e→wj ps (R9 ps jV (row.take i)) (Ox (row.take i)) e:=by
  induction h with
  | nil=>exact⟨rfl,rfl,fun i=>by simp[R9,Ox];exact .nil,fun i e h=>by simp at h⟩
  | @snoc row ms gone e hs he ih=>
    obtain⟨h1,h2,h3,h4⟩:=ih;subst h1 h2;have full:=h3 row.length;rw[List.take_length] at full;refine⟨(Fj ..).symm,(Fl ..).symm,fun i=>?_,fun i d hd=>?_⟩
    · by_cases hi:i≤row.length
      ·rw[List.take_append_of_le_length hi];exact h3 i
      ·rw[List.take_of_length_le (by simp;omega),Fj,Fl];exact .snoc full he
    · by_cases hi:i<row.length
      ·rw[List.getElem?_append_left hi] at hd;rw[List.take_append_of_le_length (by omega)];exact h4 i d hd
      · have hi2:i=row.length:=by
          have:=(List.getElem?_eq_some_iff.mp hd).1;simp at this;omega
        subst hi2;simp at hd;subst hd;rw[List.take_append_of_le_length (Nat.le_refl _),List.take_length];exact he
theorem jr.nd {ps:List (Str×Str)} {jV ms:List Str} {row:List (Str×List Nat)} {gone:List Nat} (h:jr ps jV row ms gone) (h0:jV.Nodup):ms.Nodup∧gone.Nodup∧∀j∈gone,j<ps.length:=by
  induction h with
  | nil=>exact⟨h0,by simp,by simp⟩
  | @snoc row ms gone e hs he ih=>
    obtain⟨h1,h2,h3⟩:=ih;refine⟨List.nodup_append.mpr ⟨h1,he.pn,fun a ha b hb z=>he.pf b hb (z▸ha)⟩,List.nodup_append.mpr ⟨h2,he.nd,fun a ha b hb z=>he.fr b hb (z▸ha)⟩,fun j hj=>?_⟩
    rcases List.mem_append.mp hj with hj | hj
    ·exact h3 j hj
    ·exact he.lt j hj
theorem Y8 {ps:List (Str×Str)} {xs:List Str} (hTs:je xs ps):∀(ks:List Nat) (h:Str),∀p∈bK ps h ks,p∈xs
  | [],h,p,hp=>by cases hp
  | k::ks,h,p,hp=>by
    rw[gU] at hp;cases hn:ni ps h k with
    | none=>rw[hn] at hp;cases hp
    | some y=>
      rw[hn] at hp
      rcases List.mem_cons.mp hp with rfl | hp
      · unfold ni at hn;cases hk:ps[k]? with
        | none=>rw[hk] at hn;cases hn
        | some e=>
          rw[hk] at hn;obtain⟨m1,m2,_⟩:=hTs.ok e (List.mem_of_getElem? hk);simp only at hn;split at hn
          ·cases hn;exact m2
          · split at hn
            ·cases hn;exact m1
            ·cases hn
      ·exact Y8 hTs ks y p hp
theorem jr.in {ps:List (Str×Str)} {xs jV ms:List Str} {row:List (Str×List Nat)} {gone:List Nat} (h:jr ps jV row ms gone) (hTs:je xs ps) (h0:∀x∈jV,x∈xs):∀x∈ms,x∈xs:=by
  induction h with
  | nil=>exact h0
  | @snoc row ms gone e hs he ih=>
    intro x hx
    rcases List.mem_append.mp hx with hx | hx
    ·exact ih x hx
    ·exact Y8 hTs _ _ x (List.dropLast_subset _ hx)
def qmz (H:Hp) (v:V) (e:Str×List Nat):Prop:=∃t r,v = .ref t∧Sq H t [.str e.1,.ref r]∧Sq H r (aX e.2)
def GZ (C:Addr):Sp:=fun vs H Q _=>∃(o th:Addr) (tv:List V) (row:List (Str×List Nat)) (xs ms:List Str) (gone:List Nat) (ps:List (Str×Str)),vs=[.ref o,.ref th]∧ig C H o xs ps∧GF xs∧je xs ps∧Sq H th tv∧bJ qmz H tv row∧jr ps (xs.take 1) row ms gone∧
  ∀H',Same H H'→Q (.bl (decide (ms.length=xs.length) && decide (gone.length=ps.length))) H'
theorem G3 (T:Txt K mg a):cD P w K mg base mL 5 a.fH a.mW ["web", "thing"] (GZ a.bW):=by
  exists T.sE.o_,fP
  ·obtain⟨o,th,tv,row,xs,ms,gone,ps,rfl,_⟩:=h;rfl
  · obtain⟨o,th,tv,row,xs,ms,gone,ps,rfl,hw,hX,hTs,hth,hrow,hE,q⟩:=h;refine⟨_,(aB (cU (eV (cH (PE.eqv (aO (mH T) hr.d rfl T.mC T.j7.kp T.mz .nil bh (aj (aH 1) aq)) (aK _ _ _)))) (aF (bB j9)) bQ)
      (aB (bw (i:=2) fP.nd rfl (Or.inl rfl) (jg (uc (K:=K) rfl) (PE.eqv (fZ (aH 0) T.j8 T.jE (jO T) hr.d T.jD .nil bh) (gb _ _ _ _ _ _)) mK (PO.eqv (jQ aD) (iT _))))
      (aB (bw (i:=3) fP.nd rfl (Or.inl rfl) (cV aq))
      (aB (jf PassesOwn.never rfl (PI.eqv (nP (K:=K) rfl (aH 1)) (kY _ _)) (aN (i:=4) fP.nd rfl (Or.inl rfl))
      (aB (cU (eV (cH (PE.eqv (aO (Va T) hr.d rfl T.M8 T.Ec.kp T.M7 .nil bh (aj (aH 0) (aj (aH 4) (aj (aH 2) (aj (aH 3) aq))))) (aK _ _ _)))) (aF (bB j9)) bQ)
      (aB (kh (aH 4) (BW (K:=K) (n:=2) rfl rfl (eX.eqv (aR (aN (i:=5) fP.nd rfl (Or.inl rfl)) (eX.eqv (aR (aN (i:=6) fP.nd rfl (Or.inl rfl)) (eX.mono bZ cX)) (aU _ _))) (aU _ _))))
      (aB (bw (i:=2) fP.nd rfl (Or.inl rfl) (b_ pC (aH 2) (jg (uc (K:=K) rfl) (PE.eqv (aO (jU T) hr.d rfl T.jq T.h_.kp T.jo .nil bh (aj (aH 0) (aj (aH 5) (aj (aH 6) aq)))) (aK _ _ _)) mK (PO.eqv (jQ (Rf Br aD)) (iT _)))))
      (aF (bw (i:=3) fP.nd rfl (Or.inl rfl) (b_ pC (aH 3) (fQ (qI (K:=K) rfl) rfl T.nm.list boot_list (aj (aH 6) aq)))))))))
      (aF (bB (f9 (cC g_ (aM (bT (K:=K) rfl) rfl T.nm.len PySem.boot_len (aj (aH 2) aq)) (aM (bT (K:=K) rfl) rfl T.nm.len PySem.boot_len (aj (PE.eqv (fZ (aH 0) T.j8 T.jE (jO T) hr.d T.jD .nil bh) (gb _ _ _ _ _ _)) aq)) (bM _)) (lN (cC g_ (aM (bT (K:=K) rfl) rfl T.nm.len PySem.boot_len (aj (aH 3) aq)) (PE.eqv (fZ (aH 0) T.j8 T.oV (pY T) hr.d T.oR .nil bh) (gb _ _ _ _ _ _)) (bM _)))))))))),?_⟩
    have Nr:200≤sizeLine:=by decide
    have Bc:=hTs.len;obtain⟨rfl,rfl,hpre,Qq⟩:=hE.at
    have bnd:∀i,(R9 ps (xs.take 1) (row.take i)).length≤9∧(Ox (row.take i)).length≤20∧∀x∈R9 ps (xs.take 1) (row.take i),x∈xs:=fun i=>by
      obtain⟨n1,n2,n3⟩:=(hpre i).nd (hX.nd.sublist (List.take_sublist _ _));have hin:=(hpre i).in hTs fun x hx=>List.mem_of_mem_take hx;have l1:=bY n1 hin;have l2:=bY n2 (xs:=List.range ps.length) fun j hj=>List.mem_range.mpr (n3 j hj);rw[List.length_range] at l2;exact⟨Nat.le_trans l1 hX.len.2,by omega,hin⟩
    left;refine⟨th,_,rfl,hth,fun H1 s1=>?_⟩;obtain⟨dx,fs,hi,hno⟩:=(hw.same s1).ins iY.1 iY.2;left;refine⟨_,_,hi,hno,o,xs,ps,rfl,hw.same s1,fun pl hpl=>?_⟩;exists H1,pl,(.lst (xs.map V.str)),s2,e2,H2,hpl;have S2:=s1.trans s2;refine⟨_,aY.of e2,fun m0 hm0=>?_⟩;have ct:qF (xs.map V.str) none (some 1)=(xs.take 1).map V.str:=by
      rw[show(1:Int)=((1:Nat):Int) from rfl,R7,← List.map_take]
    rw[ct];exists H2,m0,(.lst ((xs.take 1).map V.str)),s3,e3,H3,hm0;have S3:=S2.trans s3;obtain⟨bq,hq⟩:=hth.b;left;intro g0 hg0;have s4:Same H3 (upd H3 g0 (.lst [])):=au hg0;have e4:upd H3 g0 (.lst []) g0=some (.lst (aX [])):=ak;generalize upd H3 g0 (.lst [])=H4 at s4 e4 ⊢;have S4:=S3.trans s4;refine⟨bq,⟨_,hq K H4 S4⟩,frQ tv (fun i σ H'=>(∃m g o4 o5 o6,σ=[some (.ref o),some (.ref th),some (.ref m),some (.ref g),o4,o5,o6]∧H' m=some (.lst ((R9 ps (xs.take 1) (row.take i)).map V.str))∧H' g=some (.lst (aX (Ox (row.take i)))))∧Same H H') ⟨⟨m0,g0,_,_,_,rfl,s4 _ _ e3,e4⟩,S4⟩ (fun i σ H' _ h=>hq K H' h.2) ?_ ?_⟩
    · rintro i v σ H5 hiv ⟨⟨m,g,o4,o5,o6,rfl,em,eg⟩,S5⟩;have hi2:=(List.getElem?_eq_some_iff.mp hiv).1;obtain⟨e,he⟩:∃e,row[i]? = some e:=⟨_,List.getElem?_eq_getElem (by rw[← hrow.1];exact hi2)⟩;obtain⟨t,r,rfl,ht,hr0⟩:=hrow.2 i v e hiv he;have Qs:=Qq i e he;obtain⟨b1,b2,b3⟩:=bnd i;have Y9:e.2.length≤20:=by
        have l2:=bY Qs.nd (xs:=List.range ps.length) fun j hj=>List.mem_range.mpr (Qs.lt j hj);rw[List.length_range] at l2;omega
      have NZ:R9 ps (xs.take 1) (row.take (i+1))=R9 ps (xs.take 1) (row.take i)++(bK ps e.1 e.2).dropLast:=by rw[take_one he,Fj]
      have go':Ox (row.take (i+1))=Ox (row.take i)++e.2:=by rw[take_one he,Fl]
      have hdl:(bK ps e.1 e.2).dropLast.length≤20:=by rw[List.length_dropLast,Qs.ln];omega
      have ht5:=ht.same S5;have Wa:=hr0.same S5;rw[NZ,go'];generalize R9 ps (xs.take 1) (row.take i)=msi at em Qs b1 b3 ⊢;generalize Ox (row.take i)=goi at eg Qs b2 ⊢;left;refine⟨o,t,m,g,r,e.1,e.2,goi,xs,msi,ps,rfl,hw.same S5,hX,hTs,ht5,Wa,em,b3,eg,Qs,Y9,fun H6 s6=>?_⟩;have S6:=S5.trans s6;left;refine⟨_,(ht5.same s6).q,rfl,?_⟩;left;refine⟨o,r,e.1,xs,ps,e.2,rfl,hw.same S6,hTs,hr0.same S6,Qs.lt,Y9,fun rp H7 hrp Y5 s7=>?_⟩;left;refine⟨_,aY.of Y5,fun p8 hp8=>?_⟩;rw[Fb];have edl:((bK ps e.1 e.2).map V.str).dropLast=((bK ps e.1 e.2).dropLast).map V.str:=by rw[List.map_dropLast]
      rw[edl];generalize (bK ps e.1 e.2).dropLast=bt at hdl ⊢;exists H7,p8,(.lst (bt.map V.str)),s8,e8,H8,hp8;have s58:=(s6.trans s7).trans s8;refine⟨_,s58 _ _ em,_,e8,by rw[List.length_map,List.length_map];omega,fun p9 hp9=>?_⟩;rw[← List.map_append];exists H8,p9,(.lst ((msi++bt).map V.str)),s9,e9,H9,hp9;have s59:=s58.trans s9;refine⟨_,(Wa.same s59).q,fun Z9 U4=>?_⟩;exists H9,Z9,(.lst (aX e.2)),Z4,e10,H10,U4;have qgF:=s59.trans Z4;refine⟨_,qgF _ _ eg,_,e10,by simp[aX];omega,fun p11 qbi=>?_⟩;have eN:aX goi++aX e.2=aX (goi++e.2):=by simp[aX]
      rw[eN];exact⟨⟨bN (Z4 _ _ e9) qbi,ak⟩,(S5.trans qgF).trans (au qbi)⟩
    · rintro σ H5 ⟨⟨m,g,o4,o5,o6,rfl,em,eg⟩,S5⟩;rw[hrow.1,List.take_length] at em eg;obtain⟨dx',fs',hi',hno'⟩:=(hw.same S5).ins iY.1 iY.2;left;refine⟨_,.inl (aY.of em),_,_,hi',hno',o,xs,ps,rfl,hw.same S5,fun pl2 qmA=>?_⟩;exists H5,pl2,(.lst (xs.map V.str)),s6,e6,H6,qmA;have S6:=S5.trans s6;obtain⟨dx2,fs2,hi2',qmB⟩:=(hw.same S6).ins uY.1 uY.2;left;refine⟨_,.inl (aY.of e6),?_⟩;have q6:=q _ S6
      by_cases hl:(R9 ps (xs.take 1) row).length=xs.length
      · refine dz.pos (decide_eq_true (by rw[hl,List.length_map])) ?_;rw[decide_eq_true hl] at q6;left;refine⟨_,.inl (aY.of (s6 _ _ eg)),_,_,hi2',qmB,o,xs,ps,rfl,hw.same S6,?_⟩;have nl:(aX (Ox row)).length=(Ox row).length:=by simp[aX]
        left;rw[nl];have ec:decide (((Ox row).length:Int)=(ps.length:Int))=decide ((Ox row).length=ps.length):=by rw[decide_eq_decide];omega
        rw[ec];simpa using q6
      ·refine dz.neg (decide_eq_false fun z=>hl (by rw[List.length_map] at z;exact Int.ofNat_inj.mp z)) ?_;rw[decide_eq_false hl] at q6;simpa using q6
def Bj (fs:List (Nat×Int)):List (Key×V):=fs.map fun e=>(Sum.inl (e.1:Int),V.int e.2)
def qW (fs:List (Nat×Int)) (j:Nat):Option Int:=(fs.find? fun e=>decide (e.1=j)).map (·.2)
structure qbm (fs:List (Nat×Int)) (m:Nat):Prop where
  nd:(fs.map (·.1)).Nodup
  ok:∀e∈fs,e.1<m∧0≤e.2∧e.2≤1
theorem qbm.len {fs:List (Nat×Int)} {m:Nat} (h:qbm fs m):fs.length≤m:=by
  have:=bY (xs:=List.range m) h.nd fun n hn=>by
    obtain⟨e,he,rfl⟩:=List.mem_map.mp hn;exact List.mem_range.mpr (h.ok e he).1
  rwa [List.length_map,List.length_range] at this
theorem N_:∀(fs:List (Nat×Int)) (k:Nat),m9 (Bj fs) (Sum.inl (k:Int))=(qW fs k).map V.int
  | [],k=>rfl
  | e::fs,k=>by
    have ih:=N_ fs k;unfold m9 Bj qW at ih ⊢;rw[List.map_cons,List.find?_cons,List.find?_cons]
    by_cases h:e.1=k
    ·rw[decide_eq_true h,decide_eq_true (by rw[h])];rfl
    ·have h':¬((Sum.inl (e.1:Int):Key)=Sum.inl (k:Int)):=fun z=>h (by injection z with z;omega);rw[decide_eq_false h,decide_eq_false h'];exact ih
theorem Vb {fs:List (Nat×Int)} {k:Nat}:qW fs k=none↔k∉fs.map (·.1):=by
  unfold qW;rw[Option.map_eq_none_iff,List.find?_eq_none];constructor
  ·intro h z;obtain⟨e,he,hk⟩:=List.mem_map.mp z;exact h e he (decide_eq_true hk)
  ·intro h e he z;exact h (List.mem_map.mpr ⟨e,he,of_decide_eq_true z⟩)
theorem Iw {fs:List (Nat×Int)} {m k:Nat} {v:Int} (h:qbm fs m) (e:qW fs k=some v):0≤v∧v≤1∧k<m:=by
  unfold qW at e;obtain⟨p,hp,rfl⟩:=Option.map_eq_some_iff.mp e;have h1:=List.mem_of_find?_eq_some hp;have h2:p.1=k:=by simpa using List.find?_some hp
  have:=h.ok p h1;exact⟨this.2.1,this.2.2,h2▸this.1⟩
theorem Oa {fs:List (Nat×Int)} (nd:(fs.map (·.1)).Nodup) {e:Nat×Int} (he:e∈fs):qW fs e.1=some e.2:=by
  induction fs with
  | nil=>cases he
  | cons p fs ih=>
    rw[List.map_cons,List.nodup_cons] at nd;unfold qW at ih ⊢;rw[List.find?_cons]
    rcases List.mem_cons.mp he with rfl | he
    ·simp
    ·have:p.1≠e.1:=fun z=>nd.1 (by rw[z];exact List.mem_map_of_mem he);rw[decide_eq_false this];exact ih nd.2 he
theorem Cu {fs:List (Nat×Int)} {k:Nat} {v:Int} (hn:k∉fs.map (·.1)):putK (Bj fs) (Sum.inl (k:Int)) (V.int v)=Bj (fs++[(k,v)]):=by
  unfold putK;rw[if_neg ?_]
  ·simp[Bj]
  · intro z;obtain⟨p,hp,hk⟩:=List.any_eq_true.mp z;obtain⟨e,he,rfl⟩:=List.mem_map.mp hp;have hk:=of_decide_eq_true hk;simp only at hk;injection hk with hk;have:e.1=k:=by omega
    exact hn (this▸List.mem_map_of_mem he)
def G4 (ps:List (Str×Str)) (k:Nat) (y:Str):Int:=match ps[k]? with
  | some d=>if y=d.2 then 0 else 1
  | none=>1
def R_ (ps:List (Str×Str)) (e:Str×List Nat):List (Nat×Int):=(e.2.zip (bK ps e.1 e.2)).map fun z=>(z.1,G4 ps z.1 z.2)
def uZ (ps:List (Str×Str)) (row:List (Str×List Nat)):List (Nat×Int):=(row.map (R_ ps)).flatten
def nsE (ps:List (Str×Str)) (row:List (Str×List Nat)):List Int:=(List.range ps.length).map fun k=>(qW (uZ ps row) k).getD 0
theorem qd4 (ps:List (Str×Str)) (k:Nat) (y:Str):0≤G4 ps k y∧G4 ps k y≤1:=by
  unfold G4;split
  ·split <;> decide
  ·decide
theorem Ob {ps:List (Str×Str)} {e:Str×List Nat} (h:(bK ps e.1 e.2).length=e.2.length):(R_ ps e).map (·.1)=e.2:=by
  unfold R_;rw[List.map_map];have:((fun x=>x.1) ∘ fun z:Nat×Str=>(z.1,G4 ps z.1 z.2))=Prod.fst:=rfl;rw[this,List.map_fst_zip (by omega)]
theorem lJ (ps:List (Str×Str)) (row:List (Str×List Nat)) (e:Str×List Nat):uZ ps (row++[e])=uZ ps row++R_ ps e:=by simp[uZ]
theorem uE {ps:List (Str×Str)} {jV ms:List Str} {row:List (Str×List Nat)} {gone:List Nat} (h:jr ps jV row ms gone):(uZ ps row).map (·.1)=gone:=by
  induction h with
  | nil=>rfl
  | @snoc row ms gone e hs he ih=>rw[lJ,List.map_append,ih,Ob he.ln]
theorem Fo {ps:List (Str×Str)} {jV ms:List Str} {row:List (Str×List Nat)} {gone:List Nat} (h:jr ps jV row ms gone) (h0:jV.Nodup):qbm (uZ ps row) ps.length:=by
  refine⟨by rw[uE h];exact(h.nd h0).2.1,fun z hz=>?_⟩;refine⟨(h.nd h0).2.2 z.1 (by rw[← uE h];exact List.mem_map_of_mem hz),?_⟩;unfold uZ at hz;obtain⟨l,hl,hz⟩:=List.mem_flatten.mp hz;obtain⟨e,_,rfl⟩:=List.mem_map.mp hl;unfold R_ at hz;obtain⟨c,_,rfl⟩:=List.mem_map.mp hz;exact qd4 ..
theorem Oc {n:Nat} {g:List Nat} (nd:g.Nodup) (lt:∀k∈g,k<n) (hl:g.length=n) {k:Nat} (hk:k<n):k∈g:=by
  apply Classical.byContradiction;intro hn;have:=bY (xs:=List.range n) (List.nodup_cons.mpr ⟨hn,nd⟩) fun j hj=>by
    rcases List.mem_cons.mp hj with rfl | hj
    ·exact List.mem_range.mpr hk
    ·exact List.mem_range.mpr (lt j hj)
  simp at this;omega
theorem Sd {fs:List (Nat×Int)} {k:Nat} (h:k∈fs.map (·.1)):∃v,qW fs k=some v:=by
  cases hf:qW fs k with
  | none=>exact absurd h (Vb.mp hf)
  | some v=>exact⟨v,rfl⟩
def Qt (H:Hp) (v:V) (e:Str×List Nat):Prop:=∃t r,v = .ref t∧Sq H t [.str e.1,.ref r]∧H r=some (.lst (aX e.2))
theorem Qt.same {H H':Hp} (s:Same H H'):∀v e,Qt H v e→Qt H' v e:=fun v e ⟨t,r,h1,h2,h3⟩=>⟨t,r,h1,h2.same s,s _ _ h3⟩
def Qu (C:Addr):Sp:=fun vs H Q _=>∃(o th:Addr) (tv:List V) (row:List (Str×List Nat)) (xs ms:List Str) (gone:List Nat) (ps:List (Str×Str)),vs=[.ref o,.ref th]∧ig C H o xs ps∧GF xs∧je xs ps∧Sq H th tv∧bJ Qt H tv row∧jr ps (xs.take 1) row ms gone∧ms.length=xs.length∧gone.length=ps.length∧
  ∀(r:Addr) (H':Hp),H r=none→H' r=some (.lst ((nsE ps row).map V.int))→Same H H'→Q (.ref r) H'
theorem wY (T:Txt K mg a):cD P w K mg base mL 6 a.jA a.rQ ["web", "row"] (Qu a.bW):=by
  exists T.qN.o_,jX
  ·obtain⟨o,th,tv,row,xs,ms,gone,ps,rfl,_⟩:=h;rfl
  · obtain⟨o,th,tv,row,xs,ms,gone,ps,rfl,hw,hX,hTs,hth,hrow,hE,hml,N6,q⟩:=h;refine⟨_,(aB (cU (eV (cH (PE.eqv (aO (G3 T) hr.d rfl T.yE T.sE.kp T.yD .nil bh (aj (aH 0) (aj (aH 1) aq))) (aK _ _ _)))) (aF Ce) bQ)
      (aB (bw (i:=2) jX.nd rfl (Or.inl rfl) (PE.eqv (fZ (aH 0) T.j8 T.mF (m_ T) hr.d T.mD .nil bh) (gb _ _ _ _ _ _)))
      (aB (bw (i:=3) jX.nd rfl (Or.inr rfl) xO)
      (aB (jf PassesOwn.never rfl (PI.eqv (nP (K:=K) rfl (aH 1)) (kY _ _)) (BW (K:=K) (n:=2) rfl rfl (eX.eqv (aR (aN (i:=4) jX.nd rfl (Or.inl rfl)) (eX.eqv (aR (aN (i:=5) jX.nd rfl (Or.inl rfl)) (eX.mono bZ cX)) (aU _ _))) (aU _ _)))
      (aF (jf PassesOwn.never rfl (PI.eqv (JC (K:=K) rfl rfl T.nm.zip (aj (aH 5) (aj (PE.eqv (aO (jU T) hr.d rfl T.jq T.h_.kp T.jo .nil bh (aj (aH 0) (aj (aH 4) (aj (aH 5) aq)))) (aK _ _ _)) aq))) (Dd _ _)) (BW (K:=K) (n:=2) rfl rfl (eX.eqv (aR (aN (i:=6) jX.nd rfl (Or.inl rfl)) (eX.eqv (aR (aN (i:=7) jX.nd rfl (Or.inl rfl)) (eX.mono bZ cX)) (aU _ _))) (aU _ _)))
      (aF (PS.eqv (Rv (vI hr) (aH 3) (aH 6) (xg (aZ g_ (aH 7) (bC (bG (K:=K) rfl) (bC (bG (K:=K) rfl) (aH 2) (aH 6) (fun _ _=>rfl)) aD (fun _ _=>rfl)) (bM _)) aD aD) rfl) (Mw _ _ _))))))
      (aF (bB (dG rfl rfl (show bx (ao iW) _ ["web", "row", "ties", "leads", "start", "numbers", "number", "goal"] ["number"] [3] ["number", "leads"] from⟨rfl,by symm,by symm,rfl,by symm,by symm⟩) rfl (PI.eqv (lO rfl T.nm.range (aj (PE.eqv (fZ (aH 0) T.j8 T.oV (pY T) hr.d T.oR .nil bh) (gb _ _ _ _ _ _)) aq)) (lX _)) (fun C s H fp pn=>(aN (i:=0) (show(["number", "leads"]:List Str).Nodup by symm) rfl (Or.inl rfl))) (fun C s H fp pn=>dF) (fun C s H fp pn=>(PE.eqv (JB (vI hr) (aH 1) (aH 0) (fun _ _=>rfl)) (Df _ _)))))))))),?_⟩
    have Nr:200≤sizeLine:=by decide
    have Bc:=hTs.len;have x0:(xs.take 1).Nodup:=hX.nd.sublist (List.take_sublist _ _);obtain⟨qpT,qpU,hpre,Qq⟩:=hE.at
    nofun;refine⟨o,th,tv,row,xs,ms,gone,ps,rfl,hw,hX,hTs,hth,⟨hrow.1,fun i v e h1 h2=>?_⟩,hE,fun H1 s1=>?_⟩
    ·obtain⟨t,r,h3,h4,h5⟩:=hrow.2 i v e h1 h2;exact⟨t,r,h3,h4,.inl h5⟩
    rw[decide_eq_true hml,decide_eq_true N6];obtain⟨dx,fs,hi,hno⟩:=(hw.same s1).ins m6.1 m6.2;nofun;refine⟨_,_,hi,hno,o,xs,ps,rfl,hw.same s1,fun tl tvs htl zJ=>?_⟩;have s2:Same H1 (upd H1 tl (.lst tvs)):=au htl;have e2:upd H1 tl (.lst tvs) tl=some (.lst tvs):=ak;have UW:=zJ.same s2;generalize upd H1 tl (.lst tvs)=H2 at s2 e2 UW ⊢;have S2:=s1.trans s2;nofun;intro ld hld;have s3:Same H2 (upd H2 ld (.dK [])):=au hld;have e3:upd H2 ld (.dK []) ld=some (.dK (Bj (uZ ps (row.take 0)))):=ak;generalize upd H2 ld (.dK [])=H3 at s3 e3 ⊢;have S3:=S2.trans s3;have ld0:H ld=none:=bU S2 hld;obtain⟨bq,hq⟩:=hth.b;have thl:th≠ld:=fun z=>by
      rcases hth with e | e <;> rw[z,ld0] at e <;> cases e
    have tll:tl≠ld:=fun z=>by rw[z,hld] at e2;cases e2
    have low:∀{H':Hp},(∀b u,b≠ld→H3 b=some u→H' b=some u)→Same H H':=fun k b u e=>k b u (fun z=>by rw[z,ld0] at e;cases e) (S3 b u e);refine⟨bq,⟨_,hq K H3 S3⟩,frQ tv (fun i σ H'=>(∃o4 o5 o6 o7,σ=[some (.ref o),some (.ref th),some (.ref tl),some (.ref ld),o4,o5,o6,o7])∧H' ld=some (.dK (Bj (uZ ps (row.take i))))∧(∀b u,b≠ld→H3 b=some u→H' b=some u)) ⟨⟨_,_,_,_,rfl⟩,e3,fun b u _ e=>e⟩ (fun i σ H' _ h=>hq K H' (low h.2.2)) ?_ ?_⟩
    · rintro i v σ H4 hiv ⟨⟨o4,o5,o6,o7,rfl⟩,e4,k4⟩;have hi2:=(List.getElem?_eq_some_iff.mp hiv).1;obtain⟨e,he⟩:∃e,row[i]? = some e:=⟨_,List.getElem?_eq_getElem (by rw[← hrow.1];exact hi2)⟩;obtain⟨t,r,rfl,ht,hr0⟩:=hrow.2 i v e hiv he;have Qs:=Qq i e he;have S4:=low k4;have Y9:e.2.length≤20:=by
        have l2:=bY Qs.nd (xs:=List.range ps.length) fun j hj=>List.mem_range.mpr (Qs.lt j hj);rw[List.length_range] at l2;omega
      have hok:=Fo (hpre (i+1)) x0;have qbn:=hok.len;rw[take_one he,lJ] at hok qbn ⊢;have hlE:(R_ ps e).length=e.2.length:=by
        rw[← List.length_map (f:=(·.1)),Ob Qs.ln]
      generalize uZ ps (row.take i)=fsi at e4 hok qbn ⊢;have hln:=Qs.ln;have qd5:∀{j:Nat} {k:Nat} {y:Str},e.2[j]? = some k→(bK ps e.1 e.2)[j]? = some y→(R_ ps e)[j]? = some (k,G4 ps k y):=fun {j k y} h1 h2=>by
        unfold R_;rw[List.getElem?_map,(List.getElem?_zip_eq_some (z:=(k,y))).mpr ⟨h1,h2⟩];rfl
      nofun;refine⟨_,(ht.same S4).q,rfl,?_⟩;nofun;refine⟨o,r,e.1,xs,ps,e.2,rfl,hw.same S4,hTs,.inl (S4 _ _ hr0),Qs.lt,Y9,fun rp H5 hrp Y5 s5=>?_⟩;generalize qpV:R_ ps e=lde at hok qbn hlE qd5 ⊢;generalize U8:bK ps e.1 e.2=GX at Y5 hln qd5;have e5:=s5 _ _ e4;have Wa:=s5 _ _ (S4 _ _ hr0);have rld:r≠ld:=fun z=>by rw[z,ld0] at hr0;cases hr0
      have rpl:rp≠ld:=fun z=>by rw[z,e4] at hrp;cases hrp
      nofun;refine⟨⟨_,aY.of Wa⟩,⟨_,aY.of Y5⟩,frZ (aX e.2) (GX.map V.str) (fun j σ H'=>(∃o6 o7,σ=[some (.ref o),some (.ref th),some (.ref tl),some (.ref ld),some (.str e.1),some (.ref r),o6,o7])∧H' ld=some (.dK (Bj (fsi++lde.take j)))∧(∀b u,b≠ld→H5 b=some u→H' b=some u)) ⟨⟨_,_,rfl⟩,by simpa using e5,fun b u _ e=>e⟩ (by simp[aX];omega) (fun j σ H' _ h=>⟨aY.of (h.2.2 _ _ rld Wa),aY.of (h.2.2 _ _ rpl Y5)⟩) ?_ ?_⟩
      · rintro j z1 z2 tt σ H6 hj1 hj2 htt ⟨⟨o6,o7,rfl⟩,e6,k6⟩;obtain⟨k,hk,rfl⟩:∃k,e.2[j]? = some k∧z1 = .int (k:Nat):=by
          unfold aX at hj1;rw[List.getElem?_map] at hj1;obtain⟨k,hk,rfl⟩:=Option.map_eq_some_iff.mp hj1;exact⟨k,hk,rfl⟩
        obtain⟨y,hy,rfl⟩:=qg hj2;have hz:=qd5 hk hy;have hkm:=List.mem_of_getElem? hk;obtain⟨d,hd⟩:∃d,ps[k]? = some d:=⟨_,List.getElem?_eq_getElem (Qs.lt k hkm)⟩;obtain⟨w',hw'⟩:∃w',tvs[k]? = some w':=⟨_,List.getElem?_eq_getElem (by rw[zJ.1];exact Qs.lt k hkm)⟩;obtain⟨td,rfl,htd⟩:=UW.2 k w' d hw' hd;have tdl:td≠ld:=fun z=>by rw[z,hld] at htd;cases htd
        have at6:∀{b:Addr} {u:HO},H3 b=some u→b≠ld→H6 b=some u:=fun e hb=>k6 _ _ hb (s5 _ _ (k4 _ _ hb e));have tl6:=at6 (s3 _ _ e2) tll;have td6:=at6 (s3 _ _ htd) tdl;exists H6,tt,(.tup [.int (k:Nat),.str y]),s7,e7,H7,htt;have hnk:k∉(fsi++lde.take j).map (·.1):=fun hm=>by
          have h2:((fsi++lde.take j++[(k,G4 ps k y)]).map (·.1)).Nodup:=by
            have:fsi++lde.take j++[(k,G4 ps k y)]=fsi++lde.take (j+1):=by rw[take_one hz,List.append_assoc]
            rw[this];exact hok.nd.sublist (List.Sublist.map _ ((List.take_sublist _ _).append_left _))
          rw[List.map_append,List.nodup_append] at h2;exact h2.2.2 k hm k (by simp) rfl
        have qcc:(Bj (fsi++lde.take j)).length<sizeLine:=by
          rw[List.length_append] at qbn;simp[Bj];omega
        have fin:Bj (fsi++lde.take (j+1))=putK (Bj (fsi++lde.take j)) (Sum.inl (k:Int)) (V.int (G4 ps k y)):=by
          rw[Cu hnk,take_one hz,List.append_assoc]
        rw[fin];have qgG:G4 ps k y=if y=d.2 then 0 else 1:=by unfold G4;rw[hd]
        nofun;refine⟨_,.inr (cM.of e7),rfl,?_⟩;nofun;refine⟨_,.inl (aY.of (s7 _ _ tl6)),_,aP hw',?_⟩;nofun;refine⟨_,.inr (cM.of (s7 _ _ td6)),_,aP (j:=1) rfl,?_⟩;nofun;have keep:∀(u:HO) b o,b≠ld→H5 b=some o→upd H7 ld u b=some o:=fun u b o hb e=>by
          rw[aC hb];exact s7 _ _ (k6 _ _ hb e)
        by_cases hyd:y=d.2
        ·refine dz.pos (decide_eq_true hyd) ?_;rw[qgG,if_pos hyd];nofun;exact⟨_,qfQ _ (s7 _ _ e6) qcc,ak,keep _⟩
        ·refine dz.neg (decide_eq_false hyd) ?_;rw[qgG,if_neg hyd];nofun;exact⟨_,qfQ _ (s7 _ _ e6) qcc,ak,keep _⟩
      · rintro σ H6 ⟨⟨o6,o7,rfl⟩,e6,k6⟩;have nl:(aX e.2).length=lde.length:=by simp[aX];omega
        rw[nl,List.take_length] at e6;nofun;exact⟨e6,fun b u hb e=>k6 _ _ hb (s5 _ _ (k4 _ _ hb e))⟩
    · rintro σ H4 ⟨⟨o4,o5,o6,o7,rfl⟩,e4,k4⟩;rw[hrow.1,List.take_length] at e4;have S4:=low k4;have hok:=Fo hE x0;have hks:∀k,k<ps.length→∃v,qW (uZ ps row) k=some v:=fun k hk=>Sd (by rw[uE hE];exact Oc (hE.nd x0).2.1 (hE.nd x0).2.2 N6 hk);obtain⟨dx',fs',hi',hno'⟩:=(hw.same S4).ins uY.1 uY.2;nofun;refine⟨_,_,hi',hno',o,xs,ps,rfl,hw.same S4,?_⟩;nofun;refine⟨by omega,fun D hD=>cmR (fun j σ H'=>(∃o',σ=[o',some (.ref ld)])∧H' D=some (.lst (((nsE ps row).take j).map V.int))∧Same H4 H') ⟨⟨_,rfl⟩,ak,au hD⟩ ?_ ?_⟩
      · rintro k σ H5 hk ⟨⟨o',rfl⟩,eD,s5⟩;obtain⟨v,hv⟩:=hks k (by simpa using hk);have hnk:(nsE ps row)[k]? = some v:=by
          unfold nsE;rw[List.getElem?_map,List.getElem?_range (by simpa using hk)];simp[hv]
        rw[take_one hnk];nofun;refine⟨.int v,by rw[← Option.map_some,← hv,← N_];exact qc_ _ (s5 _ _ e4),_,eD,?_,ak,aV s5 hD⟩;rw[List.length_map,List.length_take];have:k<ps.length:=by simpa using hk
        omega
      · rintro σ H5 ⟨⟨o',rfl⟩,eD,s5⟩;have hnl:(nsE ps row).length=ps.length:=by simp[nsE]
        rw[← hnl,List.take_length] at eD;exact q D H5 (bU S4 hD) eD (S4.trans s5)
def Fq (ps:List (Str×Str)) (xs:List Str) (row:List (Str×List Nat)):Prop:=∃ms gone,jr ps (xs.take 1) row ms gone∧(∀x∈xs,x∈ms)∧(∀x∈ms,x∈xs)∧gone.length=ps.length∧qU ps (xs.take 1) row ms []
theorem Fq.uniq {ps:List (Str×Str)} {xs:List Str} {row uz:List (Str×List Nat)} (h:Fq ps xs row) (h':Fq ps xs uz):row=uz:=by
  obtain⟨_,_,_,_,_,_,d⟩:=h;obtain⟨_,_,_,_,_,_,d'⟩:=h';exact d.uniq d'
def Qv (C Pa Ba:Addr):Sp:=fun vs H Q E=>∃(o:Addr) (xs:List Str) (ps:List (Str×Str)),vs=[.ref o]∧ig C H o xs ps∧GF xs∧je xs ps∧
  ((oX ps xs).length≤1→kO ps xs=[]→∀(r:Addr) (row:List (Str×List Nat)) (H':Hp),Fq ps xs row→H r=none→H' r=some (.lst ((nsE ps row).map V.int))→Same H H'→Q (.ref r) H')∧
  (∀c r,oX ps xs=c::r→r≠[]→∀(dx cc:Addr) (H':Hp),H cc=none→H' dx=some (jh dx [("lot",.ref cc)])→H' cc=some (.lst (c.map V.str))→Same H H'→E (.ref Pa) (some dx) H')∧
  ((oX ps xs).length≤1→∀k lot rest,kO ps xs=(k,lot)::rest→∀(dx c:Addr) (H':Hp),H c=none→H' dx=some (jh dx [("tie",.int (k:Nat)),("lot",.ref c)])→H' c=some (.lst (lot.map V.str))→Same H H'→E (.ref Ba) (some dx) H')
theorem Qw (T:Txt K mg a):cD P w K mg base (V9 P w) 7 a.jB a.rR ["web"] (Qv a.bW a.bH a.bF):=by
  exists T.zG.qdz,Qi
  ·obtain⟨o,xs,ps,rfl,_⟩:=h;rfl
  · obtain⟨o,xs,ps,rfl,hw,hX,hTs,q1,q2,q3⟩:=h;refine⟨_,(aF (bB (PE.eqv (aO (wY T) hr.d rfl T.uW T.qN.kp T.uV .nil bh (aj (aH 0) (aj (PE.eqv (aO (qbh T) hr.d rfl T.Yt T.Ql.kp T.Ys .nil (Bt.passes rfl) (aj (aH 0) aq)) (aK _ _ _)) aq))) (aK _ _ _)))),?_⟩;nofun;refine⟨o,xs,ps,rfl,hw,hX,hTs,fun hcl hb rl tr row ms gone H1 hrl erl htr hE Y4 sX gnd N6 Bc hED s1=>?_,q2,q3⟩;nofun;refine⟨o,rl,tr,row,xs,ms,gone,ps,rfl,hw.same s1,hX,hTs,.inl erl,⟨htr.1,fun i v e h1 h2=>?_⟩,hE,Nat.le_antisymm (bY Y4.nd Y4.sub) (bY hX.nd sX),N6,fun r H2 hr er s2=>?_⟩
    ·obtain⟨t,r,h3,h4,h5,_⟩:=htr.2 i v e h1 h2;exact⟨t,r,h3,.inr h4,h5⟩
    ·nofun;exact q1 hcl hb r row H2 ⟨ms,gone,hE,sX,Y4.sub,N6,hED⟩ (bU s1 hr) er (s1.trans s2)
def jH (H:Hp) (t n l:Addr) (xs:List Str) (tv:List V) (ps:List (Str×Str)):Prop:=H t=some (.tup [.ref n,.ref l])∧H n=some (.lst (xs.map V.str))∧H l=some (.lst tv)∧bI H tv ps∧GF xs∧je xs ps
theorem jH.same {H H':Hp} {t n l:Addr} {xs:List Str} {tv:List V} {ps:List (Str×Str)} (h:jH H t n l xs tv ps) (s:Same H H'):jH H' t n l xs tv ps:=⟨s _ _ h.1,s _ _ h.2.1,s _ _ h.2.2.1,bI.same h.2.2.2.1 s,h.2.2.2.2⟩
theorem int_at {ns:List Int} {i:Nat} {x:V} (h:(ns.map V.int)[i]? = some x):∃m,ns[i]? = some m∧x = .int m:=by
  rw[List.getElem?_map] at h;cases hn:ns[i]? with
  | none=>rw[hn] at h;cases h
  | some n=>rw[hn] at h;cases h;exact⟨n,rfl,rfl⟩
theorem jY.Vc {p b:Addr} {H:Hp} {o:HO} (x:jY H p) (h:H b=some o) (hn:∀zs,o≠.lst zs):b≠p:=fun z=>by
  subst z;obtain⟨u,v,e,_⟩:=x;rw[h] at e;exact hn _ (Option.some.inj e)
theorem Ky {p r:Addr} {H H':Hp} {xs:List V} (h:Sq H r xs) (rp:r≠p) (b:But p H H'):Sq H' r xs:=h.elim (fun e=>.inl (b _ _ rp e)) fun e=>.inr (b _ _ rp e)
def Strong (S:List jd) (xs:List Str):Prop:=∀x∈xs,∀y∈xs,RT (dI S) x y
theorem jY.keep {p:Addr} {H H':Hp} (x:jY H p) (s:Same H H'):jY H' p:=by
  obtain⟨u1,u2,u3,u4⟩:=x;exact⟨u1,u2,s _ _ u3,u4⟩
def Vd (zs:List Int) (fx:Nat→Option Int):Prop:=∀(j:Nat) z,zs[j]? = some z→(z=0∧fx j=some 0)∨(z=1∧fx j=some 1)∨(z=2∧fx j=none)
theorem rB {fx:Nat→Option Int} {ps:List (Str×Str)} {j:Nat} {e:Str×Str} (he:ps[j]? = some e):aG fx (ps.take (j+1)) 0=aG fx (ps.take j) 0++kE fx e j:=by
  have hj:j<ps.length:=(List.getElem?_eq_some_iff.mp he).1;rw[take_one he,oN,List.length_take,Nat.min_eq_left (by omega),Nat.zero_add];simp[aG]
def Qx:Sp:=fun vs H Q _=>∃(t n l g:Addr) (xs:List Str) (tv:List V) (ps:List (Str×Str)) (zs:List Int) (fx:Nat→Option Int) (x:Str),vs=[.ref t,.ref g,.str x]∧jH H t n l xs tv ps∧H g=some (.lst (zs.map V.int))∧zs.length=ps.length∧Vd zs fx∧x∈xs∧
  ∀(r:Addr) (f:List Str) (H':Hp),H r=none→H' r=some (.lst (f.map V.str))→f.length=(lM (aG fx ps 0) xs x).length→(∀y,y∈f↔RT (dI (aG fx ps 0)) x y)→Same H H'→Q (.ref r) H'
theorem sI (T:Txt K mg a):cD P w K mg base mL 1 a.jC a.rW ["_law_web_here", "_law_pointing", "_law_start"] Qx:=by
  exists T.oK.o_,mj
  ·obtain⟨t,n,l,g,xs,tv,ps,zs,fx,x,rfl,_⟩:=h;rfl
  · obtain⟨t,n,l,g,xs,tv,ps,zs,fx,x,rfl,hG,hg,hlen,hst,hx,q⟩:=h;refine⟨_,(aB (bw (i:=3) mj.nd rfl (Or.inl rfl) (cV (aj (aH 2) aq)))
      (aB (jf PassesOwn.never rfl (PI.eqv (cg (K:=K) rfl (bC (bG (K:=K) rfl) (aH 0) aD (fun _ _=>rfl))) (bV _ _)) (aN (i:=4) mj.nd rfl (Or.inl rfl))
      (aF (jf PassesOwn.never rfl (PI.eqv (JC (K:=K) rfl rfl T.nm.zip (aj (bC (bG (K:=K) rfl) (aH 0) aD (fun _ _=>rfl)) (aj (aH 1) aq))) (Dd _ _)) (PG.eqv (cF (K:=K) (n:=2) rfl rfl (eX.eqv (aR (PG.eqv (cF (K:=K) (n:=2) rfl rfl (eX.eqv (aR (aN (i:=5) mj.nd rfl (Or.inl rfl)) (eX.eqv (aR (aN (i:=6) mj.nd rfl (Or.inl rfl)) (eX.mono bZ cX)) (aU _ _))) (aU _ _))) (cI _ _ _)) (eX.eqv (aR (aN (i:=7) mj.nd rfl (Or.inl rfl)) (eX.mono bZ cX)) (aU _ _))) (aU _ _))) (cI _ _ _))
      (aB (cU (PW.pt (tK (aZ kW (aH 7) aD (bM _)) (tK (aZ (xV (K:=K) rfl) (aH 5) (aH 3) rfl) (uI (aZ (nU (K:=K) rfl) (aH 6) (aH 3) rfl))))) (aF (cB (gZ (K:=K) rfl PySem.F.plainAttrs_list PySem.F.slot_list_append PySem.F.type_list_append cu (aH 3) (aj (aH 6) aq)))) bQ)
      (aF (cU (PW.pt (tK (aZ kW (aH 7) aD (bM _)) (tK (aZ (xV (K:=K) rfl) (aH 6) (aH 3) rfl) (uI (aZ (nU (K:=K) rfl) (aH 5) (aH 3) rfl))))) (aF (cB (gZ (K:=K) rfl PySem.F.plainAttrs_list PySem.F.slot_list_append PySem.F.type_list_append cu (aH 3) (aj (aH 5) aq)))) bQ))))))
      (aF (bB (aH 3))))),?_⟩
    have s60:60≤sizeLine:=by decide
    have hX:=hG.2.2.2.2.1;have hTs:=hG.2.2.2.2.2;have l9:=hX.len;have Bc:=hTs.len;have tl:=hG.2.2.2.1.1;have Ku:∀s∈aG fx ps 0,s.2.2∈xs:=yN hTs;right;intro f hf;exists H,f,(.lst [.str x]),sf,ef,H1,hf;refine⟨_,.inr (cM.of (sf _ _ hG.1)),_,aP (j:=0) rfl,⟨_,aY.of (sf _ _ hG.2.1)⟩,?_⟩;refine frL (xs.map V.str) (fun i σ H'=>∃(fs:List Str) (o4 o5 o6 o7:Option V),σ=[some (.ref t),some (.ref g),some (.str x),some (.ref f),o4,o5,o6,o7]∧H' f=some (.lst (fs.map V.str))∧Ow (aG fx ps 0) x fs∧(pD (aG fx ps 0) fs∨i+1≤fs.length)∧Same H H') ⟨[x],none,none,none,none,rfl,ef,Ow.begin _ _,.inr (Nat.le_refl _),sf⟩ (fun i σ H' _ h=>by
      obtain⟨_,_,_,_,_,_,_,_,_,z⟩:=h;exact aY.of (z _ _ hG.2.1)) ?_ ?_
    · rintro i z σ H2 hi ⟨fs,o4,o5,o6,o7,rfl,hf2,hR,hC,s2⟩;right;refine⟨_,.inr (cM.of (s2 _ _ hG.1)),_,aP (j:=1) rfl,?_⟩;right;refine⟨⟨_,aY.of (s2 _ _ hG.2.2.1)⟩,⟨_,aY.of (s2 _ _ hg)⟩,?_⟩;refine frZ tv (zs.map V.int) (fun j σ H'=>∃(fs':List Str) (o5 o6 o7:Option V),σ=[some (.ref t),some (.ref g),some (.str x),some (.ref f),some z,o5,o6,o7]∧H' f=some (.lst (fs'.map V.str))∧iw (aG fx ps 0) (aG fx (ps.take j) 0) x fs fs'∧Same H H') ⟨fs,o5,o6,o7,rfl,hf2,iw.enter hR,s2⟩ (by simp;omega) (fun i σ H' _ h=>by
        obtain⟨_,_,_,_,_,_,_,z⟩:=h;exact⟨aY.of (z _ _ hG.2.2.1),aY.of (z _ _ hg)⟩) ?_ ?_
      · rintro j z1 z2 tt σ H4 hj1 hj2 htt ⟨fs',o5,o6,o7,rfl,hf4,hM,s4⟩;obtain⟨e,he,t2,rfl,Ik⟩:=hG.2.2.2.1.at hj1;obtain⟨m,hm,rfl⟩:=int_at hj2;have st:Same H4 (upd H4 tt (.tup [.ref t2,.int m])):=au htt;have yQ:=st _ _ hf4;have ht5:=st _ _ (s4 _ _ Ik);have s5:=s4.trans st;have ett:upd H4 tt (.tup [.ref t2,.int m]) tt=some (.tup [.ref t2,.int m]):=ak;generalize upd H4 tt (.tup [.ref t2,.int m])=H5 at yQ ht5 s5 ett ⊢;have hf9:=hM.r.len hx Ku;have qbo:∀s∈kE fx e j,s∈aG fx ps 0:=fun s hs=>j4.mpr ⟨j,e,he,by rw[Nat.zero_add];exact hs⟩;have hT1:=rB (fx:=fx) he;generalize aG fx (ps.take (j+1)) 0=T1 at hT1 ⊢;right;refine⟨_,cM.of ett,rfl,_,cM.of ht5,rfl,?_⟩
        rcases hst j m hm with⟨rfl,hfx⟩ | ⟨rfl,hfx⟩ | ⟨rfl,hfx⟩
        · have so:kE fx e j=[(j,e.1,e.2)]:=by unfold kE;rw[hfx];rfl
          have hin:(j,e.1,e.2)∈aG fx ps 0:=qbo _ (by rw[so];simp);rw[so] at hT1;have cv:∀{f:List Str},iw (aG fx ps 0) (aG fx (ps.take j) 0++[(j,e.1,e.2)]) x fs f→iw (aG fx ps 0) T1 x fs f:=fun h=>by rw[hT1];exact h
          right;refine⟨_,.inl (aY.of yQ),rfl,List.all_eq_true.mp (bR _),?_⟩;rw[bD];refine dz.of (fun h1=>?_) (fun h1=>?_)
          · have h1':e.1∈fs':=of_decide_eq_true h1;have d1:inV (.str e.2) (fs'.map V.str) = !decide (¬e.2∈fs'):=by rw[bD];simp
            right;refine⟨_,.inl (aY.of yQ),rfl,List.all_eq_true.mp (bR _),_,d1,dz.of (fun h2=>?_) (fun h2=>?_)⟩
            ·have h2':¬e.2∈fs':=of_decide_eq_true h2;right;refine⟨⟨_,aY.of yQ⟩,_,yQ,by simp;omega,fs'++[e.2],by rw[ak];simp,cv (hM.add hin h1' h2'),aV s5 hf⟩
            · have h2':e.2∈fs':=by simpa using h2
              right;exact⟨fs',yQ,cv (hM.skip (s:=(j,e.1,e.2)) fun _=>h2'),s5⟩
          ·have h1':¬e.1∈fs':=of_decide_eq_false h1;right;exact⟨fs',yQ,cv (hM.skip (s:=(j,e.1,e.2)) fun z=>absurd z h1'),s5⟩
        · have so:kE fx e j=[(j,e.2,e.1)]:=by unfold kE;rw[hfx];rfl
          have Y_:(j,e.2,e.1)∈aG fx ps 0:=qbo _ (by rw[so];simp);rw[so] at hT1;have cv:∀{f:List Str},iw (aG fx ps 0) (aG fx (ps.take j) 0++[(j,e.2,e.1)]) x fs f→iw (aG fx ps 0) T1 x fs f:=fun h=>by rw[hT1];exact h
          right;refine⟨_,.inl (aY.of yQ),rfl,List.all_eq_true.mp (bR _),?_⟩;rw[bD];refine dz.of (fun g1=>?_) (fun g1=>?_)
          · have Qy:e.2∈fs':=of_decide_eq_true g1;have d2:inV (.str e.1) ((fs').map V.str) = !decide (¬e.1∈fs'):=by rw[bD];simp
            have l9':=(hM).r.len hx Ku;right;refine⟨_,.inl (aY.of yQ),rfl,List.all_eq_true.mp (bR _),_,d2,dz.of (fun g2=>?_) (fun g2=>?_)⟩
            ·have Qz:¬e.1∈fs':=of_decide_eq_true g2;right;exact⟨⟨_,aY.of yQ⟩,_,yQ,by rw[List.length_map];omega,fs'++[e.1],by rw[ak];simp,cv ((hM).add Y_ Qy Qz),aV s5 hf⟩
            · have Qz:e.1∈fs':=by simpa using g2
              right;exact⟨fs',yQ,cv ((hM).skip (s:=(j,e.2,e.1)) fun _=>Qz),s5⟩
          ·have Qy:¬e.2∈fs':=of_decide_eq_false g1;right;exact⟨fs',yQ,cv ((hM).skip (s:=(j,e.2,e.1)) fun z=>absurd z Qy),s5⟩
        · have so:kE fx e j=[(j,e.1,e.2)]++[(j,e.2,e.1)]:=by unfold kE;rw[hfx];rfl
          have hin:(j,e.1,e.2)∈aG fx ps 0:=qbo _ (by rw[so];simp);have Y_:(j,e.2,e.1)∈aG fx ps 0:=qbo _ (by rw[so];simp);rw[so,← List.append_assoc] at hT1;have cv:∀{f:List Str},iw (aG fx ps 0) (aG fx (ps.take j) 0++[(j,e.1,e.2)]++[(j,e.2,e.1)]) x fs f→iw (aG fx ps 0) T1 x fs f:=fun h=>by rw[hT1];exact h
          right;refine⟨_,.inl (aY.of yQ),rfl,List.all_eq_true.mp (bR _),?_⟩;rw[bD];refine dz.of (fun h1=>?_) (fun h1=>?_)
          · have h1':e.1∈fs':=of_decide_eq_true h1;have d1:inV (.str e.2) (fs'.map V.str) = !decide (¬e.2∈fs'):=by rw[bD];simp
            right;refine⟨_,.inl (aY.of yQ),rfl,List.all_eq_true.mp (bR _),_,d1,dz.of (fun h2=>?_) (fun h2=>?_)⟩
            · have h2':¬e.2∈fs':=of_decide_eq_true h2;right;have Za:=hM.add hin h1' h2';have hf6:upd H5 f (.lst (fs'.map V.str++[.str e.2])) f=some (.lst ((fs'++[e.2]).map V.str)):=by rw[ak];simp
              have s6:Same H (upd H5 f (.lst (fs'.map V.str++[.str e.2]))):=aV s5 hf;refine⟨⟨_,aY.of yQ⟩,_,yQ,by simp;omega,?_⟩;generalize upd H5 f (.lst (fs'.map V.str++[.str e.2]))=H6 at hf6 s6 ⊢;have Zb:iw (aG fx ps 0) (aG fx (ps.take j) 0++[(j,e.1,e.2)]) x fs (fs'++[e.2]):=Za;generalize fs'++[e.2]=fs6 at hf6 Zb;refine⟨_,.inl (aY.of hf6),rfl,List.all_eq_true.mp (bR _),?_⟩;rw[bD];refine dz.of (fun g1=>?_) (fun g1=>?_)
              · have Qy:e.2∈fs6:=of_decide_eq_true g1;have d2:inV (.str e.1) ((fs6).map V.str) = !decide (¬e.1∈fs6):=by rw[bD];simp
                have l9':=(Zb).r.len hx Ku;right;refine⟨_,.inl (aY.of hf6),rfl,List.all_eq_true.mp (bR _),_,d2,dz.of (fun g2=>?_) (fun g2=>?_)⟩
                ·have Qz:¬e.1∈fs6:=of_decide_eq_true g2;right;exact⟨⟨_,aY.of hf6⟩,_,hf6,by rw[List.length_map];omega,fs6++[e.1],by rw[ak];simp,cv ((Zb).add Y_ Qy Qz),aV s6 hf⟩
                · have Qz:e.1∈fs6:=by simpa using g2
                  right;exact⟨fs6,hf6,cv ((Zb).skip (s:=(j,e.2,e.1)) fun _=>Qz),s6⟩
              ·have Qy:¬e.2∈fs6:=of_decide_eq_false g1;right;exact⟨fs6,hf6,cv ((Zb).skip (s:=(j,e.2,e.1)) fun z=>absurd z Qy),s6⟩
            · have h2':e.2∈fs':=by simpa using h2
              have Za:=hM.skip (s:=(j,e.1,e.2)) fun _=>h2';right;refine⟨_,.inl (aY.of yQ),rfl,List.all_eq_true.mp (bR _),?_⟩;rw[bD];refine dz.of (fun g1=>?_) (fun g1=>?_)
              · have Qy:e.2∈fs':=of_decide_eq_true g1;have d2:inV (.str e.1) ((fs').map V.str) = !decide (¬e.1∈fs'):=by rw[bD];simp
                have l9':=(Za).r.len hx Ku;right;refine⟨_,.inl (aY.of yQ),rfl,List.all_eq_true.mp (bR _),_,d2,dz.of (fun g2=>?_) (fun g2=>?_)⟩
                ·have Qz:¬e.1∈fs':=of_decide_eq_true g2;right;exact⟨⟨_,aY.of yQ⟩,_,yQ,by rw[List.length_map];omega,fs'++[e.1],by rw[ak];simp,cv ((Za).add Y_ Qy Qz),aV s5 hf⟩
                · have Qz:e.1∈fs':=by simpa using g2
                  right;exact⟨fs',yQ,cv ((Za).skip (s:=(j,e.2,e.1)) fun _=>Qz),s5⟩
              ·have Qy:¬e.2∈fs':=of_decide_eq_false g1;right;exact⟨fs',yQ,cv ((Za).skip (s:=(j,e.2,e.1)) fun z=>absurd z Qy),s5⟩
          · have h1':¬e.1∈fs':=of_decide_eq_false h1;have Za:=hM.skip (s:=(j,e.1,e.2)) fun z=>absurd z h1';right;refine⟨_,.inl (aY.of yQ),rfl,List.all_eq_true.mp (bR _),?_⟩;rw[bD];refine dz.of (fun g1=>?_) (fun g1=>?_)
            · have Qy:e.2∈fs':=of_decide_eq_true g1;have d2:inV (.str e.1) ((fs').map V.str) = !decide (¬e.1∈fs'):=by rw[bD];simp
              have l9':=(Za).r.len hx Ku;right;refine⟨_,.inl (aY.of yQ),rfl,List.all_eq_true.mp (bR _),_,d2,dz.of (fun g2=>?_) (fun g2=>?_)⟩
              ·have Qz:¬e.1∈fs':=of_decide_eq_true g2;right;exact⟨⟨_,aY.of yQ⟩,_,yQ,by rw[List.length_map];omega,fs'++[e.1],by rw[ak];simp,cv ((Za).add Y_ Qy Qz),aV s5 hf⟩
              · have Qz:e.1∈fs':=by simpa using g2
                right;exact⟨fs',yQ,cv ((Za).skip (s:=(j,e.2,e.1)) fun _=>Qz),s5⟩
            ·have Qy:¬e.2∈fs':=of_decide_eq_false g1;right;exact⟨fs',yQ,cv ((Za).skip (s:=(j,e.2,e.1)) fun z=>absurd z Qy),s5⟩
      ·rintro σ H4 ⟨fs',o5,o6,o7,rfl,hf4,hM,s4⟩;rw[tl,List.take_length] at hM;obtain⟨hR',hC'⟩:=hM.leave hC;right;exact⟨fs',hf4,hR',hC',s4⟩
    ·rintro σ H2 ⟨fs,o4,o5,o6,o7,rfl,hf2,hR,hC,s2⟩;have hle:=hR.len hx Ku;rw[List.length_map] at hC;have hcl:pD (aG fx ps 0) fs:=hC.elim id fun z=>absurd z (by omega);right;exact q f fs H2 hf hf2 (hR.lM hcl hX.nd hx Ku) (hR.closed hcl) s2
theorem Zc {R S:Str→Str→Prop} (f:∀a b,R a b→S b a) {a b:Str} (h:RT R a b):RT S b a:=by
  induction h with
  | refl=>exact .refl _
  | tail _ q ih=>exact(RT.one (f _ _ q)).trans ih
def Z_ (fx:Nat→Option Int):Nat→Option Int:=fun j=>(fx j).map fun d=>1 - d
theorem Iz {fx:Nat→Option Int} {ps:List (Str×Str)} (h01:∀j d,j<ps.length→fx j=some d→d=0∨d=1) {a b:Str}:dI (aG (Z_ fx) ps 0) a b↔dI (aG fx ps 0) b a:=by
  constructor
  · rintro⟨n,hn⟩;refine⟨n,?_⟩;rw[uN] at hn ⊢;obtain⟨e,he,h⟩:=hn;have hl:n<ps.length:=(List.getElem?_eq_some_iff.mp he).1;refine⟨e,he,?_⟩;unfold Z_ at h;cases hf:fx n with
    | none=>rw[hf] at h;simp at h ⊢;rcases h with⟨rfl,rfl⟩ | ⟨rfl,rfl⟩ <;> simp
    | some d=>
      rw[hf] at h
      rcases h01 n d hl hf with rfl | rfl <;> simp at h ⊢ <;> exact⟨h.2,h.1⟩
  · rintro⟨n,hn⟩;refine⟨n,?_⟩;rw[uN] at hn ⊢;obtain⟨e,he,h⟩:=hn;have hl:n<ps.length:=(List.getElem?_eq_some_iff.mp he).1;refine⟨e,he,?_⟩;unfold Z_;cases hf:fx n with
    | none=>rw[hf] at h;simp at h ⊢;rcases h with⟨rfl,rfl⟩ | ⟨rfl,rfl⟩ <;> simp
    | some d=>
      rw[hf] at h
      rcases h01 n d hl hf with rfl | rfl <;> simp at h ⊢ <;> exact⟨h.2,h.1⟩
theorem Sg {S:List jd} {xs:List Str} {x:Str}:(lM S xs x).length=xs.length↔∀y∈xs,RT (dI S) x y:=by
  constructor
  · intro h y hy;have h2:lM S xs x=xs:=by
      unfold lM at h ⊢;exact List.filter_eq_self.mpr (List.length_filter_eq_length_iff.mp h)
    have:y∈lM S xs x:=by rw[h2];exact hy
    exact(kI.mp this).2
  · intro h;apply Classical.byContradiction;intro hne;have hlt:(lM S xs x).length<xs.length:=by have:=Bq (S:=S) (xs:=xs) (x:=x);omega
    unfold lM at hlt;rw[List.length_filter_lt_length_iff_exists] at hlt;obtain⟨y,hy,hn⟩:=hlt;exact hn (by simpa using h y hy)
def Kz:Sp:=fun vs H Q _=>∃(t n l g:Addr) (xs:List Str) (tv:List V) (ps:List (Str×Str)) (zs:List Int) (fx:Nat→Option Int),vs=[.ref t,.ref g]∧jH H t n l xs tv ps∧H g=some (.lst (zs.map V.int))∧zs.length=ps.length∧Vd zs fx∧
  ∀(b:Bool) (H':Hp),(b=true↔Strong (aG fx ps 0) xs)→Same H H'→Q (.bl b) H'
theorem yR (T:Txt K mg a):cD P w K mg base mL 2 a.gq a.oA ["_law_web_here", "_law_pointing"] Kz:=by
  exists T.pX.o_,rK
  ·obtain⟨t,n,l,g,xs,tv,ps,zs,fx,rfl,_⟩:=h;rfl
  · obtain⟨t,n,l,g,xs,tv,ps,zs,fx,rfl,hG,hg,hlen,hst,q⟩:=h;refine⟨_,(aB (bw (i:=2) rK.nd rfl (Or.inl rfl) (PE.eqv (aO (sI T) hr.d rfl T.qP T.oK.kp T.qO .nil bh (aj (aH 0) (aj (aH 1) (aj (bC (bG (K:=K) rfl) (bC (bG (K:=K) rfl) (aH 0) aD (fun _ _=>rfl)) aD (fun _ _=>rfl)) aq)))) (aK _ _ _)))
      (aB (bw (i:=3) rK.nd rfl (Or.inl rfl) (PE.eqv (aO (sI T) hr.d rfl T.qP T.oK.kp T.qO .nil bh (aj (aH 0) (aj (dG rfl rfl (show bx (ao fM) _ ["_law_web_here", "_law_pointing", "_law_there", "_law_back"] ["_law_turn"] [] ["_law_turn"] from⟨rfl,by symm,by symm,rfl,by symm,by symm⟩) rfl (PI.eqv (cg (K:=K) rfl (aH 1)) (bV _ _)) (fun C s H fp pn=>(aN (i:=0) (show(["_law_turn"]:List Str).Nodup by symm) rfl (Or.inl rfl))) (fun C s H fp pn=>dF) (fun C s H fp pn=>(bC (bG (K:=K) rfl) (cV (aj aD (aj aD (aj aD aq)))) (aH 0) (fun _ _=>rfl)))) (aj (bC (bG (K:=K) rfl) (bC (bG (K:=K) rfl) (aH 0) aD (fun _ _=>rfl)) aD (fun _ _=>rfl)) aq)))) (aK _ _ _)))
      (aF (bB (f9 (cC g_ (aM (bT (K:=K) rfl) rfl T.nm.len PySem.boot_len (aj (aH 2) aq)) (aM (bT (K:=K) rfl) rfl T.nm.len PySem.boot_len (aj (bC (bG (K:=K) rfl) (aH 0) aD (fun _ _=>rfl)) aq)) (bM _)) (lN (cC g_ (aM (bT (K:=K) rfl) rfl T.nm.len PySem.boot_len (aj (aH 3) aq)) (aM (bT (K:=K) rfl) rfl T.nm.len PySem.boot_len (aj (bC (bG (K:=K) rfl) (aH 0) aD (fun _ _=>rfl)) aq)) (bM _)))))))),?_⟩
    have s60:60≤sizeLine:=by decide
    have l9:=hG.2.2.2.2.1.len;have Bc:=hG.2.2.2.2.2.len;obtain⟨x0,hx0⟩:∃x0,xs[0]? = some x0:=⟨_,List.getElem?_eq_getElem (show 0<xs.length by omega)⟩;have R3:=List.mem_of_getElem? hx0;have at0:xG (xs.map V.str) 0=some (.str x0):=aP (j:=0) (by rw[List.getElem?_map,hx0];rfl);right;refine⟨_,.inr (cM.of hG.1),_,aP (j:=0) rfl,?_⟩;right;refine⟨_,.inl (aY.of hG.2.1),_,at0,t,n,l,g,xs,tv,ps,zs,fx,x0,rfl,hG,hg,hlen,hst,R3,fun r1 f1 H1 hr1 e1 hf1 hm1 s1=>?_⟩;right;refine⟨⟨_,aY.of (s1 _ _ hg)⟩,fun D hD=>Ma (zs.map V.int) (fun i σ H'=>(∃o',σ=[o'])∧(∃us:List Int,H' D=some (.lst (us.map V.int))∧us.length=i∧Vd us (Z_ fx))∧Same H1 H') ⟨⟨_,rfl⟩,⟨[],ak,rfl,fun j z h=>by simp at h⟩,au hD⟩ (fun i σ H' _ h=>aY.of (h.2.2 _ _ (s1 _ _ hg))) ?_ ?_⟩
    · rintro i v σ H2 hi ⟨⟨o',rfl⟩,⟨us,hD2,hul,hus⟩,s2⟩;obtain⟨m,hm,rfl⟩:=int_at hi;have hi2:i<zs.length:=(List.getElem?_eq_some_iff.mp hm).1;right;intro p3 hp3;exists H2,p3,(.lst [.int 1,.int 0,.int 2]),s3,e3,H3,hp3;obtain⟨v,hv,hv2⟩:∃v:Int,xG [V.int 1,V.int 0,V.int 2] m=some (.int v)∧((v=0∧Z_ fx i=some 0)∨(v=1∧Z_ fx i=some 1)∨(v=2∧Z_ fx i=none)):=by
        unfold Z_
        rcases hst i m hm with⟨rfl,hf⟩ | ⟨rfl,hf⟩ | ⟨rfl,hf⟩
        ·exact⟨1,aP (j:=0) rfl,.inr (.inl ⟨rfl,by rw[hf];rfl⟩)⟩
        ·exact⟨0,aP (j:=1) rfl,.inl ⟨rfl,by rw[hf];rfl⟩⟩
        ·exact⟨2,aP (j:=2) rfl,.inr (.inr ⟨rfl,by rw[hf];rfl⟩)⟩
      refine⟨_,.inl (aY.of e3),_,hv,_,s3 _ _ hD2,by rw[List.length_map];omega,⟨us++[v],by rw[ak];simp,by simp[hul],fun j z hz=>?_⟩,aV (s2.trans s3) hD⟩
      by_cases hj:j<us.length
      ·rw[List.getElem?_append_left hj] at hz;exact hus j z hz
      · rw[List.getElem?_append_right (by omega)] at hz;have h0:j - us.length=0:=by
          have:=(List.getElem?_eq_some_iff.mp hz).1;simp at this;omega
        rw[h0] at hz;simp at hz;subst hz;have:j=i:=by omega
        subst this;exact hv2
    · rintro σ H2 ⟨⟨o',rfl⟩,⟨us,hD2,hul,hus⟩,s2⟩;rw[List.length_map] at hul;have S2:=s1.trans s2;right;refine⟨_,.inr (cM.of (S2 _ _ hG.1)),_,aP (j:=0) rfl,?_⟩;right;refine⟨_,.inl (aY.of (S2 _ _ hG.2.1)),_,at0,t,n,l,D,xs,tv,ps,us,Z_ fx,x0,rfl,hG.same S2,hD2,by omega,hus,R3,fun r3 f3 H3 hr3 e3 hf3 hm3 s3=>?_⟩;have S3:=S2.trans s3;right;refine⟨_,.inl (aY.of ((s2.trans s3) _ _ e1)),_,.inr (cM.of (S3 _ _ hG.1)),_,aP (j:=0) rfl,?_⟩;right;refine⟨_,.inl (aY.of (S3 _ _ hG.2.1)),?_⟩;have h01:∀j d,j<ps.length→fx j=some d→d=0∨d=1:=fun j d hj hd=>by
        obtain⟨z,hz⟩:∃z,zs[j]? = some z:=⟨_,List.getElem?_eq_getElem (show j<zs.length by omega)⟩
        rcases hst j z hz with⟨_,hf⟩ | ⟨_,hf⟩ | ⟨_,hf⟩ <;> rw[hf] at hd <;> cases hd <;> simp
      have key:Strong (aG fx ps 0) xs↔(lM (aG fx ps 0) xs x0).length=xs.length∧(lM (aG (Z_ fx) ps 0) xs x0).length=xs.length:=by
        rw[Sg,Sg];constructor
        ·intro h;exact⟨h x0 R3,fun y hy=>Zc (fun _ _ z=>(Iz h01).mpr z) (h y hy x0 R3)⟩
        ·rintro⟨h1,h2⟩ y hy z hz;exact(Zc (fun _ _ z=>(Iz h01).mp z) (h2 y hy)).trans (h1 z hz)
      simp only[List.length_map];rw[hf1];refine dz.of (fun h=>?_) (fun h=>?_)
      · have h1:(lM (aG fx ps 0) xs x0).length=xs.length:=by have:=of_decide_eq_true h;omega
        right;refine⟨_,.inl (aY.of e3),_,.inr (cM.of (S3 _ _ hG.1)),_,aP (j:=0) rfl,?_⟩;right;refine⟨_,.inl (aY.of (S3 _ _ hG.2.1)),q _ _ ?_ S3⟩;rw[key,decide_eq_true_eq];simp only[List.length_map];rw[hf3];constructor
        ·intro z;exact⟨h1,by omega⟩
        ·rintro⟨_,z⟩;omega
      · have h1:¬(lM (aG fx ps 0) xs x0).length=xs.length:=fun z=>by
          have:=of_decide_eq_false h;omega
        refine q _ _ ?_ S3;rw[key];exact⟨fun z=>(by cases z),fun z=>absurd z.1 h1⟩
theorem qd6 {H:Hp} {t n l:Addr} {xs:List Str} {tv:List V} {ps:List (Str×Str)} (hG:jH H t n l xs tv ps) {k:Nat} {e:Str×Str} (he:ps[k]? = some e):∃t2,tv[k]? = some (.ref t2)∧H t2=some (.tup [.str e.1,.str e.2]):=by
  have hjl:k<tv.length:=by rw[hG.2.2.2.1.1];exact(List.getElem?_eq_some_iff.mp he).1
  obtain⟨e',he',t2,ht,Ik⟩:=hG.2.2.2.1.at (show tv[k]? = some tv[k] by simp[hjl]);rw[he] at he';cases he';exact⟨t2,by rw[← ht];simp[hjl],Ik⟩
def Ve:Sp:=fun vs H Q _=>∃(t n l r:Addr) (xs c:List Str) (tv:List V) (ps:List (Str×Str)),vs=[.ref t,.ref r]∧jH H t n l xs tv ps∧H r=some (.lst (c.map V.str))∧0<c.length∧c.length<xs.length∧(∀x∈c,x∈xs)∧xs.filter (fun y=>decide (y∈c))=c∧
  ∀H',Same H H'→Q (.bl true) H'
theorem IK (T:Txt K mg a):cD P w K mg base mL 1 a.lD a.uQ ["_law_web_here", "_law_lot"] Ve:=by
  exists T.yH.o_,Uw
  ·obtain⟨t,n,l,r,xs,c,tv,ps,rfl,_⟩:=h;rfl
  · obtain⟨t,n,l,r,xs,c,tv,ps,rfl,hG,hrc,hc0,hc9,hcx,hcf,q⟩:=h;refine⟨_,(aB (cU (PW.pt (lK (eV (cH (aM (rD (K:=K) rfl) rfl T.nm.isinstance boot_isinstance (aj (aH 1) (aj (j_ (v:=.ty "list") rfl T.nm.list boot_list rfl) aq))))) (jG (eV (cH (aM (lY rfl) rfl T.nm.all lR (aj (dG rfl rfl (show bx (ao jj) _ ["_law_web_here", "_law_lot"] ["_law_point"] [] ["_law_point"] from⟨rfl,by symm,by symm,rfl,by symm,by symm⟩) rfl (PI.eqv (cg (K:=K) rfl (aH 1)) (bV _ _)) (fun C s H fp pn=>(aN (i:=0) (show(["_law_point"]:List Str).Nodup by symm) rfl (Or.inl rfl))) (fun C s H fp pn=>dF) (fun C s H fp pn=>(aM (rD (K:=K) rfl) rfl T.nm.isinstance boot_isinstance (aj (aH 0) (aj (j_ (v:=.ty "str") rfl T.nm.str boot_str rfl) aq))))) aq))))))) (aF (bB j9)) bQ)
      (aF (bB (f9 (HF tZ tZ aD (aM (bT (K:=K) rfl) rfl T.nm.len PySem.boot_len (aj (aH 1) aq)) (aM (bT (K:=K) rfl) rfl T.nm.len PySem.boot_len (aj (bC (bG (K:=K) rfl) (aH 0) aD (fun _ _=>rfl)) aq))) (lN (cC (JW (K:=K) rfl hr.units) (aH 1) (dG rfl rfl (show bx (ao jj) _ ["_law_web_here", "_law_lot"] ["_law_name"] [1] ["_law_name", "_law_lot"] from⟨rfl,by symm,by symm,rfl,by symm,by symm⟩) rfl (PI.eqv (cg (K:=K) rfl (bC (bG (K:=K) rfl) (aH 0) aD (fun _ _=>rfl))) (bV _ _)) (fun C s H fp pn=>(aN (i:=0) (show(["_law_name", "_law_lot"]:List Str).Nodup by symm) rfl (Or.inl rfl))) (fun C s H fp pn=>(nM (aZ (xV (K:=K) rfl) (aH 0) (aH 1) rfl))) (fun C s H fp pn=>(aH 0))) (bM _))))))),?_⟩
    have s60:60≤sizeLine:=by decide
    have hX:=hG.2.2.2.2.1;have l9:=hX.len;right;refine⟨_,.lst hrc,_,vK K,dz.neg rfl ?_⟩;right;refine⟨⟨_,aY.of hrc⟩,fun D hD=>Ma (c.map V.str) (fun j σ H'=>(∃o',σ=[o'])∧H' D=some (.lst (List.replicate j (.bl true)))∧Same H H') ⟨⟨_,rfl⟩,ak,au hD⟩ (fun j σ H' _ h=>aY.of (h.2.2 _ _ hrc)) ?_ ?_⟩
    ·rintro j z σ H2 hj ⟨⟨o',rfl⟩,hD2,s2⟩;obtain⟨y,hy,rfl⟩:=qg hj;have hj2:j<c.length:=(List.getElem?_eq_some_iff.mp hy).1;right;refine⟨_,.str _,_,Ae K,?_⟩;refine⟨_,hD2,by simp;omega,by rw[ak,List.replicate_succ'],aV s2 hD⟩
    · rintro σ H2 ⟨⟨o',rfl⟩,hD2,s2⟩;right;refine⟨_,hD2,_,mJ _,?_⟩;rw[show(List.replicate (c.map V.str).length true).all id=true by simp];right;refine⟨_,.inl (aY.of (s2 _ _ hrc)),dz.pos (by simpa using hc0) ?_⟩;right;refine⟨_,.inr (cM.of (s2 _ _ hG.1)),_,aP (j:=0) rfl,_,.inl (aY.of (s2 _ _ hG.2.1)),?_⟩;rw[decide_eq_true (by simpa using hc9)];right;refine⟨_,.inr (cM.of (s2 _ _ hG.1)),_,aP (j:=0) rfl,⟨_,aY.of (s2 _ _ hG.2.1)⟩,fun F hF=>Ma (xs.map V.str) (fun j σ H'=>(∃o',σ=[o',some (.ref r)])∧H' F=some (.lst (((xs.take j).filter fun y=>decide (y∈c)).map V.str))∧Same H2 H') ⟨⟨_,rfl⟩,ak,au hF⟩ (fun j σ H' _ h=>aY.of (h.2.2 _ _ (s2 _ _ hG.2.1))) ?_ ?_⟩
      · rintro j z σ H3 hj ⟨⟨o',rfl⟩,Z7,s3⟩;obtain⟨y,hy,rfl⟩:=qg hj;have hj2:j<xs.length:=(List.getElem?_eq_some_iff.mp hy).1;have hfl:((xs.take j).filter fun y=>decide (y∈c)).length≤(xs.take j).length:=List.length_filter_le _ _;rw[List.length_take] at hfl;rw[take_one hy,List.filter_append,List.map_append];right;refine⟨_,.inl (aY.of (s3 _ _ (s2 _ _ hrc))),rfl,List.all_eq_true.mp (bR _),?_⟩;rw[bD];refine dz.of (fun h=>?_) (fun h=>?_)
        ·have h':y∈c:=of_decide_eq_true h;right;refine⟨_,Z7,by simp;omega,by rw[ak];simp[h'],aV s3 hF⟩
        ·have h':¬y∈c:=of_decide_eq_false h;right;refine⟨by rw[Z7];simp[h'],s3⟩
      · rintro σ H3 ⟨⟨o',rfl⟩,Z7,s3⟩;rw[List.length_map,List.take_length,hcf] at Z7;have hcc:PyData.canLay0 (.list (cW c))=true:=by
          have:=CN c fun x hx=>Ry (hX.nm x (hcx x hx));simp[PyData.canLay0,this]
        have hcd:(PyData.list (cW c)).depth≤64:=by
          have:=xP c;simp[PyData.depth];omega
        right;refine⟨.list (cW c),⟨r,_,rfl,aY.of ((s2.trans s3) _ _ hrc),nR _⟩,.list (cW c),⟨F,_,rfl,aY.of Z7,nR _⟩,hcc,hcc,hcd,?_⟩;rw[show PyData.eqv (.list (cW c)) (.list (cW c))=true by simp[PyData.eqv,CT]];exact q _ (s2.trans s3)
def Od:Sp:=fun vs H Q _=>∃(t n l r:Addr) (xs c:List Str) (tv:List V) (ps:List (Str×Str)),vs=[.ref t,.ref r]∧jH H t n l xs tv ps∧H r=some (.lst (c.map V.str))∧
  ∀(d:Addr) (H':Hp),H d=none→H' d=some (.lst ((zu c ps).map fun k:Nat=>V.int k))→Same H H'→Q (.ref d) H'
theorem Oe (T:Txt K mg a):cD P w K mg base mL 1 a.iK a.pU ["_law_web_here", "_law_lot"] Od:=by
  exists T.wR.o_,M4
  ·obtain⟨t,n,l,r,xs,c,tv,ps,rfl,_⟩:=h;rfl
  · obtain⟨t,n,l,r,xs,c,tv,ps,rfl,hG,hrc,q⟩:=h;refine⟨_,(aF (bB (dG rfl rfl (show bx (ao gH) _ ["_law_web_here", "_law_lot"] ["_law_k", "_law_a", "_law_b"] [1] ["_law_k", "_law_a", "_law_b", "_law_lot"] from⟨rfl,by symm,by symm,rfl,by symm,by symm⟩) rfl (PI.eqv (Bp (K:=K) rfl rfl T.Ib.enumerate (aj (bC (bG (K:=K) rfl) (aH 0) aD (fun _ _=>rfl)) aq)) (uL _ _)) (fun C s H fp pn=>(PG.eqv (cF (K:=K) (n:=2) rfl rfl (eX.eqv (aR (aN (i:=0) (show(["_law_k", "_law_a", "_law_b", "_law_lot"]:List Str).Nodup by symm) rfl (Or.inl rfl)) (eX.eqv (aR (PG.eqv (cF (K:=K) (n:=2) rfl rfl (eX.eqv (aR (aN (i:=1) (show(["_law_k", "_law_a", "_law_b", "_law_lot"]:List Str).Nodup by symm) rfl (Or.inl rfl)) (eX.eqv (aR (aN (i:=2) (show(["_law_k", "_law_a", "_law_b", "_law_lot"]:List Str).Nodup by symm) rfl (Or.inl rfl)) (eX.mono bZ cX)) (aU _ _))) (aU _ _))) (cI _ _ _)) (eX.mono bZ cX)) (aU _ _))) (aU _ _))) (cI _ _ _))) (fun C s H fp pn=>(nM (aZ kW (cC (xV (K:=K) rfl) (aH 1) (aH 3) rfl) (cC (xV (K:=K) rfl) (aH 2) (aH 3) rfl) (bM _)))) (fun C s H fp pn=>(aH 0))))),?_⟩;have s60:60≤sizeLine:=by decide
    have Bc:=hG.2.2.2.2.2.len;have tl:=hG.2.2.2.1.1;have hl:=hG.2.2.1;right;refine⟨_,.inr (cM.of hG.1),_,aP (j:=1) rfl,⟨_,aY.of hl⟩,fun D hD=>cmE tv (fun j σ H'=>(∃o1 o2 o3,σ=[o1,o2,o3,some (.ref r)])∧H' D=some (.lst ((zu c (ps.take j)).map fun k:Nat=>V.int k))∧Same H H') ⟨⟨_,_,_,rfl⟩,ak,au hD⟩ (fun j σ H' _ h=>aY.of (h.2.2 _ _ hl)) ?_ ?_⟩
    · rintro j v tt σ H2 hj htt ⟨⟨o1,o2,o3,rfl⟩,hD2,s2⟩;obtain⟨e,he,t2,rfl,Ik⟩:=hG.2.2.2.1.at hj;have hj2:j<ps.length:=(List.getElem?_eq_some_iff.mp he).1;have st:Same H2 (upd H2 tt (.tup [.int j,.ref t2])):=au htt;have ett:upd H2 tt (.tup [.int j,.ref t2]) tt=some (.tup [.int j,.ref t2]):=ak;have s3:=s2.trans st;have Ir:=st _ _ hD2;generalize upd H2 tt (.tup [.int j,.ref t2])=H3 at st ett s3 Ir ⊢;have hcl:(zu c (ps.take j)).length≤(ps.take j).length:=xR (PJ c) _ _;rw[List.length_take] at hcl;have hct:zu c (ps.take (j+1))=zu c (ps.take j)++rC c e j:=uJ (rC c) he;rw[hct,List.map_append];right;refine⟨_,cM.of ett,rfl,_,cM.of (s3 _ _ Ik),rfl,?_⟩;refine⟨_,.inl (aY.of (s3 _ _ hrc)),rfl,List.all_eq_true.mp (bR _),_,.inl (aY.of (s3 _ _ hrc)),rfl,List.all_eq_true.mp (bR _),?_⟩;rw[bD,bD]
      by_cases hx:(e.1∈c↔e.2∈c)
      ·refine⟨false,by simp[hx],dz.neg rfl ?_⟩;right;refine⟨?_,s3⟩;rw[Ir,show rC c e j=[] from if_pos hx];simp
      ·refine⟨true,by simpa using hx,dz.pos rfl ?_⟩;right;refine⟨_,Ir,by simp;omega,?_,aV s3 hD⟩;rw[ak,show rC c e j=[j] from if_neg hx];simp
    ·rintro σ H2 ⟨⟨o1,o2,o3,rfl⟩,hD2,s2⟩;rw[tl,List.take_length] at hD2;right;exact q D H2 hD hD2 s2
theorem Sh {n j:Nat} {d:Nat}:HT.Ab n d (some (j:Int))=min j n:=by
  simp[HT.Ab];intro h;omega
theorem Zd {xs:List V} {j:Nat}:qF xs none (some (j:Int))=xs.take j:=by
  unfold qF;rw[Sh];simp[HT.Ab,List.take_eq_take_iff]
theorem Ss {xs:List V} {j:Nat}:qF xs (some (j:Int)) none=xs.drop j:=by
  unfold qF;rw[Sh];simp[HT.Ab];rw[List.take_of_length_le (by simp)]
  by_cases h:j≤xs.length
  ·rw[Nat.min_eq_left h]
  ·rw[Nat.min_eq_right (by omega),List.drop_of_length_le (Nat.le_refl _),List.drop_of_length_le (by omega)]
theorem BX {α:Type} {l:List α} {k:Nat} (j:Nat) (hk:k<l.length):(l.take k++l.drop (k+1))[j]? = if j<k then l[j]? else l[j+1]?:=by
  split
  ·rename_i h;rw[List.getElem?_append_left (by rw[List.length_take];omega),List.getElem?_take_of_lt h]
  ·rename_i h;rw[List.getElem?_append_right (by rw[List.length_take];omega),List.length_take,Nat.min_eq_left (by omega),List.getElem?_drop];congr 1;omega
theorem Ze {H:Hp} {vs:List V} {ps:List (Str×Str)} {k:Nat} (h:bI H vs ps) (hk:k<ps.length):bI H (vs.take k++vs.drop (k+1)) (ps.take k++ps.drop (k+1)):=by
  have hl:=h.1;refine⟨by simp;omega,fun i v e h1 h2=>?_⟩;rw[BX i (by omega)] at h1;rw[BX i hk] at h2;split at h1
  ·rename_i hi;rw[if_pos hi] at h2;exact h.2 _ _ _ h1 h2
  ·rename_i hi;rw[if_neg hi] at h2;exact h.2 _ _ _ h1 h2
theorem IV {ps:List (Str×Str)} {k:Nat} (hk:k<ps.length) {x y:Str}:dI (aG (fun _=>none) (ps.take k++ps.drop (k+1)) 0) x y↔jW (fun i=>i≠k) ps x y:=by
  constructor
  · rintro⟨n,hn⟩;rw[uN] at hn;obtain⟨e,he,h⟩:=hn;rw[BX n hk] at he;refine⟨if n<k then n else n+1,by split <;> omega,?_⟩
    have he':ps[if n<k then n else n+1]? = some e:=by
      rw[← he];split <;> rfl
    rw[he']
    rcases h with⟨_,rfl,rfl⟩ | ⟨_,rfl,rfl⟩
    ·exact .inl rfl
    ·exact .inr rfl
  · rintro⟨j,hj,h⟩;refine⟨if j<k then j else j - 1,?_⟩
    rw[uN];have he:(ps.take k++ps.drop (k+1))[if j<k then j else j - 1]? = ps[j]?:=by
      rw[BX _ hk]
      by_cases h1:j<k
      ·rw[if_pos h1,if_pos h1]
      ·rw[if_neg h1,if_neg (by omega),show j - 1+1=j by omega]
    rw[he]
    rcases h with h | h
    ·exact⟨_,h,.inl ⟨rfl,rfl,rfl⟩⟩
    ·exact⟨_,h,.inr ⟨rfl,rfl,rfl⟩⟩
def Ft:Sp:=fun vs H Q _=>∃(t n l r:Addr) (xs:List Str) (tv:List V) (ps:List (Str×Str)) (ns:List Int),vs=[.ref t,.ref r]∧jH H t n l xs tv ps∧H r=some (.lst (ns.map V.int))∧ns.length=ps.length∧(∀z∈ns,0≤z∧z≤1)∧
  ∀H',Same H H'→Q (.bl true) H'
theorem Fv (T:Txt K mg a):cD P w K mg base mL 1 a.eE a.lE ["_law_web_here", "_law_row"] Ft:=by
  exists T.qu.o_,Dv
  ·obtain⟨t,n,l,r,xs,tv,ps,ns,rfl,_⟩:=h;rfl
  · obtain⟨t,n,l,r,xs,tv,ps,ns,rfl,hG,hr0,hnl,h01,q⟩:=h;refine⟨_,(aB (cU (PW.pt (lK (eV (cH (aM (rD (K:=K) rfl) rfl T.nm.isinstance boot_isinstance (aj (aH 1) (aj (j_ (v:=.ty "list") rfl T.nm.list boot_list rfl) aq))))) (jG (aZ kW (aM (bT (K:=K) rfl) rfl T.nm.len PySem.boot_len (aj (aH 1) aq)) (aM (bT (K:=K) rfl) rfl T.nm.len PySem.boot_len (aj (bC (bG (K:=K) rfl) (aH 0) aD (fun _ _=>rfl)) aq)) (bM _))))) (aF (bB j9)) bQ)
      (aF (bB (aM (lY rfl) rfl T.nm.all lR (aj (dG rfl rfl (show bx (ao cP) _ ["_law_web_here", "_law_row"] ["_law_one"] [] ["_law_one"] from⟨rfl,by symm,by symm,rfl,by symm,by symm⟩) rfl (PI.eqv (cg (K:=K) rfl (aH 1)) (bV _ _)) (fun C s H fp pn=>(aN (i:=0) (show(["_law_one"]:List Str).Nodup by symm) rfl (Or.inl rfl))) (fun C s H fp pn=>dF) (fun C s H fp pn=>(f9 (aM (rD (K:=K) rfl) rfl T.nm.isinstance boot_isinstance (aj (aH 0) (aj (j_ (v:=.ty "int") rfl T.nm.int yW rfl) aq))) (f9 (JH (aM (rD (K:=K) rfl) rfl T.nm.isinstance boot_isinstance (aj (aH 0) (aj (j_ (v:=.ty "bool") rfl T.Ib.bool wA rfl) aq)))) (lN (cC (xV (K:=K) rfl) (aH 0) (dH (aj aD (aj aD aq))) rfl)))))) aq))))),?_⟩
    have s60:60≤sizeLine:=by decide
    have Bc:=hG.2.2.2.2.2.len;have tl:=hG.2.2.2.1.1;right;refine⟨_,.lst hr0,_,vK K,dz.neg rfl ?_⟩;right;refine⟨_,.inl (aY.of hr0),_,.inr (cM.of hG.1),_,aP (j:=1) rfl,?_⟩;right;refine⟨_,.inl (aY.of hG.2.2.1),?_⟩;have hlen:(ns.length:Int)=(tv.length:Int):=by omega
    refine⟨false,by rw[decide_eq_true hlen];rfl,dz.neg rfl ?_⟩;right;refine⟨⟨_,aY.of hr0⟩,fun C hC=>Ma (ns.map V.int) (fun j σ H'=>(∃o',σ=[o'])∧H' C=some (.lst (List.replicate j (.bl true)))∧Same H H') ⟨⟨_,rfl⟩,ak,au hC⟩ (fun j σ H' _ h=>aY.of (h.2.2 _ _ hr0)) ?_ ?_⟩
    · rintro k v σ H1 hk ⟨⟨o',rfl⟩,eC,s1⟩;obtain⟨m,hm,rfl⟩:=int_at hk;have hk2:=(List.getElem?_eq_some_iff.mp hm).1;have qpW:=h01 m (List.mem_of_getElem? hm);right;refine⟨_,.int _,_,Af K,dz.pos rfl ?_⟩;right;refine⟨_,.int _,_,rA K,?_⟩;right;intro p hp;exists H1,p,(.tup [.int 0,.int 1]),s2,e2,H2,hp;have hin:inV (.int m) [.int 0,.int 1]=true:=by
        have:m=0∨m=1:=by omega
        rcases this with rfl | rfl <;> decide
      refine⟨_,.inr (cM.of e2),rfl,by intro z hz;simp at hz;rcases hz with rfl | rfl <;> rfl,_,s2 _ _ eC,by simp;omega,?_,aV (s1.trans s2) hC⟩;rw[ak,hin,List.replicate_succ']
    ·rintro σ H1 ⟨⟨o',rfl⟩,eC,s1⟩;right;refine⟨_,eC,_,mJ _,?_⟩;rw[show(List.replicate (ns.map V.int).length true).all id=true by simp];exact q _ s1
theorem rep2 (m:Nat):(List.replicate m [V.int 2]).flatten=(List.replicate m (2:Int)).map V.int:=by
  induction m with
  | zero=>rfl
  | succ m ih=>rw[List.replicate_succ,List.flatten_cons,ih];rfl
theorem st2 (m:Nat):Vd (List.replicate m 2) (fun _=>none):=fun j z hz=>by
  rw[List.getElem?_replicate] at hz;split at hz
  ·cases hz;exact .inr (.inr ⟨rfl,rfl⟩)
  ·cases hz
def Og:Sp:=fun vs H Q _=>∃(t n l:Addr) (xs:List Str) (tv:List V) (ps:List (Str×Str)) (k:Nat) (x:Str),vs=[.ref t,.str x,.int k]∧jH H t n l xs tv ps∧k<ps.length∧x∈xs∧
  ∀(r:Addr) (f:List Str) (H':Hp),H r=none→H' r=some (.lst (f.map V.str))→(∀y,y∈f↔RT (jW (fun i=>i≠k) ps) x y)→Same H H'→Q (.ref r) H'
theorem Oh (T:Txt K mg a):cD P w K mg base mL 2 a.iM a.pW ["_law_web_here", "_law_start", "_law_k"] Og:=by
  exists T.wU.o_,Ai
  ·obtain⟨t,n,l,xs,tv,ps,k,x,rfl,_⟩:=h;rfl
  · obtain⟨t,n,l,xs,tv,ps,k,x,rfl,hG,hk,hx,q⟩:=h;refine⟨_,(aB (bw (i:=3) Ai.nd rfl (Or.inl rfl) (dH (aj (bC (bG (K:=K) rfl) (aH 0) aD (fun _ _=>rfl)) (aj (b_ pC (jg (uc (K:=K) rfl) (bC (bG (K:=K) rfl) (aH 0) aD (fun _ _=>rfl)) mK (PO.eqv (jQ (aH 2)) (iT _))) (jg (uc (K:=K) rfl) (bC (bG (K:=K) rfl) (aH 0) aD (fun _ _=>rfl)) (PO.eqv (jQ (b_ fj (aH 2) aD)) (iT _)) mK)) aq))))
      (aF (bB (PE.eqv (aO (sI T) hr.d rfl T.qP T.oK.kp T.qO .nil bh (aj (aH 3) (aj (b_ RW (cV (aj aD aq)) (aM (bT (K:=K) rfl) rfl T.nm.len PySem.boot_len (aj (bC (bG (K:=K) rfl) (aH 3) aD (fun _ _=>rfl)) aq))) (aj (aH 1) aq)))) (aK _ _ _))))),?_⟩
    have s60:60≤sizeLine:=by decide
    have hX:=hG.2.2.2.2.1;have hTs:=hG.2.2.2.2.2;have Bc:=hTs.len;have tl:=hG.2.2.2.1.1;right;refine⟨_,.inr (cM.of hG.1),_,aP (j:=0) rfl,_,.inr (cM.of hG.1),_,aP (j:=1) rfl,?_⟩;right;refine⟨_,aY.of hG.2.2.1,fun b1 hb1=>?_⟩;rw[Zd];exists H,b1,(.lst (tv.take k)),s1,e1,H1,hb1;refine⟨_,.inr (cM.of (s1 _ _ hG.1)),_,aP (j:=1) rfl,?_⟩;right;refine⟨_,aY.of (s1 _ _ hG.2.2.1),fun b2 hb2=>?_⟩;rw[show((k:Nat):Int)+1=((k+1:Nat):Int) by omega,Ss];exists H1,b2,(.lst (tv.drop (k+1))),s2,e2,H2,hb2;refine⟨_,s2 _ _ e1,_,e2,by simp;omega,fun b3 hb3=>?_⟩;exists H2,b3,(.lst (tv.take k++tv.drop (k+1))),s3,e3,H3,hb3;intro b4 hb4;exists H3,b4,(.tup [.ref n,.ref b3]),s4,e4,H4,hb4;intro b5 hb5;exists H4,b5,(.lst [.int 2]),s5,e5,H5,hb5;have S5:Same H H5:=s1.trans (s2.trans (s3.trans (s4.trans s5)));refine⟨_,.inr (cM.of (s5 _ _ e4)),_,aP (j:=1) rfl,?_⟩;right;have ml:(tv.take k++tv.drop (k+1)).length=(ps.take k++ps.drop (k+1)).length:=by simp;omega
    have m20:(ps.take k++ps.drop (k+1)).length≤20:=by simp;omega
    refine⟨_,.inl (aY.of (s5 _ _ (s4 _ _ e3))),_,e5,by omega,by simp only[List.length_cons,List.length_nil];omega,fun b6 hb6=>?_⟩;rw[rep2,ml];generalize hm:(ps.take k++ps.drop (k+1)).length=m at ml m20;exists H5,b6,(.lst ((List.replicate m (2:Int)).map V.int)),s6,e6,H6,hb6;have S6:=S5.trans s6;have sub:∀d∈ps.take k++ps.drop (k+1),d∈ps:=fun d hd=>(List.mem_append.mp hd).elim List.mem_of_mem_take List.mem_of_mem_drop;have hG6:jH H6 b4 n b3 xs (tv.take k++tv.drop (k+1)) (ps.take k++ps.drop (k+1)):=⟨s6 _ _ (s5 _ _ e4),S6 _ _ hG.2.1,s6 _ _ (s5 _ _ (s4 _ _ e3)),(Ze hG.2.2.2.1 hk).same S6,hX,⟨by omega,fun d hd=>hTs.ok d (sub d hd)⟩⟩;refine⟨b4,n,b3,b6,xs,_,_,List.replicate m 2,fun _=>none,x,rfl,hG6,e6,by rw[List.length_replicate,hm],st2 m,hx,fun r f H7 hr e7 _ hf s7=>?_⟩;right;refine q r f H7 (bU S6 hr) e7 (fun y=>?_) (S6.trans s7);rw[hf];exact⟨RT.mono fun _ _=>(IV hk).mp,RT.mono fun _ _=>(IV hk).mpr⟩
theorem Sv {ps:List (Str×Str)} {xs:List Str} {e:Str×Str} {k:Nat} (h1:e.1∈xs):e.1∈eY ps xs k e.2↔RT (jW (fun i=>i≠k) ps) e.1 e.2:=by
  rw[j6];constructor
  ·exact fun h=>h.2.symm fun _ _ ⟨j,a,b⟩=>⟨j,a,b.symm⟩
  ·exact fun h=>⟨h1,h.symm fun _ _ ⟨j,a,b⟩=>⟨j,a,b.symm⟩⟩
def Fw (ps:List (Str×Str)) (xs:List Str):List Nat:=(kO ps xs).map (·.1)
def Vf:Sp:=fun vs H Q _=>∃(t n l:Addr) (xs:List Str) (tv:List V) (ps:List (Str×Str)),vs=[.ref t]∧jH H t n l xs tv ps∧
  ∀(d:Addr) (H':Hp),H d=none→H' d=some (.lst (aX (Fw ps xs)))→Same H H'→Q (.ref d) H'
theorem IW (T:Txt K mg a):cD P w K mg base mL 3 a.lF a.uR ["_law_web_here"] Vf:=by
  exists T.yI.o_,Ux
  ·obtain⟨t,n,l,xs,tv,ps,rfl,_⟩:=h;rfl
  · obtain⟨t,n,l,xs,tv,ps,rfl,hG,q⟩:=h;refine⟨_,(aF (bB (dG rfl rfl (show bx (ao jM) _ ["_law_web_here"] ["_law_k", "_law_a", "_law_b"] [0] ["_law_k", "_law_a", "_law_b", "_law_web_here"] from⟨rfl,by symm,by symm,rfl,by symm,by symm⟩) rfl (PI.eqv (Bp (K:=K) rfl rfl T.Ib.enumerate (aj (bC (bG (K:=K) rfl) (aH 0) aD (fun _ _=>rfl)) aq)) (uL _ _)) (fun C s H fp pn=>(PG.eqv (cF (K:=K) (n:=2) rfl rfl (eX.eqv (aR (aN (i:=0) (show(["_law_k", "_law_a", "_law_b", "_law_web_here"]:List Str).Nodup by symm) rfl (Or.inl rfl)) (eX.eqv (aR (PG.eqv (cF (K:=K) (n:=2) rfl rfl (eX.eqv (aR (aN (i:=1) (show(["_law_k", "_law_a", "_law_b", "_law_web_here"]:List Str).Nodup by symm) rfl (Or.inl rfl)) (eX.eqv (aR (aN (i:=2) (show(["_law_k", "_law_a", "_law_b", "_law_web_here"]:List Str).Nodup by symm) rfl (Or.inl rfl)) (eX.mono bZ cX)) (aU _ _))) (aU _ _))) (cI _ _ _)) (eX.mono bZ cX)) (aU _ _))) (aU _ _))) (cI _ _ _))) (fun C s H fp pn=>(nM (aZ (nU (K:=K) rfl) (aH 2) (PE.eqv (aO (Oh T) hr.d rfl T.Ek T.wU.kp T.Ej .nil bh (aj (aH 3) (aj (aH 1) (aj (aH 0) aq)))) (aK _ _ _)) rfl))) (fun C s H fp pn=>(aH 0))))),?_⟩;have s60:60≤sizeLine:=by decide
    have hTs:=hG.2.2.2.2.2;have Bc:=hTs.len;have tl:=hG.2.2.2.1.1;have hl:=hG.2.2.1;right;refine⟨_,.inr (cM.of hG.1),_,aP (j:=1) rfl,⟨_,aY.of hl⟩,fun D hD=>cmE tv (fun j σ H'=>(∃o1 o2 o3,σ=[o1,o2,o3,some (.ref t)])∧H' D=some (.lst (aX ((lW (kJ ps xs) (ps.take j) 0).map (·.1))))∧Same H H') ⟨⟨_,_,_,rfl⟩,ak,au hD⟩ (fun j σ H' _ h=>aY.of (h.2.2 _ _ hl)) ?_ ?_⟩
    · rintro j v tt σ H2 hj htt ⟨⟨o1,o2,o3,rfl⟩,hD2,s2⟩;obtain⟨e,he,t2,rfl,Ik⟩:=hG.2.2.2.1.at hj;have hj2:j<ps.length:=(List.getElem?_eq_some_iff.mp he).1;have st:Same H2 (upd H2 tt (.tup [.int j,.ref t2])):=au htt;have ett:upd H2 tt (.tup [.int j,.ref t2]) tt=some (.tup [.int j,.ref t2]):=ak;have s3:=s2.trans st;have Ir:=st _ _ hD2;generalize upd H2 tt (.tup [.int j,.ref t2])=H3 at st ett s3 Ir ⊢;have hcl:=xR (f:=kJ ps xs) (fun e k=>by unfold kJ;split <;> simp) (ps.take j) 0;rw[List.length_take] at hcl;rw[uJ (kJ ps xs) he,List.map_append];have hb:kJ ps xs e j=if e.1∈eY ps xs j e.2 then [] else [(j,eY ps xs j e.2)]:=rfl
      obtain⟨m1,m2,_⟩:=hTs.ok e (List.mem_of_getElem? he);generalize lW (kJ ps xs) (ps.take j) 0=bs at Ir hcl ⊢;right;refine⟨_,cM.of ett,rfl,_,cM.of (s3 _ _ Ik),rfl,?_⟩;right;refine⟨t,n,l,xs,tv,ps,j,e.1,rfl,hG.same s3,hj2,m1,fun r f H4 hr4 e4 hf s4=>?_⟩;have s34:=s3.trans s4;have Kq:=s4 _ _ Ir;right;refine⟨_,.inl (aY.of e4),rfl,List.all_eq_true.mp (bR _),?_⟩;rw[bD]
      by_cases hin:e.1∈eY ps xs j e.2
      ·have hf2:e.2∈f:=(hf e.2).mpr ((Sv m1).mp hin);refine⟨false,by simp[hf2],dz.neg rfl ?_⟩;rw[hb,if_pos hin];right;exact⟨by simpa using Kq,s34⟩
      ·have hf2:¬e.2∈f:=fun z=>hin ((Sv m1).mpr ((hf e.2).mp z));refine⟨true,by simp[hf2],dz.pos rfl ?_⟩;rw[hb,if_neg hin];right;refine⟨_,Kq,by simp[aX];omega,?_,aV s34 hD⟩;rw[ak];simp[aX]
    ·rintro σ H2 ⟨⟨o1,o2,o3,rfl⟩,hD2,s2⟩;rw[tl,List.take_length] at hD2;right;exact q D H2 hD hD2 s2
def qbp (C:Addr):Sp:=fun vs H Q _=>∃(o:Addr) (xs:List Str) (ps:List (Str×Str)),vs=[.ref o]∧ig C H o xs ps∧GF xs∧je xs ps∧
  ((oX ps xs).length≤1→kO ps xs=[]→∀(t r:Addr) (row:List (Str×List Nat)) (H':Hp),Fq ps xs row→H r=none→H' r=some (.lst ((nsE ps row).map V.int))→H' t=some (.tup [.str "pointing",.ref r])→Same H H'→Q (.ref t) H')∧
  (∀c r,oX ps xs=c::r→r≠[]→∀(t cc:Addr) (H':Hp),H cc=none→H' cc=some (.lst (c.map V.str))→H' t=some (.tup [.str "parted",.ref cc])→Same H H'→Q (.ref t) H')∧
  ((oX ps xs).length≤1→∀k lot rest,kO ps xs=(k,lot)::rest→∀(t u c:Addr) (H':Hp),H c=none→H' c=some (.lst (lot.map V.str))→H' u=some (.tup [.int (k:Nat),.ref c])→H' t=some (.tup [.str "barred",.ref u])→Same H H'→Q (.ref t) H')
theorem KC (T:Txt K mg a):cD P w K mg base mL 8 a.rY a.BJ ["_law_made"] (qbp a.bW):=by
  exists T.En.o_,yd
  ·obtain⟨o,xs,ps,rfl,_⟩:=h;rfl
  · obtain⟨o,xs,ps,rfl,hw,hX,hTs,q1,q2,q3⟩:=h;refine⟨_,(aB (qa3 (i:=2) rfl rfl rfl yd.nd rfl rfl (fun R pn xe hx=>(aF (bw (i:=1) yd.nd rfl (Or.inl rfl) (dH (aj nj (aj (Yj hx rfl (Qw T) hr.d rfl T.Ig T.zG.kp T.Ie (aj (aH 0) aq)) aq)))))) rfl T.Eo (Clause.of T.qR T.qQ) rfl T.Ep (Clause.of T.qT T.mG) (fun e=>(aF (bw (i:=1) yd.nd rfl (Or.inl rfl) (dH (aj nj (aj (Dm T.qQ.get T.gP (aH 2) rfl) aq)))))) (fun e=>(aF (bw (i:=1) yd.nd rfl (Or.inl rfl) (dH (aj nj (aj (dH (aj (Dm T.mG.get T.gQ (aH 2) rfl) (aj (Dm T.mG.get T.gR (aH 2) rfl) aq))) aq)))))))
      (aF (bB (aH 1)))),?_⟩
    simp -dsimp[aA,stC];generalize hR:Mz 2 _ a.bH a.bF _ _ _=R;have neB:a.bF≠a.bH:=fun z=>by
      have:=(List.nodup_cons.mp T.nd).2;unfold qdF at this;rw[z] at this;simp at this
    have neP:a.bH≠a.aW:=fun z=>(List.nodup_cons.mp T.nd).1 (by rw[← z];simp[qdF]);refine⟨o,xs,ps,rfl,hw,hX,hTs,fun hn hb r row H1 hrow hr1 e1 s1=>?_,fun x rr hx hrr dx c H1 hc hdx ec s1=>⟨_,rfl,?_⟩,fun hn k lot rest hb dx c H1 hc hdx ec s1=>⟨_,rfl,?_⟩⟩
    ·simp -dsimp[aA,stC];intro p hp;exact q1 hn hb p r row _ hrow hr1 (bN e1 hp) ak (s1.trans (au hp))
    ·subst hR;refine⟨Dl.ofX T.qR T.qQ,.inl ⟨by rw[T.qQ.mro];simp,fun e he=>?_⟩⟩;have se:Same H1 (upd H1 e (zF e a.bH (some dx))):=au he;have ee:upd H1 e (zF e a.bH (some dx)) e=some (zF e a.bH (some dx)):=ak;have S:=s1.trans se;have Vg:=se _ _ hdx;have ec2:=se _ _ ec;generalize upd H1 e (zF e a.bH (some dx))=H2 at se ee S Vg ec2 ⊢;simp -dsimp[aA,stC];refine⟨dx,ee,_,Vg,.ref c,rfl,fun p hp=>?_⟩;exact q2 x rr hx hrr p c _ hc (bN ec2 hp) ak (S.trans (au hp))
    ·subst hR;refine⟨Dl.ofX T.qT T.mG,.inr ⟨by rw[T.mG.mro];simp[neB.symm,neP],by rw[T.mG.mro];simp,fun e he=>?_⟩⟩;have se:Same H1 (upd H1 e (zF e a.bF (some dx))):=au he;have ee:upd H1 e (zF e a.bF (some dx)) e=some (zF e a.bF (some dx)):=ak;have S:=s1.trans se;have Vg:=se _ _ hdx;have ec2:=se _ _ ec;generalize upd H1 e (zF e a.bF (some dx))=H2 at se ee S Vg ec2 ⊢;simp -dsimp[aA,stC];refine⟨dx,ee,_,Vg,_,rfl,dx,ee,_,Vg,.ref c,rfl,fun u hu p hp=>?_⟩;exact q3 hn k lot rest hb p u c _ hc (bN (bN ec2 hu) hp) (bN ak hp) ak (S.trans ((au hu).trans (au hp)))
end K35
namespace L2
open PySem PySem.Spec PyProof.Rows
theorem Vh {vs:List Value} {ss:List Str} (h:StrsAre vs ss):Vals (ss.map V.str) vs:=by
  induction h with
  | nil=>exact .nil
  | cons n t _ ih=>exact .cons ⟨t,rfl⟩ ih
theorem Fx:∀(p:Str) (l:List Str),risingS p l=true→(p::l).Pairwise (fun a b=>¬b.cps.toList<a.cps.toList)
  | p,[],_=>by simp
  | p,x::r,h=>by
    have h':(!ltCps x.cps.toList p.cps.toList && risingS x r)=true:=h;rw[Bool.and_eq_true,ltCps_eq] at h';have h1:¬x.cps.toList<p.cps.toList:=by simpa using h'.1
    have h2:=Fx x r h'.2;refine List.pairwise_cons.mpr ⟨fun y hy=>?_,h2⟩
    rcases List.mem_cons.mp hy with rfl | hy
    ·exact h1
    ·have h3:=(List.pairwise_cons.mp h2).1 y hy;exact fun z=>h1 (List.lt_of_le_of_lt (List.not_lt.mp h3) z)
theorem Fy {l:List Str} (h:sortedS l=true):l.Pairwise (fun a b=>¬b.cps.toList<a.cps.toList):=by
  cases l with
  | nil=>simp
  | cons x r=>exact Fx x r h
theorem QB {a b:List Str} (ha:sortedS a=true) (hb:sortedS b=true) (p:a.Perm b):a=b:=by
  refine p.eq_of_pairwise (le:=fun a b=>¬b.cps.toList<a.cps.toList) (fun x y _ _ h1 h2=>?_) (Fy ha) (Fy hb);have e:x.cps.toList=y.cps.toList:=List.le_antisymm (List.not_lt.mp h1) (List.not_lt.mp h2);cases x;cases y;simp only[Array.toList_inj] at e;rw[e]
section
variable {X:Cx} {K:W.Frag}
def Zf (K:W.Frag):List V→Hp→VK→Prop:=fun xs H Q=>ar1 xs fun v=>isRef v fun l=>∃(ss:List Str),aY K H l (ss.map V.str)∧ss.length<64∧∀(p:Addr) (ss':List Str),H p=none→ss'.Perm ss→sortedS ss'=true→Q (.ref p) (upd H p (.lst (ss'.map V.str)))
@[simp ↓] theorem qgH K xs H Q:Zf K xs H Q=(ar1 xs fun v=>isRef v fun l=>∃(ss:List Str),aY K H l (ss.map V.str)∧ss.length<64∧∀(p:Addr) (ss':List Str),H p=none→ss'.Perm ss→sortedS ss'=true→Q (.ref p) (upd H p (.lst (ss'.map V.str)))):=rfl
theorem Ax (hK:X.K=K):cJ X (.builtin "sorted") (Zf K):=by
  subst hK;intro p_ s σ H xs us Q I r h;obtain⟨v,rfl,h⟩:=ar1.out h;obtain⟨l,rfl,ss,hl,h64,q⟩:=isRef.out h;obtain⟨u,rfl,ru⟩:=r.one;obtain rfl:u=Value.ref l:=ru;obtain⟨its,rv,pl,hz1⟩:=I.list hl;have hle:its.length=ss.length:=by
    have:=rv.length;simpa using this.symm
  refine sorted_strs pl.isList (CV rv) (by omega) fun out ss' a1 a2 a3=>?_;have I1:Inv X p_ σ H {s with heap:=sortedAll s.heap its out}:=I.kept (t':=s.toks) fun _ _=>sortedAll_old;have hn:H (s.heap.objs.size+1)=none:=I.hok.fresh (Nat.le_succ _);obtain⟨e,he⟩:=sortedAll_at s.heap its out;have hlen:ss'.length≤sizeLine:=by
    rw[a2.length_eq];exact Nat.le_trans (Nat.le_of_lt h64) (by decide)
  exact⟨.ref (s.heap.objs.size+1),_,I1.qdE (ob:=.lst (ss'.map V.str)) (Nat.le_trans I.sz (Nat.le_succ _)) (I.Jf (Nat.le_succ _) hn) ⟨by rw[List.length_map];exact hlen,out.toList,e,Vh a1,he⟩,rfl,q _ _ hn a2 a3⟩
end
end L2
namespace K35
open PySem L2
variable {P:Program} {w:World} {K:W.Frag} {mg:Str→Option Value} {base:Heap} {a:Adr}
theorem Vi {ps:List (Str×Str)} {xs:List Str} (hTs:je xs ps) {e:Str×Str} {k:Nat} (hk:ps[k]? = some e) (hb:¬e.1∈eY ps xs k e.2):zu (eY ps xs k e.2) ps=[k]:=by
  have hps:∀e∈ps,e.1∈xs∧e.2∈xs:=fun e he=>⟨(hTs.ok e he).1,(hTs.ok e he).2.1⟩;have key:∀i,i≤ps.length→lW (rC (eY ps xs k e.2)) (ps.take i) 0=if k<i then [k] else []:=by
    intro i
    induction i with
    | zero=>intro _;simp[lW]
    | succ i ih=>
      intro hi;obtain⟨d,hd⟩:∃d,ps[i]? = some d:=⟨ps[i],by simp[show i<ps.length by omega]⟩;rw[uJ _ hd,ih (by omega)];have hc:=Ml hk (hps e (List.mem_of_getElem? hk)).2 hps hb hd;unfold rC
      by_cases hik:i=k
      ·subst hik;rw[if_neg (fun z=>(hc.mp z) rfl),if_neg (by omega),if_pos (by omega)];rfl
      · rw[if_pos (hc.mpr hik),List.append_nil]
        by_cases hki:k<i
        ·rw[if_pos hki,if_pos (by omega)]
        ·rw[if_neg hki,if_neg (by omega)]
  have hkl:k<ps.length:=(List.getElem?_eq_some_iff.mp hk).1;have:=key ps.length (Nat.le_refl _);rw[List.take_length,if_pos hkl] at this;exact this
theorem I_ {α:Type} [DecidableEq α] {xs:List α} {p:α→Bool}:xs.filter (fun y=>decide (y∈xs.filter p))=xs.filter p:=
  List.filter_congr fun y hy=>by
    rw[Bool.eq_iff_iff,decide_eq_true_iff,List.mem_filter];exact⟨fun z=>z.2,fun z=>⟨hy,z⟩⟩
theorem Zg {ps:List (Str×Str)} {xs:List Str} {k:Nat} {e:Str×Str} (hTs:je xs ps) (he:ps[k]? = some e) (hn:¬e.1∈eY ps xs k e.2) :
    0<(eY ps xs k e.2).length∧(eY ps xs k e.2).length<xs.length∧(∀x∈eY ps xs k e.2,x∈xs)∧xs.filter (fun y=>decide (y∈eY ps xs k e.2))=eY ps xs k e.2:=by
  obtain⟨m1,m2,_⟩:=hTs.ok e (List.mem_of_getElem? he);refine⟨List.length_pos_of_mem (j6.mpr ⟨m2,.refl _⟩),?_,fun x hx=>(j6.mp hx).1,by unfold eY lM;exact I_⟩;have hle:(eY ps xs k e.2).length≤xs.length:=List.length_filter_le _ _
  by_cases h:(eY ps xs k e.2).length=xs.length
  ·unfold eY lM at h;have:=List.length_filter_eq_length_iff.mp h e.1 m1;exact absurd (List.mem_filter.mpr ⟨m1,this⟩) hn
  ·omega
theorem Oi {S:List jd} {xs:List Str}:∀(ys:List Str) (acc:List (List Str)),∃r,ys.foldl (gW S xs) acc=acc++r
  | [],acc=>⟨[],by simp⟩
  | y::ys,acc=>by
    obtain⟨r,hr⟩:=Oi (S:=S) (xs:=xs) ys (gW S xs acc y);rw[List.foldl_cons,hr];unfold gW;split
    ·exact⟨r,rfl⟩
    ·exact⟨[lM S xs y]++r,by simp⟩
theorem zL {ps:List (Str×Str)} {xs:List Str} {x0:Str} (h:xs[0]? = some x0):∃r,oX ps xs=lM (aG (fun _=>none) ps 0) xs x0::r:=by
  cases xs with
  | nil=>simp at h
  | cons x ys=>
    simp at h;subst h;unfold oX Bb;rw[List.foldl_cons];have e:gW (aG (fun _=>none) ps 0) (x::ys) [] x=[lM (aG (fun _=>none) ps 0) (x::ys) x]:=by simp[gW]
    rw[e];obtain⟨r,hr⟩:=Oi (S:=aG (fun _=>none) ps 0) (xs:=x::ys) ys [lM (aG (fun _=>none) ps 0) (x::ys) x];exact⟨r,hr⟩
theorem Ja {S:List jd} {xs c:List Str}:∀(ys:List Str),(∀y∈ys,y∈c)→ys.foldl (gW S xs) [c]=[c]
  | [],_=>rfl
  | y::ys,h=>by
    rw[List.foldl_cons];have e:gW S xs [c] y=[c]:=by
      unfold gW;rw[if_pos (by simp;exact h y List.mem_cons_self)]
    rw[e];exact Ja ys fun z hz=>h z (List.mem_cons_of_mem _ hz)
theorem QC {ps:List (Str×Str)} {xs:List Str} {x0:Str} (h:xs[0]? = some x0):(oX ps xs).length≤1↔¬(lM (aG (fun _=>none) ps 0) xs x0).length<xs.length:=by
  have hx0:=List.mem_of_getElem? h;constructor
  · intro hl hlt;have con:=YX hl;have:lM (aG (fun _=>none) ps 0) xs x0=xs:=by
      unfold lM;refine List.filter_eq_self.mpr fun y hy=>?_;simp;exact con x0 hx0 y hy
    rw[this] at hlt;omega
  · intro hn;have hall:∀y∈xs,y∈lM (aG (fun _=>none) ps 0) xs x0:=fun y hy=>by
      have hle:(lM (aG (fun _=>none) ps 0) xs x0).length≤xs.length:=Bq;have heq:lM (aG (fun _=>none) ps 0) xs x0=xs:=by
        unfold lM at hn hle ⊢;exact List.filter_eq_self.mpr (List.length_filter_eq_length_iff.mp (by omega))
      rw[heq];exact hy
    cases xs with
    | nil=>simp at h
    | cons x ys=>
      simp at h;subst h;unfold oX Bb;rw[List.foldl_cons];have e:gW (aG (fun _=>none) ps 0) (x::ys) [] x=[lM (aG (fun _=>none) ps 0) (x::ys) x]:=by simp[gW]
      rw[e,Ja ys fun y hy=>hall y (List.mem_cons_of_mem _ hy)];simp
theorem Sw:∀{c f:List Str},c.Nodup→(∀x∈c,x∈f)→f.length≤c.length→f.Perm c
  | [],f,_,_,hl=>by
    have:f=[]:=List.eq_nil_of_length_eq_zero (by simpa using hl);rw[this]
  | x::c,f,nd,h,hl=>by
    have hx:=h x List.mem_cons_self;obtain⟨h1,h2⟩:=List.nodup_cons.mp nd;refine(List.perm_cons_erase hx).trans (List.Perm.cons x (Sw h2 (fun y hy=>?_) ?_))
    ·exact(List.mem_erase_of_ne (fun z:y=x=>h1 (z▸hy))).mpr (h y (List.mem_cons_of_mem _ hy))
    ·rw[List.length_erase_of_mem hx];simp at hl;omega
theorem Jb {ps:List (Str×Str)} {xs:List Str} {fx:Nat→Option Int} (hTs:je xs ps):∀(ks:List Nat) (h:Str),(bK ps h ks).length=ks.length→(∀z∈ks.zip (bK ps h ks),fx z.1=some (G4 ps z.1 z.2))→
    ∀p∈bK ps h ks,RT (dI (aG fx ps 0)) h p∧∀z,(bK ps h ks).getLast? = some z→RT (dI (aG fx ps 0)) p z
  | [],h,_,_,p,hp=>by cases hp
  | k::ks,h,hl,hf,p,hp=>by
    rw[gU] at hl hf hp ⊢;cases hn:ni ps h k with
    | none=>rw[hn] at hp;cases hp
    | some y=>
      rw[hn] at hl hf hp;simp only[List.length_cons,Nat.add_right_cancel_iff] at hl;simp only[List.zip_cons_cons] at hf;have ih:=Jb hTs ks y hl fun z hz=>hf z (List.mem_cons_of_mem _ hz);have h0:=hf (k,y) List.mem_cons_self;have hst:dI (aG fx ps 0) h y:=by
        refine⟨k,?_⟩;rw[uN];unfold ni at hn;cases hk:ps[k]? with
        | none=>rw[hk] at hn;cases hn
        | some d=>
          rw[hk] at hn;obtain⟨_,_,dne⟩:=hTs.ok d (List.mem_of_getElem? hk);simp only at hn h0;refine⟨d,rfl,?_⟩;split at hn
          ·rename_i h1;cases hn;rw[h0];unfold G4;rw[hk];simp[h1]
          · split at hn
            ·rename_i h2;cases hn;rw[h0];unfold G4;rw[hk];simp[h2,dne]
            ·cases hn
      show RT _ h p∧∀z,(y::bK ps y ks).getLast? = some z→RT _ p z;have last:∀z,(y::bK ps y ks).getLast? = some z→RT (dI (aG fx ps 0)) y z:=fun z hz=>by
        rcases List.mem_cons.mp (List.mem_of_getLast? hz) with rfl | hm
        ·exact .refl _
        ·exact(ih z hm).1
      rcases List.mem_cons.mp hp with rfl | hp
      ·exact⟨.tail (.refl _) hst,last⟩
      · refine⟨RT.trans (.tail (.refl _) hst) (ih p hp).1,fun z hz=>(ih p hp).2 z ?_⟩;cases hr:bK ps y ks with
        | nil=>rw[hr] at hp;cases hp
        | cons w ws=>
          rw[hr] at hz;simpa using hz
theorem Vj {ps:List (Str×Str)} {xs:List Str} {fx:Nat→Option Int} (hTs:je xs ps) {x0:Str} {jV ms:List Str} {row:List (Str×List Nat)} {gone:List Nat} (h:jr ps jV row ms gone) (h0:∀x∈jV,x=x0) (hf:∀z∈uZ ps row,fx z.1=some z.2) :
    ∀x∈ms,RT (dI (aG fx ps 0)) x0 x∧RT (dI (aG fx ps 0)) x x0:=by
  induction h with
  | nil=>intro x hx;rw[h0 x hx];exact⟨.refl _,.refl _⟩
  | @snoc row ms gone e hs he ih=>
    rw[lJ] at hf;have ih:=ih fun z hz=>hf z (List.mem_append.mpr (.inl hz));intro x hx
    rcases List.mem_append.mp hx with hx | hx
    ·exact ih x hx
    ·obtain⟨z,hz1,hz2⟩:=he.en;obtain⟨a1,a2⟩:=Jb (fx:=fx) hTs e.2 e.1 he.ln (fun z hz=>hf (z.1,G4 ps z.1 z.2) (List.mem_append.mpr (.inr (List.mem_map.mpr ⟨z,hz,rfl⟩)))) x (List.dropLast_subset _ hx);exact⟨(ih e.1 he.sm).1.trans a1,(a2 z hz1).trans (ih z hz2).2⟩
theorem Ay {ps:List (Str×Str)} {xs:List Str} {row:List (Str×List Nat)} {ms:List Str} {gone:List Nat} (hX:GF xs) (hTs:je xs ps) (h:jr ps (xs.take 1) row ms gone) (sX:∀x∈xs,x∈ms):Strong (aG (qW (uZ ps row)) ps 0) xs:=by
  obtain⟨x0,hx0⟩:∃x0,xs[0]? = some x0:=⟨_,List.getElem?_eq_getElem hX.len.1⟩;have hok:=Fo h (hX.nd.sublist (List.take_sublist _ _));have key:=Vj (fx:=qW (uZ ps row)) (x0:=x0) hTs h (fun x hx=>by
    cases xs with
    | nil=>simp at hx0
    | cons y ys=>
      simp at hx0 hx;rw[hx,hx0]) fun z hz=>Oa hok.nd hz
  exact fun x hx y hy=>(key x (sX x hx)).2.trans (key y (sX y hy)).1
theorem QD {ps:List (Str×Str)} {jV ms:List Str} {row:List (Str×List Nat)} {gone:List Nat} (h:jr ps jV row ms gone) (h0:jV.Nodup) (N6:gone.length=ps.length):Vd (nsE ps row) (qW (uZ ps row))∧(∀z∈nsE ps row,0≤z∧z≤1):=by
  have hok:=Fo h h0;have hv:∀k,k<ps.length→∃v,qW (uZ ps row) k=some v∧0≤v∧v≤1:=fun k hk=>by
    obtain⟨v,hv⟩:=Sd (fs:=uZ ps row) (k:=k) (by rw[uE h];exact Oc (h.nd h0).2.1 (h.nd h0).2.2 N6 hk);exact⟨v,hv,(Iw hok hv).1,(Iw hok hv).2.1⟩
  have at_:∀{j:Nat} {z:Int},(nsE ps row)[j]? = some z→qW (uZ ps row) j=some z∧0≤z∧z≤1:=fun {j z} hz=>by
    unfold nsE at hz;rw[List.getElem?_map] at hz;obtain⟨k,hk,rfl⟩:=Option.map_eq_some_iff.mp hz;have hj:j<ps.length:=by
      have:=(List.getElem?_eq_some_iff.mp hk).1;simpa using this
    rw[List.getElem?_range hj] at hk;injection hk with hk;subst hk;obtain⟨v,h1,h2⟩:=hv j hj;rw[h1];exact⟨rfl,h2⟩
  refine⟨fun j z hz=>?_,fun z hz=>?_⟩
  · obtain⟨h1,h2,h3⟩:=at_ hz;have:z=0∨z=1:=by omega
    rcases this with rfl | rfl
    ·exact .inl ⟨rfl,h1⟩
    ·exact .inr (.inl ⟨rfl,h1⟩)
  ·obtain⟨j,hj⟩:=List.mem_iff_getElem?.mp hz;exact(at_ hj).2
theorem sJ (ps:List (Str×Str)) (row:List (Str×List Nat)):(nsE ps row).length=ps.length:=by simp[nsE]
theorem qgI {ps:List (Str×Str)} {xs:List Str} {fx:Nat→Option Int} (hTs:je xs ps) {x y:Str} (hx:x∈xs) (h:RT (dI (aG fx ps 0)) x y):y∈xs:=
  RT.closed (P:=fun y=>y∈xs) (fun p q hs _=>by
    obtain⟨n,hn⟩:=hs;exact yN hTs _ hn) hx h
theorem Zh {ps:List (Str×Str)} {xs:List Str} {k:Nat} {lot:List Str} {rest:List (Nat×List Str)} (hb:kO ps xs=(k,lot)::rest):∃e,ps[k]? = some e∧lot=eY ps xs k e.2∧¬e.1∈eY ps xs k e.2:=by
  have hm:(k,lot)∈kO ps xs:=by rw[hb];exact List.mem_cons_self
  unfold kO at hm;obtain⟨j,e,he,hm⟩:=Mj.mp hm;unfold kJ at hm;split at hm
  ·cases hm
  ·rename_i hn;rw[List.mem_singleton] at hm;cases hm;simp only[Nat.zero_add] at hn ⊢;exact⟨e,he,rfl,hn⟩
def Zi (C:Addr):Sp:=fun vs H Q _=>∃(o t n l:Addr) (xs:List Str) (tv:List V) (ps:List (Str×Str)),vs=[.ref o,.ref t]∧ig C H o xs ps∧jH H t n l xs tv ps∧∀H',Same H H'→Q (.bl true) H'
theorem Oj (T:Txt K mg a):cD P w K mg base mL 9 a.oE a.yr ["_law_made", "_law_web_here"] (Zi a.bW):=by
  exists T.BL.o_,qL
  ·obtain⟨o,t,n,l,xs,tv,ps,rfl,_⟩:=h;rfl
  · obtain⟨o,t,n,l,xs,tv,ps,rfl,hw,hG,q⟩:=h;refine⟨_,(aB (kh (PE.eqv (aO (KC T) hr.d rfl T.Kh T.En.kp T.Kg .nil bh (aj (aH 0) aq)) (aK _ _ _)) (PG.eqv (cF (K:=K) (n:=2) rfl rfl (eX.eqv (aR (aN (i:=2) qL.nd rfl (Or.inl rfl)) (eX.eqv (aR (aN (i:=3) qL.nd rfl (Or.inl rfl)) (eX.mono bZ cX)) (aU _ _))) (aU _ _))) (cI _ _ _)))
      (aB (bw (i:=4) qL.nd rfl (Or.inl rfl) (PE.eqv (aO (sI T) hr.d rfl T.qP T.oK.kp T.qO .nil bh (aj (aH 1) (aj (b_ RW (cV (aj aD aq)) (aM (bT (K:=K) rfl) rfl T.nm.len PySem.boot_len (aj (bC (bG (K:=K) rfl) (aH 1) aD (fun _ _=>rfl)) aq))) (aj (bC (bG (K:=K) rfl) (bC (bG (K:=K) rfl) (aH 1) aD (fun _ _=>rfl)) aD (fun _ _=>rfl)) aq)))) (aK _ _ _)))
      (aB (cU (aZ tZ (aM (bT (K:=K) rfl) rfl T.nm.len PySem.boot_len (aj (aH 4) aq)) (aM (bT (K:=K) rfl) rfl T.nm.len PySem.boot_len (aj (bC (bG (K:=K) rfl) (aH 1) aD (fun _ _=>rfl)) aq)) (bM _)) (aF (bB (f9 (cC g_ (aH 2) nj (bM _)) (f9 (PE.eqv (aO (IK T) hr.d rfl T.Ef T.yH.kp T.Ed .nil bh (aj (aH 1) (aj (aH 3) aq))) (aK _ _ _)) (lN (cC (JW (K:=K) rfl hr.units) (aM (Ax (K:=K) rfl) rfl T.Ib.sorted PyProof.Rows.boot_sorted (aj (aH 3) aq)) (aM (Ax (K:=K) rfl) rfl T.Ib.sorted PyProof.Rows.boot_sorted (aj (aH 4) aq)) (bM _))))))) bQ)
      (aB (cU (aZ (JW (K:=K) rfl hr.units) (PE.eqv (aO (IW T) hr.d rfl T.Em T.yI.kp T.El .nil bh (aj (aH 1) aq)) (aK _ _ _)) (cV aq) (bM _)) (aF (bB (f9 (cC g_ (aH 2) nj (bM _)) (f9 (PE.eqv (aO (Fv T) hr.d rfl T.vV T.qu.kp T.vU .nil bh (aj (aH 1) (aj (aH 3) aq))) (aK _ _ _)) (lN (PE.eqv (aO (yR T) hr.d rfl T.uo T.pX.kp T.um .nil bh (aj (aH 1) (aj (aH 3) aq))) (aK _ _ _))))))) bQ)
      (aB (cU (PW.pt (lK (aZ kW (aH 2) nj (bM _)) (lK (cH (aM (rD (K:=K) rfl) rfl T.nm.isinstance boot_isinstance (aj (bC (bG (K:=K) rfl) (aH 3) aD (fun _ _=>rfl)) (aj (j_ (v:=.ty "bool") rfl T.Ib.bool wA rfl) aq)))) (jG (aZ (nU (K:=K) rfl) (bC (bG (K:=K) rfl) (aH 3) aD (fun _ _=>rfl)) (PE.eqv (aO (IW T) hr.d rfl T.Em T.yI.kp T.El .nil bh (aj (aH 1) aq)) (aK _ _ _)) rfl))))) (aF (bB j9)) bQ)
      (aB (kh (aH 3) (PG.eqv (cF (K:=K) (n:=2) rfl rfl (eX.eqv (aR (aN (i:=5) qL.nd rfl (Or.inl rfl)) (eX.eqv (aR (aN (i:=6) qL.nd rfl (Or.inl rfl)) (eX.mono bZ cX)) (aU _ _))) (aU _ _))) (cI _ _ _)))
      (aF (bB (f9 (PE.eqv (aO (IK T) hr.d rfl T.Ef T.yH.kp T.Ed .nil bh (aj (aH 1) (aj (aH 6) aq))) (aK _ _ _)) (f9 (cC (JW (K:=K) rfl hr.units) (PE.eqv (aO (Oe T) hr.d rfl T.Ei T.wR.kp T.Eh .nil bh (aj (aH 1) (aj (aH 6) aq))) (aK _ _ _)) (cV (aj (aH 5) aq)) (bM _)) (lN (cC (xV (K:=K) rfl) (bC (bG (K:=K) rfl) (bC (bG (K:=K) rfl) (bC (bG (K:=K) rfl) (aH 1) aD (fun _ _=>rfl)) (aH 5) (fun _ _=>rfl)) aD (fun _ _=>rfl)) (aH 6) rfl)))))))))))),?_⟩
    have s60:60≤sizeLine:=by decide
    have hX:=hG.2.2.2.2.1;have hTs:=hG.2.2.2.2.2;have l9:=hX.len;have Bc:=hTs.len;have tl:=hG.2.2.2.1.1;obtain⟨x0,hx0⟩:∃x0,xs[0]? = some x0:=⟨_,List.getElem?_eq_getElem hX.len.1⟩;have Zj:=List.mem_of_getElem? hx0;have hj:=QC (ps:=ps) hx0;right;refine⟨o,xs,ps,rfl,hw,hX,hTs,fun hcl hb t1 r row H1 hrow hr1 er et1 s1=>?_,fun c rr hc hrr t1 cc H1 hcc ecc et1 s1=>?_,fun hcl k lot rest hb t1 u c H1 hc ec eu et1 s1=>?_⟩
    · right;refine⟨_,cM.of et1,rfl,?_⟩;right;intro p2 hp2;exists H1,p2,(.lst [.int 2]),s2,e2,H2,hp2;have S2:=s1.trans s2;refine⟨_,.inr (cM.of (S2 _ _ hG.1)),_,aP (j:=1) rfl,?_⟩;right;refine⟨_,.inl (aY.of (S2 _ _ hG.2.2.1)),_,e2,by omega,by simp only[List.length_cons,List.length_nil];omega,fun p3 hp3=>?_⟩;rw[rep2,tl];exists H2,p3,(.lst ((List.replicate ps.length (2:Int)).map V.int)),s3,e3,H3,hp3;have S3:=S2.trans s3;refine⟨_,.inr (cM.of (S3 _ _ hG.1)),_,aP (j:=0) rfl,?_⟩;right;refine⟨_,.inl (aY.of (S3 _ _ hG.2.1)),.str x0,aP (by rw[List.getElem?_map,hx0];rfl),?_⟩;refine⟨t,n,l,p3,xs,tv,ps,List.replicate ps.length 2,fun _=>none,x0,rfl,hG.same S3,e3,by simp,st2 _,Zj,fun rf f H4 hrf ef hfl hfm s4=>?_⟩;have S4:=S3.trans s4;have s14:=(s2.trans s3).trans s4;have QF:=hG.same S4;right;refine⟨_,.inl (aY.of ef),_,.inr (cM.of QF.1),_,aP (j:=0) rfl,?_⟩;right;refine⟨_,.inl (aY.of QF.2.1),?_⟩;refine dz.neg (decide_eq_false (by rw[List.length_map,hfl];exact hj.mp hcl)) ?_;right;refine⟨t,n,l,xs,tv,ps,rfl,QF,fun d5 H5 hd5 e5 s5=>?_⟩;have hb0:Fw ps xs=[]:=by unfold Fw;rw[hb];rfl
      rw[hb0] at e5;right;intro z6 hz6;exists H5,z6,(.lst []),s6,e6,H6,hz6;have s46:=s5.trans s6;refine⟨.list [],⟨d5,_,rfl,aY.of (s6 _ _ e5),rfl⟩,.list [],⟨z6,_,rfl,aY.of e6,rfl⟩,rfl,rfl,by decide,dz.pos rfl ?_⟩;have hG6:=QF.same s46;have er6:=s46 _ _ (s14 _ _ er);obtain⟨ms,gone,hE,sX,hsub,N6,hED⟩:=hrow;obtain⟨hst,h01⟩:=QD hE (hX.nd.sublist (List.take_sublist _ _)) N6;right;refine⟨t,n,l,r,xs,tv,ps,nsE ps row,rfl,hG6,er6,sJ ps row,h01,fun H7 s7=>?_⟩;right;refine⟨t,n,l,r,xs,tv,ps,nsE ps row,qW (uZ ps row),rfl,hG6.same s7,s7 _ _ er6,sJ ps row,hst,fun b H8 hb8 s8=>?_⟩;rw[hb8.mpr (Ay hX hTs hE sX)];exact q _ ((S4.trans s46).trans (s7.trans s8))
    · right;refine⟨_,cM.of et1,rfl,?_⟩;right;intro p2 hp2;exists H1,p2,(.lst [.int 2]),s2,e2,H2,hp2;have S2:=s1.trans s2;refine⟨_,.inr (cM.of (S2 _ _ hG.1)),_,aP (j:=1) rfl,?_⟩;right;refine⟨_,.inl (aY.of (S2 _ _ hG.2.2.1)),_,e2,by omega,by simp only[List.length_cons,List.length_nil];omega,fun p3 hp3=>?_⟩;rw[rep2,tl];exists H2,p3,(.lst ((List.replicate ps.length (2:Int)).map V.int)),s3,e3,H3,hp3;have S3:=S2.trans s3;refine⟨_,.inr (cM.of (S3 _ _ hG.1)),_,aP (j:=0) rfl,?_⟩;right;refine⟨_,.inl (aY.of (S3 _ _ hG.2.1)),.str x0,aP (by rw[List.getElem?_map,hx0];rfl),?_⟩;refine⟨t,n,l,p3,xs,tv,ps,List.replicate ps.length 2,fun _=>none,x0,rfl,hG.same S3,e3,by simp,st2 _,Zj,fun rf f H4 hrf ef hfl hfm s4=>?_⟩;have S4:=S3.trans s4;have s14:=(s2.trans s3).trans s4;have QF:=hG.same S4;right;refine⟨_,.inl (aY.of ef),_,.inr (cM.of QF.1),_,aP (j:=0) rfl,?_⟩;right;refine⟨_,.inl (aY.of QF.2.1),?_⟩;obtain⟨r',hr'⟩:=zL (ps:=ps) hx0;rw[hc] at hr';cases hr';have hlt:(lM (aG (fun _=>none) ps 0) xs x0).length<xs.length:=by
        apply Classical.byContradiction;intro hn;have:=hj.mpr hn;rw[hc] at this;exact hrr (by simpa using this)
      refine dz.pos (decide_eq_true (by rw[List.length_map,hfl];exact hlt)) ?_;have qgJ:x0∈lM (aG (fun _=>none) ps 0) xs x0:=kI.mpr ⟨Zj,.refl _⟩;have hcf:xs.filter (fun y=>decide (y∈lM (aG (fun _=>none) ps 0) xs x0))=lM (aG (fun _=>none) ps 0) xs x0:=by unfold lM;exact I_
      have hcn:(lM (aG (fun _=>none) ps 0) xs x0).Nodup:=by unfold lM;exact hX.nd.filter _
      have hfin:∀y∈f,y∈xs:=fun y hy=>qgI hTs Zj ((hfm y).mp hy);have hperm:f.Perm (lM (aG (fun _=>none) ps 0) xs x0):=Sw hcn (fun y hy=>(hfm y).mpr (kI.mp hy).2) (by rw[hfl];exact Nat.le_refl _);have hcx:∀x∈lM (aG (fun _=>none) ps 0) xs x0,x∈xs:=fun x hx=>(kI.mp hx).1;generalize lM (aG (fun _=>none) ps 0) xs x0=c at hlt qgJ hcf hperm hcx ecc;right;refine⟨t,n,l,cc,xs,c,tv,ps,rfl,QF,s14 _ _ ecc,List.length_pos_of_mem qgJ,hlt,hcx,hcf,fun H5 s5=>?_⟩;have qmC:=s5 _ _ (s14 _ _ ecc);right;refine⟨c,aY.of qmC,by omega,fun p6 c6 hp6 hc6 hs6=>?_⟩;exists H5,p6,(.lst (c6.map V.str)),s6,e6,H6,hp6;refine⟨f,aY.of (s6 _ _ (s5 _ _ ef)),by rw[hperm.length_eq];omega,fun p7 c7 hp7 hc7 hs7=>?_⟩;obtain rfl:c6=c7:=QB hs6 hs7 (hc6.trans ((hc7.trans hperm).symm));exists H6,p7,(.lst (c6.map V.str)),s7,e7,H7,hp7;have hcc:PyData.canLay0 (.list (cW c6))=true:=by
        have:=CN c6 fun x hx=>Ry (hX.nm x (hcx x (hc6.mem_iff.mp hx)));simp[PyData.canLay0,this]
      have hcd:(PyData.list (cW c6)).depth≤64:=by
        have:=xP c6;simp[PyData.depth];omega
      refine⟨.list (cW c6),⟨p6,_,rfl,aY.of (s7 _ _ e6),nR _⟩,.list (cW c6),⟨p7,_,rfl,aY.of e7,nR _⟩,hcc,hcc,hcd,?_⟩;rw[show PyData.eqv (.list (cW c6)) (.list (cW c6))=true by simp[PyData.eqv,CT]];exact q _ (S4.trans (s5.trans (s6.trans s7)))
    · right;refine⟨_,cM.of et1,rfl,?_⟩;right;intro p2 hp2;exists H1,p2,(.lst [.int 2]),s2,e2,H2,hp2;have S2:=s1.trans s2;refine⟨_,.inr (cM.of (S2 _ _ hG.1)),_,aP (j:=1) rfl,?_⟩;right;refine⟨_,.inl (aY.of (S2 _ _ hG.2.2.1)),_,e2,by omega,by simp only[List.length_cons,List.length_nil];omega,fun p3 hp3=>?_⟩;rw[rep2,tl];exists H2,p3,(.lst ((List.replicate ps.length (2:Int)).map V.int)),s3,e3,H3,hp3;have S3:=S2.trans s3;refine⟨_,.inr (cM.of (S3 _ _ hG.1)),_,aP (j:=0) rfl,?_⟩;right;refine⟨_,.inl (aY.of (S3 _ _ hG.2.1)),.str x0,aP (by rw[List.getElem?_map,hx0];rfl),?_⟩;refine⟨t,n,l,p3,xs,tv,ps,List.replicate ps.length 2,fun _=>none,x0,rfl,hG.same S3,e3,by simp,st2 _,Zj,fun rf f H4 hrf ef hfl hfm s4=>?_⟩;have S4:=S3.trans s4;have s14:=(s2.trans s3).trans s4;have QF:=hG.same S4;right;refine⟨_,.inl (aY.of ef),_,.inr (cM.of QF.1),_,aP (j:=0) rfl,?_⟩;right;refine⟨_,.inl (aY.of QF.2.1),?_⟩;refine dz.neg (decide_eq_false (by rw[List.length_map,hfl];exact hj.mp hcl)) ?_;obtain⟨e,he,qd7,hnot⟩:=Zh hb;have qd8:k∈Fw ps xs:=by unfold Fw;rw[hb];simp
      obtain⟨lt0,lt9,lin,lfl⟩:=Zg hTs he hnot;have hcr:=Vi hTs he hnot;have qgK:e.2∈eY ps xs k e.2:=j6.mpr ⟨(hTs.ok e (List.mem_of_getElem? he)).2.1,.refl _⟩;rw[← qd7] at lt0 lt9 lin lfl hcr qgK;right;refine⟨t,n,l,xs,tv,ps,rfl,QF,fun d5 H5 hd5 e5 s5=>?_⟩;right;intro z6 hz6;exists H5,z6,(.lst []),s6,e6,H6,hz6;have s46:=s5.trans s6;have hG6:=QF.same s46;have ly:=lay_ints ((Fw ps xs).map fun n:Nat=>(n:Int));have dp:=CW ((Fw ps xs).map fun n:Nat=>(n:Int));have hne:PyData.eqv (.list (fY ((Fw ps xs).map fun n:Nat=>(n:Int)))) (.list [])=false:=by
        cases hbn:Fw ps xs with
        | nil=>rw[hbn] at qd8;cases qd8
        | cons b bs=>simp[fY,PyData.eqv,PyData.eqvAll]
      have e56:H6 d5=some (.lst (((Fw ps xs).map fun n:Nat=>(n:Int)).map V.int)):=by rw[← uD];exact s6 _ _ e5
      refine⟨.list (fY ((Fw ps xs).map fun n:Nat=>(n:Int))),⟨d5,_,rfl,aY.of e56,mO _⟩,.list [],⟨z6,_,rfl,aY.of e6,rfl⟩,by simp[PyData.canLay0,ly],rfl,by simp[PyData.depth];omega,dz.neg hne ?_⟩;right;have eu6:=s46 _ _ (s14 _ _ eu);refine⟨_,.inr (cM.of eu6),_,aP (j:=0) rfl,_,.int _,_,rA K,dz.neg rfl ?_⟩;right;refine⟨_,.inr (cM.of eu6),_,aP (j:=0) rfl,t,n,l,xs,tv,ps,rfl,hG6,fun d7 H7 hd7 e7 s7=>?_⟩;have eu7:=s7 _ _ eu6;right;refine⟨_,.inl (aY.of e7),rfl,Iv _,?_⟩;rw[R8,decide_eq_true qd8];refine⟨false,rfl,dz.neg rfl ?_⟩;right;refine⟨_,cM.of eu7,rfl,?_⟩;have hG7:=hG6.same s7;have ec7:=s7 _ _ (s46 _ _ (s14 _ _ ec));right;refine⟨t,n,l,c,xs,lot,tv,ps,rfl,hG7,ec7,lt0,lt9,lin,lfl,fun H8 s8=>?_⟩;right;refine⟨t,n,l,c,xs,lot,tv,ps,rfl,hG7.same s8,s8 _ _ ec7,fun d9 H9 hd9 e9 s9=>?_⟩;rw[hcr] at e9;right;intro za hza;exists H9,za,(.lst [.int (k:Nat)]),sa,ea,Ha,hza;have s7a:=(s8.trans s9).trans sa;have hGa:=hG7.same s7a;obtain⟨t2,htv,Ik⟩:=qd6 hGa he;refine⟨.list (fY [(k:Int)]),⟨d9,_,rfl,aY.of (sa _ _ e9),mO [(k:Int)]⟩,.list (fY [(k:Int)]),⟨za,_,rfl,aY.of ea,mO [(k:Int)]⟩,rfl,rfl,by have:=CW [(k:Int)];simp[PyData.depth];omega,dz.pos (by simp[PyData.eqv,Mp]) ?_⟩;right;refine⟨_,.inr (cM.of hGa.1),_,aP (j:=1) rfl,?_⟩;right;refine⟨_,.inl (aY.of hGa.2.2.1),_,aP htv,?_⟩;right;refine⟨_,.inr (cM.of Ik),_,aP (j:=1) rfl,_,.inl (aY.of (s7a _ _ ec7)),rfl,List.all_eq_true.mp (bR _),?_⟩;rw[bD,decide_eq_true qgK];exact q _ ((S4.trans (s46.trans s7)).trans s7a)
end K35
namespace L2
open PySem PySem.Spec PyProof.Rows
section
variable {X:Cx}
def qgL (ta:TA):TE:=fun σ H Q=>ta σ H fun vs H1=>ar2 vs fun v w=>isInt v fun m=>isInt w fun n=>0≤m∧m≤n∧n≤1000∧∀p,H1 p=none→Q (.ref p) (upd H1 p (.lst ((List.range' m.toNat (n - m).toNat).map fun i=>V.int (i:Nat))))
@[simp ↓] theorem qmD ta σ H Q:qgL ta σ H Q=ta σ H fun vs H1=>ar2 vs fun v w=>isInt v fun m=>isInt w fun n=>0≤m∧m≤n∧n≤1000∧∀p,H1 p=none→Q (.ref p) (upd H1 p (.lst ((List.range' m.toNat (n - m).toNat).map fun i=>V.int (i:Nat)))):=rfl
theorem G5 (hc:X.calm=true) {a b:Expr} {ta:TA} {p p2 pos pos2:Pos} (hg1:Gl X "list") (hm1:X.mg "list" = none) (hg2:Gl X "range") (hm2:X.mg "range" = none) (ha:PA X [a,b] ta)
    (hs:starEach [a,b] X.env=[(false,eval a X.env),(false,eval b X.env)]:=by rfl) (hs2:starEach [b] X.env=[(false,eval b X.env)]:=by rfl)
    (hs1:starEach [.Call (.Name "range" p2) [a,b] [] pos2] X.env=[(false,eval (.Call (.Name "range" p2) [a,b] [] pos2) X.env)]:=by rfl) :
    PE X (.Call (.Name "list" p) [.Call (.Name "range" p2) [a,b] [] pos2] [] pos) (qgL ta):=by
  intro p_ s σ H Q I h;refine wpAny_Call_Name_kw (oM I hg1 hm1 boot_list ?_ (by decide) (by decide));refine PyProof.Rows.callWith_type1 ?_ (by rw[hs1];rfl) (by rfl);rw[hs1];show wpAny _ _ (spliced ((false,eval (.Call (.Name "range" p2) [a,b] [] pos2) X.env)::[])) _ _ s;refine Calls.spliced_cons ?_;refine wpAny_Call_Name_kw (oM I hg2 hm2 boot_range ?_ (by decide) (by decide));refine PyProof.Rows.callWith_type1 (dD (ha pos2 p_ s σ H _ I h) fun us s1 z=>?_) (by rw[hs,hs2]) (by rw[hs2];rfl);obtain⟨vs,H1,I1,r1,q1⟩:=z;obtain⟨v,v',rfl,q2⟩:=ar2.out q1;obtain⟨m,rfl,q3⟩:=isInt.out q2;obtain⟨n,rfl,h0,h1,h2,q⟩:=isInt.out q3;obtain⟨u,u',rfl,r,r'⟩:=r1.two;obtain⟨t,rfl⟩:=r;obtain⟨t',rfl⟩:=r';refine call_range_2 (Calls.spliced_nil ?_);have hsz:(1000:Nat)≤sizeLine:=by decide
  have en:Builtin.Range.rangeSize m n 1=((n - m).toNat:Int):=by
    rw[rangeSize_one];split <;> omega
  refine call_list_range (n:=(n - m).toNat) (I1.ok.hd hc) (IsRange.new ..) (small_one (by omega) (by omega) (by omega) (by omega)) en (by omega) fun h' tk acc' c' hk hD hit=>?_;have hle:s1.heap.objs.size≤(s1.heap.push {cls:=.type "range",data:=.fields #[.int m t,.int n t',.int 1 s1.toks]}).objs.size:=by rw[Heap.size_push];exact Nat.le_succ _
  have hf:=I1.hok.fresh hle;refine⟨.ref _,_,I1.laid (t':=tk) (fun b o e=>hk b o (Heap.get?_push_of_some _ e)) hle ?_,rfl,q _ hf⟩;refine(show cA _ _ _ _ _ (.lst _) from⟨by simp;omega,acc'.toList,c',?_,by simpa using hD⟩);refine wF _ m.toNat _ (by simpa using hit.1) fun j v e=>?_;obtain⟨t,rfl⟩:=hit.2 j v (by simpa using e);exact⟨t,by congr 1;omega⟩
end
end L2
namespace K35
open PySem L2
variable {P:Program} {w:World} {K:W.Frag} {mg:Str→Option Value} {base:Heap} {a:Adr}
theorem Zk {ps qs:List (Str×Str)} {h:Str} {k:Nat} (hk:k<ps.length):ni (ps++qs) h k=ni ps h k:=by
  unfold ni;rw[List.getElem?_append_left hk]
theorem u0 {ps qs:List (Str×Str)}:∀(ks:List Nat) (h:Str),(∀k∈ks,k<ps.length)→bK (ps++qs) h ks=bK ps h ks
  | [],_,_=>rfl
  | k::ks,h,hk=>by
    rw[gU,gU,Zk (hk k List.mem_cons_self)];cases ni ps h k with
    | none=>rfl
    | some y=>simp only;rw[u0 ks y fun j hj=>hk j (List.mem_cons_of_mem _ hj)]
theorem wj.app {ps qs:List (Str×Str)} {ms:List Str} {gone:List Nat} {e:Str×List Nat} (h:wj ps ms gone e):wj (ps++qs) ms gone e:=by
  have ep:=u0 (qs:=qs) e.2 e.1 h.lt;exact⟨h.sm,h.ne,h.nd,fun k hk=>by have:=h.lt k hk;rw[List.length_append];omega,h.fr,by rw[ep];exact h.ln,by rw[ep];exact h.en,by rw[ep];exact h.pn,by rw[ep];exact h.pf⟩
theorem jr.app {ps qs:List (Str×Str)} {jV ms:List Str} {row:List (Str×List Nat)} {gone:List Nat} (h:jr ps jV row ms gone):jr (ps++qs) jV row ms gone:=by
  induction h with
  | nil=>exact .nil
  | @snoc row ms gone e hs he ih=>
    rw[← u0 (qs:=qs) e.2 e.1 he.lt];exact .snoc ih he.app
theorem qbq {ps qs:List (Str×Str)} {e:Str×List Nat} (h:∀k∈e.2,k<ps.length):R_ (ps++qs) e=R_ ps e:=by
  unfold R_;rw[u0 (qs:=qs) e.2 e.1 h];refine List.map_congr_left fun z hz=>?_;have hk:z.1<ps.length:=h z.1 (List.of_mem_zip hz).1;unfold G4;rw[List.getElem?_append_left hk]
theorem qbr {ps qs:List (Str×Str)} {jV ms:List Str} {row:List (Str×List Nat)} {gone:List Nat} (h:jr ps jV row ms gone):uZ (ps++qs) row=uZ ps row:=by
  induction h with
  | nil=>rfl
  | @snoc row ms gone e hs he ih=>rw[lJ,lJ,ih,qbq he.lt]
def yS:List Str→List (Str×Str)
  | x::y::r=>(x,y)::yS (y::r)
  | _=>[]
theorem KD:∀(x:Str) (r:List Str),(yS (x::r)).length=r.length
  | _,[]=>rfl
  | x,y::r=>by
    show(yS (y::r)).length+1=_;rw[KD y r];rfl
theorem Sx:∀(l:List Str) (k:Nat) (x y:Str),l[k]? = some x→l[k+1]? = some y→(yS l)[k]? = some (x,y)
  | [],k,x,y,h,_=>by simp at h
  | [w],k,x,y,_,h=>by simp at h
  | w::v::r,0,x,y,h1,h2=>by
    simp at h1 h2;subst h1 h2;rfl
  | w::v::r,k+1,x,y,h1,h2=>by
    show((w,v)::yS (v::r))[k+1]? = _;rw[List.getElem?_cons_succ];exact Sx (v::r) k x y (by simpa using h1) (by simpa using h2)
theorem KH:∀(r:List Str) (x:Str) (ps:List (Str×Str)),bK (ps++yS (x::r)) x (List.range' ps.length r.length)=r∧∀z∈(List.range' ps.length r.length).zip r,G4 (ps++yS (x::r)) z.1 z.2=0
  | [],x,ps=>⟨rfl,by simp⟩
  | y::r,x,ps=>by
    have e:ps++yS (x::y::r)=(ps++[(x,y)])++yS (y::r):=by simp[yS]
    obtain⟨h1,h2⟩:=KH r y (ps++[(x,y)]);rw[List.length_append,List.length_singleton] at h1 h2;have hk:((ps++[(x,y)])++yS (y::r))[ps.length]? = some (x,y):=by simp
    rw[e,List.length_cons,List.range'_succ];constructor
    · rw[gU];have hn:ni ((ps++[(x,y)])++yS (y::r)) x ps.length=some y:=by
        unfold ni;rw[hk];simp
      rw[hn];simp only;rw[h1]
    · intro z hz;rw[List.zip_cons_cons] at hz
      rcases List.mem_cons.mp hz with rfl | hz
      ·unfold G4;rw[hk];simp
      ·exact h2 z hz
theorem Zm {xs:List Str}:∀(mid:List Str) (x w:Str),(∀z∈x::(mid++[w]),z∈xs)→(x::mid).Nodup→(mid++[w]).Nodup→(mid=[]→x≠w)→∀e∈yS (x::(mid++[w])),e.1∈xs∧e.2∈xs∧e.1≠e.2
  | [],x,w,hin,_,_,hne,e,he=>by
    have:e=(x,w):=by simpa [yS] using he
    subst this;exact⟨hin x (by simp),hin w (by simp),hne rfl⟩
  | y::r,x,w,hin,h1,h2,_,e,he=>by
    have he':e=(x,y)∨e∈yS (y::(r++[w])):=by simpa [yS] using he
    rcases he' with rfl | he'
    ·refine⟨hin x (by simp),hin y (by simp),fun z=>?_⟩;simp only at z;rw[z] at h1;simp at h1
    ·obtain⟨_,h1'⟩:=List.nodup_cons.mp h1;rw[List.cons_append,List.nodup_cons] at h2;exact Zm r y w (fun z hz=>hin z (List.mem_cons_of_mem _ hz)) h1' h2.2 (fun hr z=>h2.1 (by simp[z])) e he'
theorem Zn {xs:List Str} {ps:List (Str×Str)} {row:List (Str×List Nat)} {m nw:Nat} {x w:Str} (hX:xs.Nodup) (h:jr ps (xs.take 1) row (xs.take m) (List.range ps.length)) (hm:m+nw≤xs.length) (hx:x∈xs.take m) (hw:w∈xs.take m) :
    jr (ps++yS (x::((xs.drop m).take nw++[w]))) (xs.take 1) (row++[(x,List.range' ps.length (nw+1))]) (xs.take (m+nw)) (List.range (ps++yS (x::((xs.drop m).take nw++[w]))).length):=by
  have hl:((xs.drop m).take nw++[w]).length=nw+1:=by simp;omega
  obtain⟨hp,_⟩:=KH ((xs.drop m).take nw++[w]) x ps;rw[hl] at hp;have hcl:(ps++yS (x::((xs.drop m).take nw++[w]))).length=ps.length+(nw+1):=by rw[List.length_append,KD,hl]
  have hnd:(xs.take m++(xs.drop m).take nw).Nodup:=by
    rw[← List.take_add];exact hX.sublist (List.take_sublist _ _)
  rw[List.nodup_append] at hnd;have Qq:wj (ps++yS (x::((xs.drop m).take nw++[w]))) (xs.take m) (List.range ps.length) (x,List.range' ps.length (nw+1)):=by
    refine⟨hx,?_,?_,fun k hk=>?_,fun k hk=>?_,?_,⟨w,?_,hw⟩,?_,fun q hq=>?_⟩
    ·simp[List.range'_succ]
    ·exact List.nodup_range'
    ·rw[hcl];have:=List.mem_range'_1.mp hk;omega
    ·have:=List.mem_range'_1.mp hk;rw[List.mem_range];omega
    ·rw[hp,hl,List.length_range']
    ·rw[hp,List.getLast?_concat]
    ·rw[hp,List.dropLast_concat];exact hnd.2.1
    ·rw[hp,List.dropLast_concat] at hq;exact fun z=>hnd.2.2 q z q hq rfl
  have key:=jr.snoc (h.app (qs:=yS (x::((xs.drop m).take nw++[w])))) Qq;rw[hp,List.dropLast_concat,← List.take_add] at key;have hrg:List.range ps.length++List.range' ps.length (nw+1)=List.range (ps++yS (x::((xs.drop m).take nw++[w]))).length:=by
    rw[hcl,List.range_eq_range',List.range_eq_range'];have:=@List.range'_append_1 0 ps.length (nw+1);rw[Nat.zero_add] at this;exact this
  rw[← hrg];exact key
theorem qbs {xs:List Str} {ps:List (Str×Str)} {row:List (Str×List Nat)} {jV ms:List Str} {gone:List Nat} {m nw:Nat} {x w:Str} (h:jr ps jV row ms gone) (hm:m+nw≤xs.length) (h0:∀z∈uZ ps row,z.2=0) :
    ∀z∈uZ (ps++yS (x::((xs.drop m).take nw++[w]))) (row++[(x,List.range' ps.length (nw+1))]),z.2=0:=by
  have hl:((xs.drop m).take nw++[w]).length=nw+1:=by simp;omega
  obtain⟨hp,h2⟩:=KH ((xs.drop m).take nw++[w]) x ps;rw[hl] at hp h2;intro z hz;rw[lJ,qbr h] at hz
  rcases List.mem_append.mp hz with hz | hz
  ·exact h0 z hz
  ·unfold R_ at hz;obtain⟨c,hc,rfl⟩:=List.mem_map.mp hz;rw[hp] at hc;exact h2 c hc
def qbt (p tl ll:Addr) (H:Hp) (v:V) (e:Str×List Nat):Prop:=∃t r,v = .ref t∧H t=some (.tup [.str e.1,.ref r])∧H r=some (.lst (aX e.2))∧r≠p∧r≠tl∧r≠ll
structure KJ (H:Hp) (p n tl ll:Addr) (xs:List Str) (m:Nat) (ps:List (Str×Str)) (row:List (Str×List Nat)) (tv rv:List V):Prop where
  m1:1≤m
  ml:m≤xs.length
  hn:H n=some (.lst (xs.map V.str))
  ht:H tl=some (.lst tv)
  hl:H ll=some (.lst rv)
  tv:bI H tv ps
  rv:bJ (qbt p tl ll) H rv row
  ts:je (xs.take m) ps
  er:jr ps (xs.take 1) row (xs.take m) (List.range ps.length)
  l0:∀z∈uZ ps row,z.2=0
  po:jY H p
  np:n≠p
  tp:tl≠p
  lp:ll≠p
  nt:n≠tl
  nl:n≠ll
  tn:tl≠ll
theorem KJ.but {H H':Hp} {p n tl ll:Addr} {xs:List Str} {m:Nat} {ps:List (Str×Str)} {row:List (Str×List Nat)} {tv rv:List V} (h:KJ H p n tl ll xs m ps row tv rv) (b:But p H H') (hp:jY H' p):KJ H' p n tl ll xs m ps row tv rv:=
  ⟨h.m1,h.ml,b _ _ h.np h.hn,b _ _ h.tp h.ht,b _ _ h.lp h.hl,h.tv.but h.po b,bJ.keep h.rv fun v e ⟨t,r,h1,h2,h3,h4,h5⟩=>⟨t,r,h1,b _ _ (h.po.Vc h2 (by intro zs z;cases z)) h2,b _ _ h4 h3,h4,h5⟩,h.ts,h.er,h.l0,hp,h.np,h.tp,h.lp,h.nt,h.nl,h.tn⟩
theorem KJ.same {H H':Hp} {p n tl ll:Addr} {xs:List Str} {m:Nat} {ps:List (Str×Str)} {row:List (Str×List Nat)} {tv rv:List V} (h:KJ H p n tl ll xs m ps row tv rv) (s:Same H H'):KJ H' p n tl ll xs m ps row tv rv:=
  ⟨h.m1,h.ml,s _ _ h.hn,s _ _ h.ht,s _ _ h.hl,h.tv.same s,bJ.keep h.rv fun v e ⟨t,r,h1,h2,h3,h4⟩=>⟨t,r,h1,s _ _ h2,s _ _ h3,h4⟩,h.ts,h.er,h.l0,h.po.keep s,h.np,h.tp,h.lp,h.nt,h.nl,h.tn⟩
theorem Zo {H:Hp} {vs ws:List V} {ps qs:List (Str×Str)} (h1:bI H vs ps) (h2:bI H ws qs):bI H (vs++ws) (ps++qs):=by
  have hl:=h1.1;refine⟨by rw[List.length_append,List.length_append,h1.1,h2.1],fun i v e a b=>?_⟩
  by_cases hi:i<vs.length
  ·rw[List.getElem?_append_left hi] at a;rw[List.getElem?_append_left (by omega)] at b;exact h1.2 i v e a b
  ·rw[List.getElem?_append_right (by omega)] at a;rw[List.getElem?_append_right (by omega)] at b;exact h2.2 (i - vs.length) v e a (by rw[hl];exact b)
theorem qd9 {xs:List V} {j k:Nat} (h:j+k≤xs.length):qF xs (some (j:Int)) (some ((j+k:Nat):Int))=(xs.drop j).take k:=by
  unfold qF;rw[Sh,Sh,Nat.min_eq_left h,Nat.min_eq_left (show j≤xs.length by omega)];rw[show j+k - j=k by omega]
theorem Zq {a0 a1 a2 a3 a4 a5:Option V} {r:St} {st en nw:Int} {H:Hp} {Q:Bool→Hp→Prop} (h:Q (decide (st≠en) || decide (0<nw)) H) :
    tOr (qH (V6 fNe (fVar 7) (fVar 8))) (qH (V6 (V8 fun i j=>V.bl (decide (j<i))) (fVar 6) (tC (V.int 0)))) (a0::a1::a2::a3::a4::a5::some (.int nw)::some (.int st)::some (.int en)::r) H Q:=by
  right
  by_cases hse:st=en
  ·refine⟨false,by simp[hse],dz.neg rfl ?_⟩;rw[decide_eq_false (by simp[hse])] at h;simpa using h
  ·refine⟨true,by simp[hse],dz.pos rfl ?_⟩;rw[decide_eq_true (by simp[hse])] at h;simpa using h
def KN:Sp:=fun vs H Q _=>∃(p:Addr),vs=[.ref p]∧jY H p∧∀(t n l r:Addr) (xs:List Str) (tv rv:List V) (ps:List (Str×Str)) (row:List (Str×List Nat)) (H':Hp),H n=none→H l=none→H r=none→H' t=some (.tup [.ref n,.ref l,.ref r])→H' n=some (.lst (xs.map V.str))→H' l=some (.lst tv)→bI H' tv ps→H' r=some (.lst rv)→bJ (qbt p l r) H' rv row→GF xs→je xs ps→jr ps (xs.take 1) row xs (List.range ps.length)→(∀z∈uZ ps row,z.2=0)→rv.length≤20→jY H' p→But p H H'→Q (.ref t) H'
theorem KQ (T:Txt K mg a):cD P w K mg base mL 3 a.gw a.oF ["_law_pot_here"] KN:=by
  exists T.uq.o_,dg
  ·obtain⟨p,rfl,_⟩:=h;rfl
  · obtain⟨p,rfl,hp,q⟩:=h;refine⟨_,(aB (bw (i:=1) dg.nd rfl (Or.inl rfl) (PE.eqv (aO (Ng T) hr.d rfl T.Kf T.BK.kp T.Ke .nil bh (aj (aH 0) (aj aD aq))) (aK _ _ _)))
      (aB (bw (i:=2) dg.nd rfl (Or.inl rfl) aD)
      (aB (bw (i:=3) dg.nd rfl (Or.inl rfl) (cV aq))
      (aB (bw (i:=4) dg.nd rfl (Or.inl rfl) (cV aq))
      (aB (jf PassesOwn.never rfl (PI.eqv (lO rfl T.nm.range (aj (b_ fj aD (PE.eqv (aO (gB T) hr.d rfl T.jc T.iQ.kp T.i_ .nil bh (aj (aH 0) (aj aD aq))) (aK _ _ _))) aq)) (lX _)) (aN (i:=5) dg.nd rfl (Or.inl rfl))
      (aB (bw (i:=6) dg.nd rfl (Or.inl rfl) (PE.eqv (aO (gB T) hr.d rfl T.jc T.iQ.kp T.i_ .nil bh (aj (aH 0) (aj (b_ fj (aM (Dh rfl) rfl T.nm.min boot_min (aj aD (aj (b_ xT aD (aH 2)) aq))) aD) aq))) (aK _ _ _)))
      (aB (bw (i:=7) dg.nd rfl (Or.inl rfl) (PE.eqv (aO (gB T) hr.d rfl T.jc T.iQ.kp T.i_ .nil bh (aj (aH 0) (aj (aH 2) aq))) (aK _ _ _)))
      (aB (bw (i:=8) dg.nd rfl (Or.inl rfl) (PE.eqv (aO (gB T) hr.d rfl T.jc T.iQ.kp T.i_ .nil bh (aj (aH 0) (aj (aH 2) aq))) (aK _ _ _)))
      (aF (cU (PW.pt (tK (aZ tZ (b_ fj (aM (bT (K:=K) rfl) rfl T.nm.len PySem.boot_len (aj (aH 3) aq)) (aH 6)) aD (bM _)) (uI (PW.pt (lK (aZ kW (aH 7) (aH 8) (bM _)) (jG (aZ t_ (aH 6) aD (bM _)))))))) (aB (bw (i:=9) dg.nd rfl (Or.inr rfl) (b_ pC (cV (aj (bC (bG (K:=K) rfl) (aH 1) (aH 7) (fun _ _=>rfl)) aq)) (jg (uc (K:=K) rfl) (aH 1) (PO.eqv (jQ (aH 2)) (iT _)) (PO.eqv (jQ (b_ fj (aH 2) (aH 6))) (iT _)))))
      (aB (cB (gZ (K:=K) rfl PySem.F.plainAttrs_list PySem.F.slot_list_append PySem.F.type_list_append cu (aH 9) (aj (bC (bG (K:=K) rfl) (aH 1) (aH 8) (fun _ _=>rfl)) aq)))
      (aB (cB (gZ (K:=K) rfl PySem.F.plainAttrs_list PySem.F.slot_list_append PySem.F.type_list_append cu (aH 4) (aj (dH (aj (bC (bG (K:=K) rfl) (aH 1) (aH 7) (fun _ _=>rfl)) (aj (G5 rfl rfl T.nm.list rfl T.nm.range (aj (aM (bT (K:=K) rfl) rfl T.nm.len PySem.boot_len (aj (aH 3) aq)) (aj (b_ fj (b_ fj (aM (bT (K:=K) rfl) rfl T.nm.len PySem.boot_len (aj (aH 3) aq)) (aH 6)) aD) aq))) aq))) aq)))
      (aB (cB (gZ (K:=K) rfl PySem.F.plainAttrs_list PySem.F.slot_list_extend PySem.F.type_list_extend Qa (aH 3) (aj (dG rfl rfl (show bx (ao fO) _ ["_law_pot_here", "_law_names_here", "_law_many", "_law_ties", "_law_listed", "_law_turn", "_law_new", "_law_start", "_law_end", "_law_row"] ["_law_k"] [9] ["_law_k", "_law_row"] from⟨rfl,by symm,by symm,rfl,by symm,by symm⟩) rfl (PI.eqv (lO rfl T.nm.range (aj (b_ fj (aH 6) aD) aq)) (lX _)) (fun C s H fp pn=>(aN (i:=0) (show(["_law_k", "_law_row"]:List Str).Nodup by symm) rfl (Or.inl rfl))) (fun C s H fp pn=>dF) (fun C s H fp pn=>(dH (aj (bC (bG (K:=K) rfl) (aH 1) (aH 0) (fun _ _=>rfl)) (aj (bC (bG (K:=K) rfl) (aH 1) (b_ fj (aH 0) aD) (fun _ _=>rfl)) aq))))) aq)))
      (aF (bw (i:=2) dg.nd rfl (Or.inl rfl) (b_ fj (aH 2) (aH 6)))))))) bQ))))))
      (aF (bB (dH (aj (jg (uc (K:=K) rfl) (aH 1) mK (PO.eqv (jQ (aH 2)) (iT _))) (aj (aH 3) (aj (aH 4) aq))))))))))),?_⟩
    have Nr:200≤sizeLine:=by decide
    right;refine⟨p,9,rfl,hp,by decide,by decide,fun n xs H1 hn0 hn1 hX hxl GP Il=>?_⟩;have np:n≠p:=hp.nl hn0;right;intro tl htl;exists H1,tl,(.lst []),s2,e2,H2,htl;intro ll hll;exists H2,ll,(.lst []),s3,e3,H3,hll;have S3:=s2.trans s3;have tl0:H tl=none:=jY.none Il GP htl;have ll0:H ll=none:=jY.none (Il.same s2) (GP.keep s2) hll;have tp:tl≠p:=GP.nl htl;have lp:ll≠p:=(GP.keep s2).nl hll;have nt:n≠tl:=aQ hn1 htl;have nl:n≠ll:=aQ (s2 _ _ hn1) hll;have tn:tl≠ll:=aQ e2 hll;have hG3:KJ H3 p n tl ll xs 1 [] [] [] []:=⟨Nat.le_refl _,by omega,S3 _ _ hn1,s3 _ _ e2,e3,⟨rfl,fun i v e h=>by simp at h⟩,bJ.nil,⟨by simp,by simp⟩,.nil,by simp[uZ],GP.keep S3,np,tp,lp,nt,nl,tn⟩;have hB3:But p H H3:=Il.same S3;refine⟨p,_,rfl,hG3.po,by decide,by decide,fun d H4 hd0 hd1 Et Io=>?_⟩;have QF:=hG3.but Io Et;have Qp:=hB3.trans Io;right;refine⟨by omega,by omega,frR (fun i σ H'=>(∃(m:Nat) (ps:List (Str×Str)) (row:List (Str×List Nat)) (tv rv:List V) (o5 o6 o7 o8 o9:Option V),σ=[some (.ref p),some (.ref n),some (.int m),some (.ref tl),some (.ref ll),o5,o6,o7,o8,o9]∧KJ H' p n tl ll xs m ps row tv rv∧rv.length≤i)∧But p H H') ⟨⟨1,[],[],[],[],_,_,_,_,_,rfl,QF,by simp⟩,Qp⟩ ?_ ?_⟩
    · rintro i σ H5 hi ⟨⟨m,ps,row,tv,rv,o5,o6,o7,o8,o9,rfl,hG,hrl⟩,Kr⟩;have m1:=hG.m1;have ml:=hG.ml;have hi2:i≤19:=by omega
      have mn:0<(if 9 - (m:Int)<3 then 9 - (m:Int) else 3)+1∧(if 9 - (m:Int)<3 then 9 - (m:Int) else 3)+1<1000000∧(if 9 - (m:Int)<3 then 9 - (m:Int) else 3)+1≤10 - m:=by
        split <;> omega
      right;refine⟨p,_,rfl,hG.po,mn.1,mn.2.1,fun nw H6 hw0 hw1 YJ R4=>?_⟩;obtain⟨nw,rfl⟩:∃k:Nat,nw=k:=⟨nw.toNat,by omega⟩;have hG6:=hG.but R4 YJ;have hmw:m+nw≤9:=by omega
      right;refine⟨p,_,rfl,hG6.po,by omega,by omega,fun st H7 hs0 hs1 Z6 YL=>?_⟩;obtain⟨st,rfl⟩:∃k:Nat,st=k:=⟨st.toNat,by omega⟩;have hG7:=hG6.but YL Z6;right;refine⟨p,_,rfl,hG7.po,by omega,by omega,fun en H8 he0 he1 hP8 hB8=>?_⟩;obtain⟨en,rfl⟩:∃k:Nat,en=k:=⟨en.toNat,by omega⟩;have Gq:=hG7.but hB8 hP8;have qd_:=Kr.trans (R4.trans (YL.trans hB8));right;refine⟨_,.inl (aY.of Gq.ht),?_⟩;have tl8:=Gq.tv.1;refine dz.of (fun h=>?_) (fun h=>?_)
      · have hlt:tv.length+nw<20:=by have:=of_decide_eq_true h;omega
        refine Zq ?_;refine dz.of (fun h=>?_) (fun h=>?_)
        · have hor:st≠en∨0<nw:=by
            simp at h;omega
          obtain⟨x,hx⟩:∃x,xs[st]? = some x:=⟨_,List.getElem?_eq_getElem (by omega)⟩;obtain⟨y,hy⟩:∃y,xs[en]? = some y:=⟨_,List.getElem?_eq_getElem (by omega)⟩;have R3:x∈xs.take m:=List.mem_of_getElem? (i:=st) (by rw[List.getElem?_take_of_lt (by omega)];exact hx);have hym:y∈xs.take m:=List.mem_of_getElem? (i:=en) (by rw[List.getElem?_take_of_lt (by omega)];exact hy);right;refine⟨_,.inl (aY.of Gq.hn),.str x,aP (by rw[List.getElem?_map,hx];rfl),fun p9 hp9=>?_⟩;exists H8,p9,(.lst [.str x]),s9,e9,H9,hp9;refine⟨_,aY.of (s9 _ _ Gq.hn),fun pa hpa=>?_⟩;rw[show(m:Int)+(nw:Int)=((m+nw:Nat):Int) by omega,qd9 (by rw[List.length_map];omega),← List.map_drop,← List.map_take];have hmid:((xs.drop m).take nw).length=nw:=by simp;omega
          have hE8:=Zn (x:=x) (w:=y) (nw:=nw) hX.nd Gq.er (by omega) R3 hym;have hL8:=qbs (xs:=xs) (x:=x) (w:=y) (m:=m) (nw:=nw) Gq.er (by omega) Gq.l0;have qgM:∀e∈yS (x::((xs.drop m).take nw++[y])),e.1∈xs.take (m+nw)∧e.2∈xs.take (m+nw)∧e.1≠e.2:=by
            have hnd:(xs.take m++(xs.drop m).take nw).Nodup:=by
              rw[← List.take_add];exact hX.nd.sublist (List.take_sublist _ _)
            rw[List.nodup_append] at hnd;have hsub:∀z∈xs.take m++(xs.drop m).take nw,z∈xs.take (m+nw):=fun z hz=>by rw[List.take_add];exact hz
            refine Zm _ x y (fun z hz=>?_) ?_ ?_ (fun hm0 z=>?_)
            · rcases List.mem_cons.mp hz with rfl | hz
              ·exact hsub _ (List.mem_append.mpr (.inl R3))
              · rcases List.mem_append.mp hz with hz | hz
                ·exact hsub _ (List.mem_append.mpr (.inr hz))
                ·rw[List.mem_singleton] at hz;rw[hz];exact hsub _ (List.mem_append.mpr (.inl hym))
            ·exact List.nodup_cons.mpr ⟨fun z=>hnd.2.2 x R3 x z rfl,hnd.2.1⟩
            · exact List.nodup_append.mpr ⟨hnd.2.1,by simp,fun a ha b hb z=>by
                rw[List.mem_singleton] at hb;rw[z,hb] at ha;exact hnd.2.2 y hym y ha rfl⟩
            · have h0:nw=0:=by rw[hm0] at hmid;simpa using hmid.symm
              rcases hor with h | h
              ·refine h (tV hX.nd hx ?_);rw[z];exact hy
              ·omega
          have hcl:(yS (x::((xs.drop m).take nw++[y]))).length=nw+1:=by rw[KD];simp;omega
          have hget:∀k,k≤nw→∃u v,(x::((xs.drop m).take nw++[y]))[k]? = some u∧(x::((xs.drop m).take nw++[y]))[k+1]? = some v:=fun k hk=>⟨_,_,List.getElem?_eq_getElem (by simp;omega),List.getElem?_eq_getElem (by simp;omega)⟩;generalize qpu:(xs.drop m).take nw=mid at hmid hE8 hL8 qgM hcl hget ⊢;exists H9,pa,(.lst (mid.map V.str)),sa,ea,Ha,hpa;refine⟨_,sa _ _ e9,_,ea,by rw[List.length_map];simp;omega,fun pb hpb=>?_⟩;have er : [V.str x]++mid.map V.str=(x::mid).map V.str:=rfl;rw[er];have sb:Same Ha (upd Ha pb (.lst ((x::mid).map V.str))):=au hpb;have eb:upd Ha pb (.lst ((x::mid).map V.str)) pb=some (.lst ((x::mid).map V.str)):=ak;have pbn:Ha pb=none:=hpb;generalize upd Ha pb (.lst ((x::mid).map V.str))=Hb at sb eb ⊢;have s8b:=(s9.trans sa).trans sb;refine⟨⟨_,aY.of eb⟩,_,.inl (aY.of (s8b _ _ Gq.hn)),.str y,aP (by rw[List.getElem?_map,hy];rfl),_,eb,by rw[List.length_map];simp;omega,?_⟩;have er2:(x::mid).map V.str++[V.str y]=(x::(mid++[y])).map V.str:=by simp
          rw[er2];have s8c:Same H8 (upd Hb pb (.lst ((x::(mid++[y])).map V.str))):=aV s8b (bU (s9.trans sa) pbn);have ec:upd Hb pb (.lst ((x::(mid++[y])).map V.str)) pb=some (.lst ((x::(mid++[y])).map V.str)):=ak;generalize upd Hb pb (.lst ((x::(mid++[y])).map V.str))=Hc at s8c ec ⊢;have hGc:=Gq.same s8c;refine⟨⟨_,aY.of hGc.hl⟩,_,.inl (aY.of hGc.hn),.str x,aP (by rw[List.getElem?_map,hx];rfl),_,.inl (aY.of hGc.ht),_,.inl (aY.of hGc.ht),by omega,by omega,fun pr hpr=>?_⟩;have enum:(List.range' tv.length (((tv.length:Int)+(nw:Int)+1).toNat - tv.length)).map (fun i=>V.int (i:Nat))=aX (List.range' ps.length (nw+1)):=by
            rw[show((tv.length:Int)+(nw:Int)+1).toNat - tv.length=nw+1 by omega,tl8];rfl
          rw[enum];exists Hc,pr,(.lst (aX (List.range' ps.length (nw+1)))),sd,ed,Hd,hpr;intro pt hpt;exists Hd,pt,(.tup [.str x,.ref pr]),se,ee,He,hpt;have sce:=sd.trans se;have Zr:=hGc.same sce;have prp:pr≠p:=hGc.po.nl hpr;have prt:pr≠tl:=(aQ hGc.ht hpr).symm;have prl:pr≠ll:=(aQ hGc.hl hpr).symm;have qmE:=Zr.rv.1;refine⟨_,Zr.hl,by omega,?_⟩;have kf:∀b u,b≠ll→He b=some u→upd He ll (.lst (rv++[.ref pt])) b=some u:=fun b u hb e=>by rw[aC hb];exact e
          have ef:upd He ll (.lst (rv++[.ref pt])) ll=some (.lst (rv++[.ref pt])):=ak;have ntl:∀{b:Addr} {us:List V},He b=some (.tup us)→b≠ll:=fun e z=>by rw[z,Zr.hl] at e;cases e
          have htf:=kf _ _ Zr.tn Zr.ht;have hrf:bJ (qbt p tl ll) (upd He ll (.lst (rv++[.ref pt]))) (rv++[.ref pt]) (row++[(x,List.range' ps.length (nw+1))]):=bJ.snoc (bJ.keep Zr.rv fun v e ⟨t,r,h1,h2,h3,h4,h5,h6⟩=>⟨t,r,h1,kf _ _ (ntl h2) h2,kf _ _ h6 h3,h4,h5,h6⟩) ⟨pt,pr,rfl,kf _ _ (ntl ee) ee,kf _ _ prl (se _ _ ed),prp,prt,prl⟩;have qgN:bI (upd He ll (.lst (rv++[.ref pt]))) tv ps:=Zr.tv.keep fun c zs e=>kf _ _ (ntl e) e;have pbl:pb≠ll:=fun z=>by rw[z,sa _ _ (s9 _ _ Gq.hl)] at pbn;cases pbn
          have ecf:=kf pb _ pbl (sce _ _ ec);have hPf:jY (upd He ll (.lst (rv++[.ref pt]))) p:=Zr.po.upd Zr.lp.symm;have hnf:=kf _ _ Zr.nl Zr.hn;have hBf:But p H (upd He ll (.lst (rv++[.ref pt]))):=((qd_.same s8c).same sce).new ll0;generalize upd He ll (.lst (rv++[.ref pt]))=Hf at ef htf hrf qgN ecf hPf hnf hBf ⊢;refine⟨⟨_,aY.of htf⟩,by omega,by omega,fun D hD=>cmR (fun j σ H'=>(∃o',σ=[o',some (.ref pb)])∧(∃cv,H' D=some (.lst cv)∧bI H' cv ((yS (x::(mid++[y]))).take j))∧Same Hf H') ⟨⟨_,rfl⟩,⟨[],ak,⟨by simp,fun i v e h=>by simp at h⟩⟩,au hD⟩ ?_ ?_⟩
          · rintro k σ Hg hk ⟨⟨o',rfl⟩,⟨cv,eD,hcv⟩,sg⟩;have hk2:k≤nw:=by omega
            obtain⟨u,v,hu,hv⟩:=hget k hk2;have hch:=Sx _ k u v hu hv;have qgO:=hcv.1;rw[List.length_take] at qgO;rw[take_one hch];have ecg:=sg _ _ ecf;right;refine⟨_,.inl (aY.of ecg),.str u,aP (by rw[List.getElem?_map,hu];rfl),_,.inl (aY.of ecg),.str v,?_,fun ph hph=>?_⟩
            ·rw[show(k:Int)+1=((k+1:Nat):Int) by omega];exact aP (by rw[List.getElem?_map,hv];rfl)
            ·exists Hg,ph,(.tup [.str u,.str v]),sh,eh,Hh,hph;have eDh:=sh _ _ eD;have kp:cG Hh (upd Hh D (.lst (cv++[.ref ph]))):=fun c zs e=>q_ e eDh (by intro z;cases z);exact⟨_,eDh,by omega,⟨_,ak,((hcv.same sh).keep kp).snoc (kp _ _ eh)⟩,aV (sg.trans sh) hD⟩
          · rintro σ Hg ⟨⟨o',rfl⟩,⟨cv,eD,hcv⟩,sg⟩;have hnw:((nw:Int)+1).toNat=nw+1:=by omega
            have htk:(yS (x::(mid++[y]))).take (nw+1)=yS (x::(mid++[y])):=by rw[← hcl,List.take_length]
            try rw[hnw] at hcv
            rw[htk] at hcv;have qgO:=hcv.1;have htg:=sg _ _ htf;have kz:∀b u,b≠tl→Hg b=some u→upd Hg tl (.lst (tv++cv)) b=some u:=fun b u hb e=>by rw[aC hb];exact e
            have nz:∀{b:Addr} {us:List V},Hg b=some (.tup us)→b≠tl:=fun e z=>by rw[z,htg] at e;cases e
            have kpz:cG Hg (upd Hg tl (.lst (tv++cv))):=fun c zs e=>kz _ _ (nz e) e;have hsub:∀z∈xs.take m,z∈xs.take (m+nw):=fun z hz=>by rw[List.take_add];exact List.mem_append.mpr (.inl hz)
            have hGz:KJ (upd Hg tl (.lst (tv++cv))) p n tl ll xs (m+nw) (ps++yS (x::(mid++[y]))) (row++[(x,List.range' ps.length (nw+1))]) (tv++cv) (rv++[.ref pt]):=by
              refine⟨by omega,by omega,kz _ _ Gq.nt (sg _ _ hnf),ak,kz _ _ Gq.tn.symm (sg _ _ ef),Zo ((qgN.same sg).keep kpz) (hcv.keep kpz),bJ.keep hrf fun v e ⟨t,r,h1,h2,h3,h4,h5,h6⟩=>⟨t,r,h1,kpz _ _ (sg _ _ h2),kz _ _ h5 (sg _ _ h3),h4,h5,h6⟩,⟨?_,fun e he=>?_⟩,hE8,hL8,(hPf.keep sg).upd Gq.tp.symm,Gq.np,Gq.tp,Gq.lp,Gq.nt,Gq.nl,Gq.tn⟩
              ·rw[List.length_append,hcl];omega
              · rcases List.mem_append.mp he with he | he
                ·obtain⟨a1,a2,a3⟩:=Gq.ts.ok e he;exact⟨hsub _ a1,hsub _ a2,a3⟩
                ·exact qgM e he
            right;exact⟨_,htg,_,eD,by omega,⟨m+nw,by omega,_,_,_,_,hGz,by simp;omega⟩,(hBf.same sg).new tl0⟩
        ·right;exact⟨⟨m,rfl,_,_,_,_,Gq,by omega⟩,qd_⟩
      ·right;exact⟨⟨m,rfl,_,_,_,_,Gq,by omega⟩,qd_⟩
    · rintro σ H5 ⟨⟨m,ps,row,tv,rv,o5,o6,o7,o8,o9,rfl,hG,hrl⟩,Kr⟩;have m1:=hG.m1;have ml:=hG.ml;right;refine⟨_,aY.of hG.hn,fun na hna=>?_⟩;rw[Zd,← List.map_take];exists H5,na,(.lst ((xs.take m).map V.str)),sa,ea,Ha,hna;intro pb hpb;have hGb:=hG.same (sa.trans (au (o:=.tup [.ref na,.ref tl,.ref ll]) hpb));have t1:(xs.take m).take 1=xs.take 1:=by rw[List.take_take,Nat.min_eq_left m1]
      have qmF:=hG.rv.1;exact q pb na tl ll (xs.take m) tv rv ps row _ (jY.none Kr hG.po hna) tl0 ll0 ak (bN ea hpb) hGb.ht hGb.tv hGb.hl hGb.rv ⟨⟨by rw[List.length_take];omega,by rw[List.length_take];omega⟩,fun x hx=>hX.nm x (List.mem_of_mem_take hx),hX.nd.sublist (List.take_sublist _ _)⟩ hG.ts (by rw[t1];exact hG.er) hG.l0 (by omega) hGb.po (Kr.same (sa.trans (au hpb)))
end K35
namespace L2
open PySem PySem.Spec PyProof.Rows
section
variable {X:Cx} {K:W.Frag}
def Sy (K:W.Frag):V→List V→Hp→VK→Prop:=fun x vs H Q=>isRef x fun l=>ar1 vs fun y=>L2.isInt y fun k=>∃ns:List Int,aY K H l (ns.map V.int)∧k∈ns∧Q (.int (ns.idxOf k:Nat)) H
@[simp ↓] theorem qfa (K:W.Frag) x vs H Q:Sy K x vs H Q=(isRef x fun l=>ar1 vs fun y=>L2.isInt y fun k=>∃ns:List Int,aY K H l (ns.map V.int)∧k∈ns∧Q (.int (ns.idxOf k:Nat)) H):=rfl
theorem QG (hK:X.K=K):K4 X "list.index" (Sy K):=by
  subst hK;intro p_ s σ H x xs v us Q I rx rs q;obtain⟨l,rfl,q⟩:=isRef.out q;obtain⟨y,rfl,q⟩:=ar1.out q;obtain⟨k,rfl,ns,hl,hk,q⟩:=L2.isInt.out q;obtain⟨u,rfl,ru⟩:=rs.one;obtain⟨t,rfl⟩:=ru;obtain rfl:v=Value.ref l:=rx;obtain⟨its,rv,pl,hz1⟩:=I.list hl;have hi:=intsAre_of rv;obtain⟨⟨cls,dd,data,sl⟩,ho,hc,n,hd⟩:=pl.isList;simp only at hc hd;subst hc hd;have hlen:=hi.length;have hj:ns.idxOf k<ns.length:=List.idxOf_lt_length_iff.mpr hk;have hz2:ns.length≤sizeLine:=by simpa using hz1
  have hs:sizeLine=2 ^ 24:=rfl;refine call_meets PySem.F.slot_list_index ⟨_,ho,rfl⟩ PySem.F.entry_list_index (PySem.F.args_list_index_2 _ _)
    (SeqAt.list_indexAt l its.toArray n dd sl (.int k t) (PyProof.Rows.isInt k) (ns.idxOf k) (by simpa [hlen] using hj) (by omega) ?_ ?_) ⟨ho,fun y hy=>(eq_isInt k t hi y (by simpa using hy)).at _ _,⟨.int _,H,I.tok _,⟨_,rfl⟩,q⟩⟩
  ·show PyProof.Rows.isInt k its[ns.idxOf k]=true;rw[isInt_at k hi _ (by omega) hj];simpa using List.getElem_idxOf hj
  ·intro j hjs hlt;show PyProof.Rows.isInt k its[j]=false;rw[isInt_at k hi j (by simpa using hjs) (by omega)];exact ne_of_lt_idxOf hlt _
end
end L2
namespace K35
open PySem L2
variable {P:Program} {w:World} {K:W.Frag} {mg:Str→Option Value} {base:Heap} {a:Adr}
structure Fz (u5 ps1:List (Str×Str)) (pos:Nat→Nat) (ts:Nat→Int):Prop where
  tk:∀k d,u5[k]? = some d→(ts k=0∧ps1[pos k]? = some d)∨(ts k=1∧ps1[pos k]? = some (d.2,d.1))
  inj:∀k j,k<u5.length→j<u5.length→pos k=pos j→k=j
  ne:∀d∈u5,d.1≠d.2
theorem Fz.nxt {u5 ps1:List (Str×Str)} {pos:Nat→Nat} {ts:Nat→Int} (R:Fz u5 ps1 pos ts) {k:Nat} (hk:k<u5.length) (h:Str):ni ps1 h (pos k)=ni u5 h k:=by
  have h0:u5[k]? = some u5[k]:=List.getElem?_eq_getElem hk;have hne:=R.ne _ (List.getElem_mem hk);generalize u5[k]=d at h0 hne;unfold ni;rw[h0]
  rcases R.tk k d h0 with⟨_,h1⟩ | ⟨_,h1⟩
  ·rw[h1]
  · rw[h1];simp only
    by_cases a:h=d.1
    ·subst a;simp[hne]
    · by_cases b:h=d.2
      ·subst b;simp[a]
      ·simp[a,b]
theorem Fz.GX {u5 ps1:List (Str×Str)} {pos:Nat→Nat} {ts:Nat→Int} (R:Fz u5 ps1 pos ts):∀(ks:List Nat) (h:Str),(∀k∈ks,k<u5.length)→bK ps1 h (ks.map pos)=bK u5 h ks
  | [],_,_=>rfl
  | k::ks,h,hk=>by
    rw[List.map_cons,gU,gU,R.nxt (hk k List.mem_cons_self)];cases ni u5 h k with
    | none=>rfl
    | some y=>simp only;rw[R.GX ks y fun j hj=>hk j (List.mem_cons_of_mem _ hj)]
theorem Vk {pos:Nat→Nat} {l:List Nat} (hi:∀k∈l,∀j∈l,pos k=pos j→k=j) (nd:l.Nodup):(l.map pos).Nodup:=by
  induction l with
  | nil=>simp
  | cons x l ih=>
    obtain⟨h1,h2⟩:=List.nodup_cons.mp nd;rw[List.map_cons,List.nodup_cons];refine⟨fun hm=>?_,ih (fun k hk j hj=>hi k (List.mem_cons_of_mem _ hk) j (List.mem_cons_of_mem _ hj)) h2⟩;obtain⟨j,hj,e⟩:=List.mem_map.mp hm;exact h1 (hi j (List.mem_cons_of_mem _ hj) x List.mem_cons_self e▸hj)
theorem Fz.ear {u5 ps1:List (Str×Str)} {pos:Nat→Nat} {ts:Nat→Int} (R:Fz u5 ps1 pos ts) {ms:List Str} {gone:List Nat} {e:Str×List Nat} (hg:∀k∈gone,k<u5.length) (h:wj u5 ms gone e):wj ps1 ms (gone.map pos) (e.1,e.2.map pos):=by
  have hp:=R.GX e.2 e.1 h.lt;refine⟨h.sm,?_,Vk (fun k hk j hj z=>R.inj k j (h.lt k hk) (h.lt j hj) z) h.nd,fun i hi=>?_,fun i hi hm=>?_,?_,?_,?_,?_⟩
  ·intro z;exact h.ne (List.map_eq_nil_iff.mp z)
  · obtain⟨k,hk,rfl⟩:=List.mem_map.mp hi
    rcases R.tk k _ (List.getElem?_eq_getElem (h.lt k hk)) with⟨_,h1⟩ | ⟨_,h1⟩ <;> exact(List.getElem?_eq_some_iff.mp h1).1
  ·obtain⟨k,hk,rfl⟩:=List.mem_map.mp hi;obtain⟨j,hj,z⟩:=List.mem_map.mp hm;have:=R.inj j k (hg j hj) (h.lt k hk) z;exact h.fr k hk (this▸hj)
  ·rw[hp,List.length_map];exact h.ln
  ·rw[hp];exact h.en
  ·rw[hp];exact h.pn
  ·rw[hp];exact h.pf
def tD (pos:Nat→Nat) (row:List (Str×List Nat)):List (Str×List Nat):=row.map fun e=>(e.1,e.2.map pos)
theorem Fz.ears {u5 ps1:List (Str×Str)} {pos:Nat→Nat} {ts:Nat→Int} (R:Fz u5 ps1 pos ts) {jV ms:List Str} {row:List (Str×List Nat)} {gone:List Nat} (h0:jV.Nodup) (h:jr u5 jV row ms gone):jr ps1 jV (tD pos row) ms (gone.map pos):=by
  induction h with
  | nil=>exact .nil
  | @snoc row ms gone e hs he ih=>
    have e1:tD pos (row++[e])=tD pos row++[(e.1,e.2.map pos)]:=by simp[tD]
    rw[e1,List.map_append,← R.GX e.2 e.1 he.lt];exact .snoc ih (R.ear (hs.nd h0).2.2 he)
theorem Fz.ld {u5 ps1:List (Str×Str)} {pos:Nat→Nat} {ts:Nat→Int} (R:Fz u5 ps1 pos ts) {jV ms:List Str} {row:List (Str×List Nat)} {gone:List Nat} (h:jr u5 jV row ms gone) (hz:∀z∈uZ u5 row,z.2=0):uZ ps1 (tD pos row)=(uZ u5 row).map fun z=>(pos z.1,ts z.1):=by
  induction h with
  | nil=>rfl
  | @snoc row ms gone e hs he ih=>
    have e1:tD pos (row++[e])=tD pos row++[(e.1,e.2.map pos)]:=by simp[tD]
    rw[lJ] at hz;rw[e1,lJ,lJ,List.map_append,ih fun z hz'=>hz z (List.mem_append.mpr (.inl hz'))];congr 1;unfold R_;simp only;rw[R.GX e.2 e.1 he.lt,List.zip_map_left,List.map_map,List.map_map];refine List.map_congr_left fun z hz'=>?_;have hk:z.1<u5.length:=he.lt z.1 (List.of_mem_zip hz').1;have h0:=hz (z.1,G4 u5 z.1 z.2) (List.mem_append.mpr (.inr (List.mem_map.mpr ⟨z,hz',rfl⟩)));have hd:u5[z.1]? = some u5[z.1]:=List.getElem?_eq_getElem hk;have hne:=R.ne _ (List.getElem_mem hk);simp only at h0;unfold G4 at h0;rw[hd] at h0;have hy:z.2=(u5[z.1]).2:=by
      simp only at h0
      by_cases a:z.2=(u5[z.1]).2
      ·exact a
      ·rw[if_neg a] at h0;cases h0
    simp only[Function.comp,Prod.map];congr 1;unfold G4
    rcases R.tk z.1 _ hd with⟨t0,h1⟩ | ⟨t1,h1⟩
    ·rw[h1,t0];simp[hy]
    ·rw[h1,t1];simp[hy,hne.symm]
theorem KR {os:List Nat} {k:Nat} (h:k∈os):os[os.idxOf k]? = some k:=by
  have hl:=List.idxOf_lt_length_iff.mpr h;rw[List.getElem?_eq_getElem hl];exact congrArg some (List.getElem_idxOf hl)
theorem qbu {os:List Nat} {k j:Nat} (hk:k∈os) (hj:j∈os) (h:os.idxOf k=os.idxOf j):k=j:=by
  have h1:=KR hk;rw[h,KR hj] at h1;exact(Option.some.inj h1).symm
theorem Ol (k:Nat):∀os:List Nat,(os.map fun n:Nat=>(n:Int)).idxOf (k:Int)=os.idxOf k
  | []=>rfl
  | x::os=>by
    have e:((x:Int) == (k:Int))=(x == k):=by
      rw[Bool.eq_iff_iff,beq_iff_eq,beq_iff_eq];omega
    rw[List.map_cons,List.idxOf_cons,List.idxOf_cons,Ol k os,e]
def FJ (ts:List Int) (k:Nat):Int:=(ts[k]?).getD 0
def Bk (ts:List Int) (ps:List (Str×Str)) (k:Nat):Str×Str:=match ps[k]? with
  | some d=>if FJ ts k=0 then d else (d.2,d.1)
  | none=>(Str.ofString "",Str.ofString "")
theorem SJ {ps:List (Str×Str)} {os:List Nat} {ts:List Int} (hp:os.Perm (List.range ps.length)) (h01:∀z∈ts,0≤z∧z<2) (hl:ts.length=ps.length) (hne:∀d∈ps,d.1≠d.2):Fz ps (os.map (Bk ts ps)) (fun k=>os.idxOf k) (FJ ts):=by
  have hm:∀k,k<ps.length→k∈os:=fun k hk=>hp.mem_iff.mpr (List.mem_range.mpr hk);refine⟨fun k d hd=>?_,fun k j hk hj=>qbu (hm k hk) (hm j hj),hne⟩;have hk:=(List.getElem?_eq_some_iff.mp hd).1;have hkt:ts[k]? = some ts[k]:=List.getElem?_eq_getElem (by omega);have:=h01 ts[k] (List.getElem_mem _);have ht:FJ ts k=ts[k]:=by unfold FJ;rw[hkt];rfl
  rw[List.getElem?_map,KR (hm k hk),Option.map_some];unfold Bk;rw[hd];simp only
  by_cases h0:FJ ts k=0
  ·exact .inl ⟨h0,by rw[if_pos h0]⟩
  ·exact .inr ⟨by omega,by rw[if_neg h0]⟩
theorem qbw {ps:List (Str×Str)} {os:List Nat} {ts:List Int} {jV ms:List Str} {row:List (Str×List Nat)} (h0:jV.Nodup) (hp:os.Perm (List.range ps.length)) (h01:∀z∈ts,0≤z∧z<2) (hl:ts.length=ps.length) (hne:∀d∈ps,d.1≠d.2) (h:jr ps jV row ms (List.range ps.length)) (hz:∀z∈uZ ps row,z.2=0) :
    nsE (os.map (Bk ts ps)) (tD (fun k=>os.idxOf k) row)=os.map (FJ ts):=by
  have R:=SJ hp h01 hl hne;have hE:=R.ears h0 h;have hok:=Fo hE h0;have hld:=R.ld h hz;have hol:os.length=ps.length:=by rw[hp.length_eq,List.length_range]
  have hnd:os.Nodup:=hp.nodup_iff.mpr List.nodup_range;refine List.ext_getElem? fun i=>?_
  by_cases hi:i<os.length
  · have hk:os[i]? = some os[i]:=List.getElem?_eq_getElem hi;unfold nsE;rw[List.getElem?_map,List.getElem?_map,List.length_map,List.getElem?_range hi,hk,Option.map_some,Option.map_some];have hkn:os[i]∈List.range ps.length:=hp.mem_iff.mp (List.getElem_mem hi);generalize hkk:os[i]=k at hk hkn;obtain⟨z,hzm,hzk⟩:=List.mem_map.mp (show k∈(uZ ps row).map (·.1) by rw[uE h];exact hkn);have hm:(os.idxOf k,FJ ts k)∈uZ (os.map (Bk ts ps)) (tD (fun k=>os.idxOf k) row):=by
      rw[hld];exact List.mem_map.mpr ⟨z,hzm,by rw[← hzk]⟩
    have hik:os.idxOf k=i:=by
      have h1:=KR (List.mem_of_getElem? hk);have hlt:=(List.getElem?_eq_some_iff.mp h1).1;rw[List.getElem?_eq_getElem hlt] at h1;refine(List.getElem_inj hnd (h₀:=hlt) (h₁:=hi)).mp ?_;rw[hkk];exact Option.some.inj h1
    have:=Oa hok.nd hm;simp only at this;rw[hik] at this;rw[this];rfl
  ·rw[List.getElem?_eq_none (by rw[sJ,List.length_map];omega),List.getElem?_eq_none (by rw[List.length_map];omega)]
structure Shn (d:PyData) (n:Nat):Prop where
  sh:d.showable=true
  nd:d.hasDict=false
  dp:d.depth≤5
  ln:d.shown.length≤n
theorem SM {n:Nat}:∀{ds:List PyData},(∀c∈ds,Shn c n∧c.depth≤4)→PyData.showableAll ds=true∧PyData.hasDictAll ds=false∧PyData.depthAll ds≤4∧((PyData.shownAll ds).map fun t=>t.length+2).sum≤(n+2) * ds.length
  | [],_=>by simp[PyData.showableAll,PyData.hasDictAll,PyData.depthAll,PyData.shownAll]
  | c::ds,h=>by
    obtain⟨h1,h2⟩:=h c List.mem_cons_self;obtain⟨i1,i2,i3,i4⟩:=SM fun e he=>h e (List.mem_cons_of_mem _ he);have:=h1.ln;simp only[PyData.showableAll,PyData.hasDictAll,PyData.depthAll,PyData.shownAll,h1.sh,h1.nd,i1,i2,List.length_cons,List.map_cons,List.sum_cons];refine⟨rfl,rfl,by omega,?_⟩;rw[Nat.mul_add];omega
theorem Om {n:Nat} {ds:List PyData} (h:∀c∈ds,Shn c n∧c.depth≤4):Shn (.list ds) (2+(n+2) * ds.length):=by
  obtain⟨h1,h2,h3,h4⟩:=SM h;refine⟨by simpa [PyData.showable] using h1,by simpa [PyData.hasDict] using h2,by simp only[PyData.depth];omega,?_⟩;have:=Mq (PyData.shownAll ds);simp only[PyData.shown];omega
theorem SN {k:Nat} (h:k≤20):Shn (.int (k:Nat)) 25:=by
  have key:∀k:Fin 21,(PyData.int ((k:Nat):Int)).shown.length≤25∧(PyData.int ((k:Nat):Int)).showable=true:=by symm
  obtain⟨h1,h2⟩:=key ⟨k,by omega⟩;exact⟨h2,rfl,by simp[PyData.depth],h1⟩
theorem qbx {x:Str} (h:nameB x=true):Shn (.str x) 42:=⟨by simp[PyData.showable],rfl,by simp[PyData.depth],by simpa [PyData.shown] using Ui h⟩
theorem Oo {ns:List Int} (h:∀n∈ns,0≤n∧n≤1) (hl:ns.length≤20):Shn (.list (fY ns)) 1000:=by
  have:=Om (n:=25) (ds:=fY ns) fun c hc=>by
    unfold fY at hc;obtain⟨z,hz,rfl⟩:=List.mem_map.mp hc;obtain⟨k,rfl⟩:∃k:Nat,z=k:=⟨z.toNat,by have:=h z hz;omega⟩;exact⟨SN (by have:=h _ hz;omega),by simp[PyData.depth]⟩
  refine⟨this.sh,this.nd,this.dp,Nat.le_trans this.ln ?_⟩;simp only[fY,List.length_map];omega
theorem Jc {c:List Str} (h:∀x∈c,nameB x=true) (hl:c.length≤9):Shn (.list (cW c)) 1000:=by
  have:=Om (n:=42) (ds:=cW c) fun d hd=>by
    unfold cW at hd;obtain⟨z,hz,rfl⟩:=List.mem_map.mp hd;exact⟨qbx (h z hz),by simp[PyData.depth]⟩
  refine⟨this.sh,this.nd,this.dp,Nat.le_trans this.ln ?_⟩;simp only[cW,List.length_map];omega
structure ErB (H:Hp) (p n l r:Addr) (xs:List Str) (tv:List V) (ps:List (Str×Str)) (rv:List V) (row:List (Str×List Nat)):Prop where
  hn:H n=some (.lst (xs.map V.str))
  hl:H l=some (.lst tv)
  ht:bI H tv ps
  hr:H r=some (.lst rv)
  he:bJ (qbt p l r) H rv row
theorem ErB.same {H H':Hp} {p n l r:Addr} {xs:List Str} {tv:List V} {ps:List (Str×Str)} {rv:List V} {row:List (Str×List Nat)} (h:ErB H p n l r xs tv ps rv row) (s:Same H H'):ErB H' p n l r xs tv ps rv row:=
  ⟨s _ _ h.hn,s _ _ h.hl,h.ht.same s,s _ _ h.hr,bJ.keep h.he fun v e ⟨t,r,h1,h2,h3,h4⟩=>⟨t,r,h1,s _ _ h2,s _ _ h3,h4⟩⟩
theorem ErB.but {H H':Hp} {p n l r:Addr} {xs:List Str} {tv:List V} {ps:List (Str×Str)} {rv:List V} {row:List (Str×List Nat)} (h:ErB H p n l r xs tv ps rv row) (hp:jY H p) (b:But p H H') (np:n≠p) (lp:l≠p) (rp:r≠p):ErB H' p n l r xs tv ps rv row:=
  ⟨b _ _ np h.hn,b _ _ lp h.hl,h.ht.but hp b,b _ _ rp h.hr,bJ.keep h.he fun v e ⟨t,r,h1,h2,h3,h4,h5⟩=>⟨t,r,h1,b _ _ (hp.Vc h2 (by intro zs z;cases z)) h2,b _ _ h4 h3,h4,h5⟩⟩
def qea (p rl:Addr) (H:Hp) (v:V) (e:Str×List Nat):Prop:=∃t r,v = .ref t∧H t=some (.tup [.str e.1,.ref r])∧H r=some (.lst (aX e.2))∧r≠rl∧r≠p
def qmG (p G:Addr) (H:Hp) (v:V) (e:Str×List Nat):Prop:=∃t r,v = .ref t∧t≠G∧r≠G∧t≠p∧r≠p∧H t=some (.lst [.str e.1,.ref r])∧H r=some (.lst (aX e.2))
def qby (p:Addr) (H:Hp) (v:V) (e:Str×List Nat):Prop:=∃t r,v = .ref t∧t≠p∧r≠p∧Sq H t [.str e.1,.ref r]∧H r=some (.lst (aX e.2))
theorem qby.but {p:Addr} {H H':Hp} {uv:List V} {row:List (Str×List Nat)} (h:bJ (qby p) H uv row) (b:But p H H'):bJ Qt H' uv row:=⟨h.1,fun i v e h1 h2=>by
  obtain⟨t,r,k1,k2,k3,k4,k5⟩:=h.2 i v e h1 h2;exact⟨t,r,k1,Ky k4 k2 b,b _ _ k3 k5⟩⟩
theorem Vl {ys:List V} {os:List Nat} (h:ys.Perm (aX os)):∃zs:List Nat,zs.Perm os∧ys=aX zs:=by
  unfold aX at h ⊢;obtain⟨zs,h1,h2⟩:=nQ h os rfl;exact⟨zs,h1,h2⟩
def G6 (C:Addr):Sp:=fun vs H Q _=>∃(p:Addr),vs=[.ref p]∧jY H p∧∀H',jY H' p→But p H H'→Q (.bl true) H'
theorem G7 (T:Txt K mg a):cD P w K mg base mL 7 a.fJ a.mX ["_law_pot_here"] (G6 a.bW):=by
  exists T.sG.o_,bL
  ·obtain⟨p,rfl,_⟩:=h;rfl
  · obtain⟨p,rfl,hp,q⟩:=h;refine⟨_,(aB (kh (PE.eqv (aO (KQ T) hr.d rfl T.Ao T.uq.kp T.Am .nil bh (aj (aH 0) aq)) (aK _ _ _)) (PG.eqv (cF (K:=K) (n:=3) rfl rfl (eX.eqv (aR (aN (i:=1) bL.nd rfl (Or.inl rfl)) (eX.eqv (aR (aN (i:=2) bL.nd rfl (Or.inl rfl)) (eX.eqv (aR (aN (i:=3) bL.nd rfl (Or.inl rfl)) (eX.mono bZ cX)) (aU _ _))) (aU _ _))) (aU _ _))) (cI _ _ _)))
      (aB (bw (i:=4) bL.nd rfl (Or.inr rfl) (PE.eqv (aO (yM T) hr.d rfl T.yG T.uX.kp T.yF .nil bh (aj (aH 0) (aj (xW rfl rfl T.nm.list rfl T.nm.range (aj (aM (bT (K:=K) rfl) rfl T.nm.len PySem.boot_len (aj (aH 2) aq)) aq)) aq))) (aK _ _ _)))
      (aB (bw (i:=5) bL.nd rfl (Or.inr rfl) (dG rfl rfl (show bx (ao cj) _ ["_law_pot_here", "_law_names_here", "_law_ties", "_law_listed", "_law_order", "_law_turns", "_law_told", "_law_k", "_law_a", "_law_b", "_law_row", "_law_start", "_law_numbers", "_law_handed", "_law_web_here", "_law_due", "_law_made", "_law_found"] ["_law_tie_here"] [0] ["_law_tie_here", "_law_pot_here"] from⟨rfl,by symm,by symm,rfl,by symm,by symm⟩) rfl (PI.eqv (cg (K:=K) rfl (aH 2)) (bV _ _)) (fun C s H fp pn=>(aN (i:=0) (show(["_law_tie_here", "_law_pot_here"]:List Str).Nodup by symm) rfl (Or.inl rfl))) (fun C s H fp pn=>dF) (fun C s H fp pn=>(PE.eqv (aO (gB T) hr.d rfl T.jc T.iQ.kp T.i_ .nil bh (aj (aH 1) (aj aD aq))) (aK _ _ _)))))
      (aB (bw (i:=6) bL.nd rfl (Or.inl rfl) (cV aq))
      (aB (jf PassesOwn.never rfl (PI.eqv (cg (K:=K) rfl (aH 4)) (bV _ _)) (aN (i:=7) bL.nd rfl (Or.inl rfl))
      (aB (kh (bC (bG (K:=K) rfl) (aH 2) (aH 7) (fun _ _=>rfl)) (PG.eqv (cF (K:=K) (n:=2) rfl rfl (eX.eqv (aR (aN (i:=8) bL.nd rfl (Or.inl rfl)) (eX.eqv (aR (aN (i:=9) bL.nd rfl (Or.inl rfl)) (eX.mono bZ cX)) (aU _ _))) (aU _ _))) (cI _ _ _)))
      (aF (cB (gZ (K:=K) rfl PySem.F.plainAttrs_list PySem.F.slot_list_append PySem.F.type_list_append cu (aH 6) (aj (bC (bG (K:=K) rfl) (cV (aj (dH (aj (aH 8) (aj (aH 9) aq))) (aj (dH (aj (aH 9) (aj (aH 8) aq))) aq))) (bC (bG (K:=K) rfl) (aH 5) (aH 7) (fun _ _=>rfl)) (fun _ _=>rfl)) aq))))))
      (aB (bw (i:=10) bL.nd rfl (Or.inl rfl) (cV aq))
      (aB (jf PassesOwn.never rfl (PI.eqv (cg (K:=K) rfl (aH 3)) (bV _ _)) (PG.eqv (cF (K:=K) (n:=2) rfl rfl (eX.eqv (aR (aN (i:=11) bL.nd rfl (Or.inl rfl)) (eX.eqv (aR (aN (i:=12) bL.nd rfl (Or.inl rfl)) (eX.mono bZ cX)) (aU _ _))) (aU _ _))) (cI _ _ _))
      (aF (cB (gZ (K:=K) rfl PySem.F.plainAttrs_list PySem.F.slot_list_append PySem.F.type_list_append cu (aH 10) (aj (dH (aj (aH 11) (aj (dG rfl rfl (show bx (ao cj) _ ["_law_pot_here", "_law_names_here", "_law_ties", "_law_listed", "_law_order", "_law_turns", "_law_told", "_law_k", "_law_a", "_law_b", "_law_row", "_law_start", "_law_numbers", "_law_handed", "_law_web_here", "_law_due", "_law_made", "_law_found"] ["_law_number"] [4] ["_law_number", "_law_order"] from⟨rfl,by symm,by symm,rfl,by symm,by symm⟩) rfl (PI.eqv (cg (K:=K) rfl (aH 12)) (bV _ _)) (fun C s H fp pn=>(aN (i:=0) (show(["_law_number", "_law_order"]:List Str).Nodup by symm) rfl (Or.inl rfl))) (fun C s H fp pn=>dF) (fun C s H fp pn=>(gZ (K:=K) rfl PySem.F.plainAttrs_list PySem.F.slot_list_index PySem.F.type_list_index (QG (K:=K) rfl) (aH 1) (aj (aH 0) aq)))) aq))) aq)))))
      (aB (bw (i:=13) bL.nd rfl (Or.inl rfl) (bC (bG (K:=K) rfl) (cV (aj (bC (bG (K:=K) rfl) (cV (aj (aH 10) (aj (fQ zy rfl T.nm.tuple boot_tuple (aj (aH 10) aq)) aq))) (PE.eqv (aO (gB T) hr.d rfl T.jc T.iQ.kp T.i_ .nil bh (aj (aH 0) (aj aD aq))) (aK _ _ _)) (fun _ _=>rfl)) (aj (dG rfl rfl (show bx (ao cj) _ ["_law_pot_here", "_law_names_here", "_law_ties", "_law_listed", "_law_order", "_law_turns", "_law_told", "_law_k", "_law_a", "_law_b", "_law_row", "_law_start", "_law_numbers", "_law_handed", "_law_web_here", "_law_due", "_law_made", "_law_found"] ["_law_ear"] [] ["_law_ear"] from⟨rfl,by symm,by symm,rfl,by symm,by symm⟩) rfl (PI.eqv (cg (K:=K) rfl (aH 10)) (bV _ _)) (fun C s H fp pn=>(aN (i:=0) (show(["_law_ear"]:List Str).Nodup by symm) rfl (Or.inl rfl))) (fun C s H fp pn=>dF) (fun C s H fp pn=>(fQ (qI (K:=K) rfl) rfl T.nm.list boot_list (aj (aH 0) aq)))) aq))) (PE.eqv (aO (gB T) hr.d rfl T.jc T.iQ.kp T.i_ .nil bh (aj (aH 0) (aj aD aq))) (aK _ _ _)) (fun _ _=>rfl)))
      (aB (bw (i:=14) bL.nd rfl (Or.inl rfl) (dH (aj (b_ pC (jg (uc (K:=K) rfl) (aH 1) mK (PO.eqv (jQ aD) (iT _))) (PE.eqv (aO (yM T) hr.d rfl T.yG T.uX.kp T.yF .nil bh (aj (aH 0) (aj (jg (uc (K:=K) rfl) (aH 1) (PO.eqv (jQ aD) (iT _)) mK) aq))) (aK _ _ _))) (aj (aH 6) aq))))
      (aB (iu (i:=15) bL.nd rfl rfl rfl rfl (show bx (ao cj) _ ["_law_pot_here", "_law_names_here", "_law_ties", "_law_listed", "_law_order", "_law_turns", "_law_told", "_law_k", "_law_a", "_law_b", "_law_row", "_law_start", "_law_numbers", "_law_handed", "_law_web_here", "_law_due", "_law_made", "_law_found"] ["_law_k"] [5] ["_law_k", "_law_turns"] from⟨rfl,by symm,by symm,rfl,by symm,by symm⟩) rfl (PI.eqv (cg (K:=K) rfl (aH 4)) (bV _ _)) (fun C s H fp pn=>(aN (i:=0) (show(["_law_k", "_law_turns"]:List Str).Nodup by symm) rfl (Or.inl rfl))) (fun C s H fp pn=>dF) (fun C s H fp pn=>(bC (bG (K:=K) rfl) (aH 1) (aH 0) (fun _ _=>rfl))))
      (aB (bw (i:=16) bL.nd rfl (Or.inl rfl) (PE.eqv (Rm T.Yy (Av T) hr.d rfl T.Yx T.wN .nil bh (aj (bC (bG (K:=K) rfl) (aH 14) aD (fun _ _=>rfl)) (aj (bC (bG (K:=K) rfl) (aH 14) aD (fun _ _=>rfl)) aq))) (Mv _ _ _ _)))
      (aB (bw (i:=17) bL.nd rfl (Or.inl rfl) (PE.eqv (aO (wY T) hr.d rfl T.uW T.qN.kp T.uV .nil bh (aj (aH 16) (aj (aH 13) aq))) (aK _ _ _)))
      (aB (cU (PW.pt (lK (aZ kW (aM (lZ (K:=K) rfl hr.gd hr.units) rfl T.Ib.repr boot_repr (aj (aH 17) aq)) (aM (lZ (K:=K) rfl hr.gd hr.units) rfl T.Ib.repr boot_repr (aj (aH 15) aq)) (bM _)) (jG (eV (cH (PE.eqv (aO (yR T) hr.d rfl T.uo T.pX.kp T.um .nil bh (aj (aH 14) (aj (aH 17) aq))) (aK _ _ _))))))) (aF (bB j9)) bQ)
      (aB (cB (JD (K:=K) rfl PySem.F.plainAttrs_list PySem.F.slot_list_clear PySem.F.type_list_clear zB (aH 17)))
      (aF (bB (cC g_ (aM (lZ (K:=K) rfl hr.gd hr.units) rfl T.Ib.repr boot_repr (aj (PE.eqv (aO (wY T) hr.d rfl T.uW T.qN.kp T.uV .nil bh (aj (aH 16) (aj (aH 13) aq))) (aK _ _ _)) aq)) (aM (lZ (K:=K) rfl hr.gd hr.units) rfl T.Ib.repr boot_repr (aj (aH 15) aq)) (bM _)))))))))))))))))),?_⟩
    have Nr:200≤sizeLine:=by decide
    ac_nf;refine⟨p,rfl,hp,fun t n l r xs tv rv ps row H1 hn0 hl0 hr0 ht hn hl htv hrv Qq hX hTs hE hz hrl GP Il=>?_⟩;have Bc:=hTs.len;have x9:=hX.len;have np:n≠p:=hp.nl hn0;have lp:l≠p:=hp.nl hl0;have rp:r≠p:=hp.nl hr0;ac_nf;refine⟨_,cM.of ht,rfl,?_⟩;ac_nf;refine⟨_,.inl (aY.of hl),by rw[htv.1];omega,fun p2 hp2=>?_⟩;rw[htv.1];have s2:Same H1 (upd H1 p2 (.lst (aX (List.range ps.length)))):=au hp2;have e2:upd H1 p2 (.lst (aX (List.range ps.length))) p2=some (.lst (aX (List.range ps.length))):=ak;have p2p:p2≠p:=GP.nl hp2;have hB2:=Il.same s2;have hP2:=GP.keep s2;have hE2:ErB (upd H1 p2 (.lst (aX (List.range ps.length)))) p n l r xs tv ps rv row:=ErB.same ⟨hn,hl,htv,hrv,Qq⟩ s2;show Rx _ _ (upd H1 p2 (.lst (aX (List.range ps.length)))) _ _ _;generalize upd H1 p2 (.lst (aX (List.range ps.length)))=H2 at s2 e2 hB2 hP2 hE2 ⊢;refine⟨p,p2,_,rfl,hP2,p2p,e2,by simp[aX];omega,fun od ys H3 qmH qmI hperm Im hB3=>?_⟩;obtain⟨os,Zt,rfl⟩:=Vl hperm;have odp:od≠p:=hP2.nl qmH;have hE3:=hE2.but hP2 hB3 np lp rp;have qa9:=hB2.trans hB3;have hol:os.length=ps.length:=by rw[Zt.length_eq,List.length_range]
    have hos:∀k∈os,k<ps.length:=fun k hk=>List.mem_range.mp (Zt.mem_iff.mp hk);ac_nf;have low:∀{H':Hp},But p H3 H'→ErB H' p n l r xs tv ps rv row∧H' od=some (.lst (aX os))∧But p H H':=fun b=>⟨hE3.but Im b np lp rp,b _ _ odp qmI,qa9.trans b⟩;refine⟨⟨_,aY.of hE3.hl⟩,fun D hD=>Ma tv (fun i σ H'=>∃v ds,σ=[v,some (.ref p)]∧H' D=some (.lst (ds.map V.int))∧ds.length=i∧(∀d∈ds,0≤d∧d<2)∧jY H' p∧But p H3 H') ⟨none,[],rfl,ak,rfl,by simp,Im.upd (Im.ne hD),But.of (au hD)⟩ (fun i σ H' _ h=>by
      obtain⟨_,_,_,_,_,_,_,z⟩:=h;exact aY.of (low z).1.hl) ?_ ?_⟩
    · rintro i x σ H4 hi ⟨v,ds,rfl,Kq,hdl,hds,Et,Io⟩;have hi2:i<tv.length:=(List.getElem?_eq_some_iff.mp hi).1;have tvl:=htv.1;ac_nf;refine⟨p,_,rfl,Et,by decide,by decide,fun d H5 hd0 hd1 K5 Kr=>?_⟩;have Dp:D≠p:=Im.nl hD;have Bd:=Kr _ _ Dp Kq;ac_nf;refine⟨_,Bd,by rw[List.length_map];omega,ds++[d],by rw[ak];simp,by simp[hdl],?_,K5.upd Dp.symm,(Io.trans Kr).new hD⟩;intro z hz
      rcases List.mem_append.mp hz with y | y
      ·exact hds z y
      ·simp at y;subst y;exact⟨hd0,hd1⟩
    · rintro σ H4 ⟨v,ts,rfl,Kq,htl,h01,Et,Io⟩;have Dp:D≠p:=Im.nl hD;rw[htv.1] at htl;obtain⟨hE4,qgP,Qp⟩:=low Io;ac_nf;intro tl qeb;exists H4,tl,(.lst []),s5,e5,H5,qeb;have kp4:∀{H':Hp},Same H4 H'→ErB H' p n l r xs tv ps rv row∧H' od=some (.lst (aX os))∧H' D=some (.lst (ts.map V.int)):=fun s=>⟨hE4.same s,s _ _ qgP,s _ _ Kq⟩;have tnt:bI H5 [] ((os.take 0).map (Bk ts ps)):=⟨by simp,fun i v e h=>by simp at h⟩;refine⟨⟨_,aY.of (s5 _ _ qgP)⟩,frL (aX os) (fun i σ H'=>(∃o7 o8 o9 tv',σ=[some (.ref p),some (.ref n),some (.ref l),some (.ref r),some (.ref od),some (.ref D),some (.ref tl),o7,o8,o9,none,none,none,none,none,none,none,none]∧H' tl=some (.lst tv')∧bI H' tv' ((os.take i).map (Bk ts ps)))∧Same H4 H') ⟨⟨_,_,_,[],rfl,e5,tnt⟩,s5⟩ (fun i σ H' _ h=>aY.of (kp4 h.2).2.1) ?_ ?_⟩
      · rintro i v σ H6 hiv ⟨⟨o7,o8,o9,tv',rfl,et6,EY⟩,s6⟩;obtain⟨k,hk,rfl⟩:∃k,os[i]? = some k∧v = .int (k:Nat):=by
          unfold aX at hiv;rw[List.getElem?_map] at hiv;obtain⟨k,hk,rfl⟩:=Option.map_eq_some_iff.mp hiv;exact⟨k,hk,rfl⟩
        have hi2:=(List.getElem?_eq_some_iff.mp hk).1;have hkn:=hos k (List.mem_of_getElem? hk);obtain⟨d,hd⟩:∃d,ps[k]? = some d:=⟨_,List.getElem?_eq_getElem hkn⟩;obtain⟨hE6,qgQ,YK⟩:=kp4 s6;obtain⟨w',hw'⟩:∃w',tv[k]? = some w':=⟨_,List.getElem?_eq_getElem (by rw[htv.1];exact hkn)⟩;obtain⟨td,rfl,htd⟩:=hE6.ht.2 k w' d hw' hd;obtain⟨z,hz⟩:∃z,ts[k]? = some z:=⟨_,List.getElem?_eq_getElem (by omega)⟩;have qpX:=h01 z (List.mem_of_getElem? hz);have hvl:=EY.1;rw[List.length_map,List.length_take] at hvl;rw[take_one hk,List.map_append];have htr:Bk ts ps k=if z=0 then d else (d.2,d.1):=by
          unfold Bk FJ;rw[hd,hz];rfl
        ac_nf;refine⟨_,.inl (aY.of hE6.hl),_,aP hw',_,cM.of htd,rfl,?_⟩;ac_nf;refine⟨⟨_,aY.of et6⟩,fun p1 h1 p2' h2 p3 h3=>?_⟩;have hp1:=bN (u:=HO.lst [V.ref p1,V.ref p2']) (bN (u:=HO.tup [.str d.2,.str d.1]) (ak (H:=H6) (a:=p1) (o:=HO.tup [.str d.1,.str d.2])) h2) h3;have hp2':=bN (u:=HO.lst [V.ref p1,V.ref p2']) (ak (H:=upd H6 p1 (HO.tup [.str d.1,.str d.2])) (a:=p2') (o:=HO.tup [.str d.2,.str d.1])) h3;have sm:=((au (o:=HO.tup [.str d.1,.str d.2]) h1).trans (au (o:=HO.tup [.str d.2,.str d.1]) h2)).trans (au (o:=HO.lst [V.ref p1,V.ref p2']) h3);have e9:=ak (H:=upd (upd H6 p1 (HO.tup [.str d.1,.str d.2])) p2' (HO.tup [.str d.2,.str d.1])) (a:=p3) (o:=HO.lst [V.ref p1,V.ref p2']);generalize upd (upd (upd H6 p1 (HO.tup [.str d.1,.str d.2])) p2' (HO.tup [.str d.2,.str d.1])) p3 (HO.lst [V.ref p1,V.ref p2'])=H9 at hp1 hp2' sm e9 ⊢;have key:∃(pp:Addr),xG [V.ref p1,V.ref p2'] z=some (.ref pp)∧H9 pp=some (.tup [.str (Bk ts ps k).1,.str (Bk ts ps k).2]):=by
          rw[htr];have:z=0∨z=1:=by omega
          rcases this with rfl | rfl
          ·exact⟨p1,rfl,hp1⟩
          ·exact⟨p2',rfl,hp2'⟩
        obtain⟨pp,a1,hpp⟩:=key;have et9:=sm _ _ et6;have kp:cG H9 (upd H9 tl (.lst (tv'++[.ref pp]))):=fun c zs e=>q_ e et9 (by intro z;cases z);refine⟨_,.inl (aY.of (sm _ _ YK)),.int z,aP (by rw[List.getElem?_map,hz];rfl),?_⟩;ac_nf;exact⟨_,.inl (aY.of e9),_,a1,_,et9,by omega,⟨_,ak,((EY.same sm).keep kp).snoc (kp _ _ hpp)⟩,aV (s6.trans sm) qeb⟩
      · rintro σ H6 ⟨⟨o7,o8,o9,tv',rfl,et6,EY⟩,s6⟩;have nol:(aX os).length=os.length:=by simp[aX]
        rw[nol,List.take_length] at EY;ac_nf;intro rl YM;exists H6,rl,(.lst []),s7,e7,H7,YM;have S7:=s6.trans s7;obtain⟨hE6,qgQ,YK⟩:=kp4 s6;refine⟨⟨_,aY.of (s7 _ _ hE6.hr)⟩,frL rv (fun i σ H'=>(∃o11 o12 rv',σ=[some (.ref p),some (.ref n),some (.ref l),some (.ref r),some (.ref od),some (.ref D),some (.ref tl),o7,o8,o9,some (.ref rl),o11,o12,none,none,none,none,none]∧H' rl=some (.lst rv')∧bJ (qea p rl) H' rv' (tD (fun k=>os.idxOf k) (row.take i)))∧Same H6 H') ⟨⟨_,_,[],rfl,e7,bJ.nil⟩,s7⟩ (fun i σ H' _ h=>aY.of (h.2 _ _ hE6.hr)) ?_ ?_⟩
        · rintro i v σ H8 hiv ⟨⟨o11,o12,rv',rfl,er8,Vm⟩,s8⟩;have hi2:=(List.getElem?_eq_some_iff.mp hiv).1;have qmF:=hE6.he.1;obtain⟨e,he⟩:∃e,row[i]? = some e:=⟨_,List.getElem?_eq_getElem (by omega)⟩;obtain⟨t',r',rfl,ht',hr',_⟩:=hE6.he.2 i v e hiv he;have hvl:=Vm.1;have hle:(tD (fun k=>os.idxOf k) (row.take i)).length≤20:=by simp[tD];omega
          have hlt:=(hE.at.2.2.2 i e he).lt;have hnd:=(hE.at.2.2.2 i e he).nd;have Y9:e.2.length≤20:=by
            have l2:=bY hnd (xs:=List.range ps.length) fun j hj=>List.mem_range.mpr (hlt j hj);rw[List.length_range] at l2;omega
          have qgR:tD (fun k=>os.idxOf k) (row.take (i+1))=tD (fun k=>os.idxOf k) (row.take i)++[(e.1,e.2.map fun k=>os.idxOf k)]:=by rw[take_one he];simp[tD]
          rw[qgR];ac_nf;refine⟨_,cM.of (s8 _ _ ht'),rfl,?_⟩;ac_nf;refine⟨⟨_,aY.of er8⟩,⟨_,aY.of (s8 _ _ hr')⟩,fun F hF=>Ma (aX e.2) (fun j σ H'=>(∃o',σ=[o',some (.ref od)])∧H' F=some (.lst (aX ((e.2.take j).map fun k=>os.idxOf k)))∧Same H8 H') ⟨⟨_,rfl⟩,ak,au hF⟩ (fun j σ H' _ h=>aY.of (h.2.2 _ _ (s8 _ _ hr'))) ?_ ?_⟩
          · rintro j v σ H9 hjv ⟨⟨o',rfl⟩,eF,s9⟩;obtain⟨k,hk,rfl⟩:∃k,e.2[j]? = some k∧v = .int (k:Nat):=by
              unfold aX at hjv;rw[List.getElem?_map] at hjv;obtain⟨k,hk,rfl⟩:=Option.map_eq_some_iff.mp hjv;exact⟨k,hk,rfl⟩
            have hj2:=(List.getElem?_eq_some_iff.mp hk).1;have hko:k∈os:=Zt.mem_iff.mpr (List.mem_range.mpr (hlt k (List.mem_of_getElem? hk)));have od9:H9 od=some (.lst ((os.map fun n:Nat=>(n:Int)).map V.int)):=by rw[← uD];exact s9 _ _ (s8 _ _ qgQ)
            rw[take_one hk,List.map_append];ac_nf;refine⟨⟨_,aY.of od9⟩,_,aY.of od9,List.mem_map.mpr ⟨k,hko,rfl⟩,_,eF,by simp[aX];omega,?_,aV s9 hF⟩;rw[ak,Ol];simp[aX]
          · rintro σ H9 ⟨⟨o',rfl⟩,eF,s9⟩;have nl2:(aX e.2).length=e.2.length:=by simp[aX]
            rw[nl2,List.take_length] at eF;have er9:=s9 _ _ er8;ac_nf;intro pt hpt;exists H9,pt,(.tup [.str e.1,.ref F]),sa,ea,Ha,hpt;have era:=sa _ _ er9;have Frl:F≠rl:=fun z=>by rw[z,er8] at hF;cases hF
            have Fp:F≠p:=fun z=>by
              obtain⟨_,_,u3,_⟩:=(Et.keep s6).keep s8;rw[z,u3] at hF;cases hF
            have nt:∀{b:Addr} {us:List V},Ha b=some (.tup us)→b≠rl:=fun e z=>by rw[z,era] at e;cases e
            have s8a:=s9.trans sa;refine⟨_,era,by omega,⟨_,ak,bJ.snoc (bJ.keep Vm fun v e ⟨t,r,h1,h2,h3,h4,h5⟩=>⟨t,r,h1,by rw[aC (nt (s8a _ _ h2))];exact s8a _ _ h2,by rw[aC h4];exact s8a _ _ h3,h4,h5⟩) ⟨pt,F,rfl,by rw[aC (nt ea)];exact ea,by rw[aC Frl];exact sa _ _ eF,Frl,Fp⟩⟩,aV (s8.trans s8a) YM⟩
        · rintro σ H8 ⟨⟨o11,o12,rv',rfl,er8,Vm⟩,s8⟩;rw[hE6.he.1,List.take_length] at Vm;generalize qcd:tD (fun k=>os.idxOf k) row=wZ at Vm;generalize qec:os.map (Bk ts ps)=Oz at EY;have S8:=s6.trans s8;have hP8:=Et.keep S8;have hB8:=Qp.same S8;have et8:=s8 _ _ et6;have qmJ:=EY.same s8;have hn8:=(kp4 S8).1.hn;have qmK:=(kp4 S8).2.1;have hD8:=(kp4 S8).2.2;have tlp:tl≠p:=Et.nl qeb;have rlp:rl≠p:=(Et.keep s6).nl YM;ac_nf;refine⟨_,.inl er8,fun tp H9 etp s9 Z9 U4=>?_⟩;exists H9,Z9,(.lst [.ref rl,.ref tp]),Z4,e10,H10,U4;have Zu:=s9.trans Z4;have qee:=hP8.keep Zu;have qmL:Z9≠p:=(hP8.keep s9).nl U4;have qce:=Z4 _ _ etp;have qmM:=Zu _ _ er8;have qgS:bJ (qea p rl) H10 rv' wZ:=bJ.keep Vm fun v e ⟨t,r,h1,h2,h3,h4⟩=>⟨t,r,h1,Zu _ _ h2,Zu _ _ h3,h4⟩;refine⟨p,_,rfl,qee,by decide,by decide,fun d1 H11 qpY qpZ qbz Vn=>?_⟩;have tpp:tp≠p:=qee.Vc qce (by intro zs z;cases z);have Oq:bJ (qea p rl) H11 rv' wZ:=bJ.keep qgS fun v e ⟨t,r,h1,h2,h3,h4,h5⟩=>⟨t,r,h1,Vn _ _ (qee.Vc h2 (by intro zs z;cases z)) h2,Vn _ _ h5 h3,h4,h5⟩;have qef:=Vn _ _ rlp qmM;have hb8:But p H8 H11:=(But.of Zu).trans Vn;obtain⟨h1,a1,qmN,h1p⟩:∃h1,xG [V.ref rl,V.ref tp] d1=some (.ref h1)∧Sq H11 h1 rv'∧h1≠p:=by
            have:d1=0∨d1=1:=by omega
            rcases this with rfl | rfl
            ·exact⟨rl,rfl,.inl qef,rlp⟩
            ·exact⟨tp,rfl,.inr (Vn _ _ tpp qce),tpp⟩
          refine⟨_,.inl (aY.of (Vn _ _ qmL e10)),_,a1,?_⟩;have qmE:=Oq.1;have qpv:wZ.length≤20:=by
            rw[← qcd];simp[tD];have:=hE6.he.1;omega
          ac_nf;refine⟨⟨_,aY.of qef⟩,fun G hG=>Ma rv' (fun j σ H'=>(∃o',σ=[o'])∧(∃cv,H' G=some (.lst cv)∧bJ (qmG p G) H' cv (wZ.take j))∧Same H11 H') ⟨⟨_,rfl⟩,⟨[],ak,bJ.nil⟩,au hG⟩ (fun j σ H' _ h=>aY.of (h.2.2 _ _ qef)) ?_ ?_⟩
          · rintro j v σ Y6 hjv ⟨⟨o',rfl⟩,⟨cv,eG,hcv⟩,s12⟩;have hj2:=(List.getElem?_eq_some_iff.mp hjv).1;obtain⟨e,he⟩:∃e,wZ[j]? = some e:=⟨_,List.getElem?_eq_getElem (by omega)⟩;obtain⟨t',r',rfl,ht',hr',_,qmO⟩:=Oq.2 j v e hjv he;have hcl:=hcv.1;rw[List.length_take] at hcl;rw[take_one he];have hrG:r'≠G:=fun z=>by rw[z,hG] at hr';cases hr'
            ac_nf;refine⟨_,.inr (cM.of (s12 _ _ ht')),fun ph hph=>?_⟩;exists Y6,ph,(.lst [.str e.1,.ref r']),sh,eh,H13,hph;have qmP:=sh _ _ eG;have phG:ph≠G:=fun z=>by rw[z,eG] at hph;cases hph
            exact⟨_,qmP,by omega,⟨_,ak,bJ.snoc (bJ.keep hcv fun v e ⟨t,r,h1,h2,h3,h6,h7,h4,h5⟩=>⟨t,r,h1,h2,h3,h6,h7,by rw[aC h2];exact sh _ _ h4,by rw[aC h3];exact sh _ _ h5⟩) ⟨ph,r',rfl,phG,hrG,(qbz.keep s12).nl hph,qmO,by rw[aC phG];exact eh,by rw[aC hrG];exact sh _ _ (s12 _ _ hr')⟩⟩,aV (s12.trans sh) hG⟩
          · rintro σ Y6 ⟨⟨o',rfl⟩,⟨cv,eG,hcv⟩,s12⟩;rw[Oq.1,List.take_length] at hcv;have Gp:G≠p:=qbz.nl hG;ac_nf;intro p13 qgT;exists Y6,p13,(.lst [.ref h1,.ref G]),Wb,e13,H13,qgT;have FN:=s12.trans Wb;have qeg:=qbz.keep FN;have qmQ:p13≠p:=(qbz.keep s12).nl qgT;refine⟨p,_,rfl,qeg,by decide,by decide,fun d2 H14 qp0 qp1 qeh Ot=>?_⟩;obtain⟨th,uv,a2,hth,thp,huv⟩:∃th uv,xG [V.ref h1,V.ref G] d2=some (.ref th)∧Sq H14 th uv∧th≠p∧bJ (qby p) H14 uv wZ:=by
              have:d2=0∨d2=1:=by omega
              rcases this with rfl | rfl
              ·refine⟨h1,rv',rfl,Ky (qmN.same FN) h1p Ot,h1p,Oq.1,fun i v e h2 h3=>?_⟩;obtain⟨t,r,k1,k2,k3,_,k5⟩:=Oq.2 i v e h2 h3;exact⟨t,r,k1,qeg.Vc (FN _ _ k2) (by intro zs z;cases z),k5,.inr (Ot _ _ (qeg.Vc (FN _ _ k2) (by intro zs z;cases z)) (FN _ _ k2)),Ot _ _ k5 (FN _ _ k3)⟩
              ·refine⟨G,cv,rfl,.inl (Ot _ _ Gp (Wb _ _ eG)),Gp,hcv.1,fun i v e h2 h3=>?_⟩;obtain⟨t,r,k1,_,_,k6,k7,k4,k5⟩:=hcv.2 i v e h2 h3;exact⟨t,r,k1,k6,k7,.inl (Ot _ _ k6 (Wb _ _ k4)),Ot _ _ k7 (Wb _ _ k5)⟩
            refine⟨_,.inl (aY.of (Ot _ _ qmQ e13)),_,a2,?_⟩;have bb:But p H8 H14:=hb8.trans ((But.of FN).trans Ot);have qgU:=bb _ _ np hn8;ac_nf;refine⟨_,aY.of qgU,fun p15 qgV=>?_⟩;rw[show qF (xs.map V.str) none (some 1)=(xs.take 1).map V.str by rw[show(1:Int)=((1:Nat):Int) from rfl,Zd,← List.map_take]];exists H14,p15,(.lst ((xs.take 1).map V.str)),s15,e15,H15,qgV;refine⟨_,aY.of (s15 _ _ qgU),fun p16 qgW=>?_⟩;rw[show qF (xs.map V.str) (some 1) none=(xs.drop 1).map V.str by rw[show(1:Int)=((1:Nat):Int) from rfl,Ss,← List.map_drop]];exists H15,p16,(.lst ((xs.drop 1).map V.str)),s16,e16,H16,qgW;have qcf:=s15.trans s16;have qmR:=qeh.keep qcf;have qmS:p15≠p:=qeh.nl qgV;have qmT:p16≠p:=(qeh.keep s15).nl qgW;refine⟨p,p16,_,rfl,qmR,qmT,e16,by rw[List.length_map,List.length_drop];omega,fun q17 ys H17 qpw qmU hperm qmV qgX=>?_⟩;obtain⟨zs,hzp,rfl⟩:=nQ hperm (xs.drop 1) rfl;have hzl:zs.length=xs.length - 1:=by rw[hzp.length_eq,List.length_drop]
            have tk1:(xs.take 1).length=1:=by rw[List.length_take];omega
            have qmW:=qgX _ _ qmS (s16 _ _ e15);refine⟨_,qmW,_,qmU,by rw[List.length_map,List.length_map];omega,fun Zv qmX=>?_⟩;rw[← List.map_append];have KY:(xs.take 1++zs).Perm xs:=by
              have:(xs.take 1++zs).Perm (xs.take 1++xs.drop 1):=hzp.append_left _
              rwa [List.take_append_drop] at this
            have ht1:(xs.take 1++zs).take 1=xs.take 1:=by rw[List.take_append_of_le_length (by omega),List.take_take];rfl
            have hXN:GF (xs.take 1++zs):=⟨by rw[KY.length_eq];exact hX.len,fun x hx=>hX.nm x (KY.mem_iff.mp hx),KY.nodup_iff.mpr hX.nd⟩;have hne:∀d∈ps,d.1≠d.2:=fun d hd=>(hTs.ok d hd).2.2;have x0:(xs.take 1).Nodup:=hX.nd.sublist (List.take_sublist _ _);have hR:=SJ Zt h01 htl hne;have hEN:=hR.ears x0 hE;have qgY:=qbw x0 Zt h01 htl hne hE hz;have hTN:je (xs.take 1++zs) Oz:=by
              rw[← qec];refine⟨by rw[List.length_map];omega,fun d hd=>?_⟩;obtain⟨k,hk,rfl⟩:=List.mem_map.mp hd;have hkk:=hos k hk;obtain⟨m1,m2,m3⟩:=hTs.ok ps[k] (List.getElem_mem hkk);unfold Bk;rw[List.getElem?_eq_getElem hkk];simp only;split
              ·exact⟨KY.mem_iff.mpr m1,KY.mem_iff.mpr m2,m3⟩
              ·exact⟨KY.mem_iff.mpr m2,KY.mem_iff.mpr m1,m3.symm⟩
            rw[qec,qcd] at hEN qgY;have hpl:Oz.length=ps.length:=by rw[← qec,List.length_map,hol]
            have N6:((List.range ps.length).map fun k=>os.idxOf k).length=Oz.length:=by simp[hpl]
            have hml:xs.length=(xs.take 1++zs).length:=KY.length_eq.symm;have sX:∀x∈xs.take 1++zs,x∈xs:=fun x hx=>KY.mem_iff.mp hx;rw[← ht1] at hEN;generalize xs.take 1++zs=xsN at hXN hTN hEN hml sX ⊢;exists H17,Zv,(.lst (xsN.map V.str)),s18,e18,H18,qmX;have bc:But p H14 H18:=(But.of qcf).trans (qgX.same s18);have b8:But p H8 H18:=bb.trans bc;have qmY:=qmV.keep s18;have qgZ:=Ky hth thp bc;have qg0:=qby.but huv bc;have qg1:=b8 _ _ odp qmK;have qmZ:=b8 _ _ Dp hD8;have qg2:=b8 _ _ tlp et8;have qg3:=qmJ.but hP8 b8;have qm0:=hB8.trans b8;ac_nf;intro w19 qm1;exists H18,w19,(.tup [.ref Zv,.ref tl]),s19,e19,H19,qm1;have hGo:jH H19 w19 Zv tl xsN tv' Oz:=⟨e19,s19 _ _ e18,s19 _ _ qg2,qg3.same s19,hXN,hTN⟩;have qcg:=s19 _ _ qg1;have qm2:=s19 _ _ qmZ;refine⟨⟨_,aY.of qcg⟩,fun F hF=>Ma (aX os) (fun j σ H'=>(∃o',σ=[o',some (.ref D)])∧H' F=some (.lst (((os.take j).map (FJ ts)).map V.int))∧Same H19 H') ⟨⟨_,rfl⟩,ak,au hF⟩ (fun j σ H' _ h=>aY.of (h.2.2 _ _ qcg)) ?_ ?_⟩
            · rintro j v σ H20 hjv ⟨⟨o',rfl⟩,eF,UL⟩;obtain⟨k,hk,rfl⟩:∃k,os[j]? = some k∧v = .int (k:Nat):=by
                unfold aX at hjv;rw[List.getElem?_map] at hjv;obtain⟨k,hk,rfl⟩:=Option.map_eq_some_iff.mp hjv;exact⟨k,hk,rfl⟩
              have hj2:=(List.getElem?_eq_some_iff.mp hk).1;have hkn:=hos k (List.mem_of_getElem? hk);obtain⟨z,hz'⟩:∃z,ts[k]? = some z:=⟨_,List.getElem?_eq_getElem (by omega)⟩;have htz:FJ ts k=z:=by unfold FJ;rw[hz'];rfl
              rw[take_one hk,List.map_append,List.map_append];ac_nf;refine⟨_,.inl (aY.of (UL _ _ qm2)),.int z,aP (by rw[List.getElem?_map,hz'];rfl),_,eF,by rw[List.length_map,List.length_map,List.length_take];omega,?_,aV UL hF⟩;rw[ak,htz,List.map_map]
            · rintro σ H20 ⟨⟨o',rfl⟩,eF,UL⟩;rw[nol,List.take_length,← qgY] at eF;have QH:=hGo.same UL;have S20:=s19.trans UL;ac_nf;refine⟨_,.inr (cM.of QH.1),_,aP (j:=0) rfl,_,.inr (cM.of QH.1),_,aP (j:=1) rfl,fun o dx ho hdx qm3=>?_⟩;have so:Same H20 (upd (upd H20 dx (.own o)) o (.ins a.bW dx [])):=fun b u e=>by
                rw[aC (aQ e ho),aC (aQ e hdx)];exact e
              have hpr:oJ H20 tv' Oz:=⟨QH.2.2.2.1.1,fun i v e h1 h2=>by
                obtain⟨t,rfl,z⟩:=QH.2.2.2.1.2 i v e h1 h2;exact⟨t,rfl,.inr z⟩⟩
              refine⟨o,dx,Zv,tl,tv',xsN,Oz,rfl,ak,.inl (so _ _ QH.2.2.1),hpr.same so,.inl (so _ _ QH.2.1),hXN,hTN,fun H21 hW qm4=>⟨rfl,?_⟩⟩;have s21:Same H20 H21:=fun b u e=>qm4 b u (aQ e ho) (so b u e);have S21:=S20.trans s21;have qm5:=QH.same s21;have qch:=qgZ.same S21;have qci:=bJ.keep qg0 (Qt.same S21);have qg4:=s21 _ _ eF;ac_nf;refine⟨o,th,uv,wZ,xsN,xs,_,Oz,rfl,hW,hXN,hTN,qch,qci,hEN,hml,N6,fun f H22 hf0 ef s22=>?_⟩;obtain⟨hst,qm6⟩:=QD hEN (hXN.nd.sublist (List.take_sublist _ _)) N6;have vH:=Oo qm6 (by rw[sJ];omega);have hstr:=Ay hXN hTN hEN sX;have hnl:=sJ Oz wZ;ac_nf;refine⟨.list (fY (nsE Oz wZ)),⟨f,_,rfl,aY.of ef,mO _⟩,vH.sh,vH.nd,Nat.le_trans vH.dp (by decide),Nat.le_trans vH.ln (by decide),.list (fY (nsE Oz wZ)),⟨F,_,rfl,aY.of (s22 _ _ qg4),mO _⟩,vH.sh,vH.nd,Nat.le_trans vH.dp (by decide),Nat.le_trans vH.ln (by decide),false,by simp,dz.neg rfl ?_⟩;ac_nf;refine⟨w19,Zv,tl,f,xsN,tv',Oz,nsE Oz wZ,qW (uZ Oz wZ),rfl,qm5.same s22,ef,hnl,hst,fun b H23 qm7 s23=>?_⟩;rw[qm7.mpr hstr];ac_nf;refine⟨⟨_,aY.of (s23 _ _ ef)⟩,⟨_,s23 _ _ ef⟩,?_⟩;have s24:=aV (o:=.lst []) (s22.trans s23) hf0;generalize upd H23 f (.lst [])=H24 at s24 ⊢;refine⟨o,th,uv,wZ,xsN,xs,_,Oz,rfl,hW.same s24,hXN,hTN,qch.same s24,bJ.keep qci (Qt.same s24),hEN,hml,N6,fun f2 H25 qp2 ef2 s25=>?_⟩;ac_nf;refine⟨.list (fY (nsE Oz wZ)),⟨f2,_,rfl,aY.of ef2,mO _⟩,vH.sh,vH.nd,Nat.le_trans vH.dp (by decide),Nat.le_trans vH.ln (by decide),.list (fY (nsE Oz wZ)),⟨F,_,rfl,aY.of (s25 _ _ (s24 _ _ qg4)),mO _⟩,vH.sh,vH.nd,Nat.le_trans vH.dp (by decide),Nat.le_trans vH.ln (by decide),?_⟩;have S25:=S21.trans (s24.trans s25);rw[decide_eq_true rfl];exact q _ (qmY.keep S25) (qm0.same S25)
def Zw:Sp:=fun vs H Q _=>∃(wd:Str) (r:Addr),vs=[.str wd,.ref r]∧
  ((wd=Str.ofString "pointing" ∧∃zs,H r=some (.lst zs)∧zs.length<100∧Q .non (upd H r (.lst (zs++[.int 2]))))∨
   (wd=Str.ofString "parted" ∧∃zs,H r=some (.lst zs)∧Q .non (upd H r (.lst [])))∨
   (wd=Str.ofString "barred" ∧∃k c zs,H r=some (.tup [k,.ref c])∧H c=some (.lst zs)∧Q .non (upd H c (.lst []))))
theorem Zx (T:Txt K mg a):cD P w K mg base mL 1 a.oG a.yt ["_law_word", "_law_told"] Zw:=by
  exists T.Ko.o_,Yp
  ·obtain⟨wd,r,rfl,_⟩:=h;rfl
  · obtain⟨wd,r,rfl,h⟩:=h;refine⟨_,(aF (cU (aZ g_ (aH 0) nj (bM _)) (aF (cB (gZ (K:=K) rfl PySem.F.plainAttrs_list PySem.F.slot_list_append PySem.F.type_list_append cu (aH 1) (aj aD aq)))) (aF (cU (aZ g_ (aH 0) nj (bM _)) (aF (cB (JD (K:=K) rfl PySem.F.plainAttrs_list PySem.F.slot_list_clear PySem.F.type_list_clear zB (aH 1)))) (aF (cB (JD (K:=K) rfl PySem.F.plainAttrs_list PySem.F.slot_list_clear PySem.F.type_list_clear zB (bC (bG (K:=K) rfl) (aH 1) aD (fun _ _=>rfl))))))))),?_⟩;have qp3:100≤sizeLine:=by decide
    rcases h with⟨rfl,zs,e1,e2,q⟩ | ⟨rfl,zs,e1,q⟩ | ⟨rfl,k,c,zs,e1,e2,q⟩
    ·simp -dsimp[aA,stC];exact⟨⟨_,aY.of e1⟩,_,e1,by omega,q⟩
    · have n1:¬Str.ofString "parted" = Str.ofString "pointing" :=by symm
      simp -dsimp[aA,stC];refine dz.neg (decide_eq_false n1) ?_;simp -dsimp[aA,stC];exact⟨⟨_,aY.of e1⟩,⟨_,e1⟩,q⟩
    · have n1:¬Str.ofString "barred" = Str.ofString "pointing" :=by symm
      have n2:¬Str.ofString "barred" = Str.ofString "parted" :=by symm
      simp -dsimp[aA,stC];refine dz.neg (decide_eq_false n1) ?_;simp -dsimp[aA,stC];refine dz.neg (decide_eq_false n2) ?_;simp -dsimp[aA,stC];refine⟨_,.inr (cM.of e1),_,aP (j:=1) rfl,?_⟩;simp -dsimp[aA,stC];exact⟨⟨_,aY.of e2⟩,⟨_,e2⟩,q⟩
theorem Zy {k:Nat} {lot:List Str} (hk:k≤20) (h:∀x∈lot,nameB x=true) (hl:lot.length≤9):Shn (.tuple [.int (k:Nat),.list (cW lot)]) 2000:=by
  have h1:=SN hk;have h2:=Jc h hl;have d2:=xP lot;refine⟨?_,?_,?_,?_⟩
  ·show((PyData.int (k:Nat)).showable && ((PyData.list (cW lot)).showable && true))=true;rw[h1.sh,h2.sh];rfl
  · show((PyData.int (k:Nat)).hasDict || ((PyData.list (cW lot)).hasDict || false))=false
    rw[h1.nd,h2.nd];rfl
  ·simp[PyData.depth,PyData.depthAll];omega
  ·have:=tupleText_len_le (PyData.shownAll [.int (k:Nat),.list (cW lot)]);have l1:=h1.ln;have l2:=h2.ln;simp only[PyData.shown] at l2 ⊢;simp only[PyData.shownAll,List.map_cons,List.map_nil,List.sum_cons,List.sum_nil,List.length_cons,List.length_nil,PyData.shown] at this l1 ⊢;omega
def FP (C:Addr):Sp:=fun vs H Q _=>∃(o t n l:Addr) (xs:List Str) (tv:List V) (ps:List (Str×Str)),vs=[.ref o,.ref t]∧ig C H o xs ps∧jH H t n l xs tv ps∧∀H',Same H H'→Q (.bl true) H'
theorem FQ (T:Txt K mg a):cD P w K mg base mL 10 a.eO a.lG ["_law_made", "_law_web_here"] (FP a.bW):=by
  exists T.qw.o_,kZ
  ·obtain⟨o,t,n,l,xs,tv,ps,rfl,_⟩:=h;rfl
  · obtain⟨o,t,n,l,xs,tv,ps,rfl,hw,hG,q⟩:=h;refine⟨_,(aB (cU (eV (cH (PE.eqv (aO (Oj T) hr.d rfl T.Km T.BL.kp T.Kl .nil bh (aj (aH 0) (aj (aH 1) aq))) (aK _ _ _)))) (aF (bB j9)) bQ)
      (aB (kh (PE.eqv (aO (KC T) hr.d rfl T.Kh T.En.kp T.Kg .nil bh (aj (aH 0) aq)) (aK _ _ _)) (PG.eqv (cF (K:=K) (n:=2) rfl rfl (eX.eqv (aR (aN (i:=2) kZ.nd rfl (Or.inl rfl)) (eX.eqv (aR (aN (i:=3) kZ.nd rfl (Or.inl rfl)) (eX.mono bZ cX)) (aU _ _))) (aU _ _))) (cI _ _ _)))
      (aB (bw (i:=4) kZ.nd rfl (Or.inl rfl) (aM (lZ (K:=K) rfl hr.gd hr.units) rfl T.Ib.repr boot_repr (aj (aH 3) aq)))
      (aB (cB (PE.eqv (aO (Zx T) hr.d rfl T.R0 T.Ko.kp T.RZ .nil bh (aj (aH 2) (aj (aH 3) aq))) (aK _ _ _)))
      (aF (bB (f9 (cC g_ (aM (lZ (K:=K) rfl hr.gd hr.units) rfl T.Ib.repr boot_repr (aj (bC (bG (K:=K) rfl) (PE.eqv (aO (KC T) hr.d rfl T.Kh T.En.kp T.Kg .nil bh (aj (aH 0) aq)) (aK _ _ _)) aD (fun _ _=>rfl)) aq)) (aH 4) (bM _)) (lN (PE.eqv (aO (Oj T) hr.d rfl T.Km T.BL.kp T.Kl .nil bh (aj (aH 0) (aj (aH 1) aq))) (aK _ _ _)))))))))),?_⟩
    have hX:=hG.2.2.2.2.1;have hTs:=hG.2.2.2.2.2;have Bc:=hTs.len;have x9:=hX.len;simp -dsimp[aA,stC];refine⟨o,t,n,l,xs,tv,ps,rfl,hw,hG,fun H1 s1=>?_⟩;have hw1:=hw.same s1;simp -dsimp[aA,stC];refine⟨o,xs,ps,rfl,hw1,hX,hTs,fun hcl hb t2 r2 row H2 hrow hr2 er et s2=>?_,fun c rr hc hrr t2 c2 H2 hc2 ec et s2=>?_,fun hcl k lot rest hb t2 u2 c2 H2 hc2 ec eu et s2=>?_⟩
    · obtain⟨hst,h01⟩:Vd (nsE ps row) (qW (uZ ps row))∧(∀z∈nsE ps row,0≤z∧z≤1):=by
        obtain⟨ms,gone,hE,_,_,N6,_⟩:=hrow;exact QD hE (hX.nd.sublist (List.take_sublist _ _)) N6
      have hsh:=Oo h01 (by rw[sJ];omega);have hnl:=sJ ps row;simp -dsimp[aA,stC];refine⟨_,cM.of et,rfl,?_⟩;simp -dsimp[aA,stC];refine⟨.list (fY (nsE ps row)),⟨r2,_,rfl,aY.of er,mO _⟩,hsh.sh,hsh.nd,Nat.le_trans hsh.dp (by decide),Nat.le_trans hsh.ln (by decide),?_⟩;refine⟨_,r2,rfl,.inl ⟨rfl,_,er,by rw[List.length_map];omega,?_⟩⟩;have s3:=aV (o:=.lst ((nsE ps row).map V.int++[.int 2])) s2 hr2;generalize upd H2 r2 (.lst ((nsE ps row).map V.int++[.int 2]))=H3 at s3 ⊢;simp -dsimp[aA,stC];refine⟨o,xs,ps,rfl,hw1.same s3,hX,hTs,fun _ _ t4 r4 qp4 H4 qg5 hr4 er4 et4 s4=>?_,fun c rr hc hrr=>?_,fun _ k lot rest hb4=>?_⟩
      ·obtain rfl:=hrow.uniq qg5;simp -dsimp[aA,stC];refine⟨_,.inr (cM.of et4),_,aP (j:=1) rfl,.list (fY (nsE ps row)),⟨r4,_,rfl,aY.of er4,mO _⟩,hsh.sh,hsh.nd,Nat.le_trans hsh.dp (by decide),Nat.le_trans hsh.ln (by decide),dz.pos (decide_eq_true rfl) ?_⟩;simp -dsimp[aA,stC];have S4:=s1.trans (s3.trans s4);exact⟨o,t,n,l,xs,tv,ps,rfl,hw.same S4,hG.same S4,fun H5 s5=>q _ (S4.trans s5)⟩
      ·rw[hc] at hcl;exact absurd (by simpa using hcl) hrr
      ·rw[hb] at hb4;cases hb4
    · have hcin:∀x∈c,x∈xs:=fun x hx=>by
        obtain⟨x0,hx0⟩:∃x0,xs[0]? = some x0:=⟨_,List.getElem?_eq_getElem hX.len.1⟩;obtain⟨r',hr'⟩:=zL (ps:=ps) hx0;rw[hc] at hr';cases hr';exact(kI.mp hx).1
      have qm8:c.length≤9:=by
        obtain⟨x0,hx0⟩:∃x0,xs[0]? = some x0:=⟨_,List.getElem?_eq_getElem hX.len.1⟩;obtain⟨r',hr'⟩:=zL (ps:=ps) hx0;rw[hc] at hr';cases hr';exact Nat.le_trans Bq x9.2
      have hsh:=Jc (fun x hx=>hX.nm x (hcin x hx)) qm8;simp -dsimp[aA,stC];refine⟨_,cM.of et,rfl,?_⟩;simp -dsimp[aA,stC];refine⟨.list (cW c),⟨c2,_,rfl,aY.of ec,nR _⟩,hsh.sh,hsh.nd,Nat.le_trans hsh.dp (by decide),Nat.le_trans hsh.ln (by decide),?_⟩;refine⟨_,c2,rfl,.inr (.inl ⟨rfl,_,ec,?_⟩)⟩;have s3:=aV (o:=.lst []) s2 hc2;generalize upd H2 c2 (.lst [])=H3 at s3 ⊢;simp -dsimp[aA,stC];refine⟨o,xs,ps,rfl,hw1.same s3,hX,hTs,fun hcl=>?_,fun c' rr' hc' qg6 t4 c4 H4 hc4 ec4 et4 s4=>?_,fun hcl=>?_⟩
      ·rw[hc] at hcl;exact absurd (by simpa using hcl) hrr
      ·rw[hc] at hc';cases hc';simp -dsimp[aA,stC];refine⟨_,.inr (cM.of et4),_,aP (j:=1) rfl,.list (cW c),⟨c4,_,rfl,aY.of ec4,nR _⟩,hsh.sh,hsh.nd,Nat.le_trans hsh.dp (by decide),Nat.le_trans hsh.ln (by decide),dz.pos (decide_eq_true rfl) ?_⟩;simp -dsimp[aA,stC];have S4:=s1.trans (s3.trans s4);exact⟨o,t,n,l,xs,tv,ps,rfl,hw.same S4,hG.same S4,fun H5 s5=>q _ (S4.trans s5)⟩
      ·rw[hc] at hcl;exact absurd (by simpa using hcl) hrr
    · obtain⟨e,he,qd7,hnot⟩:=Zh hb;obtain⟨lt0,lt9,lin,lfl⟩:=Zg hTs he hnot;rw[← qd7] at lt9 lin;have hk:=(List.getElem?_eq_some_iff.mp he).1;have hsh:=Zy (k:=k) (lot:=lot) (by omega) (fun x hx=>hX.nm x (lin x hx)) (by omega);simp -dsimp[aA,stC];refine⟨_,cM.of et,rfl,?_⟩;simp -dsimp[aA,stC];refine⟨.tuple [.int (k:Nat),.list (cW lot)],⟨u2,_,rfl,cM.of eu,_,_,rfl,rfl,_,_,rfl,⟨c2,_,rfl,aY.of ec,nR _⟩,rfl⟩,hsh.sh,hsh.nd,Nat.le_trans hsh.dp (by decide),Nat.le_trans hsh.ln (by decide),?_⟩;refine⟨_,u2,rfl,.inr (.inr ⟨rfl,_,c2,_,eu,ec,?_⟩)⟩;have s3:=aV (o:=.lst []) s2 hc2;generalize upd H2 c2 (.lst [])=H3 at s3 ⊢;simp -dsimp[aA,stC];refine⟨o,xs,ps,rfl,hw1.same s3,hX,hTs,fun _ hn=>?_,fun c' rr' hc' qg6=>?_,fun _ k' qp5 rest' hb' t4 u4 c4 H4 hc4 ec4 eu4 et4 s4=>?_⟩
      ·rw[hb] at hn;cases hn
      ·rw[hc'] at hcl;exact absurd (by simpa using hcl) qg6
      ·rw[hb] at hb';cases hb';simp -dsimp[aA,stC];refine⟨_,.inr (cM.of et4),_,aP (j:=1) rfl,.tuple [.int (k:Nat),.list (cW lot)],⟨u4,_,rfl,cM.of eu4,_,_,rfl,rfl,_,_,rfl,⟨c4,_,rfl,aY.of ec4,nR _⟩,rfl⟩,hsh.sh,hsh.nd,Nat.le_trans hsh.dp (by decide),Nat.le_trans hsh.ln (by decide),dz.pos (decide_eq_true rfl) ?_⟩;simp -dsimp[aA,stC];have S4:=s1.trans (s3.trans s4);exact⟨o,t,n,l,xs,tv,ps,rfl,hw.same S4,hG.same S4,fun H5 s5=>q _ (S4.trans s5)⟩
def KZ (K:W.Frag):Sp:=fun vs H Q _=>∃(sc:Addr) (ns:List Int),vs=[.ref sc]∧aY K H sc (ns.map V.int)∧ns.length≤63∧∀H',Q (.bl true) H'
theorem qei (T:Txt K mg a):cD P w K mg base mL 11 a.Aj a.Kd ["_law_script"] (KZ K):=by
  exists T.qb8.o_,Dw
  ·obtain⟨sc,ns,rfl,_⟩:=h;rfl
  · obtain⟨sl,ns0,rfl,hS,qpx,q⟩:=h;refine⟨_,(aB (jf PassesOwn.never rfl (PI.eqv (lO rfl T.nm.range (aj (aM (Dg rfl) rfl T.nm.max boot_max (aj aD (aj (aM (Dh rfl) rfl T.nm.min boot_min (aj aD (aj (aM (bT (K:=K) rfl) rfl T.nm.len PySem.boot_len (aj (aH 0) aq)) aq))) aq))) aq)) (lX _)) (aN (i:=1) Dw.nd rfl (Or.inl rfl))
      (aB (bw (i:=2) Dw.nd rfl (Or.inl rfl) (PE.eqv (aO (qdH T) hr.d rfl T.qb3 T.Yu.kp T.qb2 .nil bh (aj (aH 0) (aj (aH 1) aq))) (aK _ _ _)))
      (aB (bw (i:=3) Dw.nd rfl (Or.inl rfl) (PE.eqv (aO (qdL T) hr.d rfl T.qb7 T.Yw.kp T.qb6 .nil bh (aj (aH 2) (aj aD (aj aD aq)))) (aK _ _ _)))
      (aB (bw (i:=4) Dw.nd rfl (Or.inl rfl) (PE.eqv (Rm T.Yy (Av T) hr.d rfl T.Yx T.wN .nil bh (aj (bC (bG (K:=K) rfl) (aH 3) aD (fun _ _=>rfl)) (aj (bC (bG (K:=K) rfl) (aH 3) aD (fun _ _=>rfl)) aq))) (Mv _ _ _ _)))
      (aF (cU (PW.pt (lK (eV (cH (PE.eqv (aO (FQ T) hr.d rfl T.vX T.qw.kp T.vW .nil bh (aj (aH 4) (aj (aH 3) aq))) (aK _ _ _)))) (jG (eV (cH (PE.eqv (aO (G7 T) hr.d rfl T.yK T.sG.kp T.yJ .nil bh (aj (aH 2) aq)) (aK _ _ _))))))) (aF (bB j9)) bQ))))))
      (aF (bB j9))),?_⟩
    have s60:60≤sizeLine:=by decide
    simp -dsimp[aA,stC];refine⟨_,.inl hS,?_⟩;simp only[List.length_map];obtain⟨m,hm,hm6⟩:∃m:Nat,(if 1<if (ns0.length:Int)<6 then (ns0.length:Int) else 6 then if (ns0.length:Int)<6 then (ns0.length:Int) else 6 else 1)=m∧m≤6:=by
      by_cases h1:(ns0.length:Int)<6
      · rw[if_pos h1]
        by_cases h2:1<(ns0.length:Int)
        ·exact⟨ns0.length,by rw[if_pos h2],by omega⟩
        ·exact⟨1,by rw[if_neg h2];rfl,by decide⟩
      ·rw[if_neg h1];exact⟨6,rfl,by decide⟩
    simp only[hm,Int.toNat_natCast];refine⟨by omega,by omega,frR (fun i σ H'=>(∃o1 o2 o3 o4,σ=[some (.ref sl),o1,o2,o3,o4])∧Same H H') ⟨⟨_,_,_,_,rfl⟩,Same.refl _⟩ ?_ ?_⟩
    · rintro i σ H0 hi ⟨⟨o1,o2,o3,o4,rfl⟩,s0⟩;simp -dsimp[aA,stC];refine⟨sl,ns0,i,rfl,s0.seq hS,by omega,fun p Hp hp0 hPp hBp=>?_⟩;have sp1:Same H0 Hp:=fun b o e=>hBp b o (aQ e hp0) e;simp -dsimp[aA,stC];refine⟨p,9,20,rfl,hPp,by decide,by decide,by decide,by decide,fun t n l xs tv ps H1 ht0 hn0 hl0 ht1 hn1 hl1 Nt hX hTs _ _ GP Il=>?_⟩;have S1:Same H0 H1:=fun b u e=>Il b u (aQ e hp0) (sp1 b u e);simp -dsimp[aA,stC];refine⟨_,.inr (cM.of ht1),_,aP (j:=0) rfl,_,.inr (cM.of ht1),_,aP (j:=1) rfl,fun o dx ho hdx qm3=>?_⟩;have so:Same H1 (upd (upd H1 dx (.own o)) o (.ins a.bW dx [])):=fun b u e=>by
        rw[aC (aQ e ho),aC (aQ e hdx)];exact e
      have hpr:oJ H1 tv ps:=⟨Nt.1,fun i v e h1 h2=>by
        obtain⟨t,rfl,z⟩:=Nt.2 i v e h1 h2;exact⟨t,rfl,.inr z⟩⟩
      refine⟨o,dx,n,l,tv,xs,ps,rfl,ak,.inl (so _ _ hl1),hpr.same so,.inl (so _ _ hn1),hX,hTs,fun H2 hW2 hB2=>⟨rfl,?_⟩⟩;have s2:Same H1 H2:=fun b u e=>hB2 b u (aQ e ho) (so b u e);have hG2:jH H2 t n l xs tv ps:=⟨s2 _ _ ht1,s2 _ _ hn1,s2 _ _ hl1,bI.same Nt s2,hX,hTs⟩;simp -dsimp[aA,stC];refine⟨o,t,n,l,xs,tv,ps,rfl,hW2,hG2,fun H3 s3=>?_⟩;have S3:=S1.trans (s2.trans s3);have Im:=(GP.keep s2).keep s3;simp -dsimp[aA,stC];refine⟨p,rfl,Im,fun H4 Et Io=>?_⟩;simp -dsimp[aA,stC];exact s0.trans fun b u e=>Io b u (aQ e hp0) (S3 b u e)
    ·rintro σ H0 ⟨⟨o1,o2,o3,o4,rfl⟩,s0⟩;simp -dsimp[aA,stC];exact q _
end K35
namespace K35
open PySem L2
theorem unc {α:Type} {n:Nat} (l:List α) (h:l.length=n+1):∃a r,l=a::r:=by
  cases l with
  | nil=>cases h
  | cons a r=>exact⟨a,r,rfl⟩
theorem jt {fd:FuncData} {ps:List Str} (h:∀v0,bindArgs fd {pos:=[v0]}=pure (ps.zip [v0])):∀us:List Value,us.length=1→bindArgs fd {pos:=us}=pure (ps.zip us):=by
  intro us hl;obtain⟨v0,us,rfl⟩:=unc us hl;replace hl:=Nat.succ.inj hl;obtain rfl:=List.eq_nil_of_length_eq_zero hl;exact h v0
theorem gV {fd:FuncData} {ps:List Str} (h:∀v0 v1,bindArgs fd {pos:=[v0,v1]}=pure (ps.zip [v0,v1])):∀us:List Value,us.length=2→bindArgs fd {pos:=us}=pure (ps.zip us):=by
  intro us hl;obtain⟨v0,us,rfl⟩:=unc us hl;replace hl:=Nat.succ.inj hl;obtain⟨v1,us,rfl⟩:=unc us hl;replace hl:=Nat.succ.inj hl;obtain rfl:=List.eq_nil_of_length_eq_zero hl;exact h v0 v1
theorem uF {fd:FuncData} {ps:List Str} (h:∀v0 v1 v2,bindArgs fd {pos:=[v0,v1,v2]}=pure (ps.zip [v0,v1,v2])):∀us:List Value,us.length=3→bindArgs fd {pos:=us}=pure (ps.zip us):=by
  intro us hl;obtain⟨v0,us,rfl⟩:=unc us hl;replace hl:=Nat.succ.inj hl;obtain⟨v1,us,rfl⟩:=unc us hl;replace hl:=Nat.succ.inj hl;obtain⟨v2,us,rfl⟩:=unc us hl;replace hl:=Nat.succ.inj hl;obtain rfl:=List.eq_nil_of_length_eq_zero hl;exact h v0 v1 v2
theorem Zz {fd:FuncData} {ps:List Str} (h:∀v0 v1 v2 v3,bindArgs fd {pos:=[v0,v1,v2,v3]}=pure (ps.zip [v0,v1,v2,v3])):∀us:List Value,us.length=4→bindArgs fd {pos:=us}=pure (ps.zip us):=by
  intro us hl;obtain⟨v0,us,rfl⟩:=unc us hl;replace hl:=Nat.succ.inj hl;obtain⟨v1,us,rfl⟩:=unc us hl;replace hl:=Nat.succ.inj hl;obtain⟨v2,us,rfl⟩:=unc us hl;replace hl:=Nat.succ.inj hl;obtain⟨v3,us,rfl⟩:=unc us hl;replace hl:=Nat.succ.inj hl;obtain rfl:=List.eq_nil_of_length_eq_zero hl;exact h v0 v1 v2 v3
theorem all_mk {l:W.OpenLaw} {w:World} {K:W.Frag} {h:Heap} {mg:Str→Option Value} {fa bW aW gA eU bH bF dX fD dY iD rM cQ cR jy iG jz fG lA iH gJ dZ gK gM gk d8 dh dj iI iJ rP lC fH jA jB yg rT oh ou yp yq jC gq lD iK eE iM lF rY oE gw fJ oG eO Aj:Addr} (X:K.In h) (G:h.Ns mainGlobals mg) (hfa:mg "law" = some (.ref fa))
    {od1 an1 od2 an2 od3 an3 od4 an4 od5 an5 od6 an6 od7 an7 od8 an8 od9 an9 qm9 qg7 qm_ qg8 qna qg9 qnb qg_ qnc qha qnd qhb qne qhc qnf qhd qng qhe qnh qhf qni qhg qnj qhh qnk qhi qnl qhj qnm qhk qnn qhl qnp qhm qnq qhn qnr qho qns qhp qnt qhq qnu qhr qnv qhs qnw qht qnx qhu qny qhv qnz qhw qnA qhx qnB qhy qnC qhz qnD qhA qnE qhB qnF qhC qnG qhD qnH qhE qnI qhF qnJ qhG qnK qhH qnL qhI:Option Addr} {sl1 sl2 sl3 sl4 sl5 sl6 sl7 sl8 sl9 qnM qnN qnO qnP qnQ qnR qnS qnT qnU qnV qnW qnX qnY qnZ qn0 qn1 qn2 qn3 qn4 qn5 qn6 qn7 qn8 qn9 qn_ qoa qob qoc qod qoe qof qog qoh qoi qoj qok qol qom qon:Array (Option Value)} {oc1 kV1 dc1 pm1 cd1 ct1 oc2 kV2 dc2 pm2 cd2 ct2 oc3 kV3 dc3 pm3 cd3 ct3 oc4 kV4 dc4 pm4 cd4 ct4 oc5 kV5 dc5 pm5 cd5 ct5 oc6 kV6 dc6 pm6 cd6 ct6 oc7 kV7 dc7 pm7 cd7 ct7 oc8 kV8 dc8 pm8 cd8 ct8 oc9 kV9 dc9 pm9 cd9 ct9 qoo qhJ qhK qhL qej qhM qop qhN qhO qhP qek qhQ qoq qhR qhS qhT qel qhU qor qhV qhW qhX qem qhY qos qhZ qh0 qh1 qen qh2 qot qh3 qh4 qh5 qeo qh6 qou qh7 qh8 qh9 qep qh_ qov qia qib qic qeq qid qow qie qif qig qer qih qox qii qij qik qes qil qoy qim qin qio qet qip qoz qiq qir qis qeu qit qoA qiu qiv qiw qev qix qoB qiy qiz qiA qew qiB qoC qiC qiD qiE qex qiF qoD qiG qiH qiI qey qiJ qoE qiK qiL qiM qez qiN qoF qiO qiP qiQ qeA qiR qoG qiS qiT qiU qeB qiV qoH qiW qiX qiY qeC qiZ qoI qi0 qi1 qi2 qeD qi3 qoJ qi4 qi5 qi6 qeE qi7 qoK qi8 qi9 qi_ qeF qja qoL qjb qjc qjd qeG qje qoM qjf qjg qjh qeH qji qoN qjj qjk qjl qeI qjm qoO qjn qjo qjp qeJ qjq qoP qjr qjs qjt qeK qju qoQ qjv qjw qjx qeL qjy qoR qjz qjA qjB qeM qjC qoS qjD qjE qjF qeN qjG qoT qjH qjI qjJ qeO qjK qoU qjL qjM qjN qeP qjO qoV qjP qjQ qjR qeQ qjS qoW qjT qjU qjV qeR qjW qoX qjX qjY qjZ qeS qj0 qoY qj1 qj2 qj3 qeT qj4 qoZ qj5 qj6 qj7 qeU qj8 qo0 qj9 qj_ qka qeV qkb:Value} {w6 nC oY sO:Tok}
    {wk FT zM zN zO:ClassData} {Vo Vp:Str} {ZC:Addr} {Vq QJ:List Value} {Vr Vs:Bool} {Vt:List Str} {QK:Option Bool} {Vu:Option Addr} {Vv Vw Vx Vy Vz:Option Value} {VB VD:Str} {ZD:Addr} {VF QL:List Value} {VG VH:Bool} {VJ:List Str} {QM:Option Bool} {VL:Option Addr} {VN VP VR V0 V1:Option Value}
    (QS:W.nsIn K mainGlobals "Web" = some (some (.ref bW)))
    (qy:W.nsIn K mainGlobals "PointError" = some (some (.ref aW)))
    (FW:W.nsIn K mainGlobals "NoWeb" = some (some (.ref gA)))
    (zP:W.nsIn K mainGlobals "NoEars" = some (some (.ref eU)))
    (zQ:W.nsIn K mainGlobals "Parted" = some (some (.ref bH)))
    (zR:W.nsIn K mainGlobals "Barred" = some (some (.ref bF)))
    (a1:W.nsIn K mainGlobals "steps_along" = some (some (.ref dX)))
    (l1:K.lookup dX=some ⟨oc1,od1,.func (W.fnOf "steps_along" "steps_along" (aL dJ) (aJ dJ) (ao dJ) .none kV1 dc1 pm1 an1 cd1 ct1),sl1⟩) (c1:W.codeIn K cd1 "steps_along" = true) (k1:W.keepIn K (.ref dX)=true)
    (a2:W.nsIn K mainGlobals "ways_along" = some (some (.ref fD)))
    (l2:K.lookup fD=some ⟨oc2,od2,.func (W.fnOf "ways_along" "ways_along" (aL fu) (aJ fu) (ao fu) .none kV2 dc2 pm2 an2 cd2 ct2),sl2⟩) (c2:W.codeIn K cd2 "ways_along" = true) (k2:W.keepIn K (.ref fD)=true)
    (a3:W.nsIn K mainGlobals "found_along" = some (some (.ref dY)))
    (l3:K.lookup dY=some ⟨oc3,od3,.func (W.fnOf "found_along" "found_along" (aL cN) (aJ cN) (ao cN) .none kV3 dc3 pm3 an3 cd3 ct3),sl3⟩) (c3:W.codeIn K cd3 "found_along" = true) (k3:W.keepIn K (.ref dY)=true)
    (a4:W.nsIn K mainGlobals "clusters" = some (some (.ref iD)))
    (l4:K.lookup iD=some ⟨oc4,od4,.func (W.fnOf "clusters" "clusters" (aL gC) (aJ gC) (ao gC) .none kV4 dc4 pm4 an4 cd4 ct4),sl4⟩) (c4:W.codeIn K cd4 "clusters" = true) (k4:W.keepIn K (.ref iD)=true)
    (a5:W.nsIn K mainGlobals "bars" = some (some (.ref rM)))
    (l5:K.lookup rM=some ⟨oc5,od5,.func (W.fnOf "bars" "bars" (aL qj) (aJ qj) (ao qj) .none kV5 dc5 pm5 an5 cd5 ct5),sl5⟩) (c5:W.codeIn K cd5 "bars" = true) (k5:W.keepIn K (.ref rM)=true)
    (a6:W.findIn K (.ref bH) "__init__" = some (some (.ref cQ))) (i6:W.isFn K (.ref cQ)=true)
    (l6:K.lookup cQ=some ⟨oc6,od6,.func (W.fnOf "__init__" "Parted.__init__" (aL dM) (aJ dM) (ao dM) .none kV6 dc6 pm6 an6 cd6 ct6),sl6⟩) (c6:W.codeIn K cd6 "Parted.__init__" = true) (k6:W.keepIn K (.ref cQ)=true)
    (a7:W.findIn K (.ref bF) "__init__" = some (some (.ref cR))) (i7:W.isFn K (.ref cR)=true)
    (l7:K.lookup cR=some ⟨oc7,od7,.func (W.fnOf "__init__" "Barred.__init__" (aL dN) (aJ dN) (ao dN) .none kV7 dc7 pm7 an7 cd7 ct7),sl7⟩) (c7:W.codeIn K cd7 "Barred.__init__" = true) (k7:W.keepIn K (.ref cR)=true)
    (a8:W.nsIn K mainGlobals "is_list" = some (some (.ref jy)))
    (l8:K.lookup jy=some ⟨oc8,od8,.func (W.fnOf "is_list" "is_list" (aL ju) (aJ ju) (ao ju) .none kV8 dc8 pm8 an8 cd8 ct8),sl8⟩) (c8:W.codeIn K cd8 "is_list" = true) (k8:W.keepIn K (.ref jy)=true)
    (a9:W.nsIn K mainGlobals "is_whole" = some (some (.ref iG)))
    (l9:K.lookup iG=some ⟨oc9,od9,.func (W.fnOf "is_whole" "is_whole" (aL iy) (aJ iy) (ao iy) .none kV9 dc9 pm9 an9 cd9 ct9),sl9⟩) (c9:W.codeIn K cd9 "is_whole" = true) (k9:W.keepIn K (.ref iG)=true)
    (a10:W.nsIn K mainGlobals "is_name" = some (some (.ref jz)))
    (l10:K.lookup jz=some ⟨qoo,qm9,.func (W.fnOf "is_name" "is_name" (aL iV) (aJ iV) (ao iV) .none qhJ qhK qhL qg7 qej qhM),qnM⟩) (c10:W.codeIn K qej "is_name" = true) (k10:W.keepIn K (.ref jz)=true)
    (a11:W.nsIn K mainGlobals "are_points" = some (some (.ref fG)))
    (l11:K.lookup fG=some ⟨qop,qm_,.func (W.fnOf "are_points" "are_points" (aL dO) (aJ dO) (ao dO) .none qhN qhO qhP qg8 qek qhQ),qnN⟩) (c11:W.codeIn K qek "are_points" = true) (k11:W.keepIn K (.ref fG)=true)
    (a12:W.nsIn K mainGlobals "is_tie" = some (some (.ref lA)))
    (l12:K.lookup lA=some ⟨qoq,qna,.func (W.fnOf "is_tie" "is_tie" (aL jL) (aJ jL) (ao jL) .none qhR qhS qhT qg9 qel qhU),qnO⟩) (c12:W.codeIn K qel "is_tie" = true) (k12:W.keepIn K (.ref lA)=true)
    (a13:W.nsIn K mainGlobals "are_ties" = some (some (.ref iH)))
    (l13:K.lookup iH=some ⟨qor,qnb,.func (W.fnOf "are_ties" "are_ties" (aL gD) (aJ gD) (ao gD) .none qhV qhW qhX qg_ qem qhY),qnP⟩) (c13:W.codeIn K qem "are_ties" = true) (k13:W.keepIn K (.ref iH)=true)
    (a14:W.findIn K (.ref bW) "__init__" = some (some (.ref gJ))) (i14:W.isFn K (.ref gJ)=true)
    (l14:K.lookup gJ=some ⟨qos,qnc,.func (W.fnOf "__init__" "Web.__init__" (aL gF) (aJ gF) (ao gF) .none qhZ qh0 qh1 qha qen qh2),qnQ⟩) (c14:W.codeIn K qen "Web.__init__" = true) (k14:W.keepIn K (.ref gJ)=true)
    (a15:W.findIn K (.ref bW) "points" = some (some (.ref dZ))) (i15:W.isFn K (.ref dZ)=true)
    (l15:K.lookup dZ=some ⟨qot,qnd,.func (W.fnOf "points" "Web.points" (aL fB) (aJ fB) (ao fB) .none qh3 qh4 qh5 qhb qeo qh6),qnR⟩) (c15:W.codeIn K qeo "Web.points" = true) (k15:W.keepIn K (.ref dZ)=true)
    (a16:W.findIn K (.ref bW) "ties" = some (some (.ref gK))) (i16:W.isFn K (.ref gK)=true)
    (l16:K.lookup gK=some ⟨qou,qne,.func (W.fnOf "ties" "Web.ties" (aL iz) (aJ iz) (ao iz) .none qh7 qh8 qh9 qhc qep qh_),qnS⟩) (c16:W.codeIn K qep "Web.ties" = true) (k16:W.keepIn K (.ref gK)=true)
    (a17:W.findIn K (.ref bW) "many" = some (some (.ref gM))) (i17:W.isFn K (.ref gM)=true)
    (l17:K.lookup gM=some ⟨qov,qnf,.func (W.fnOf "many" "Web.many" (aL iB) (aJ iB) (ao iB) .none qia qib qic qhd qeq qid),qnT⟩) (c17:W.codeIn K qeq "Web.many" = true) (k17:W.keepIn K (.ref gM)=true)
    (a18:W.nsIn K mainGlobals "is_number" = some (some (.ref gk)))
    (l18:K.lookup gk=some ⟨qow,qng,.func (W.fnOf "is_number" "is_number" (aL gj) (aJ gj) (ao gj) .none qie qif qig qhe qer qih),qnU⟩) (c18:W.codeIn K qer "is_number" = true) (k18:W.keepIn K (.ref gk)=true)
    (a19:W.nsIn K mainGlobals "are_numbers" = some (some (.ref d8)))
    (l19:K.lookup d8=some ⟨qox,qnh,.func (W.fnOf "are_numbers" "are_numbers" (aL cO) (aJ cO) (ao cO) .none qii qij qik qhf qes qil),qnV⟩) (c19:W.codeIn K qes "are_numbers" = true) (k19:W.keepIn K (.ref d8)=true)
    (a20:W.nsIn K mainGlobals "sure_of_ears" = some (some (.ref dh)))
    (l20:K.lookup dh=some ⟨qoy,qni,.func (W.fnOf "sure_of_ears" "sure_of_ears" (aL cY) (aJ cY) (ao cY) .none qim qin qio qhg qet qip),qnW⟩) (c20:W.codeIn K qet "sure_of_ears" = true) (k20:W.keepIn K (.ref dh)=true)
    (a21:W.nsIn K mainGlobals "points_along" = some (some (.ref dj)))
    (l21:K.lookup dj=some ⟨qoz,qnj,.func (W.fnOf "points_along" "points_along" (aL cZ) (aJ cZ) (ao cZ) .none qiq qir qis qhh qeu qit),qnX⟩) (c21:W.codeIn K qeu "points_along" = true) (k21:W.keepIn K (.ref dj)=true)
    (a22:W.nsIn K mainGlobals "way_back" = some (some (.ref iI)))
    (l22:K.lookup iI=some ⟨qoA,qnk,.func (W.fnOf "way_back" "way_back" (aL fW) (aJ fW) (ao fW) .none qiu qiv qiw qhi qev qix),qnY⟩) (c22:W.codeIn K qev "way_back" = true) (k22:W.keepIn K (.ref iI)=true)
    (a23:W.nsIn K mainGlobals "next_ear" = some (some (.ref iJ)))
    (l23:K.lookup iJ=some ⟨qoB,qnl,.func (W.fnOf "next_ear" "next_ear" (aL gG) (aJ gG) (ao gG) .none qiy qiz qiA qhj qew qiB),qnZ⟩) (c23:W.codeIn K qew "next_ear" = true) (k23:W.keepIn K (.ref iJ)=true)
    (a24:W.nsIn K mainGlobals "ears" = some (some (.ref rP)))
    (l24:K.lookup rP=some ⟨qoC,qnm,.func (W.fnOf "ears" "ears" (aL ql) (aJ ql) (ao ql) .none qiC qiD qiE qhk qex qiF),qn0⟩) (c24:W.codeIn K qex "ears" = true) (k24:W.keepIn K (.ref rP)=true)
    (a25:W.nsIn K mainGlobals "is_ear" = some (some (.ref lC)))
    (l25:K.lookup lC=some ⟨qoD,qnn,.func (W.fnOf "is_ear" "is_ear" (aL ji) (aJ ji) (ao ji) .none qiG qiH qiI qhl qey qiJ),qn1⟩) (c25:W.codeIn K qey "is_ear" = true) (k25:W.keepIn K (.ref lC)=true)
    (a26:W.nsIn K mainGlobals "reads_ears" = some (some (.ref fH)))
    (l26:K.lookup fH=some ⟨qoE,qnp,.func (W.fnOf "reads_ears" "reads_ears" (aL fC) (aJ fC) (ao fC) .none qiK qiL qiM qhm qez qiN),qn2⟩) (c26:W.codeIn K qez "reads_ears" = true) (k26:W.keepIn K (.ref fH)=true)
    (a27:W.nsIn K mainGlobals "by_ears" = some (some (.ref jA)))
    (l27:K.lookup jA=some ⟨qoF,qnq,.func (W.fnOf "by_ears" "by_ears" (aL iW) (aJ iW) (ao iW) .none qiO qiP qiQ qhn qeA qiR),qn3⟩) (c27:W.codeIn K qeA "by_ears" = true) (k27:W.keepIn K (.ref jA)=true)
    (a28:W.nsIn K mainGlobals "pointed" = some (some (.ref jB)))
    (l28:K.lookup jB=some ⟨qoG,qnr,.func (W.fnOf "pointed" "pointed" (aL jw) (aJ jw) (ao jw) .none qiS qiT qiU qho qeB qiV),qn4⟩) (c28:W.codeIn K qeB "pointed" = true) (k28:W.keepIn K (.ref jB)=true)
    (a29:W.nsIn K mainGlobals "_law_pot" = some (some (.ref yg)))
    (l29:K.lookup yg=some ⟨qoH,qns,.func (W.fnOf "_law_pot" "_law_pot" (aL xY) (aJ xY) (ao xY) .none qiW qiX qiY qhp qeC qiZ),qn5⟩) (c29:W.codeIn K qeC "_law_pot" = true) (k29:W.keepIn K (.ref yg)=true)
    (a30:W.nsIn K mainGlobals "_law_take" = some (some (.ref rT)))
    (l30:K.lookup rT=some ⟨qoI,qnt,.func (W.fnOf "_law_take" "_law_take" (aL rE) (aJ rE) (ao rE) .none qi0 qi1 qi2 qhq qeD qi3),qn6⟩) (c30:W.codeIn K qeD "_law_take" = true) (k30:W.keepIn K (.ref rT)=true)
    (a31:W.nsIn K mainGlobals "_law_names" = some (some (.ref oh)))
    (l31:K.lookup oh=some ⟨qoJ,qnu,.func (W.fnOf "_law_names" "_law_names" (aL mQ) (aJ mQ) (ao mQ) .none qi4 qi5 qi6 qhr qeE qi7),qn7⟩) (c31:W.codeIn K qeE "_law_names" = true) (k31:W.keepIn K (.ref oh)=true)
    (a32:W.nsIn K mainGlobals "_law_mixed" = some (some (.ref ou)))
    (l32:K.lookup ou=some ⟨qoK,qnv,.func (W.fnOf "_law_mixed" "_law_mixed" (aL nY) (aJ nY) (ao nY) .none qi8 qi9 qi_ qhs qeF qja),qn8⟩) (c32:W.codeIn K qeF "_law_mixed" = true) (k32:W.keepIn K (.ref ou)=true)
    (a33:W.nsIn K mainGlobals "_law_tie" = some (some (.ref yp)))
    (l33:K.lookup yp=some ⟨qoL,qnw,.func (W.fnOf "_law_tie" "_law_tie" (aL xZ) (aJ xZ) (ao xZ) .none qjb qjc qjd qht qeG qje),qn9⟩) (c33:W.codeIn K qeG "_law_tie" = true) (k33:W.keepIn K (.ref yp)=true)
    (a34:W.nsIn K mainGlobals "_law_web" = some (some (.ref yq)))
    (l34:K.lookup yq=some ⟨qoM,qnx,.func (W.fnOf "_law_web" "_law_web" (aL sW) (aJ sW) (ao sW) .none qjf qjg qjh qhu qeH qji),qn_⟩) (c34:W.codeIn K qeH "_law_web" = true) (k34:W.keepIn K (.ref yq)=true)
    (a35:W.nsIn K mainGlobals "_law_reached" = some (some (.ref jC)))
    (l35:K.lookup jC=some ⟨qoN,qny,.func (W.fnOf "_law_reached" "_law_reached" (aL jx) (aJ jx) (ao jx) .none qjj qjk qjl qhv qeI qjm),qoa⟩) (c35:W.codeIn K qeI "_law_reached" = true) (k35:W.keepIn K (.ref jC)=true)
    (a36:W.nsIn K mainGlobals "_law_is_strong" = some (some (.ref gq)))
    (l36:K.lookup gq=some ⟨qoO,qnz,.func (W.fnOf "_law_is_strong" "_law_is_strong" (aL fM) (aJ fM) (ao fM) .none qjn qjo qjp qhw qeJ qjq),qob⟩) (c36:W.codeIn K qeJ "_law_is_strong" = true) (k36:W.keepIn K (.ref gq)=true)
    (a37:W.nsIn K mainGlobals "_law_is_lot" = some (some (.ref lD)))
    (l37:K.lookup lD=some ⟨qoP,qnA,.func (W.fnOf "_law_is_lot" "_law_is_lot" (aL jj) (aJ jj) (ao jj) .none qjr qjs qjt qhx qeK qju),qoc⟩) (c37:W.codeIn K qeK "_law_is_lot" = true) (k37:W.keepIn K (.ref lD)=true)
    (a38:W.nsIn K mainGlobals "_law_crossing" = some (some (.ref iK)))
    (l38:K.lookup iK=some ⟨qoQ,qnB,.func (W.fnOf "_law_crossing" "_law_crossing" (aL gH) (aJ gH) (ao gH) .none qjv qjw qjx qhy qeL qjy),qod⟩) (c38:W.codeIn K qeL "_law_crossing" = true) (k38:W.keepIn K (.ref iK)=true)
    (a39:W.nsIn K mainGlobals "_law_is_pointing" = some (some (.ref eE)))
    (l39:K.lookup eE=some ⟨qoR,qnC,.func (W.fnOf "_law_is_pointing" "_law_is_pointing" (aL cP) (aJ cP) (ao cP) .none qjz qjA qjB qhz qeM qjC),qoe⟩) (c39:W.codeIn K qeM "_law_is_pointing" = true) (k39:W.keepIn K (.ref eE)=true)
    (a40:W.nsIn K mainGlobals "_law_together" = some (some (.ref iM)))
    (l40:K.lookup iM=some ⟨qoS,qnD,.func (W.fnOf "_law_together" "_law_together" (aL iC) (aJ iC) (ao iC) .none qjD qjE qjF qhA qeN qjG),qof⟩) (c40:W.codeIn K qeN "_law_together" = true) (k40:W.keepIn K (.ref iM)=true)
    (a41:W.nsIn K mainGlobals "_law_bars" = some (some (.ref lF)))
    (l41:K.lookup lF=some ⟨qoT,qnE,.func (W.fnOf "_law_bars" "_law_bars" (aL jM) (aJ jM) (ao jM) .none qjH qjI qjJ qhB qeO qjK),qog⟩) (c41:W.codeIn K qeO "_law_bars" = true) (k41:W.keepIn K (.ref lF)=true)
    (a42:W.nsIn K mainGlobals "_law_said" = some (some (.ref rY)))
    (l42:K.lookup rY=some ⟨qoU,qnF,.func (W.fnOf "_law_said" "_law_said" (aL rF) (aJ rF) (ao rF) .none qjL qjM qjN qhC qeP qjO),qoh⟩) (c42:W.codeIn K qeP "_law_said" = true) (k42:W.keepIn K (.ref rY)=true)
    (a43:W.nsIn K mainGlobals "_law_right" = some (some (.ref oE)))
    (l43:K.lookup oE=some ⟨qoV,qnG,.func (W.fnOf "_law_right" "_law_right" (aL nZ) (aJ nZ) (ao nZ) .none qjP qjQ qjR qhD qeQ qjS),qoi⟩) (c43:W.codeIn K qeQ "_law_right" = true) (k43:W.keepIn K (.ref oE)=true)
    (a44:W.nsIn K mainGlobals "_law_by_ears" = some (some (.ref gw)))
    (l44:K.lookup gw=some ⟨qoW,qnH,.func (W.fnOf "_law_by_ears" "_law_by_ears" (aL fO) (aJ fO) (ao fO) .none qjT qjU qjV qhE qeR qjW),qoj⟩) (c44:W.codeIn K qeR "_law_by_ears" = true) (k44:W.keepIn K (.ref gw)=true)
    (a45:W.nsIn K mainGlobals "_law_ears_right" = some (some (.ref fJ)))
    (l45:K.lookup fJ=some ⟨qoX,qnI,.func (W.fnOf "_law_ears_right" "_law_ears_right" (aL cj) (aJ cj) (ao cj) .none qjX qjY qjZ qhF qeS qj0),qok⟩) (c45:W.codeIn K qeS "_law_ears_right" = true) (k45:W.keepIn K (.ref fJ)=true)
    (a46:W.nsIn K mainGlobals "_law_spoil" = some (some (.ref oG)))
    (l46:K.lookup oG=some ⟨qoY,qnJ,.func (W.fnOf "_law_spoil" "_law_spoil" (aL n6) (aJ n6) (ao n6) .none qj1 qj2 qj3 qhG qeT qj4),qol⟩) (c46:W.codeIn K qeT "_law_spoil" = true) (k46:W.keepIn K (.ref oG)=true)
    (a47:W.nsIn K mainGlobals "_law_twice_right" = some (some (.ref eO)))
    (l47:K.lookup eO=some ⟨qoZ,qnK,.func (W.fnOf "_law_twice_right" "_law_twice_right" (aL dU) (aJ dU) (ao dU) .none qj5 qj6 qj7 qhH qeU qj8),qom⟩) (c47:W.codeIn K qeU "_law_twice_right" = true) (k47:W.keepIn K (.ref eO)=true)
    (a48:W.nsIn K mainGlobals "law" = some (some (.ref Aj)))
    (l48:K.lookup Aj=some ⟨qo0,qnL,.func (W.fnOf "law" "law" (aL yc) (aJ yc) (ao yc) .none qj9 qj_ qka qhI qeV qkb),qon⟩) (c48:W.codeIn K qeV "law" = true) (k48:W.keepIn K (.ref Aj)=true)
    (mq:W.nsIn K mainGlobals "LETTERS" = some (some (.str "abcdefghijklmnopqrstuvwxyz" w6)))
    (fX:W.nsIn K mainGlobals "MOST_LETTERS" = some (some (.int 4 nC)))
    (gO:W.nsIn K mainGlobals "MOST_POINTS" = some (some (.int 9 oY)))
    (jm:W.nsIn K mainGlobals "MOST_TIES" = some (some (.int 20 sO)))
    (QT:W.plainGet K bW Str.empty=true) (QV:W.hasDictIn K bW=true) (QW:W.plainOver K bW=true) (QX:W.findIn K (.ref bW) "__setattr__" = some (some (.builtin "object.__setattr__"))) (QZ:W.makesIn K bW=true) (Q0:W.keepIn K (.ref bW)=true)
    (FZ:W.findIn K (.ref bW) "names" = some none)
    (Ga:W.findIn K (.ref bW) "pairs" = some none)
    (ZF:W.nsIn K mainGlobals "len" = some none)
    (ZG:W.nsIn K mainGlobals "max" = some none)
    (ZJ:W.nsIn K mainGlobals "min" = some none)
    (ZK:W.nsIn K mainGlobals "abs" = some none)
    (Gb:W.nsIn K mainGlobals "divmod" = some none)
    (K1:W.nsIn K mainGlobals "range" = some none)
    (ZL:W.nsIn K mainGlobals "zip" = some none)
    (Q5:W.nsIn K mainGlobals "list" = some none)
    (K3:W.nsIn K mainGlobals "tuple" = some none)
    (ZM:W.nsIn K mainGlobals "int" = some none)
    (ZP:W.nsIn K mainGlobals "str" = some none)
    (ZQ:W.nsIn K mainGlobals "set" = some none)
    (ZR:W.nsIn K mainGlobals "all" = some none)
    (sS:W.nsIn K mainGlobals "isinstance" = some none)
    (uG:W.nsIn K mainGlobals "enumerate" = some none)
    (ZS:W.nsIn K mainGlobals "any" = some none)
    (Q6:W.nsIn K mainGlobals "dict" = some none)
    (Gd:W.nsIn K mainGlobals "sorted" = some none)
    (Q7:W.nsIn K mainGlobals "repr" = some none)
    (Q8:W.nsIn K mainGlobals "bool" = some none)
    (ZV:W.nsIn K mainGlobals "sum" = some none)
    (m7:W.clsIn K aW=some wk) (m8:wk.mro=[.ref aW,.type "ValueError",.type "Exception",.type "BaseException",.type "object"]) (qz:W.typeIn K (.ref aW)=some (.type "type"))
    (Ge:W.clsIn K gA=some FT) (Gf:FT.mro=[.ref gA,.ref aW,.type "ValueError",.type "Exception",.type "BaseException",.type "object"]) (Gg:W.typeIn K (.ref gA)=some (.type "type"))
    (zT:W.clsIn K eU=some zM) (zU:zM.mro=[.ref eU,.ref aW,.type "ValueError",.type "Exception",.type "BaseException",.type "object"]) (zV:W.typeIn K (.ref eU)=some (.type "type"))
    (u6:W.clsIn K bH=some zN) (u9:zN.mro=[.ref bH,.ref aW,.type "ValueError",.type "Exception",.type "BaseException",.type "object"]) (u_:W.typeIn K (.ref bH)=some (.type "type"))
    (vd:W.clsIn K bF=some zO) (vf:zO.mro=[.ref bF,.ref aW,.type "ValueError",.type "Exception",.type "BaseException",.type "object"]) (vg:W.typeIn K (.ref bF)=some (.type "type"))
    (iR:W.excIn K aW nF "ValueError.__new__" = true)
    (yL:W.excIn K gA nF "ValueError.__new__" = true)
    (ux:W.excIn K eU nF "ValueError.__new__" = true)
    (qC:W.isClsIn K aW=true) (qeW:W.specialIn K (.ref aW) "__getattribute__" = some (some (.builtin "type.__getattribute__"))) (qeX:W.readsIn K aW (.type "type")=true) (qeY:W.findCls K (.ref aW) (.type "type") "__init__" = some (.val (.builtin "ValueError.__init__")))
    (M9:W.specialIn K (.builtin "object.__class__") "__get__" = some (some (.builtin "getset_descriptor.__get__"))) (M_:W.takesIn K (.builtin "object.__class__")=some true)
    (Q9:J3 [aW,gA,eU,bH,bF]=true)
    (Gh:FT.hasDict=true) (Gi:W.findIn K (.ref gA) "__getattribute__" = some (some (.builtin "BaseException.__getattribute__"))) (Gj:W.findIn K (.ref gA) "__getattr__" = some none) (Gk:W.findIn K (.ref gA) "__class__" = some (some (.builtin "object.__class__"))) (Gm:W.keepIn K (.ref gA)=true)
    (zW:zM.hasDict=true) (zX:W.findIn K (.ref eU) "__getattribute__" = some (some (.builtin "BaseException.__getattribute__"))) (zY:W.findIn K (.ref eU) "__getattr__" = some none) (zZ:W.findIn K (.ref eU) "__class__" = some (some (.builtin "object.__class__"))) (z7:W.keepIn K (.ref eU)=true)
    (vh:zN.hasDict=true) (vm:W.findIn K (.ref bH) "__getattribute__" = some (some (.builtin "BaseException.__getattribute__"))) (vo:W.findIn K (.ref bH) "__getattr__" = some none) (vp:W.findIn K (.ref bH) "__class__" = some (some (.builtin "object.__class__"))) (qX:W.keepIn K (.ref bH)=true)
    (vq:zO.hasDict=true) (vA:W.findIn K (.ref bF) "__getattribute__" = some (some (.builtin "BaseException.__getattribute__"))) (vB:W.findIn K (.ref bF) "__getattr__" = some none) (vC:W.findIn K (.ref bF) "__class__" = some (some (.builtin "object.__class__"))) (qY:W.keepIn K (.ref bF)=true)
    (z8:K.lookup bH=some (excClassObj Vo Vp bH ZC Vq [.ref aW,.type "ValueError",.type "Exception",.type "BaseException",.type "object"] Vr Vt QJ Vs QK Vu Vv Vw Vx Vy Vz "ValueError.__new__")) (z9:W.findIn K (.ref bH) "__setattr__" = some (some (.builtin "object.__setattr__")))
    (gP:W.findIn K (.ref bH) "lot" = some none)
    (z_:K.lookup bF=some (excClassObj VB VD bF ZD VF [.ref aW,.type "ValueError",.type "Exception",.type "BaseException",.type "object"] VG VJ QL VH QM VL VN VP VR V0 V1 "ValueError.__new__")) (Aa:W.findIn K (.ref bF) "__setattr__" = some (some (.builtin "object.__setattr__")))
    (gQ:W.findIn K (.ref bF) "tie" = some none)
    (gR:W.findIn K (.ref bF) "lot" = some none)
    (lH:W.nsIn K mainGlobals "ValueError" = some none)
    : ∃fd:FuncData,(∀(s:Shared) (v:Value),BindsTo s fd ⟨[v],[]⟩ [("_law_script",v)])∧∀base:Heap,K.In base→base.Ns mainGlobals mg→cD l.prog w K mg base mL 11 fa fd ["_law_script"] (KZ K):=by
  have e:=hfa.symm.trans (W.mg_of X G a48);cases e;have F1:=bO (st:=dJ) l1 c1 k1;have b1:=F1.binds (ps:=["web", "fixed"]) fun _ _ _ _ _ _=>gV fun _ _=>rfl;have F2:=bO (st:=fu) l2 c2 k2;have b2:=F2.binds (ps:=["start", "steps"]) fun _ _ _ _ _ _=>gV fun _ _=>rfl;have F3:=bO (st:=cN) l3 c3 k3;have b3:=F3.binds (ps:=["web", "start", "steps"]) fun _ _ _ _ _ _=>uF fun _ _ _=>rfl;have F4:=bO (st:=gC) l4 c4 k4;have b4:=F4.binds (ps:=["web"]) fun _ _ _ _ _ _=>jt fun _=>rfl;have F5:=bO (st:=qj) l5 c5 k5;have b5:=F5.binds (ps:=["web"]) fun _ _ _ _ _ _=>jt fun _=>rfl;have F6:=bO (st:=dM) l6 c6 k6;have b6:=F6.binds (ps:=["self", "lot"]) fun _ _ _ _ _ _=>gV fun _ _=>rfl;have F7:=bO (st:=dN) l7 c7 k7;have b7:=F7.binds (ps:=["self", "tie", "lot"]) fun _ _ _ _ _ _=>uF fun _ _ _=>rfl;have F8:=bO (st:=ju) l8 c8 k8;have b8:=F8.binds (ps:=["thing"]) fun _ _ _ _ _ _=>jt fun _=>rfl;have F9:=bO (st:=iy) l9 c9 k9;have b9:=F9.binds (ps:=["thing"]) fun _ _ _ _ _ _=>jt fun _=>rfl;have F10:=bO (st:=iV) l10 c10 k10;have b10:=F10.binds (ps:=["thing"]) fun _ _ _ _ _ _=>jt fun _=>rfl;have F11:=bO (st:=dO) l11 c11 k11;have b11:=F11.binds (ps:=["thing"]) fun _ _ _ _ _ _=>jt fun _=>rfl;have F12:=bO (st:=jL) l12 c12 k12;have b12:=F12.binds (ps:=["thing", "points"]) fun _ _ _ _ _ _=>gV fun _ _=>rfl;have F13:=bO (st:=gD) l13 c13 k13;have b13:=F13.binds (ps:=["thing", "points"]) fun _ _ _ _ _ _=>gV fun _ _=>rfl;have F14:=bO (st:=gF) l14 c14 k14;have b14:=F14.binds (ps:=["self", "points", "ties"]) fun _ _ _ _ _ _=>uF fun _ _ _=>rfl;have F15:=bO (st:=fB) l15 c15 k15;have b15:=F15.binds (ps:=["self"]) fun _ _ _ _ _ _=>jt fun _=>rfl;have F16:=bO (st:=iz) l16 c16 k16;have b16:=F16.binds (ps:=["self"]) fun _ _ _ _ _ _=>jt fun _=>rfl;have F17:=bO (st:=iB) l17 c17 k17;have b17:=F17.binds (ps:=["self"]) fun _ _ _ _ _ _=>jt fun _=>rfl;have F18:=bO (st:=gj) l18 c18 k18;have b18:=F18.binds (ps:=["web", "thing"]) fun _ _ _ _ _ _=>gV fun _ _=>rfl;have F19:=bO (st:=cO) l19 c19 k19;have b19:=F19.binds (ps:=["web", "thing"]) fun _ _ _ _ _ _=>gV fun _ _=>rfl;have F20:=bO (st:=cY) l20 c20 k20;have b20:=F20.binds (ps:=["web"]) fun _ _ _ _ _ _=>jt fun _=>rfl;have F21:=bO (st:=cZ) l21 c21 k21;have b21:=F21.binds (ps:=["web", "start", "numbers"]) fun _ _ _ _ _ _=>uF fun _ _ _=>rfl;have F22:=bO (st:=fW) l22 c22 k22;have b22:=F22.binds (ps:=["web", "met", "point", "number"]) fun _ _ _ _ _ _=>Zz fun _ _ _ _=>rfl;have F23:=bO (st:=gG) l23 c23 k23;have b23:=F23.binds (ps:=["web", "met", "left"]) fun _ _ _ _ _ _=>uF fun _ _ _=>rfl;have F24:=bO (st:=ql) l24 c24 k24;have b24:=F24.binds (ps:=["web"]) fun _ _ _ _ _ _=>jt fun _=>rfl;have F25:=bO (st:=ji) l25 c25 k25;have b25:=F25.binds (ps:=["web", "thing", "met", "gone"]) fun _ _ _ _ _ _=>Zz fun _ _ _ _=>rfl;have F26:=bO (st:=fC) l26 c26 k26;have b26:=F26.binds (ps:=["web", "thing"]) fun _ _ _ _ _ _=>gV fun _ _=>rfl;have F27:=bO (st:=iW) l27 c27 k27;have b27:=F27.binds (ps:=["web", "row"]) fun _ _ _ _ _ _=>gV fun _ _=>rfl;have F28:=bO (st:=jw) l28 c28 k28;have b28:=F28.binds (ps:=["web"]) fun _ _ _ _ _ _=>jt fun _=>rfl;have F29:=bO (st:=xY) l29 c29 k29;have b29:=F29.binds (ps:=["_law_script", "_law_k"]) fun _ _ _ _ _ _=>gV fun _ _=>rfl;have F30:=bO (st:=rE) l30 c30 k30;have b30:=F30.binds (ps:=["_law_pot_here", "_law_many"]) fun _ _ _ _ _ _=>gV fun _ _=>rfl;have F31:=bO (st:=mQ) l31 c31 k31;have b31:=F31.binds (ps:=["_law_pot_here", "_law_many"]) fun _ _ _ _ _ _=>gV fun _ _=>rfl;have F32:=bO (st:=nY) l32 c32 k32;have b32:=F32.binds (ps:=["_law_pot_here", "_law_things"]) fun _ _ _ _ _ _=>gV fun _ _=>rfl;have F33:=bO (st:=xZ) l33 c33 k33;have b33:=F33.binds (ps:=["_law_pot_here", "_law_names_here"]) fun _ _ _ _ _ _=>gV fun _ _=>rfl;have F34:=bO (st:=sW) l34 c34 k34;have b34:=F34.binds (ps:=["_law_pot_here", "_law_points", "_law_most"]) fun _ _ _ _ _ _=>uF fun _ _ _=>rfl;have F35:=bO (st:=jx) l35 c35 k35;have b35:=F35.binds (ps:=["_law_web_here", "_law_pointing", "_law_start"]) fun _ _ _ _ _ _=>uF fun _ _ _=>rfl;have F36:=bO (st:=fM) l36 c36 k36;have b36:=F36.binds (ps:=["_law_web_here", "_law_pointing"]) fun _ _ _ _ _ _=>gV fun _ _=>rfl;have F37:=bO (st:=jj) l37 c37 k37;have b37:=F37.binds (ps:=["_law_web_here", "_law_lot"]) fun _ _ _ _ _ _=>gV fun _ _=>rfl;have F38:=bO (st:=gH) l38 c38 k38;have b38:=F38.binds (ps:=["_law_web_here", "_law_lot"]) fun _ _ _ _ _ _=>gV fun _ _=>rfl;have F39:=bO (st:=cP) l39 c39 k39;have b39:=F39.binds (ps:=["_law_web_here", "_law_row"]) fun _ _ _ _ _ _=>gV fun _ _=>rfl;have F40:=bO (st:=iC) l40 c40 k40;have b40:=F40.binds (ps:=["_law_web_here", "_law_start", "_law_k"]) fun _ _ _ _ _ _=>uF fun _ _ _=>rfl;have F41:=bO (st:=jM) l41 c41 k41;have b41:=F41.binds (ps:=["_law_web_here"]) fun _ _ _ _ _ _=>jt fun _=>rfl;have F42:=bO (st:=rF) l42 c42 k42;have b42:=F42.binds (ps:=["_law_made"]) fun _ _ _ _ _ _=>jt fun _=>rfl;have F43:=bO (st:=nZ) l43 c43 k43;have b43:=F43.binds (ps:=["_law_made", "_law_web_here"]) fun _ _ _ _ _ _=>gV fun _ _=>rfl;have F44:=bO (st:=fO) l44 c44 k44;have b44:=F44.binds (ps:=["_law_pot_here"]) fun _ _ _ _ _ _=>jt fun _=>rfl;have F45:=bO (st:=cj) l45 c45 k45;have b45:=F45.binds (ps:=["_law_pot_here"]) fun _ _ _ _ _ _=>jt fun _=>rfl;have F46:=bO (st:=n6) l46 c46 k46;have b46:=F46.binds (ps:=["_law_word", "_law_told"]) fun _ _ _ _ _ _=>gV fun _ _=>rfl;have F47:=bO (st:=dU) l47 c47 k47;have b47:=F47.binds (ps:=["_law_made", "_law_web_here"]) fun _ _ _ _ _ _=>gV fun _ _=>rfl;have F48:=bO (st:=yc) l48 c48 k48;have b48:=F48.binds (ps:=["_law_script"]) fun _ _ _ _ _ _=>jt fun _=>rfl;have T:Txt K mg {dX:=dX,k_:=W.fnOf "steps_along" "steps_along" (aL dJ) (aJ dJ) (ao dJ) .none kV1 dc1 pm1 an1 cd1 ct1,fD:=fD,mR:=W.fnOf "ways_along" "ways_along" (aL fu) (aJ fu) (ao fu) .none kV2 dc2 pm2 an2 cd2 ct2,dY:=dY,lg:=W.fnOf "found_along" "found_along" (aL cN) (aJ cN) (ao cN) .none kV3 dc3 pm3 an3 cd3 ct3,iD:=iD,pI:=W.fnOf "clusters" "clusters" (aL gC) (aJ gC) (ao gC) .none kV4 dc4 pm4 an4 cd4 ct4,rM:=rM,Bv:=W.fnOf "bars" "bars" (aL qj) (aJ qj) (ao qj) .none kV5 dc5 pm5 an5 cd5 ct5,cQ:=cQ,lq:=W.fnOf "__init__" "Parted.__init__" (aL dM) (aJ dM) (ao dM) .none kV6 dc6 pm6 an6 cd6 ct6,cR:=cR,lu:=W.fnOf "__init__" "Barred.__init__" (aL dN) (aJ dN) (ao dN) .none kV7 dc7 pm7 an7 cd7 ct7,jy:=jy,rN:=W.fnOf "is_list" "is_list" (aL ju) (aJ ju) (ao ju) .none kV8 dc8 pm8 an8 cd8 ct8,iG:=iG,pJ:=W.fnOf "is_whole" "is_whole" (aL iy) (aJ iy) (ao iy) .none kV9 dc9 pm9 an9 cd9 ct9,jz:=jz,rO:=W.fnOf "is_name" "is_name" (aL iV) (aJ iV) (ao iV) .none qhJ qhK qhL qg7 qej qhM,fG:=fG,mU:=W.fnOf "are_points" "are_points" (aL dO) (aJ dO) (ao dO) .none qhN qhO qhP qg8 qek qhQ,lA:=lA,uO:=W.fnOf "is_tie" "is_tie" (aL jL) (aJ jL) (ao jL) .none qhR qhS qhT qg9 qel qhU,iH:=iH,pK:=W.fnOf "are_ties" "are_ties" (aL gD) (aJ gD) (ao gD) .none qhV qhW qhX qg_ qem qhY,gJ:=gJ,pL:=W.fnOf "__init__" "Web.__init__" (aL gF) (aJ gF) (ao gF) .none qhZ qh0 qh1 qha qen qh2,dZ:=dZ,mV:=W.fnOf "points" "Web.points" (aL fB) (aJ fB) (ao fB) .none qh3 qh4 qh5 qhb qeo qh6,gK:=gK,pO:=W.fnOf "ties" "Web.ties" (aL iz) (aJ iz) (ao iz) .none qh7 qh8 qh9 qhc qep qh_,gM:=gM,pP:=W.fnOf "many" "Web.many" (aL iB) (aJ iB) (ao iB) .none qia qib qic qhd qeq qid,gk:=gk,n_:=W.fnOf "is_number" "is_number" (aL gj) (aJ gj) (ao gj) .none qie qif qig qhe qer qih,d8:=d8,lB:=W.fnOf "are_numbers" "are_numbers" (aL cO) (aJ cO) (ao cO) .none qii qij qik qhf qes qil,dh:=dh,jR:=W.fnOf "sure_of_ears" "sure_of_ears" (aL cY) (aJ cY) (ao cY) .none qim qin qio qhg qet qip,dj:=dj,jT:=W.fnOf "points_along" "points_along" (aL cZ) (aJ cZ) (ao cZ) .none qiq qir qis qhh qeu qit,iI:=iI,pQ:=W.fnOf "way_back" "way_back" (aL fW) (aJ fW) (ao fW) .none qiu qiv qiw qhi qev qix,iJ:=iJ,pR:=W.fnOf "next_ear" "next_ear" (aL gG) (aJ gG) (ao gG) .none qiy qiz qiA qhj qew qiB,rP:=rP,Bw:=W.fnOf "ears" "ears" (aL ql) (aJ ql) (ao ql) .none qiC qiD qiE qhk qex qiF,lC:=lC,uP:=W.fnOf "is_ear" "is_ear" (aL ji) (aJ ji) (ao ji) .none qiG qiH qiI qhl qey qiJ,fH:=fH,mW:=W.fnOf "reads_ears" "reads_ears" (aL fC) (aJ fC) (ao fC) .none qiK qiL qiM qhm qez qiN,jA:=jA,rQ:=W.fnOf "by_ears" "by_ears" (aL iW) (aJ iW) (ao iW) .none qiO qiP qiQ qhn qeA qiR,jB:=jB,rR:=W.fnOf "pointed" "pointed" (aL jw) (aJ jw) (ao jw) .none qiS qiT qiU qho qeB qiV,yg:=yg,J_:=W.fnOf "_law_pot" "_law_pot" (aL xY) (aJ xY) (ao xY) .none qiW qiX qiY qhp qeC qiZ,rT:=rT,Bx:=W.fnOf "_law_take" "_law_take" (aL rE) (aJ rE) (ao rE) .none qi0 qi1 qi2 qhq qeD qi3,oh:=oh,yh:=W.fnOf "_law_names" "_law_names" (aL mQ) (aJ mQ) (ao mQ) .none qi4 qi5 qi6 qhr qeE qi7,ou:=ou,yj:=W.fnOf "_law_mixed" "_law_mixed" (aL nY) (aJ nY) (ao nY) .none qi8 qi9 qi_ qhs qeF qja,yp:=yp,Ka:=W.fnOf "_law_tie" "_law_tie" (aL xZ) (aJ xZ) (ao xZ) .none qjb qjc qjd qht qeG qje,yq:=yq,Kc:=W.fnOf "_law_web" "_law_web" (aL sW) (aJ sW) (ao sW) .none qjf qjg qjh qhu qeH qji,jC:=jC,rW:=W.fnOf "_law_reached" "_law_reached" (aL jx) (aJ jx) (ao jx) .none qjj qjk qjl qhv qeI qjm,gq:=gq,oA:=W.fnOf "_law_is_strong" "_law_is_strong" (aL fM) (aJ fM) (ao fM) .none qjn qjo qjp qhw qeJ qjq,lD:=lD,uQ:=W.fnOf "_law_is_lot" "_law_is_lot" (aL jj) (aJ jj) (ao jj) .none qjr qjs qjt qhx qeK qju,iK:=iK,pU:=W.fnOf "_law_crossing" "_law_crossing" (aL gH) (aJ gH) (ao gH) .none qjv qjw qjx qhy qeL qjy,eE:=eE,lE:=W.fnOf "_law_is_pointing" "_law_is_pointing" (aL cP) (aJ cP) (ao cP) .none qjz qjA qjB qhz qeM qjC,iM:=iM,pW:=W.fnOf "_law_together" "_law_together" (aL iC) (aJ iC) (ao iC) .none qjD qjE qjF qhA qeN qjG,lF:=lF,uR:=W.fnOf "_law_bars" "_law_bars" (aL jM) (aJ jM) (ao jM) .none qjH qjI qjJ qhB qeO qjK,rY:=rY,BJ:=W.fnOf "_law_said" "_law_said" (aL rF) (aJ rF) (ao rF) .none qjL qjM qjN qhC qeP qjO,oE:=oE,yr:=W.fnOf "_law_right" "_law_right" (aL nZ) (aJ nZ) (ao nZ) .none qjP qjQ qjR qhD qeQ qjS,gw:=gw,oF:=W.fnOf "_law_by_ears" "_law_by_ears" (aL fO) (aJ fO) (ao fO) .none qjT qjU qjV qhE qeR qjW,fJ:=fJ,mX:=W.fnOf "_law_ears_right" "_law_ears_right" (aL cj) (aJ cj) (ao cj) .none qjX qjY qjZ qhF qeS qj0,oG:=oG,yt:=W.fnOf "_law_spoil" "_law_spoil" (aL n6) (aJ n6) (ao n6) .none qj1 qj2 qj3 qhG qeT qj4,eO:=eO,lG:=W.fnOf "_law_twice_right" "_law_twice_right" (aL dU) (aJ dU) (ao dU) .none qj5 qj6 qj7 qhH qeU qj8,Aj:=fa,Kd:=W.fnOf "law" "law" (aL yc) (aJ yc) (ao yc) .none qj9 qj_ qka qhI qeV qkb,mq:=.str "abcdefghijklmnopqrstuvwxyz" w6,fX:=.int 4 nC,gO:=.int 9 oY,jm:=.int 20 sO,bW:=bW,aW:=aW,gA:=gA,eU:=eU,bH:=bH,bF:=bF}:={jN:=F1,mY:=b1,mZ:=W.mg_of X G a1,oH:=F2,rZ:=b2,su:=W.mg_of X G a2,m5:=F3,qm:=b3,qp:=W.mg_of X G a3,wK:=F4,Dy:=b4,Dz:=W.mg_of X G a4,Qk:=F5,Yq:=b5,Yr:=W.mg_of X G a5,vM:=F6,vN:=b6,vO:=F7,vP:=b7,j7:=F8,mz:=b8,mC:=W.mg_of X G a8,wL:=F9,DG:=b9,DK:=W.mg_of X G a9,qM:=F10,uT:=b10,uU:=W.mg_of X G a10,sy:=F11,yu:=b11,yx:=W.mg_of X G a11,DN:=F12,M5:=b12,M6:=W.mg_of X G a12,wM:=F13,DP:=b13,DQ:=W.mg_of X G a13,DR:=F14,wN:=b14,yC:=F15,jD:=b15,jE:=⟨a15,i15,k15⟩,DW:=F16,mD:=b16,mF:=⟨a16,i16,k16⟩,DX:=F17,oR:=b17,oV:=⟨a17,i17,k17⟩,uf:=F18,Ak:=b18,Al:=W.mg_of X G a18,qt:=F19,vQ:=b19,vR:=W.mg_of X G a19,oU:=F20,ug:=b20,uh:=W.mg_of X G a20,h_:=F21,jo:=b21,jq:=W.mg_of X G a21,wO:=F22,DY:=b22,D_:=W.mg_of X G a22,wQ:=F23,Ea:=b23,Eb:=W.mg_of X G a23,Ql:=F24,Ys:=b24,Yt:=W.mg_of X G a24,Ec:=F25,M7:=b25,M8:=W.mg_of X G a25,sE:=F26,yD:=b26,yE:=W.mg_of X G a26,qN:=F27,uV:=b27,uW:=W.mg_of X G a27,zG:=F28,Ie:=b28,Ig:=W.mg_of X G a28,Yu:=F29,qb2:=b29,qb3:=W.mg_of X G a29,iQ:=F30,i_:=b30,jc:=W.mg_of X G a30,BK:=F31,Ke:=b31,Kf:=W.mg_of X G a31,uX:=F32,yF:=b32,yG:=W.mg_of X G a32,Yv:=F33,qb4:=b33,qb5:=W.mg_of X G a33,Yw:=F34,qb6:=b34,qb7:=W.mg_of X G a34,oK:=F35,qO:=b35,qP:=W.mg_of X G a35,pX:=F36,um:=b36,uo:=W.mg_of X G a36,yH:=F37,Ed:=b37,Ef:=W.mg_of X G a37,wR:=F38,Eh:=b38,Ei:=W.mg_of X G a38,qu:=F39,vU:=b39,vV:=W.mg_of X G a39,wU:=F40,Ej:=b40,Ek:=W.mg_of X G a40,yI:=F41,El:=b41,Em:=W.mg_of X G a41,En:=F42,Kg:=b42,Kh:=W.mg_of X G a42,BL:=F43,Kl:=b43,Km:=W.mg_of X G a43,uq:=F44,Am:=b44,Ao:=W.mg_of X G a44,sG:=F45,yJ:=b45,yK:=W.mg_of X G a45,Ko:=F46,RZ:=b46,R0:=W.mg_of X G a46,qw:=F47,vW:=b47,vX:=W.mg_of X G a47,qb8:=F48,qgj:=b48,qgk:=W.mg_of X G a48,Ih:=W.mg_of X G mq,Ii:=⟨w6,rfl⟩,ur:=W.mg_of X G fX,uw:=⟨nC,rfl⟩,vY:=W.mg_of X G gO,vZ:=⟨oY,rfl⟩,Aq:=W.mg_of X G jm,Ar:=⟨sO,rfl⟩,Kp:=FZ,BP:=Ga,Yx:=W.mg_of X G QS,j8:=⟨QT,QV,QW,QX⟩,Yy:=⟨QZ,a14,i14,Q0⟩,nm:=⟨W.mg_none_of X G ZF,W.mg_none_of X G ZG,W.mg_none_of X G ZJ,W.mg_none_of X G ZK,W.mg_none_of X G Gb,W.mg_none_of X G K1,W.mg_none_of X G ZL,W.mg_none_of X G Q5,W.mg_none_of X G K3,W.mg_none_of X G ZM,W.mg_none_of X G ZP,W.mg_none_of X G ZQ,W.mg_none_of X G ZR,W.mg_none_of X G sS⟩,Ib:=⟨W.mg_none_of X G uG,W.mg_none_of X G ZS,W.mg_none_of X G Q6,W.mg_none_of X G Gd,W.mg_none_of X G Q7,W.mg_none_of X G Q8⟩,nm3:=⟨W.mg_none_of X G ZV⟩,sH:=W.mg_of X G qy,qa4:=W.mg_of X G FW,Yz:=W.mg_of X G zP,Eo:=W.mg_of X G zQ,Ep:=W.mg_of X G zR,iR:=iR,yL:=yL,ux:=ux,ib:=qC,tb:=qz,ini:=⟨qeW,qeX,qeY⟩,M9:=M9,M_:=M_,nd:=H_ Q9,YB:=⟨⟨_,Ge,Gf,Gh⟩,Gg,Gi,Gj,Gk,Gm⟩,Uy:=⟨⟨_,zT,zU,zW⟩,zV,zX,zY,zZ,z7⟩,qQ:=⟨⟨_,u6,u9,vh⟩,u_,vm,vo,vp,qX⟩,mG:=⟨⟨_,vd,vf,vq⟩,vg,vA,vB,vC,qY⟩,qR:=⟨⟨_,_,_,_,_,_,_,_,_,_,_,_,_,_,_,z8⟩,iR,⟨_,m7,m8⟩,a6,beq_iff_eq.mp i6,qX⟩,Ij:=XC.set ⟨⟨_,u6,u9,vh⟩,u_,vm,vo,vp,qX⟩ z9,gP:=gP,qT:=⟨⟨_,_,_,_,_,_,_,_,_,_,_,_,_,_,_,z_⟩,iR,⟨_,m7,m8⟩,a7,beq_iff_eq.mp i7,qY⟩,zH:=XC.set ⟨⟨_,vd,vf,vq⟩,vg,vA,vB,vC,qY⟩ Aa,gQ:=gQ,gR:=gR,lH:=W.mg_none_of X G lH};exact⟨_,fun s v=>.of_eq rfl,fun base _ _=>qei T⟩
theorem walk {l:W.OpenLaw} {q:Program} {loose:List Str} {XP:(Str→Option Value)→Heap→Prop} {YP:World→Heap→Prop} {d:DefRec} {K:Params→W.Frag} (hn:l.most=some 63) (hdf:d.params.defaults=[])
    (hY:∀(w:World) (h:Heap),YP w h→(K w.params).In h)
    (F:∀(w:World) (mg:Str→Option Value) (fa:Addr) (h:Heap),(K w.params).In h→h.Ns mainGlobals mg→mg d.name=some (.ref fa)→
      ∃fd:FuncData,(∀(s:Shared) (u:Value),BindsTo s fd ⟨[u],[]⟩ [("_law_script",u)])∧∀base:Heap,(K w.params).In base→base.Ns mainGlobals mg→cD l.prog w (K w.params) mg base mL 11 fa fd ["_law_script"] (KZ (K w.params))) :
    W.WalkO q loose XP YP l.row.toRowW d [] (fun f vs=>PySem.call f vs):=
  L2.qar (n:=63) (k:=11) (x:= "_law_script") (CX:=fun _=>mL) (sp:=fun w=>KZ (K w.params)) hn (by decide) hdf ⟨rfl,by decide,by decide,rfl⟩ hY F (fun _ _ a ns hl _ hS=>⟨a,ns,rfl,hS,hl,fun _=>rfl⟩) fun _ _ _ _ _ z=>z
end K35
end
set_option Elab.async false
set_option maxRecDepth 100000
set_option maxHeartbeats 4000000
open PySem PySem.W PyProof.Rows
namespace PySem.W.Fast
def tw18440724952543737694:=0
def tw16212795944517211317:=0
def tw10008898580164361891:=0
def tw6347427353711468652:=0
def tw9657962154225555161:=0
def tw13561108920159159186:=0
def tw2751834005359970402:=0
def tw16559901827465313246:=0
def tw4267730055861807450:=0
def tw5572515813129190978:=0
def tw5964889566698345294:=0
def tw14249774771421254018:=0
def tw14172657836305704701:=0
def tw14003026264816389611:=0
def tw9180720129155931294:=0
def tw15141794062400541305:=0
def tw13042938905426219935:=0
def tw12148561149162675085:=0
def tw7913541120968359626:=0
def tw14139282988393339377:=0
def tw9305283058835576730:=0
def tw13251684645678316255:=0
def tw17210282381937997619:=0
def tw1096083565465361278:=0
end PySem.W.Fast
set_option maxRecDepth 100000 in
set_option maxHeartbeats 0 in
theorem PySem.Challenge.cw_pointways_k35_whole_pointed_or_barred_holds : PySem.Challenge.rw_pointways_k35_whole_pointed_or_barred.Holds := by
  w_on;o_law;k_head;(case hw=>w_witness2)
  k_fill
  refine K35.walk (l:=PySem.Challenge.rw_pointways_k35_whole_pointed_or_barred) rfl rfl (fun w h Y=>W.kIn_of Y) ?F
  case F=>
    intro w mg fa h KX G hmg;refine' K35.all_mk KX G hmg ?QS ?qy ?FW ?zP ?zQ ?zR ?a1 ?l1 ?c1 ?k1 ?a2 ?l2 ?c2 ?k2 ?a3 ?l3 ?c3 ?k3 ?a4 ?l4 ?c4 ?k4 ?a5 ?l5 ?c5 ?k5 ?a6 ?i6 ?l6 ?c6 ?k6 ?a7 ?i7 ?l7 ?c7 ?k7 ?a8 ?l8 ?c8 ?k8 ?a9 ?l9 ?c9 ?k9 ?a10 ?l10 ?c10 ?k10 ?a11 ?l11 ?c11 ?k11 ?a12 ?l12 ?c12 ?k12 ?a13 ?l13 ?c13 ?k13 ?a14 ?i14 ?l14 ?c14 ?k14 ?a15 ?i15 ?l15 ?c15 ?k15 ?a16 ?i16 ?l16 ?c16 ?k16 ?a17 ?i17 ?l17 ?c17 ?k17 ?a18 ?l18 ?c18 ?k18 ?a19 ?l19 ?c19 ?k19 ?a20 ?l20 ?c20 ?k20 ?a21 ?l21 ?c21 ?k21 ?a22 ?l22 ?c22 ?k22 ?a23 ?l23 ?c23 ?k23 ?a24 ?l24 ?c24 ?k24 ?a25 ?l25 ?c25 ?k25 ?a26 ?l26 ?c26 ?k26 ?a27 ?l27 ?c27 ?k27 ?a28 ?l28 ?c28 ?k28 ?a29 ?l29 ?c29 ?k29 ?a30 ?l30 ?c30 ?k30 ?a31 ?l31 ?c31 ?k31 ?a32 ?l32 ?c32 ?k32 ?a33 ?l33 ?c33 ?k33 ?a34 ?l34 ?c34 ?k34 ?a35 ?l35 ?c35 ?k35 ?a36 ?l36 ?c36 ?k36 ?a37 ?l37 ?c37 ?k37 ?a38 ?l38 ?c38 ?k38 ?a39 ?l39 ?c39 ?k39 ?a40 ?l40 ?c40 ?k40 ?a41 ?l41 ?c41 ?k41 ?a42 ?l42 ?c42 ?k42 ?a43 ?l43 ?c43 ?k43 ?a44 ?l44 ?c44 ?k44 ?a45 ?l45 ?c45 ?k45 ?a46 ?l46 ?c46 ?k46 ?a47 ?l47 ?c47 ?k47 ?a48 ?l48 ?c48 ?k48 ?mq ?fX ?gO ?jm ?QT ?QV ?QW ?QX ?QZ ?Q0 ?FZ ?Ga ?ZF ?ZG ?ZJ ?ZK ?Gb ?K1 ?ZL ?Q5 ?K3 ?ZM ?ZP ?ZQ ?ZR ?sS ?uG ?ZS ?Q6 ?Gd ?Q7 ?Q8 ?ZV ?m7 ?m8 ?qz ?Ge ?Gf ?Gg ?zT ?zU ?zV ?u6 ?u9 ?u_ ?vd ?vf ?vg ?iR ?yL ?ux ?qC ?qeW ?qeX ?qeY ?M9 ?M_ ?Q9 ?Gh ?Gi ?Gj ?Gk ?Gm ?zW ?zX ?zY ?zZ ?z7 ?vh ?vm ?vo ?vp ?qX ?vq ?vA ?vB ?vC ?qY ?z8 ?z9 ?gP ?z_ ?Aa ?gQ ?gR ?lH
    (case QS=>k_is)
    (case qy=>k_is)
    (case FW=>k_is)
    (case zP=>k_is)
    (case zQ=>k_is)
    (case zR=>k_is)
    (case a1=>k_is)
    (case l1=>k_is)
    (case c1=>k_is)
    (case k1=>k_is)
    (case a2=>k_is)
    (case l2=>k_is)
    (case c2=>k_is)
    (case k2=>k_is)
    (case a3=>k_is)
    (case l3=>k_is)
    (case c3=>k_is)
    (case k3=>k_is)
    (case a4=>k_is)
    (case l4=>k_is)
    (case c4=>k_is)
    (case k4=>k_is)
    (case a5=>k_is)
    (case l5=>k_is)
    (case c5=>k_is)
    (case k5=>k_is)
    (case a6=>k_is)
    (case i6=>k_is)
    (case l6=>k_is)
    (case c6=>k_is)
    (case k6=>k_is)
    (case a7=>k_is)
    (case i7=>k_is)
    (case l7=>k_is)
    (case c7=>k_is)
    (case k7=>k_is)
    (case a8=>k_is)
    (case l8=>k_is)
    (case c8=>k_is)
    (case k8=>k_is)
    (case a9=>k_is)
    (case l9=>k_is)
    (case c9=>k_is)
    (case k9=>k_is)
    (case a10=>k_is)
    (case l10=>k_is)
    (case c10=>k_is)
    (case k10=>k_is)
    (case a11=>k_is)
    (case l11=>k_is)
    (case c11=>k_is)
    (case k11=>k_is)
    (case a12=>k_is)
    (case l12=>k_is)
    (case c12=>k_is)
    (case k12=>k_is)
    (case a13=>k_is)
    (case l13=>k_is)
    (case c13=>k_is)
    (case k13=>k_is)
    (case a14=>k_is)
    (case i14=>k_is)
    (case l14=>k_is)
    (case c14=>k_is)
    (case k14=>k_is)
    (case a15=>k_is)
    (case i15=>k_is)
    (case l15=>k_is)
    (case c15=>k_is)
    (case k15=>k_is)
    (case a16=>k_is)
    (case i16=>k_is)
    (case l16=>k_is)
    (case c16=>k_is)
    (case k16=>k_is)
    (case a17=>k_is)
    (case i17=>k_is)
    (case l17=>k_is)
    (case c17=>k_is)
    (case k17=>k_is)
    (case a18=>k_is)
    (case l18=>k_is)
    (case c18=>k_is)
    (case k18=>k_is)
    (case a19=>k_is)
    (case l19=>k_is)
    (case c19=>k_is)
    (case k19=>k_is)
    (case a20=>k_is)
    (case l20=>k_is)
    (case c20=>k_is)
    (case k20=>k_is)
    (case a21=>k_is)
    (case l21=>k_is)
    (case c21=>k_is)
    (case k21=>k_is)
    (case a22=>k_is)
    (case l22=>k_is)
    (case c22=>k_is)
    (case k22=>k_is)
    (case a23=>k_is)
    (case l23=>k_is)
    (case c23=>k_is)
    (case k23=>k_is)
    (case a24=>k_is)
    (case l24=>k_is)
    (case c24=>k_is)
    (case k24=>k_is)
    (case a25=>k_is)
    (case l25=>k_is)
    (case c25=>k_is)
    (case k25=>k_is)
    (case a26=>k_is)
    (case l26=>k_is)
    (case c26=>k_is)
    (case k26=>k_is)
    (case a27=>k_is)
    (case l27=>k_is)
    (case c27=>k_is)
    (case k27=>k_is)
    (case a28=>k_is)
    (case l28=>k_is)
    (case c28=>k_is)
    (case k28=>k_is)
    (case a29=>k_is)
    (case l29=>k_is)
    (case c29=>k_is)
    (case k29=>k_is)
    (case a30=>k_is)
    (case l30=>k_is)
    (case c30=>k_is)
    (case k30=>k_is)
    (case a31=>k_is)
    (case l31=>k_is)
    (case c31=>k_is)
    (case k31=>k_is)
    (case a32=>k_is)
    (case l32=>k_is)
    (case c32=>k_is)
    (case k32=>k_is)
    (case a33=>k_is)
    (case l33=>k_is)
    (case c33=>k_is)
    (case k33=>k_is)
    (case a34=>k_is)
    (case l34=>k_is)
    (case c34=>k_is)
    (case k34=>k_is)
    (case a35=>k_is)
    (case l35=>k_is)
    (case c35=>k_is)
    (case k35=>k_is)
    (case a36=>k_is)
    (case l36=>k_is)
    (case c36=>k_is)
    (case k36=>k_is)
    (case a37=>k_is)
    (case l37=>k_is)
    (case c37=>k_is)
    (case k37=>k_is)
    (case a38=>k_is)
    (case l38=>k_is)
    (case c38=>k_is)
    (case k38=>k_is)
    (case a39=>k_is)
    (case l39=>k_is)
    (case c39=>k_is)
    (case k39=>k_is)
    (case a40=>k_is)
    (case l40=>k_is)
    (case c40=>k_is)
    (case k40=>k_is)
    (case a41=>k_is)
    (case l41=>k_is)
    (case c41=>k_is)
    (case k41=>k_is)
    (case a42=>k_is)
    (case l42=>k_is)
    (case c42=>k_is)
    (case k42=>k_is)
    (case a43=>k_is)
    (case l43=>k_is)
    (case c43=>k_is)
    (case k43=>k_is)
    (case a44=>k_is)
    (case l44=>k_is)
    (case c44=>k_is)
    (case k44=>k_is)
    (case a45=>k_is)
    (case l45=>k_is)
    (case c45=>k_is)
    (case k45=>k_is)
    (case a46=>k_is)
    (case l46=>k_is)
    (case c46=>k_is)
    (case k46=>k_is)
    (case a47=>k_is)
    (case l47=>k_is)
    (case c47=>k_is)
    (case k47=>k_is)
    (case a48=>k_is)
    (case l48=>k_is)
    (case c48=>k_is)
    (case k48=>k_is)
    (case mq=>k_is)
    (case fX=>k_is)
    (case gO=>k_is)
    (case jm=>k_is)
    (case QT=>k_is)
    (case QV=>k_is)
    (case QW=>k_is)
    (case QX=>k_is)
    (case QZ=>k_is)
    (case Q0=>k_is)
    (case FZ=>k_is)
    (case Ga=>k_is)
    (case ZF=>k_is)
    (case ZG=>k_is)
    (case ZJ=>k_is)
    (case ZK=>k_is)
    (case Gb=>k_is)
    (case K1=>k_is)
    (case ZL=>k_is)
    (case Q5=>k_is)
    (case K3=>k_is)
    (case ZM=>k_is)
    (case ZP=>k_is)
    (case ZQ=>k_is)
    (case ZR=>k_is)
    (case sS=>k_is)
    (case uG=>k_is)
    (case ZS=>k_is)
    (case Q6=>k_is)
    (case Gd=>k_is)
    (case Q7=>k_is)
    (case Q8=>k_is)
    (case ZV=>k_is)
    (case m7=>k_is)
    (case m8=>rfl)
    (case qz=>k_is)
    (case Ge=>k_is)
    (case Gf=>rfl)
    (case Gg=>k_is)
    (case zT=>k_is)
    (case zU=>rfl)
    (case zV=>k_is)
    (case u6=>k_is)
    (case u9=>rfl)
    (case u_=>k_is)
    (case vd=>k_is)
    (case vf=>rfl)
    (case vg=>k_is)
    (case iR=>k_exc)
    (case yL=>k_exc)
    (case ux=>k_exc)
    (case qC=>k_is)
    (case qeW=>k_is)
    (case qeX=>k_is)
    (case qeY=>k_is)
    (case M9=>k_is)
    (case M_=>k_is)
    (case Q9=>decide+kernel)
    (case Gh=>rfl)
    (case Gi=>k_is)
    (case Gj=>k_is)
    (case Gk=>k_is)
    (case Gm=>k_is)
    (case zW=>rfl)
    (case zX=>k_is)
    (case zY=>k_is)
    (case zZ=>k_is)
    (case z7=>k_is)
    (case vh=>rfl)
    (case vm=>k_is)
    (case vo=>k_is)
    (case vp=>k_is)
    (case qX=>k_is)
    (case vq=>rfl)
    (case vA=>k_is)
    (case vB=>k_is)
    (case vC=>k_is)
    (case qY=>k_is)
    (case z8=>k_is)
    (case z9=>k_is)
    (case gP=>k_is)
    (case z_=>k_is)
    (case Aa=>k_is)
    (case gQ=>k_is)
    (case gR=>k_is)
    (case lH=>k_is)


