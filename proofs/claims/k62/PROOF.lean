import PyProof.Rows.All
import Wide.All
import OpenK.AllK
import Wide.FinOn
import Lean
import PyProof.EqAt
import PyProof.EqKinds
import PyProof.TupleCall
import PyProof.NeData
import PyProof.AttrMissHeap
import PyProof.FactsAll.enumerate_1
import KE.KDictOf
import PyProof.EnumMake
import PyProof.Rows.SumAny
import PyProof.Rows.StrJoin2
import PyProof.Rows.CountFlat
import PyProof.Rows.FoldWordsD
import PyProof.Rows.SeqMore2
import PyProof.Rows.MinMaxN
import PyProof.Rows.StrInSeq3
import PyProof.Rows.ReprR
import PyProof.StrLawsRepr
import PyProof.StrOps2
import PyProof.Rows.SeqMore
import PySem.Challenge.RW_pointways_k62_whole_pointings_by_ins
set_option genSizeOfSpec false
noncomputable section
set_option Elab.async false
set_option linter.all false
set_option maxRecDepth 100000
namespace L2
open PySem PySem.Spec PyProof.Rows
abbrev Key:=Sum Int Str
def qR:Key→Value→Bool
  | .inl k,v=>Value.isInt k v
  | .inr x,v=>Value.isStrOf x v
def qi6 (w:World):Key→Int
  | .inl k=>hashInt k
  | .inr x=>hashStr w x
theorem dO:∀{k:Key} {v:Value},qR k v=true→(∃i t,k=Sum.inl i∧v=Value.int i t)∨(∃x t,k=Sum.inr x∧v=Value.str x t)
  | .inl i,v,h=>by
    obtain⟨t,e⟩:=Value.isInt_shape (k:=i) (v:=v) h;exact .inl ⟨i,t,rfl,e⟩
  | .inr x,v,h=>by
    obtain⟨t,e⟩:=Value.isStrOf_shape (x:=x) (v:=v) h;exact .inr ⟨x,t,rfl,e⟩
theorem Dd (i:Int) (t:Tok):qR (.inl i) (.int i t)=true:=by simp[qR,Value.isInt]
theorem Df (x:Str) (t:Tok):qR (.inr x) (.str x t)=true:=by simp[qR,Value.isStrOf]
theorem qaM (a b:Int):decide ((Sum.inl a:Key)=Sum.inl b)=(a == b):=by
  by_cases e:a=b
  ·subst e;simp
  ·have h:¬(Sum.inl a:Key)=Sum.inl b:=fun q=>e (Sum.inl.inj q);rw[decide_eq_false h];exact(beq_eq_false_iff_ne.mpr e).symm
theorem qaN (a b:Str):decide ((Sum.inr a:Key)=Sum.inr b)=decide (a=b):=by
  by_cases e:a=b
  ·subst e;simp
  ·have h:¬(Sum.inr a:Key)=Sum.inr b:=fun q=>e (Sum.inr.inj q);rw[decide_eq_false h,decide_eq_false e]
theorem qaO (a:Int) (b:Str):decide ((Sum.inl a:Key)=Sum.inr b)=false:=decide_eq_false (fun q=>nomatch q)
theorem qaP (a:Str) (b:Int):decide ((Sum.inr a:Key)=Sum.inl b)=false:=decide_eq_false (fun q=>nomatch q)
def bO (prog:Program) (w:World):PySem.KeyKind prog w Key where
  is:=qR
  hash:=qi6 w
  inj:=fun v a b ha hb=>by
    rcases dO ha with⟨i,t,rfl,rfl⟩ | ⟨x,t,rfl,rfl⟩
    · rcases dO hb with⟨j,u,rfl,e⟩ | ⟨y,u,rfl,e⟩
      ·injection e with e1 _;rw[e1]
      ·exact nomatch e
    · rcases dO hb with⟨j,u,rfl,e⟩ | ⟨y,u,rfl,e⟩
      ·exact nomatch e
      ·injection e with e1 _;rw[e1]
  byValue:=fun k v h=>by
    rcases dO h with⟨i,t,rfl,rfl⟩ | ⟨x,t,rfl,rfl⟩ <;> rfl
  pyHash:=fun hv h=>by
    rcases dO hv with⟨i,t,rfl,rfl⟩ | ⟨x,t,rfl,rfl⟩
    ·exact wpAny_pyHash_int h
    ·exact wpAny_pyHash_str h
  eqBool:=fun hu hv h=>by
    rcases dO hu with⟨i,t,rfl,rfl⟩ | ⟨x,t,rfl,rfl⟩
    · rcases dO hv with⟨j,u,rfl,rfl⟩ | ⟨y,u,rfl,rfl⟩
      ·rw[qaM] at h;exact wpAny_eqBool_int h
      ·rw[qaO] at h;exact SeqAt.EqAt.int_str i t y u _ _ _ _ h
    · rcases dO hv with⟨j,u,rfl,rfl⟩ | ⟨y,u,rfl,rfl⟩
      ·rw[qaP] at h;exact SeqAt.EqAt.str_int x t j u _ _ _ _ h
      ·rw[qaN] at h;exact wpAny_eqBool_str h
  «strs»:=fun k x t v h=>by
    rcases dO h with⟨i,u,rfl,e⟩ | ⟨y,u,rfl,e⟩
    ·exact nomatch e
    ·injection e with e1 _;subst e1;cases v <;> rfl
theorem xR (prog:Program) (w:World) (i:Int) (t:Tok):(bO prog w).is (.inl i) (.int i t)=true:=Dd i t
theorem Hu (prog:Program) (w:World) (x:Str) (t:Tok):(bO prog w).is (.inr x) (.str x t)=true:=Df x t
inductive V where
  | non | bl (b:Bool) | int (i:Int) | str (x:Str) | Rz (b:Array UInt8) | flt (b:UInt64) | ref (a:Addr) | ty (n:String)
  deriving DecidableEq
def RelV:V→Value→Prop
  | .non,u=>u=Value.none
  | .bl b,u=>u=Value.bool b
  | .int i,u=>∃t,u=Value.int i t
  | .str x,u=>∃t,u=Value.str x t
  | .Rz b,u=>∃t,u=Value.bytes b t
  | .flt b,u=>∃t,u=Value.float b t
  | .ref a,u=>u=Value.ref a
  | .ty n,u=>u=Value.type n
abbrev Vals:List V→List Value→Prop:=Paired RelV
theorem Vals.length {xs:List V} {us:List Value} (r:Vals xs us):xs.length=us.length:=Paired.length r
theorem Vals.get:∀{xs:List V} {us:List Value} {i:Nat} {x:V},Vals xs us→xs[i]? = some x→∃u,us[i]? = some u∧RelV x u
  | _,_,_,_,.nil,e=>by simp at e
  | _,_,0,_,.cons r _,e=>by simp at e;subst e;exact⟨_,rfl,r⟩
  | _,_,i+1,x,.cons _ t,e=>by
    obtain⟨u,h1,h2⟩:=Vals.get (i:=i) (x:=x) t (by simpa using e);exact⟨u,by simpa using h1,h2⟩
theorem Vals.set {x:V} {u:Value} (r:RelV x u):∀{xs:List V} {us:List Value} (i:Nat),Vals xs us→Vals (xs.set i x) (us.set i u)
  | _,_,_,.nil=>.nil
  | _,_,0,.cons _ t=>.cons r t
  | _,_,i+1,.cons q t=>.cons q (Vals.set r i t)
theorem Vals.append:∀{xs ys:List V} {us ws:List Value},Vals xs us→Vals ys ws→Vals (xs++ys) (us++ws)
  | _,_,_,_,.nil,s=>s
  | _,_,_,_,.cons r t,s=>.cons r (Vals.append t s)
theorem Vals.take:∀{xs:List V} {us:List Value} (n:Nat),Vals xs us→Vals (xs.take n) (us.take n)
  | _,_,0,_=>.nil
  | _,_,_+1,.nil=>.nil
  | _,_,n+1,.cons r t=>.cons r (Vals.take n t)
theorem Vals.drop:∀{xs:List V} {us:List Value} (n:Nat),Vals xs us→Vals (xs.drop n) (us.drop n)
  | _,_,0,r=>r
  | _,_,_+1,.nil=>.nil
  | _,_,n+1,.cons _ t=>Vals.drop n t
def lE:Option V→Option Value→Prop
  | some v,some u=>RelV v u
  | none,none=>True
  | _,_=>False
def KV {κ:Type}:List (κ×V)→List (κ×Value)→Prop:=Paired fun(p:κ×V) (q:κ×Value)=>p.1=q.1∧RelV p.2 q.2
def kV:Key→V
  | .inl i=>.int i
  | .inr x=>.str x
inductive HO where
  | lst (xs:List V)
  | tup (xs:List V)
  | dK (kvs:List (Key×V)) | dT (kvs:List (List Key×V))
  | set (S:Int→Bool) (n:Nat)
  | ins (C dx:Addr) (fs:List (Str×V))
  | own (x:Addr)
  | xd (fs:List (Str×V))
  | met (f x:Addr)
  | rng (lo hi:Int)
  | Hv (o:Obj) (u:HO)
  | Z_ (ps:Array Value)
  | ext (φ:Heap→Prop)
abbrev Hp:=Addr→Option HO
def upd (H:Hp) (a:Addr) (o:HO):Hp:=fun b=>if b=a then some o else H b
theorem ao {H:Hp} {a:Addr} {o:HO}:upd H a o a=some o:=by unfold upd;rw[if_pos rfl]
theorem aB {H:Hp} {a b:Addr} {o:HO} (h:b≠a):upd H a o b=H b:=by unfold upd;rw[if_neg h]
theorem yP {H:Hp} {a b:Addr} {o u:HO} (h:H a=some o) (h':H b=some u) (d:o≠u):a≠b:=by
  intro e;subst e;rw[h] at h';exact d (Option.some.inj h')
theorem aH {H:Hp} {a b:Addr} {o:HO} (h:H a=some o) (h':H b=none):a≠b:=by
  intro e;subst e;rw[h] at h';cases h'
section
variable (P:Program) (w:World)
def cj (H:Hp) (h:Heap) (a:Addr):HO→Prop
  | .lst xs=>xs.length≤sizeLine∧∃(its:List Value) (n:Nat),Vals xs its∧h.get? a=some {cls:=.type "list",data:=.seq its.toArray n}
  | .tup xs=>xs.length≤sizeLine∧∃its:List Value,Vals xs its∧IsTup h a its.toArray
  | .dK kvs=>kvs.length≤sizeLine∧(a == sysModules)=false∧∃vs,KV kvs vs∧h.DictOf (bO P w) a vs
  | .dT kvs=>kvs.length≤sizeLine∧(a == sysModules)=false∧∃xs:List (List Key×Addr×Value),
      Paired (fun(p:List Key×V) (q:List Key×Addr×Value)=>p.1=q.1∧H q.2.1=some (.tup (p.1.map kV))∧RelV p.2 q.2.2) kvs xs∧
      ∃o es ep,h.get? a=some o∧o.ExactDict∧o.data = .dict es ep∧es.toList=xs.map (entryOfKey (tupleKind (bO P w)))∧(xs.map (·.1)).Nodup
  | .set S n=>h.SetOf (intKind P w) a S n
  | .ins C dx fs=>H dx=some (.own a)∧fs.length≤1000∧dx≠a∧h.get? a=some (W.instObj C dx)∧
      ∃mA,h.Ns1 dx mA∧(∀f,lE (fs.lookup f) (mA f))∧PySem.Within mA (fs.map (·.1))
  | .own _=>∃o,h.get? a=some o
  | .xd fs=>∃mA,h.Ns1 a mA∧∀f,lE (fs.lookup f) (mA f)
  | .rng lo hi=>∃t u v,h.get? a=some {cls:=.type "range",data:=.fields #[.int lo t,.int hi u,.int 1 v]}
  | .Hv o u=>h.get? a=some o∧cj H h a u
  | .Z_ ps=>h.get? a=some {cls:=.none,data:=.fields ps}
  | .met f x=>h.get? a=some (W.methodObj (.ref f) (.ref x))
  | .ext φ=>φ h∧(∃o,h.get? a=some o)∧∀h1 h2:Heap,φ h1→(∀o,h1.get? a=some o→h2.get? a=some o)→φ h2
def qT (H:Hp) (h:Heap):Prop:=∀a o,H a=some o→cj P w H h a o
end
section
variable {P:Program} {w:World} {H H':Hp} {h h':Heap} {a:Addr} {o:HO}
theorem cj.lt (x:cj P w H h a o):a<h.objs.size:=by
  cases o with
  | lst xs=>obtain⟨_,_,_,_,e⟩:=x;exact Heap.lt_size e
  | tup xs=>obtain⟨_,_,_,p⟩:=x;exact p.lt
  | dK kvs=>obtain⟨_,_,_,_,o,_,_,e,_⟩:=x;exact Heap.lt_size e
  | dT kvs=>obtain⟨_,_,_,_,o,_,_,e,_⟩:=x;exact Heap.lt_size e
  | set S n=>obtain⟨o,_,_,_,e,_⟩:=x;exact Heap.lt_size e
  | ins C dx fs=>obtain⟨_,_,_,e,_⟩:=x;exact Heap.lt_size e
  | own y=>obtain⟨_,e⟩:=x;exact Heap.lt_size e
  | xd fs=>obtain⟨_,⟨_,_,_,e,_⟩,_⟩:=x;exact Heap.lt_size e
  | rng lo hi=>obtain⟨_,_,_,e⟩:=x;exact Heap.lt_size e
  | Hv ob u=>obtain⟨e,_⟩:=x;exact Heap.lt_size e
  | Z_ ps=>exact Heap.lt_size (show h.get? a=some _ from x)
  | met f y=>exact Heap.lt_size (show h.get? a=some _ from x)
  | ext φ=>obtain⟨_,⟨_,e⟩,_⟩:=x;exact Heap.lt_size e
theorem Paired.qaQ {α β:Type} {F G:α→β→Prop}:∀{l₁:List α} {l₂:List β},Paired F l₁ l₂→(∀a b,F a b→G a b)→Paired G l₁ l₂
  | _,_,.nil,_=>.nil
  | _,_,.cons r t,f=>.cons (f _ _ r) (Paired.qaQ t f)
theorem cj.stay (x:cj P w H h a o) (k:∀b u,(b=a∨H b=some (.own a))→h.get? b=some u→h'.get? b=some u)
    (ho:∀b,H b=some (.own a)→H' b=some (.own a)) (ht:∀b xs,H b=some (.tup xs)→H' b=some (.tup xs)):cj P w H' h' a o:=by
  induction o with
  | lst xs=>obtain⟨z,its,n,r,e⟩:=x;exact⟨z,its,n,r,k _ _ (.inl rfl) e⟩
  | tup xs=>obtain⟨z,its,r,ob,e,c⟩:=x;exact⟨z,its,r,ob,k _ _ (.inl rfl) e,c⟩
  | dK kvs=>obtain⟨z,y,vs,r,ob,es,ep,e,c⟩:=x;exact⟨z,y,vs,r,ob,es,ep,k _ _ (.inl rfl) e,c⟩
  | dT kvs=>
    obtain⟨z,y,xs,r,ob,es,ep,e,c⟩:=x;exact⟨z,y,xs,Paired.qaQ r fun p q z=>⟨z.1,ht _ _ z.2.1,z.2.2⟩,ob,es,ep,k _ _ (.inl rfl) e,c⟩
  | set S n=>obtain⟨ob,es,ep,t,e,c⟩:=x;exact⟨ob,es,ep,t,k _ _ (.inl rfl) e,c⟩
  | ins C dx fs=>
    obtain⟨d,z,ne,e,mA,⟨od,es,ep,e2,c⟩,r⟩:=x;exact⟨ho _ d,z,ne,k _ _ (.inl rfl) e,mA,⟨od,es,ep,k _ _ (.inr d) e2,c⟩,r⟩
  | own y=>obtain⟨ob,e⟩:=x;exact⟨ob,k _ _ (.inl rfl) e⟩
  | xd fs=>obtain⟨mA,⟨od,es,ep,e,c⟩,r⟩:=x;exact⟨mA,⟨od,es,ep,k _ _ (.inl rfl) e,c⟩,r⟩
  | rng lo hi=>obtain⟨t,u,v,e⟩:=x;exact⟨t,u,v,k _ _ (.inl rfl) e⟩
  | Hv ob u ih=>obtain⟨e,q⟩:=x;exact⟨k _ _ (.inl rfl) e,ih q⟩
  | Z_ ps=>
    have e:h.get? a=some {cls:=.none,data:=.fields ps}:=x;show h'.get? a=some {cls:=.none,data:=.fields ps};exact k a _ (.inl rfl) e
  | met f y=>
    have e:h.get? a=some (W.methodObj (.ref f) (.ref y)):=x;show h'.get? a=some (W.methodObj (.ref f) (.ref y));exact k a _ (.inl rfl) e
  | ext φ=>obtain⟨p,⟨o,e⟩,st⟩:=x;exact⟨st _ _ p fun o q=>k _ _ (.inl rfl) q,⟨o,k _ _ (.inl rfl) e⟩,st⟩
theorem qT.lt (x:qT P w H h) (e:H a=some o):a<h.objs.size:=(x a o e).lt
theorem qT.fresh (x:qT P w H h) (e:h.objs.size≤a):H a=none:=by
  cases q:H a with
  | none=>rfl
  | some u=>exact absurd (Nat.lt_of_lt_of_le (x.lt q) e) (Nat.lt_irrefl _)
theorem qT.kept (x:qT P w H h) (k:∀b u,h.get? b=some u→h'.get? b=some u):qT P w H h':=fun a o e=>
  (x a o e).stay (fun b u _ q=>k b u q) (fun _ q=>q) fun _ _ q=>q
theorem qT.laid (x:qT P w H h) (k:∀b u,h.get? b=some u→h'.get? b=some u) (hp:h.objs.size≤a) (new:cj P w (upd H a o) h' a o):qT P w (upd H a o) h':=fun b u e=>by
  have hn:=x.fresh hp
  by_cases hb:b=a
  ·subst hb;rw[ao] at e;cases e;exact new
  ·rw[aB hb] at e;exact(x b u e).stay (fun c v _ q=>k c v q) (fun c q=>by rw[aB (aH q hn)];exact q) fun c xs q=>by rw[aB (aH q hn)];exact q
end
def Rd (H:Hp) (a:Addr) (u:HO):Prop:=H a=some u∨∃o,H a=some (.Hv o u)
theorem Rd.ok {P:Program} {w:World} {H:Hp} {h:Heap} {a:Addr} {u:HO} (r:Rd H a u) (x:qT P w H h):cj P w H h a u:=by
  rcases r with r | ⟨o,r⟩
  ·exact x a u r
  ·obtain⟨_,q⟩:=x a _ r;exact q
def Mut:Option HO→Prop
  | some (.lst _)=>True
  | some (.dK _)=>True
  | some (.dT _)=>True
  | some (.set _ _)=>True
  | some (.ins _ _ _)=>True
  | some (.ext _)=>True
  | _=>False
section
variable {P:Program} {w:World} {H:Hp} {h h':Heap} {x e:Addr} {o':HO}
theorem qT.write (ok:qT P w H h) (mu:Mut (H x)) (he:e=x∨H e=some (.own x)) (k:∀b u,b≠e→h.get? b=some u→h'.get? b=some u) (heo:∃u,h'.get? e=some u)
    (new:cj P w (upd H x o') h' x o'):qT P w (upd H x o') h':=fun b u q=>by
  have qdG:∀c y,H c=some (.own y)→c≠x:=fun c y r z=>by subst z;rw[r] at mu;exact mu
  have qi7:∀c xs,H c=some (.tup xs)→c≠x:=fun c xs r z=>by subst z;rw[r] at mu;exact mu
  by_cases hb:b=x
  ·subst hb;rw[ao] at q;cases q;exact new
  · rw[aB hb] at q
    by_cases hbe:b=e
    · have q':H b=some (.own x):=by
        rcases he with z | z
        ·exact absurd (hbe.trans z) hb
        ·rw[hbe];exact z
      rw[q] at q';cases q';obtain⟨v,hv⟩:=heo;exact⟨v,by rw[hbe];exact hv⟩
    · refine(ok b u q).stay (fun c v hc r=>k c v ?_ r) (fun c r=>by rw[aB (qdG c b r)];exact r) fun c xs r=>by rw[aB (qi7 c xs r)];exact r
      rcases hc with rfl | hc
      ·exact hbe
      · rintro rfl
        rcases he with z | z
        ·exact qdG c b hc z
        ·rw[hc] at z;cases z;exact hb rfl
end
structure Un (fs ex:List Addr) (H H':Hp) (h h':Heap):Prop where
  keep:∀b o,h.get? b=some o→H b=none→b∉fs→b∉ex→h'.get? b=some o
  slot:∀b o,h.get? b=some o→H b=none→b∈fs→b∉ex→∃sl,h'.get? b=some {o with slots:=sl}
  free:∀b o,h.get? b=some o→H b=none→b∉ex→H' b=none
  there:∀b o,h.get? b=some o→b∉ex→∃o',h'.get? b=some o'
  tups:∀b xs,H b=some (.tup xs)→H' b=some (.tup xs)
  oU:∀b o u,H b=some (.Hv o u)→H' b=some (.Hv o u)
  pF:∀b ps,H b=some (.Z_ ps)→∃more,H' b=some (.Z_ (ps++more))
section
variable {fs fs' ex ex':List Addr} {H H1 H2:Hp} {h h1 h2 h':Heap} {a x e:Addr} {o:HO}
theorem Un.any (u:Un fs ex H H1 h h1) {b:Addr} {ob:Obj} (q:h.get? b=some ob) (n:H b=none) (hx:b∉ex):∃sl,h1.get? b=some {ob with slots:=sl}:=by
  by_cases hb:b∈fs
  ·exact u.slot b ob q n hb hx
  ·exact⟨ob.slots,u.keep b ob q n hb hx⟩
theorem Un.kept (k:∀b u,h.get? b=some u→h'.get? b=some u):Un fs ex H H h h':=
  ⟨fun b ob q _ _ _=>k b ob q,fun b ob q _ _ _=>⟨ob.slots,k b ob q⟩,fun _ _ _ n _=>n,fun b ob q _=>⟨ob,k b ob q⟩,fun _ _ q=>q,fun _ _ _ q=>q,fun _ ps q=>⟨#[],by rw[q];simp⟩⟩
theorem Un.refl:Un fs ex H H h h:=Un.kept fun _ _ q=>q
theorem Un.laid (k:∀b u,h.get? b=some u→h'.get? b=some u) (hp:h.objs.size≤a) (hn:H a=none):Un fs ex H (upd H a o) h h' where
  keep:=fun b u q _ _ _=>k b u q
  slot:=fun b u q _ _ _=>⟨u.slots,k b u q⟩
  free:=fun b u q n _=>by rw[aB (Nat.ne_of_lt (Nat.lt_of_lt_of_le (Heap.lt_size q) hp))];exact n
  there:=fun b u q _=>⟨u,k b u q⟩
  tups:=fun b xs q=>by rw[aB (aH q hn)];exact q
  oU:=fun b u xs q=>by rw[aB (aH q hn)];exact q
  pF:=fun b ps q=>⟨#[],by rw[aB (aH q hn),q];simp⟩
theorem Un.write (mu:Mut (H x)) (he:e=x∨H e=some (.own x)) (k:∀b u,b≠e→h.get? b=some u→h'.get? b=some u) (heo:∃u,h'.get? e=some u):Un fs ex H (upd H x o) h h':=by
  have hx:∀b,H b=none→b≠x:=fun b n z=>by subst z;rw[n] at mu;exact mu
  have hb:∀b,H b=none→b≠e:=fun b n z=>by
    subst z
    rcases he with r | r
    ·exact hx b n r
    ·rw[n] at r;cases r
  have hm:∀b u,H b=some u→¬Mut (some u)→b≠x:=fun b u q nm z=>by subst z;rw[q] at mu;exact nm mu
  refine⟨fun b u q n _ _=>k b u (hb b n) q,fun b u q n _ _=>⟨u.slots,k b u (hb b n) q⟩,fun b u q n _=>by rw[aB (hx b n)];exact n,fun b u q _=>?_,
    fun b xs q=>by rw[aB (hm b _ q fun z=>z)];exact q,fun b u xs q=>by rw[aB (hm b _ q fun z=>z)];exact q,fun b ps q=>⟨#[],by rw[aB (hm b _ q fun z=>z),q];simp⟩⟩
  by_cases hbe:b=e
  ·subst hbe;exact heo
  ·exact⟨u,k b u hbe q⟩
end
def trk (h:Heap) (H:Hp):List Addr:=(List.range h.objs.size).filter fun a=>(H a).isSome
def Ey (h:Heap) (H:Hp):Heap:=W.hideAll h (trk h H)
theorem PX (h:Heap) (H:Hp):(Ey h H).objs.size=h.objs.size:=W.hideAll_size _ _
theorem RQ {h:Heap} {H:Hp} {b:Addr} {o:Obj} (e:h.get? b=some o) (n:H b=none):(Ey h H).get? b=some o:=
  W.hideAll_get _ e fun hm=>by
    have q:(H b).isSome=true:=(List.mem_filter.mp hm).2;rw[n] at q;simp at q
theorem Xr {h:Heap} {H:Hp} {b:Addr} {o:Obj} (e:(Ey h H).get? b=some o):h.get? b=some o∧H b=none:=by
  have e':h.get? b=some o:=W.of_hideAll (trk h H) e;refine⟨e',?_⟩;cases q:H b with
  | none=>rfl
  | some x=>
    have hm:b∈trk h H:=List.mem_filter.mpr ⟨List.mem_range.mpr (Heap.lt_size e'),by simp[q]⟩;have z:(Ey h H).get? b=none:=W.hideAll_none (trk h H) hm;rw[z] at e;cases e
def Xu (g h:Heap) (L:Addr):List (Addr×Obj):=(List.range h.objs.size).filterMap fun a=>if a=L∨(g.get? a).isSome=true then none else (h.get? a).map fun o=>(a,o)
def rest (g h:Heap) (L d:Addr):List (Addr×Obj):=(Xu g h L).filter fun p=>decide (p.1≠d)
structure Mod (K:W.Frag) (mg:Str→Option Value) (base:Heap):Prop where
  Ko:K.In base
  glob:base.Ns mainGlobals mg
  blt:∃mb,base.Ns builtinsNs mb∧∀x:Str,x≠ "__name__" →mb x=bootBuiltins x
  nolimit:base.NoLimit
set_option genInjectivity false in
structure Cx where
  prog:Program
  w:World
  K:W.Frag
  mg:Str→Option Value
  base:Heap
  A:Around
  N:List Str
  s₀:Shared
  H₀:Hp
  env:Env
  outer:List Env
  stack:List Env
  ex:List Addr
  fn:Str→Bool
  calm:Bool
  pn:List (Addr×Obj)
  xe:Value→Shared→Prop
def frs (l:List Env):List Addr:=l.filterMap (·.frame)
abbrev Cx.fs (X:Cx):List Addr:=frs X.outer
def Vis (sc:Scope) (x:Str):Prop:=sc.names.lookup x=some .local∨sc.names.lookup x=some .cell∨sc.names.lookup x=some .free
def Loc (sc:Scope) (x:Str):Prop:=sc.names.lookup x=some .local∨sc.names.lookup x=some .cell
def Look (env:Env) (h:Heap) (m:Str→Option Value) (x:Str) (u:Value):Prop:=
  (env.kindOf x=some .local∧m x=some u)∨((env.kindOf x=some .cell∨env.kindOf x=some .free)∧∃c,env.cells.lookup x=some c∧h.IsCell c (some u))
structure Cx.Ok (X:Cx):Prop where
  mod:Mod X.K X.mg X.base
  kind:X.env.scope.kind = .function
  glob:X.env.globals=mainGlobals
  blt:X.env.builtins=builtinsNs
  above:X.s₀.heap.objs.size≤X.env.locals
  inj:∀x y c,X.env.cells.lookup x=some c→X.env.cells.lookup y=some c→x=y
  has:∀x,(X.env.kindOf x=some .cell∨X.env.kindOf x=some .free)→∃c,X.env.cells.lookup x=some c
  cab:∀x c,X.fn x=true→X.env.cells.lookup x=some c→X.s₀.heap.objs.size≤c
  hd:X.calm=true→X.A.handled=none
  frames:X.A.frames=some X.stack
  stk:X.stack=X.outer∨(X.stack=X.env::X.outer∧X.env.frame=some X.env.locals)
  Xv:∀b∈X.ex,b≠X.env.locals∧∀x c,X.env.cells.lookup x=some c→c≠b
  bs:∀b o,X.base.get? b=some o→X.s₀.heap.get? b=some o∧X.H₀ b=none
  P0:X.base.objs.size≤X.s₀.heap.objs.size
  Hw:∀b o,X.base.get? b=some o→b∉X.ex
  Ez:∀b∈X.ex,b∉X.fs
  qU:X.s₀.heap.FunFrames X.base X.outer
  RV:∀b∈X.fs,X.H₀ b=none
structure Inv (X:Cx) (p_:List (Addr×Obj)) (σ:List (Option V)) (H:Hp) (s:Shared):Prop where
  ok:X.Ok
  os:s.os=X.s₀.os
  bare:AllBare s.gens
  base:Un X.fs X.ex X.H₀ H X.s₀.heap s.heap
  loc:∃m,s.heap.Ns X.env.locals m∧∀(i:Nat) (x:Str) (v:V),X.N[i]? = some x→σ[i]? = some (some v)→Vis X.env.scope x→∃u,RelV v u∧Look X.env s.heap m x u
  cell:∀x c,X.env.cells.lookup x=some c→∃v,s.heap.IsCell c v
  free:H X.env.locals=none
  gq:∀x c,X.env.cells.lookup x=some c→H c=none
  pin:∀p∈X.pn++p_,s.heap.get? p.1=some p.2∧H p.1=none∧p.1≠X.env.locals∧p.1∉X.fs∧∀v,p.2.data≠.cell v
  hok:qT X.prog X.w H s.heap
  len:σ.length=X.N.length
section
variable {X:Cx} {p_:List (Addr×Obj)} {σ:List (Option V)} {H H':Hp} {s:Shared} {h':Heap}
theorem Cx.Ok.qi8 (ok:X.Ok) {b:Addr} {o:Obj} (e:X.base.get? b=some o):b∉X.fs:=fun hb=>by
  have:=(ok.qU.mem hb).1;rw[e] at this;cases this
theorem Inv.bs (I:Inv X p_ σ H s):∀b o,X.base.get? b=some o→s.heap.get? b=some o∧H b=none:=fun b o e=>
  ⟨I.base.keep b o (I.ok.bs b o e).1 (I.ok.bs b o e).2 (I.ok.qi8 e) (I.ok.Hw b o e),I.base.free b o (I.ok.bs b o e).1 (I.ok.bs b o e).2 (I.ok.Hw b o e)⟩
theorem Inv.bk (I:Inv X p_ σ H s):∀b o,X.base.get? b=some o→s.heap.get? b=some o:=fun b o e=>(I.bs b o e).1
theorem Inv.mod (I:Inv X p_ σ H s):Mod X.K X.mg X.base:=I.ok.mod
theorem Inv.mR (I:Inv X p_ σ H s):X.K.In s.heap:=I.ok.mod.Ko.keeps I.bk
theorem Inv.lt (I:Inv X p_ σ H s):X.env.locals<s.heap.objs.size:=let ⟨_,hn,_⟩:=I.loc;hn.lt
theorem Inv.sz (I:Inv X p_ σ H s):X.s₀.heap.objs.size≤s.heap.objs.size:=Nat.le_trans I.ok.above (Nat.le_of_lt I.lt)
theorem Inv.qi9 (I:Inv X p_ σ H s) {a:Addr} (h:s.heap.objs.size≤a):a∉X.fs:=fun hb=>by
  obtain⟨_,o,ho,_⟩:=I.ok.qU.mem hb;exact absurd (Nat.lt_of_lt_of_le (Heap.lt_size ho) (Nat.le_trans I.sz h)) (Nat.lt_irrefl _)
theorem Inv.RW (I:Inv X p_ σ H s):∀x c,X.env.cells.lookup x=some c→c≠X.env.locals:=fun x c e z=>by
  obtain⟨v,o,ho,hd⟩:=I.cell x c e;obtain⟨m,⟨o',es,ep,ho',hd',_⟩,_⟩:=I.loc;rw[z,ho'] at ho;cases ho;rw[hd'] at hd;cases hd
theorem Inv.qU (I:Inv X p_ σ H s):s.heap.FunFrames X.base X.outer:=by
  have all:∀(l:List Env),(∀b∈frs l,b∈X.fs)→X.s₀.heap.FunFrames X.base l→s.heap.FunFrames X.base l:=by
    intro l
    induction l with
    | nil=>intro _ _;trivial
    | cons env r ih=>
      intro hs hl;obtain⟨hk,⟨L,o,hf,hn,ho,hd⟩,hr⟩:=hl;have hL:L∈X.fs:=hs L (by unfold frs;rw[List.filterMap_cons,hf];exact List.mem_cons_self);obtain⟨sl,e⟩:=I.base.slot L o ho (I.ok.RV L hL) hL fun z=>I.ok.Ez L z hL;exact⟨hk,⟨L,_,hf,hn,e,hd⟩,ih (fun b hb=>hs b (by unfold frs;rw[List.filterMap_cons,hf];exact List.mem_cons_of_mem _ hb)) hr⟩
  exact all X.outer (fun _ hb=>hb) I.ok.qU
theorem Inv.stack (I:Inv X p_ σ H s):s.heap.FunFrames X.base X.stack:=by
  rcases I.ok.stk with e | ⟨e,hf⟩
  ·rw[e];exact I.qU
  ·rw[e];obtain⟨m,hn,_⟩:=I.loc;refine .cons (by rw[I.ok.kind];decide) hf hn ?_ I.qU;exact Heap.get?_none_of_le (Nat.le_trans I.ok.P0 I.ok.above)
theorem Inv.um (I:Inv X p_ σ H s):∀b∈frs X.stack,b∈X.env.locals::X.fs:=fun b hb=>by
  rcases I.ok.stk with e | ⟨e,hf⟩
  ·rw[e] at hb;exact List.mem_cons_of_mem _ hb
  ·rw[e] at hb;unfold frs at hb;rw[List.filterMap_cons,hf] at hb;exact hb
theorem Inv.yr (I:Inv X p_ σ H s):∀b∈frs X.stack,H b=none:=fun b hb=>by
  rcases List.mem_cons.mp (I.um b hb) with e | hb
  ·rw[e];exact I.free
  ·obtain⟨_,o,ho,_⟩:=I.ok.qU.mem hb;exact I.base.free b o ho (I.ok.RV b hb) fun z=>I.ok.Ez b z hb
theorem Inv.step {g':Array GenState} {t':Nat} {d':Drawn} {ch:List Addr} (I:Inv X p_ σ H s)
    (hch:∀b∈ch,(b∈X.ex∨X.s₀.heap.objs.size≤b)∧b≠X.env.locals∧(∀x c,X.env.cells.lookup x=some c→c≠b)∧∀p∈X.pn++p_,p.1≠b)
    (keep:∀b o,b≠X.env.locals→b∉X.fs→b∉ch→s.heap.get? b=some o→H b=none→h'.get? b=some o)
    (slot:∀b o,b≠X.env.locals→b∈X.fs→b∉ch→s.heap.get? b=some o→H b=none→∃sl,h'.get? b=some {o with slots:=sl}) (free:∀b o,b∉ch→s.heap.get? b=some o→H b=none→H' b=none)
    (there:∀b o,b∉ch→s.heap.get? b=some o→∃o',h'.get? b=some o')
    (tups:∀b xs,H b=some (.tup xs)→H' b=some (.tup xs)) (oU:∀b o u,H b=some (.Hv o u)→H' b=some (.Hv o u)) (pF:∀b ps,H b=some (.Z_ ps)→∃more,H' b=some (.Z_ (ps++more)))
    (ns:∀m,s.heap.Ns X.env.locals m→h'.Ns X.env.locals m) (hok:qT X.prog X.w H' h') (hg:AllBare g') :
    Inv X p_ σ H' {s with heap:=h',gens:=g',drawn:=d',toks:=t'}:=by
  have neL:∀b o,X.s₀.heap.get? b=some o→b≠X.env.locals:=fun b o e=>Nat.ne_of_lt (Nat.lt_of_lt_of_le (Heap.lt_size e) I.ok.above);have neC:∀b o,X.s₀.heap.get? b=some o→b∉X.ex→b∉ch:=fun b o e hx hb=>by
    rcases(hch b hb).1 with z | z
    ·exact hx z
    ·exact absurd (Nat.lt_of_lt_of_le (Heap.lt_size e) z) (Nat.lt_irrefl _)
  have cellK:∀x c,X.env.cells.lookup x=some c→∀v,s.heap.IsCell c v→h'.IsCell c v:=fun x c e v ⟨o,ho,hd⟩=>by
    have nch:c∉ch:=fun z=>(hch c z).2.2.1 x c e rfl
    by_cases hc:c∈X.fs
    ·obtain⟨sl,q⟩:=slot c o (I.RW x c e) hc nch ho (I.gq x c e);exact⟨_,q,hd⟩
    ·exact⟨o,keep c o (I.RW x c e) hc nch ho (I.gq x c e),hd⟩
  refine⟨I.ok,I.os,hg,⟨fun b o e n hb hx=>?_,fun b o e n hb hx=>?_,fun b o e n hx=>?_,fun b o e hx=>?_,fun b xs e=>tups b xs (I.base.tups b xs e),fun b o xs e=>oU b o xs (I.base.oU b o xs e),fun b ps e=>?_⟩,?_,fun x c e=>?_,?_,fun x c e=>?_,fun p hp=>?_,hok,I.len⟩
  ·exact keep b o (neL b o e) hb (neC b o e hx) (I.base.keep b o e n hb hx) (I.base.free b o e n hx)
  ·obtain⟨sl,e1⟩:=I.base.slot b o e n hb hx;obtain⟨sl',e2⟩:=slot b _ (neL b o e) hb (neC b o e hx) e1 (I.base.free b o e n hx);exact⟨sl',e2⟩
  ·obtain⟨o',e1⟩:=I.base.there b o e hx;exact free b o' (neC b o e hx) e1 (I.base.free b o e n hx)
  ·obtain⟨o',e1⟩:=I.base.there b o e hx;exact there b o' (neC b o e hx) e1
  ·obtain⟨m1,e1⟩:=I.base.pF b ps e;obtain⟨m2,e2⟩:=pF b _ e1;exact⟨m1++m2,by rw[e2,Array.append_assoc]⟩
  · obtain⟨m,hn,hl⟩:=I.loc;refine⟨m,ns m hn,fun i x v e1 e2 e3=>?_⟩;obtain⟨u,r,l⟩:=hl i x v e1 e2 e3;refine⟨u,r,?_⟩
    rcases l with l | ⟨k,c,e,z⟩
    ·exact .inl l
    ·exact .inr ⟨k,c,e,cellK x c e _ z⟩
  ·obtain⟨v,z⟩:=I.cell x c e;exact⟨v,cellK x c e v z⟩
  ·obtain⟨m,⟨o,_,_,ho,_⟩,_⟩:=I.loc;exact free _ o (fun z=>(hch _ z).2.1 rfl) ho I.free
  ·obtain⟨v,o,ho,hd⟩:=I.cell x c e;exact free c o (fun z=>(hch c z).2.2.1 x c e rfl) ho (I.gq x c e)
  ·obtain⟨e,n,ne,nf,d⟩:=I.pin p hp;have nch:p.1∉ch:=fun z=>(hch p.1 z).2.2.2 p hp rfl;exact⟨keep p.1 p.2 ne nf nch e n,free p.1 p.2 nch e n,ne,nf,d⟩
theorem Inv.un {t':Nat} (I:Inv X p_ σ H s) (u:Un X.fs [] H H' s.heap h') (hok:qT X.prog X.w H' h'):Inv X p_ σ H' {s with heap:=h',toks:=t'}:=by
  obtain⟨m,⟨o,es,ep,ho,r⟩,_⟩:=id I.loc;obtain⟨sl,hL⟩:=u.any ho I.free (by simp);exact I.step (g':=s.gens) (d':=s.drawn) (ch:=[]) (fun _ z=>nomatch z) (fun b o _ hb _ e n=>u.keep b o e n hb (by simp)) (fun b o _ hb _ e n=>u.slot b o e n hb (by simp)) (fun b o _ e n=>u.free b o e n (by simp)) (fun b o _ e=>u.there b o e (by simp)) u.tups u.oU u.pF (fun m' hm=>by
    obtain⟨o',es',ep',ho',r'⟩:=hm;rw[ho] at ho';cases ho';exact⟨_,es',ep',hL,r'⟩) hok I.bare
theorem Inv.call {g':Array GenState} {t':Nat} {d':Drawn} {ch:List Addr} (I:Inv X p_ σ H s) (u:Un (frs X.stack) ch H H' s.heap h') (hok:qT X.prog X.w H' h') (hg:AllBare g')
    (hch:∀b∈ch,(b∈X.ex∨X.s₀.heap.objs.size≤b)∧b≠X.env.locals∧(∀x c,X.env.cells.lookup x=some c→c≠b)∧∀p∈X.pn++p_,p.1≠b) :
    Inv X p_ σ H' {s with heap:=h',gens:=g',drawn:=d',toks:=t'}:=by
  obtain⟨m,⟨o,es,ep,ho,r⟩,_⟩:=id I.loc;obtain⟨sl,hL⟩:=u.any ho I.free fun z=>(hch _ z).2.1 rfl;exact I.step (ch:=ch) hch (fun b o hL hb hc e n=>u.keep b o e n (fun z=>(List.mem_cons.mp (I.um b z)).elim hL hb) hc) (fun b o _ _ hc e n=>u.any e n hc) (fun b o hc e n=>u.free b o e n hc) (fun b o hc e=>u.there b o e hc) u.tups u.oU u.pF (fun m' hm=>by
    obtain⟨o',es',ep',ho',r'⟩:=hm;rw[ho] at ho';cases ho';exact⟨_,es',ep',hL,r'⟩) hok hg
theorem Inv.turned {t':Nat} {it:Addr} (I:Inv X p_ σ H s) (k:∀b o,b≠it→s.heap.get? b=some o→h'.get? b=some o) (hn:H it=none) (hL:it≠X.env.locals)
    (h1:it∈X.ex∨X.s₀.heap.objs.size≤it) (h2:∀x c,X.env.cells.lookup x=some c→c≠it) (h3:∀p∈X.pn++p_,p.1≠it):Inv X p_ σ H {s with heap:=h',toks:=t'}:=by
  have nit:∀b u,H b=some u→b≠it:=fun b u e z=>by rw[z,hn] at e;cases e
  refine I.step (g':=s.gens) (d':=s.drawn) (ch:=[it]) (fun b hb=>?_) (fun b o _ _ hc e _=>k b o (fun z=>hc (by simp[z])) e) (fun b o _ _ hc e _=>⟨o.slots,k b o (fun z=>hc (by simp[z])) e⟩) (fun _ _ _ _ n=>n)
    (fun b o hc e=>⟨o,k b o (fun z=>hc (by simp[z])) e⟩) (fun _ _ e=>e) (fun _ _ _ e=>e) (fun b ps e=>⟨#[],by rw[e];simp⟩) (fun m hm=>?_) (fun b u e=>?_) I.bare
  · have e:b=it:=by simpa using hb
    subst e;exact⟨h1,hL,h2,h3⟩
  ·obtain⟨o,es,ep,ho,r⟩:=hm;exact⟨o,es,ep,k _ o (Ne.symm hL) ho,r⟩
  · refine(I.hok b u e).stay (fun c v hc q=>k c v ?_ q) (fun _ q=>q) fun _ _ q=>q
    rcases hc with z | z
    ·rw[z];exact nit b u e
    ·exact nit c _ z
theorem Inv.tok (I:Inv X p_ σ H s) (t:Nat):Inv X p_ σ H {s with toks:=t}:=I.un (h':=s.heap) (t':=t) Un.refl I.hok
theorem Inv.kept {t':Nat} (I:Inv X p_ σ H s) (k:∀b u,s.heap.get? b=some u→h'.get? b=some u):Inv X p_ σ H {s with heap:=h',toks:=t'}:=I.un (Un.kept k) (I.hok.kept k)
theorem Inv.laid {a:Addr} {o:HO} {t':Nat} (I:Inv X p_ σ H s) (k:∀b u,s.heap.get? b=some u→h'.get? b=some u) (hp:s.heap.objs.size≤a) (new:cj X.prog X.w (upd H a o) h' a o) :
    Inv X p_ σ (upd H a o) {s with heap:=h',toks:=t'}:=I.un (Un.laid k hp (I.hok.fresh hp)) (I.hok.laid k hp new)
theorem Inv.write {x e:Addr} {o:HO} {t':Nat} (I:Inv X p_ σ H s) (mu:Mut (H x)) (he:e=x∨H e=some (.own x)) (k:∀b u,b≠e→s.heap.get? b=some u→h'.get? b=some u) (heo:∃u,h'.get? e=some u)
    (new:cj X.prog X.w (upd H x o) h' x o):Inv X p_ σ (upd H x o) {s with heap:=h',toks:=t'}:=I.un (Un.write mu he k heo) (I.hok.write mu he k heo new)
theorem Inv.Nk {yQ:List (Addr×Obj)} (I:Inv X p_ σ H s) (h:∀p∈yQ,s.heap.get? p.1=some p.2∧H p.1=none∧p.1≠X.env.locals∧p.1∉X.fs∧∀v,p.2.data≠.cell v):Inv X yQ σ H s:=
  ⟨I.ok,I.os,I.bare,I.base,I.loc,I.cell,I.free,I.gq,fun p hp=>(List.mem_append.mp hp).elim (fun z=>I.pin p (List.mem_append_left _ z)) (h p),I.hok,I.len⟩
theorem yR {N:List Str} (hN:N.Nodup) {i j:Nat} {x:Str} (a:N[i]? = some x) (b:N[j]? = some x):i=j:=by
  obtain⟨h1,e1⟩:=List.getElem?_eq_some_iff.mp a;obtain⟨h2,e2⟩:=List.getElem?_eq_some_iff.mp b;exact(List.getElem_inj hN).mp (e1.trans e2.symm)
theorem rZ {M:Model} {A:Around} {E:Value→Shared→Prop} {i:Nat} {x:Str} {v:V} {u:Value} {Q:Unit→Shared→Prop} (I:Inv X p_ σ H s) (hN:X.N.Nodup) (hi:X.N[i]? = some x) (hx:Loc X.env.scope x) (r:RelV v u)
    (h:∀s',Inv X p_ (σ.set i (some v)) H s'→(∃a,Heap.SameBut a s.heap s'.heap∧(a=X.env.locals∨X.env.cells.lookup x=some a))→Q () s') (hf:X.fn x=true∨X.env.scope.names.lookup x=some .local:=by first | exact .inl rfl | exact .inr rfl | assumption):wpAny M A (storeName X.env x u) Q E s:=by
  obtain⟨m,hn,hl⟩:=id I.loc;have hcls:(X.env.scope.kind == .class || (X.env.scope.kind == .module && X.env.locals != X.env.globals))=false:=by rw[I.ok.kind];rfl
  have hiσ:i<σ.length:=by rw[I.len];exact(List.getElem?_eq_some_iff.mp hi).1
  have RW:=I.RW;have tracked:∀{a:Addr} {h':Heap},(∃o,s.heap.get? a=some o∧H a=none)→Heap.SameBut a s.heap h'→qT X.prog X.w H h':=fun {a h'} ha hs b ob e=>by
    obtain⟨_,_,hfree⟩:=ha;refine(I.hok b ob e).stay (fun c w' hc q=>(hs.2 c ?_).trans q) (fun _ q=>q) fun _ _ q=>q;rintro rfl
    rcases hc with rfl | hc
    ·rw[hfree] at e;cases e
    ·rw[hfree] at hc;cases hc
  rcases hx with hk | hk
  · refine wpAny_storeName_local hk hn (fun h' hn' hs=>?_) hcls;obtain⟨oL,_,_,hoL,_⟩:=id hn;refine h _ ⟨I.ok,I.os,I.bare,⟨fun b o e n hb hx=>?_,fun b o e n hb hx=>?_,I.base.free,fun b o e hx=>?_,I.base.tups,I.base.oU,I.base.pF⟩,⟨_,hn',fun j y v' e1 e2 e3=>?_⟩,fun y c e=>?_,I.free,I.gq,fun p hp=>?_,tracked ⟨oL,hoL,I.free⟩ hs,by simpa using I.len⟩ ⟨_,hs,.inl rfl⟩
    ·exact(hs.2 b (Nat.ne_of_lt (Nat.lt_of_lt_of_le (Heap.lt_size e) I.ok.above))).trans (I.base.keep b o e n hb hx)
    ·obtain⟨sl,e1⟩:=I.base.slot b o e n hb hx;exact⟨sl,(hs.2 b (Nat.ne_of_lt (Nat.lt_of_lt_of_le (Heap.lt_size e) I.ok.above))).trans e1⟩
    ·obtain⟨o',e1⟩:=I.base.there b o e hx;exact⟨o',(hs.2 b (Nat.ne_of_lt (Nat.lt_of_lt_of_le (Heap.lt_size e) I.ok.above))).trans e1⟩
    · by_cases hj:j=i
      ·subst hj;rw[hi] at e1;cases e1;rw[List.getElem?_set_self hiσ] at e2;cases e2;exact⟨u,r,.inl ⟨hk,by simp⟩⟩
      · rw[List.getElem?_set_ne (Ne.symm hj)] at e2;obtain⟨u',r',q⟩:=hl j y v' e1 e2 e3;refine⟨u',r',?_⟩
        rcases q with⟨k,e⟩ | ⟨k,c,e,z⟩
        ·refine .inl ⟨k,?_⟩;have:y≠x:=fun e=>hj (yR hN e1 (e▸hi));simp[this,e]
        ·exact .inr ⟨k,c,e,z.sameBut hs (RW y c e)⟩
    ·obtain⟨w',z⟩:=I.cell y c e;exact⟨w',z.sameBut hs (RW y c e)⟩
    ·obtain⟨e,n,ne,nf,d⟩:=I.pin p hp;exact⟨(hs.2 p.1 ne).trans e,n,ne,nf,d⟩
  · have hfn:X.fn x=true:=by
      rcases hf with z | z
      ·exact z
      ·rw[z] at hk;cases hk
    obtain⟨c,hc⟩:=I.ok.has x (.inl hk);obtain⟨w',z⟩:=I.cell x c hc;refine wpAny_storeName_cell I.ok.kind hk hc z (fun h' hc' hs=>?_);obtain⟨oc,hoc,qi_⟩:=id z;refine h {s with heap:=h'} ⟨I.ok,I.os,I.bare,⟨fun b o e n hb hx=>?_,fun b o e n hb hx=>?_,I.base.free,fun b o e hx=>?_,I.base.tups,I.base.oU,I.base.pF⟩,⟨m,hn.sameBut hs (Ne.symm (RW x c hc)),fun j y v' e1 e2 e3=>?_⟩,fun y c' e=>?_,I.free,I.gq,fun p hp=>?_,tracked ⟨oc,hoc,I.gq x c hc⟩ hs,by simpa using I.len⟩ ⟨c,hs,.inr hc⟩
    ·exact(hs.2 b (Nat.ne_of_lt (Nat.lt_of_lt_of_le (Heap.lt_size e) (I.ok.cab x c hfn hc)))).trans (I.base.keep b o e n hb hx)
    ·obtain⟨sl,e1⟩:=I.base.slot b o e n hb hx;exact⟨sl,(hs.2 b (Nat.ne_of_lt (Nat.lt_of_lt_of_le (Heap.lt_size e) (I.ok.cab x c hfn hc)))).trans e1⟩
    ·obtain⟨o',e1⟩:=I.base.there b o e hx;exact⟨o',(hs.2 b (Nat.ne_of_lt (Nat.lt_of_lt_of_le (Heap.lt_size e) (I.ok.cab x c hfn hc)))).trans e1⟩
    · by_cases hj:j=i
      ·subst hj;rw[hi] at e1;cases e1;rw[List.getElem?_set_self hiσ] at e2;cases e2;exact⟨u,r,.inr ⟨.inl hk,c,hc,hc'⟩⟩
      · rw[List.getElem?_set_ne (Ne.symm hj)] at e2;obtain⟨u',r',q⟩:=hl j y v' e1 e2 e3;refine⟨u',r',?_⟩
        rcases q with q | ⟨k,c',e,z'⟩
        ·exact .inl q
        ·refine .inr ⟨k,c',e,z'.sameBut hs ?_⟩;rintro rfl;exact hj (yR hN e1 (I.ok.inj _ _ _ e hc▸hi))
    · by_cases hcc:c'=c
      ·subst hcc;exact⟨_,hc'⟩
      ·obtain⟨w2,z2⟩:=I.cell y c' e;exact⟨w2,z2.sameBut hs hcc⟩
    ·obtain⟨e,n,ne,nf,d⟩:=I.pin p hp;refine⟨(hs.2 p.1 ?_).trans e,n,ne,nf,d⟩;intro q;rw[q,hoc] at e;have q':oc=p.2:=Option.some.inj e;exact d w' (by rw[← q'];exact qi_)
theorem yS {M:Model} {A:Around} {E:Value→Shared→Prop} {i:Nat} {x:Str} {v:V} {u:Value} {Q:Unit→Shared→Prop} (I:Inv X p_ σ H s) (hN:X.N.Nodup) (hi:X.N[i]? = some x) (hx:Loc X.env.scope x) (r:RelV v u)
    (h:∀s',Inv X p_ (σ.set i (some v)) H s'→Q () s') (hf:X.fn x=true∨X.env.scope.names.lookup x=some .local:=by first | exact .inl rfl | exact .inr rfl | assumption):wpAny M A (storeName X.env x u) Q E s:=
  rZ I hN hi hx r (fun s' I' _=>h s' I') hf
theorem Inv.call' {s':Shared} {ch:List Addr} (I:Inv X p_ σ H s) (ho:s'.os=s.os) (u:Un (frs X.stack) ch H H' s.heap s'.heap) (hok:qT X.prog X.w H' s'.heap) (hg:AllBare s'.gens)
    (hch:∀b∈ch,(b∈X.ex∨X.s₀.heap.objs.size≤b)∧b≠X.env.locals∧(∀x c,X.env.cells.lookup x=some c→c≠b)∧∀p∈X.pn++p_,p.1≠b):Inv X p_ σ H' s':=by
  obtain⟨h',g',d',t',o'⟩:=s';have e:o'=s.os:=ho;subst e;exact I.call (g':=g') (t':=t') (d':=d') u hok hg hch
end
abbrev XK:=Value→Option Addr→Hp→Prop
abbrev St:=List (Option V)
abbrev VK:=V→Hp→Prop
abbrev TE:=St→Hp→VK→Prop
abbrev TT:=St→Hp→(Bool→Hp→Prop)→Prop
abbrev TA:=St→Hp→(List V→Hp→Prop)→Prop
structure Ends where
  nx:St→Hp→Prop
  rt:VK
  bk:St→Hp→Prop:=fun _ _=>False
  ct:St→Hp→Prop:=fun _ _=>False
abbrev TS:=Ends→St→Hp→Prop
def EP (X:Cx) (p_:List (Addr×Obj)) (σ:St) (Q:VK) (u:Value) (s':Shared):Prop:=∃v H',Inv X p_ σ H' s'∧RelV v u∧Q v H'
def TP (X:Cx) (p_:List (Addr×Obj)) (σ:St) (Q:Bool→Hp→Prop) (b:Bool) (s':Shared):Prop:=∃H',Inv X p_ σ H' s'∧Q b H'
def AP (X:Cx) (p_:List (Addr×Obj)) (σ:St) (Q:List V→Hp→Prop) (us:List Value) (s':Shared):Prop:=∃vs H',Inv X p_ σ H' s'∧Vals vs us∧Q vs H'
def SP (X:Cx) (p_:List (Addr×Obj)) (D:Ends) (f:Flow) (s':Shared):Prop:=
  match f with
  | .next=>∃σ' H',Inv X p_ σ' H' s'∧D.nx σ' H'
  | .brk=>∃σ' H',Inv X p_ σ' H' s'∧D.bk σ' H'
  | .cont=>∃σ' H',Inv X p_ σ' H' s'∧D.ct σ' H'
  | .ret u=>∃v σ' H',Inv X p_ σ' H' s'∧RelV v u∧D.rt v H'
def PE (X:Cx) (e:Expr) (t:TE):Prop:=
  ∀(p_:List (Addr×Obj)) (s:Shared) (σ:St) (H:Hp) (Q:VK),Inv X p_ σ H s→t σ H Q→wpAny (model X.prog X.w) X.A (eval e X.env) (EP X p_ σ Q) X.xe s
def PT (X:Cx) (e:Expr) (t:TT):Prop:=
  ∀(p_:List (Addr×Obj)) (s:Shared) (σ:St) (H:Hp) (Q:Bool→Hp→Prop),Inv X p_ σ H s→t σ H Q→wpAny (model X.prog X.w) X.A (isTrue e X.env (eval e X.env)) (TP X p_ σ Q) X.xe s
def PW (X:Cx) (e:Expr) (t:TT):Prop:=
  ∀(whole:Sem Value) (p_:List (Addr×Obj)) (s:Shared) (σ:St) (H:Hp) (Q:Bool→Hp→Prop),Inv X p_ σ H s→t σ H Q→wpAny (model X.prog X.w) X.A (isTrue e X.env whole) (TP X p_ σ Q) X.xe s
theorem PW.pt {X:Cx} {e:Expr} {t:TT} (h:PW X e t):PT X e t:=h _
def PA (X:Cx) (es:List Expr) (t:TA):Prop:=
  ∀(pos:Pos) (p_:List (Addr×Obj)) (s:Shared) (σ:St) (H:Hp) (Q:List V→Hp→Prop),Inv X p_ σ H s→t σ H Q→wpAny (model X.prog X.w) X.A (spliced (backTo pos (starEach es X.env))) (AP X p_ σ Q) X.xe s
def PS (X:Cx) (st:Stmt) (t:TS):Prop:=
  ∀(p_:List (Addr×Obj)) (s:Shared) (σ:St) (H:Hp) (D:Ends),Inv X p_ σ H s→t D σ H→wpAny (model X.prog X.w) X.A (exec st X.env) (SP X p_ D) X.xe s
def Dg (X:Cx) (st:List Stmt) (t:TS):Prop:=
  ∀(p_:List (Addr×Obj)) (s:Shared) (σ:St) (H:Hp) (D:Ends),Inv X p_ σ H s→t D σ H→wpAny (model X.prog X.w) X.A (execs st X.env) (SP X p_ D) X.xe s
theorem cB {α:Type} {t:Sem α} {Q Q':α→Shared→Prop} {M:Model} {A:Around} {E:Value→Shared→Prop} {s:Shared} (h:wpAny M A t Q E s) (hQ:∀a s,Q a s→Q' a s):wpAny M A t Q' E s:=wpAny_mono h hQ fun _ _ x=>x
section
variable {X:Cx}
def qaR (i:Nat):TE:=fun σ H Q=>∃v,σ[i]? = some (some v)∧Q v H
def tC (v:V):TE:=fun _ H Q=>Q v H
theorem qaS {i:Nat} {x:Str} {pos:Pos} (hN:X.N[i]? = some x) (hv:Vis X.env.scope x) (hd:(x == ("__debug__" : Str))=false:=by decide) (hcd:(x == ("__classdict__" : Str))=false:=by decide):PE X (.Name x pos) (qaR i):=by
  intro p_ s σ H Q I h;obtain⟨v,e,h⟩:=h;obtain⟨m,hn,hl⟩:=I.loc;obtain⟨u,r,l⟩:=hl i x v hN e hv;have fin:EP X p_ σ Q u s:=⟨v,H,I,r,h⟩
  rcases l with⟨hk,hm⟩ | ⟨hk,c,hc,hcell⟩
  ·exact wpAny_Name (wpAny_loadName_local I.ok.kind hk hn hm fin) hd
  · rcases hk with hk | hk
    ·exact wpAny_Name (wpAny_loadName_cell I.ok.kind hk hc hcell fin) hd
    ·exact wpAny_Name (wpAny_loadName_free I.ok.kind hk hc hcell fin hcd) hd
theorem aG {i j pos}:PE X (.Constant (.int i) j pos) (tC (.int i)):=fun _ _ _ H _ I h=>wpAny_Constant_int ⟨.int i,H,I.tok _,⟨_,rfl⟩,h⟩
theorem lB {b j pos}:PE X (.Constant (.bool b) j pos) (tC (.bl b)):=fun _ _ _ H _ I h=>Constant_bool ⟨.bl b,H,I,rfl,h⟩
theorem yU {j pos}:PE X (.Constant .none j pos) (tC .non):=fun _ _ _ H _ I h=>Constant_none ⟨.non,H,I,rfl,h⟩
theorem jB {x j pos}:PE X (.Constant (.str x) j pos) (tC (.str x)):=fun _ _ _ H _ I h=>Calls.Constant_str ⟨.str x,H,I.tok _,⟨_,rfl⟩,h⟩
def Gl (X:Cx) (x:Str):Prop:=X.env.kindOf x=some .globalImplicit
theorem mU {E:Value→Shared→Prop} {p_:List (Addr×Obj)} {s:Shared} {σ:St} {H:Hp} {x:Str} {u:Value} {pos:Pos} {Q:Value→Shared→Prop} (I:Inv X p_ σ H s) (hg:Gl X x) (hm:X.mg x=some u) (h:Q u s)
    (hd:(x == ("__debug__" : Str))=false:=by decide):wpAny (model X.prog X.w) X.A (eval (.Name x pos) X.env) Q E s:=
  Calls.Name_function_global I.ok.kind hg (Calls.loadGlobal_global (by rw[I.ok.glob];exact I.mod.glob.keeps I.bk) hm h) hd
theorem jC {E:Value→Shared→Prop} {p_:List (Addr×Obj)} {s:Shared} {σ:St} {H:Hp} {x:Str} {u:Value} {pos:Pos} {Q:Value→Shared→Prop} (I:Inv X p_ σ H s) (hg:Gl X x) (hm:X.mg x=none) (hv:bootBuiltins x=some u) (h:Q u s)
    (hn:x≠ "__name__" :=by decide) (hd:(x == ("__debug__" : Str))=false:=by decide):wpAny (model X.prog X.w) X.A (eval (.Name x pos) X.env) Q E s:=by
  obtain⟨mb,h1,h2⟩:=I.mod.blt;exact Calls.Name_function_global I.ok.kind hg (Calls.loadGlobal_builtin (by rw[I.ok.glob];exact I.mod.glob.keeps I.bk) hm (by rw[I.ok.blt];exact h1.keeps I.bk) ((h2 x hn).trans hv) h) hd
theorem uH {x:Str} {v:V} {u:Value} {pos:Pos} (hg:Gl X x) (hm:X.mg x=some u) (r:RelV v u) (hd:(x == ("__debug__" : Str))=false:=by decide):PE X (.Name x pos) (tC v):=
  fun _ _ _ H _ I h=>mU I hg hm ⟨v,H,I,r,h⟩ hd
theorem iU {x:Str} {v:V} {u:Value} {pos:Pos} (hg:Gl X x) (hm:X.mg x=none) (hv:bootBuiltins x=some u) (r:RelV v u) (hn:x≠ "__name__" :=by decide) (hd:(x == ("__debug__" : Str))=false:=by decide):PE X (.Name x pos) (tC v):=
  fun _ _ _ H _ I h=>jC I hg hm hv ⟨v,H,I,r,h⟩ hn hd
variable {a b:Expr} {ta tb:TE} {pos:Pos}
def PC (X:Cx) (op:CmpOp) (a b:Expr) (t:TE):Prop:=
  ∀(p_:List (Addr×Obj)) (s:Shared) (σ:St) (H:Hp) (Q:VK),Inv X p_ σ H s→t σ H Q→
    wpAny (model X.prog X.w) X.A (eval a X.env) (fun v s₁=>wpAny (model X.prog X.w) X.A (eval b X.env) (fun u s₂=>wpAny (model X.prog X.w) X.A (compareOp op v u) (EP X p_ σ Q) X.xe s₂) X.xe s₁) X.xe s
theorem Hx (b:Expr) {op:CmpOp} (h:op≠.In) (h2:op≠.NotIn):behindInMarks op b=false:=by
  have e1:(op == CmpOp.In)=false:=by cases op <;> first | rfl | exact absurd rfl h
  have e2:(op == CmpOp.NotIn)=false:=by cases op <;> first | rfl | exact absurd rfl h2
  cases b <;> simp[behindInMarks,e1,e2]
def tB (t:TE):TT:=fun σ H Q=>t σ H fun x H1=>∃c,x = .bl c∧Q c H1
theorem qaT {op:CmpOp} {t:TE} (h:PC X op a b t) (h1:behindInMarks op b=false:=by first | exact Hx _ (by decide) (by decide) | rfl):PT X (.Compare a [op] [b] pos) (tB t):=by
  intro p_ s σ H Q I hw;refine wpAny_isTrue_Compare1 (cB (h p_ s σ H _ I hw) fun v s1 h1=>cB h1 fun u s2 h2=>cB h2 fun c s3 zz=>?_) h1;obtain⟨x,H1,I1,r1,q1⟩:=zz;obtain⟨d,rfl,q⟩:=q1;cases r1;exact wpAny_truthy_bool ⟨H1,I1,q⟩
theorem qaU {e:Expr} {t:TE} (h:PE X e t) (he:∀whole,isTrue e X.env whole=(do let v ← whole;standAt e.pos;holding [v] (truthy v)):=by intro _;rfl):PT X e (tB t):=by
  intro p_ s σ H Q I hw;refine isTrue_plain (cB (h p_ s σ H _ I hw) fun v s1 zz=>?_) (he _);obtain⟨x,H1,I1,r1,q1⟩:=zz;obtain⟨d,rfl,q⟩:=q1;cases r1;exact wpAny_truthy_bool ⟨H1,I1,q⟩
variable {tA tB':TT} {rest:List Expr}
def qdH (t u:TT):TT:=fun σ H Q=>t σ H fun c H1=>if c=true then u σ H1 Q else Q false H1
def tOr (t u:TT):TT:=fun σ H Q=>t σ H fun c H1=>if c=true then Q true H1 else u σ H1 Q
def qdI (t:TT):TT:=fun σ H Q=>t σ H fun c H1=>Q (!c) H1
theorem uI (ha:PT X a tA):PW X (.BoolOp .And [a] pos) tA:=by
  intro wh p_ s σ H Q I h;refine isTrue_and (cB (ha p_ s σ H Q I h) fun c s1 e=>?_);cases c with
  | true=>exact isTrue_and_nil e
  | false=>exact e
theorem iV (ha:PT X a tA):PW X (.BoolOp .Or [a] pos) tA:=by
  intro wh p_ s σ H Q I h;refine isTrue_or (cB (ha p_ s σ H Q I h) fun c s1 e=>?_);cases c with
  | false=>exact isTrue_or_nil e
  | true=>exact e
theorem wC (ha:PT X a tA) (hb:PW X (.BoolOp .And (b::rest) pos) tB'):PW X (.BoolOp .And (a::b::rest) pos) (qdH tA tB'):=by
  intro wh p_ s σ H Q I h;refine isTrue_and (cB (ha p_ s σ H _ I h) fun c s1 zz=>?_);obtain⟨H1,I1,q1⟩:=zz;cases c with
  | true=>exact hb wh p_ s1 σ H1 Q I1 q1
  | false=>exact⟨H1,I1,q1⟩
theorem lY (ha:PT X a tA) (hb:PW X (.BoolOp .Or (b::rest) pos) tB'):PW X (.BoolOp .Or (a::b::rest) pos) (tOr tA tB'):=by
  intro wh p_ s σ H Q I h;refine isTrue_or (cB (ha p_ s σ H _ I h) fun c s1 zz=>?_);obtain⟨H1,I1,q1⟩:=zz;cases c with
  | true=>exact⟨H1,I1,q1⟩
  | false=>exact hb wh p_ s1 σ H1 Q I1 q1
theorem fD (ha:PT X a tA):PT X (.UnaryOp .Not a pos) (qdI tA):=by
  intro p_ s σ H Q I h;exact isTrue_not (ha p_ s σ H (fun c H1=>Q (!c) H1) I h)
def RX (ta tb:TE):TE:=fun σ H Q=>ta σ H fun x H1=>∃c,x = .bl c∧if c=true then tb σ H1 Q else Q (.bl false) H1
def RZ (ta:TE):TE:=fun σ H Q=>ta σ H fun x H1=>∃c,x = .bl c∧Q (.bl (!c)) H1
theorem uo {op} {t:TE} (h:PE X a t):PE X (.BoolOp op [a] pos) t:=fun p_ s σ H Q I hw=>BoolOp_one (h p_ s σ H Q I hw)
theorem qaV (ha:PE X a ta) (hb:PE X (.BoolOp .And (b::rest) pos) tb):PE X (.BoolOp .And (a::b::rest) pos) (RX ta tb):=by
  intro p_ s σ H Q I h;refine BoolOp_and (cB (ha p_ s σ H _ I h) fun v s1 zz=>?_);obtain⟨x,H1,I1,r1,q1⟩:=zz;obtain⟨c,rfl,q1⟩:=q1;cases r1;refine wpAny_truthy_bool ?_;cases c with
  | true=>exact hb p_ s1 σ H1 Q I1 q1
  | false=>exact⟨.bl false,H1,I1,rfl,q1⟩
theorem qaW (ha:PE X a ta):PE X (.UnaryOp .Not a pos) (RZ ta):=by
  intro p_ s σ H Q I h;refine UnaryOp_ (cB (ha p_ s σ H _ I h) fun v s1 zz=>?_);obtain⟨x,H1,I1,r1,q1⟩:=zz;obtain⟨c,rfl,q1⟩:=q1;cases r1;exact not_of (wpAny_truthy_bool ⟨.bl (!c),H1,I1,rfl,q1⟩)
def tIf (t:TT) (ta tb:TE):TE:=fun σ H Q=>t σ H fun c H1=>if c=true then ta σ H1 Q else tb σ H1 Q
theorem Hy {c:Expr} (hc:PT X c tA) (ha:PE X a ta) (hb:PE X b tb):PE X (.IfExp c a b pos) (tIf tA ta tb):=by
  intro p_ s σ H Q I h;refine wpAny_IfExp (cB (hc p_ s σ H _ I h) fun d s1 zz=>?_);obtain⟨H1,I1,q1⟩:=zz;cases d with
  | true=>exact ha p_ s1 σ H1 Q I1 q1
  | false=>exact hb p_ s1 σ H1 Q I1 q1
end
def aX (K:W.Frag) (H:Hp) (a:Addr) (xs:List V):Prop:=
  Rd H a (.lst xs)∨
    ∃(o:Obj) (its:Array Value) (n:Nat),K.lookup a=some o∧o.cls = .type "list" ∧o.dict=none∧o.data = .seq its n∧its.size≤sizeLine∧Vals xs its.toList
def d9 (K:W.Frag) (H:Hp) (a:Addr) (xs:List V):Prop:=
  Rd H a (.tup xs)∨
    ∃(o:Obj) (its:Array Value) (n:Nat),K.lookup a=some o∧o.cls = .type "tuple" ∧o.data = .seq its n∧its.size≤sizeLine∧Vals xs its.toList
def qja:Value→Option V
  | .none=>some .non
  | .bool b=>some (.bl b)
  | .int i _=>some (.int i)
  | .str x _=>some (.str x)
  | .bytes b _=>some (.Rz b)
  | .float b _=>some (.flt b)
  | .ref a=>some (.ref a)
  | .type n=>some (.ty n)
  | _=>none
theorem RelV.abs {x:V} {u:Value} (r:RelV x u):qja u=some x:=by
  cases x with
  | non=>cases r;rfl
  | bl _=>cases r;rfl
  | int _=>obtain⟨t,rfl⟩:=r;rfl
  | str _=>obtain⟨t,rfl⟩:=r;rfl
  | Rz _=>obtain⟨t,rfl⟩:=r;rfl
  | flt _=>obtain⟨t,rfl⟩:=r;rfl
  | ref _=>cases r;rfl
  | ty _=>cases r;rfl
theorem RelV.inj {x y:V} {u:Value} (r:RelV x u) (q:RelV y u):x=y:=Option.some.inj (r.abs.symm.trans q.abs)
theorem Vals.inj:∀{xs ys:List V} {us:List Value},Vals xs us→Vals ys us→xs=ys
  | _,_,_,.nil,.nil=>rfl
  | _,_,_,.cons r t,.cons r' t'=>by rw[r.inj r',Vals.inj t t']
section
variable {X:Cx} {p_:List (Addr×Obj)} {σ:St} {H:Hp} {s:Shared} {a:Addr} {xs ys:List V}
theorem aX.of {K:W.Frag} (h:H a=some (.lst xs)):aX K H a xs:=.inl (.inl h)
theorem d9.of {K:W.Frag} (h:H a=some (.tup xs)):d9 K H a xs:=.inl (.inl h)
theorem Inv.list (I:Inv X p_ σ H s) (h:aX X.K H a xs):∃its:List Value,Vals xs its∧PlainL s.heap a its.toArray∧xs.length≤sizeLine:=by
  rcases h with h | ⟨o,its,n,hk,hc,hd,hs,hz,r⟩
  ·obtain⟨z,its,n,r,e⟩:=h.ok I.hok;exact⟨its,r,⟨_,n,e,rfl,rfl,rfl⟩,z⟩
  ·refine⟨its.toList,r,⟨o,n,I.mR a o hk,hc,hd,by simpa using hs⟩,?_⟩;have e:=r.length;simp only[Array.length_toList] at e;omega
theorem Inv.tuple (I:Inv X p_ σ H s) (h:d9 X.K H a xs):∃its:List Value,Vals xs its∧IsTup s.heap a its.toArray∧xs.length≤sizeLine:=by
  rcases h with h | ⟨o,its,n,hk,hc,hs,hz,r⟩
  ·obtain⟨z,its,r,p⟩:=h.ok I.hok;exact⟨its,r,p,z⟩
  ·refine⟨its.toList,r,⟨o,I.mR a o hk,hc,n,by simpa using hs⟩,?_⟩;have e:=r.length;simp only[Array.length_toList] at e;omega
theorem Inv.j8 (I:Inv X p_ σ H s) (h:aX X.K H a xs) (h':aX X.K H a ys):xs=ys:=by
  obtain⟨its,r,⟨o,n,e,_,_,d⟩,_⟩:=I.list h;obtain⟨its',r',⟨o',n',e',_,_,d'⟩,_⟩:=I.list h';rw[e] at e';cases e';rw[d] at d';injection d' with d1 _;have:its=its':=by simpa using congrArg Array.toList d1
  subst this;exact r.inj r'
theorem Inv.Dh (I:Inv X p_ σ H s) (h:d9 X.K H a xs) (h':d9 X.K H a ys):xs=ys:=by
  obtain⟨its,r,⟨o,e,_,n,d⟩,_⟩:=I.tuple h;obtain⟨its',r',⟨o',e',_,n',d'⟩,_⟩:=I.tuple h';rw[e] at e';cases e';rw[d] at d';injection d' with d1 _;have:its=its':=by simpa using congrArg Array.toList d1
  subst this;exact r.inj r'
end
abbrev Cx.wish (X:Cx) (E:Value→Shared→Prop):Cx:={X with xe:=E}
abbrev Cx.RB (X:Cx):Cx:=X.wish fun _ _=>False
theorem Cx.Ok.wish {X:Cx} (ok:X.Ok) (E:Value→Shared→Prop):(X.wish E).Ok:=
  ⟨ok.mod,ok.kind,ok.glob,ok.blt,ok.above,ok.inj,ok.has,ok.cab,ok.hd,ok.frames,ok.stk,ok.Xv,ok.bs,ok.P0,ok.Hw,ok.Ez,ok.qU,ok.RV⟩
theorem Cx.Ok.qW {X:Cx} {E:Value→Shared→Prop} (ok:(X.wish E).Ok):X.Ok:=
  ⟨ok.mod,ok.kind,ok.glob,ok.blt,ok.above,ok.inj,ok.has,ok.cab,ok.hd,ok.frames,ok.stk,ok.Xv,ok.bs,ok.P0,ok.Hw,ok.Ez,ok.qU,ok.RV⟩
section
variable {X:Cx} {p_:List (Addr×Obj)} {σ:St} {H:Hp} {s:Shared} {E:Value→Shared→Prop}
theorem Inv.wish (I:Inv X p_ σ H s) (E:Value→Shared→Prop):Inv (X.wish E) p_ σ H s:=⟨I.ok.wish E,I.os,I.bare,I.base,I.loc,I.cell,I.free,I.gq,I.pin,I.hok,I.len⟩
theorem Inv.qW (I:Inv (X.wish E) p_ σ H s):Inv X p_ σ H s:=⟨I.ok.qW,I.os,I.bare,I.base,I.loc,I.cell,I.free,I.gq,I.pin,I.hok,I.len⟩
theorem SP.qW {D:Ends} {f:Flow} {s':Shared} (h:SP (X.wish E) p_ D f s'):SP X p_ D f s':=by
  cases f with
  | next=>obtain⟨σ',H',I,q⟩:=h;exact⟨σ',H',I.qW,q⟩
  | brk=>obtain⟨σ',H',I,q⟩:=h;exact⟨σ',H',I.qW,q⟩
  | cont=>obtain⟨σ',H',I,q⟩:=h;exact⟨σ',H',I.qW,q⟩
  | ret u=>obtain⟨v,σ',H',I,r,q⟩:=h;exact⟨v,σ',H',I.qW,r,q⟩
theorem Dg.RB {st:List Stmt} {t:TS} (h:Dg X.RB st t):Dg X st t:=fun p_ s σ H D I hw=>
  wpAny_mono (h p_ s σ H D (I.wish _) hw) (fun _ _ q=>q.qW) fun _ _ z=>False.elim z
end
section
variable {X:Cx} {st:Stmt} {rest:List Stmt} {t u:TS} {e:Expr} {te:TE} {pos:Pos}
def qaa:TS:=fun D σ H=>D.nx σ H
def qaX (t u:TS):TS:=fun D σ H=>t {D with nx:=u D} σ H
theorem bB:Dg X [] qaa:=fun _ _ σ H _ I h=>wpAny_execs_nil ⟨σ,H,I,h⟩
theorem aA (h1:PS X st t) (h2:Dg X rest u):Dg X (st::rest) (qaX t u):=by
  intro p_ s σ H D I h;refine wpAny_execs_cons (cB (h1 p_ s σ H {D with nx:=u D} I h) fun f s1 q=>?_);cases f with
  | next=>
    obtain⟨σ',H',I',q⟩:=q;exact h2 p_ s1 σ' H' D I' q
  | ret v=>exact q
  | brk=>exact q
  | cont=>exact q
theorem aD (h1:PS X st t):Dg X [st] t:=by
  intro p_ s σ H D I h;refine wpAny_execs_cons (cB (h1 p_ s σ H D I h) fun f s1 q=>?_);cases f with
  | next=>exact wpAny_execs_nil q
  | ret v=>exact q
  | brk=>exact q
  | cont=>exact q
theorem Inv.quiet {p_:List (Addr×Obj)} {σ:St} {H:Hp} {s:Shared} (I:Inv X p_ σ H s):interactive X.env=false:=by simp[interactive,I.ok.kind]
def qab (te:TE):TS:=fun D σ H=>te σ H fun _ H1=>D.nx σ H1
theorem gK (he:PE X e te) (hs:swapsWith e none pos.line X.env=pure false:=by rfl):PS X (.Expr e pos) (qab te):=by
  intro p_ s σ H D I h;refine wpAny_Expr_any (cB (he p_ s σ H _ I h) fun v s1 zz=>?_) I.quiet hs;obtain⟨x,H1,I1,r1,q1⟩:=zz;exact⟨σ,H1,I1,q1⟩
def qdJ (te:TE):TS:=fun D σ H=>te σ H D.rt
theorem aY (he:PE X e te):PS X (.Return (some e) pos) (qdJ te):=by
  intro p_ s σ H D I h;refine wpAny_Return_some (cB (he p_ s σ H _ I h) fun v s1 zz=>?_);obtain⟨x,H1,I1,r1,q1⟩:=zz;exact⟨x,σ,H1,I1,r1,q1⟩
def qdK (c:TT) (t u:TS):TS:=fun D σ H=>c σ H fun b H1=>if b=true then t D σ H1 else u D σ H1
theorem cO {c:Expr} {a b:List Stmt} {tc:TT} (hc:PT X c tc) (ha:Dg X a t) (hb:Dg X b u):PS X (.If c a b pos) (qdK tc t u):=by
  intro p_ s σ H D I h;refine wpAny_If (cB (hc p_ s σ H _ I h) fun d s1 zz=>?_);obtain⟨H1,I1,q1⟩:=zz;cases d with
  | true=>exact ha p_ s1 σ H1 D I1 q1
  | false=>exact hb p_ s1 σ H1 D I1 q1
def R0:TS:=fun _ _ _=>False
theorem oV:PS X st R0:=fun _ _ _ _ _ _ h=>h.elim
end
abbrev TG:=V→St→Hp→(St→Hp→Prop)→Prop
abbrev Di:=List V→St→Hp→(St→Hp→Prop)→Prop
def PG (X:Cx) (target:Expr) (t:TG):Prop:=
  ∀(p_:List (Addr×Obj)) (s:Shared) (σ:St) (H:Hp) (v:V) (u:Value) (Q:St→Hp→Prop),Inv X p_ σ H s→RelV v u→t v σ H Q→
    wpAny (model X.prog X.w) X.A (assign target X.env u) (fun _ s'=>∃σ' H',Inv X p_ σ' H' s'∧Q σ' H') X.xe s
def g_ (X:Cx) (ts:List Expr) (t:Di):Prop:=
  ∀(p_:List (Addr×Obj)) (s:Shared) (σ:St) (H:Hp) (vs:List V) (us:List Value) (Q:St→Hp→Prop),Inv X p_ σ H s→Vals vs us→t vs σ H Q→
    wpAny (model X.prog X.w) X.A (assignInOrder ((assignEach ts X.env).map (·.2)) us) (fun _ s'=>∃σ' H',Inv X p_ σ' H' s'∧Q σ' H') X.xe s
abbrev P_:=V→V→V→Hp→(Hp→Prop)→Prop
def Qa (X:Cx) (t:P_):Prop:=
  ∀(p_:List (Addr×Obj)) (s:Shared) (σ:St) (H:Hp) (o i v:V) (ov iv u:Value) (Q:Hp→Prop),Inv X p_ σ H s→RelV o ov→RelV i iv→RelV v u→t o i v H Q→
    wpAny (model X.prog X.w) X.A (setItem ov iv u) (fun _ s'=>∃H',Inv X p_ σ H' s'∧Q H') X.xe s
abbrev Xw:=V→V→Hp→VK→Prop
def PIp (X:Cx) (op:Operator) (t:Xw):Prop:=
  ∀(p_:List (Addr×Obj)) (s:Shared) (σ:St) (H:Hp) (x y:V) (v u:Value) (Q:VK),Inv X p_ σ H s→RelV x v→RelV y u→t x y H Q→
    wpAny (model X.prog X.w) X.A (inplaceOp op v u) (EP X p_ σ Q) X.xe s
section
variable {X:Cx} {pos:Pos}
def Np (i:Nat):TG:=fun v σ H Q=>Q (σ.set i (some v)) H
theorem aO {i:Nat} {x:Str} (hN:X.N.Nodup) (hi:X.N[i]? = some x) (hx:Loc X.env.scope x) (hf:X.fn x=true∨X.env.scope.names.lookup x=some .local:=by first | exact .inl rfl | exact .inr rfl | assumption):PG X (.Name x pos) (Np i):=by
  intro p_ s σ H v u Q I r h;exact wpAny_assign_Name (yS I hN hi hx r (fun s' I'=>⟨_,H,I',h⟩) hf)
def qaY:Di:=fun vs σ H Q=>vs=[]∧Q σ H
def R3 (t:TG) (u:Di):Di:=fun vs σ H Q=>∃v r,vs=v::r∧t v σ H fun σ' H'=>u r σ' H' Q
theorem eE:g_ X [] qaY:=by
  intro p_ s σ H vs us Q I r h;obtain⟨e,h⟩:=h;subst e;cases r;exact assignInOrder_nil ⟨σ,H,I,h⟩
theorem bh {e:Expr} {es:List Expr} {t:TG} {u:Di} (h1:PG X e t) (h2:g_ X es u)
    (hs:(assignEach (e::es) X.env).map (·.2)=assign e X.env::(assignEach es X.env).map (·.2):=by rfl):g_ X (e::es) (R3 t u):=by
  intro p_ s σ H vs us Q I r h;obtain⟨v,vr,e1,h⟩:=h;subst e1;cases r with
  | cons r rr=>
    rw[hs];refine assignInOrder_cons (cB (h1 p_ s σ H _ _ _ I r h) fun _ s1 zz=>?_);obtain⟨σ1,H1,I1,q1⟩:=zz;exact h2 p_ s1 σ1 H1 _ _ Q I1 rr q1
def Xx (K:W.Frag) (n:Nat) (t:Di):TG:=fun v σ H Q=>∃a xs,v = .ref a∧d9 K H a xs∧xs.length=n∧t xs σ H Q
theorem qaZ {es:List Expr} {k:Nat} {t:Di} {n:Nat} (hc:X.calm=true) (h:g_ X es t)
    (hn:(assignEach es X.env).length=n:=by rfl) (hst:(assignEach es X.env).findIdx? (·.1)=none:=by rfl):PG X (.Tuple es k pos) (Xx X.K n t):=by
  intro p_ s σ H v u Q I r hw;obtain⟨a,xs,e1,hq,hl,hw⟩:=hw;subst e1;cases r;obtain⟨its,rv,ht,hz⟩:=I.tuple hq;refine assign_Tuple_tuple (I.ok.hd hc) ht (by simp[hn,← hl,rv.length]) hst fun h' hx=>?_;have I1:Inv X p_ σ H {s with heap:=h'}:=I.kept (t':=s.toks) fun b o e=>hx b o (Nat.ne_of_lt (Heap.lt_size e)) e;exact h p_ _ σ H xs _ Q I1 (by simpa using rv) hw
def qdL (to ti:TE) (t:P_):TG:=fun v σ H Q=>to σ H fun o H1=>ti σ H1 fun i H2=>t o i v H2 fun H3=>Q σ H3
theorem EY {o i:Expr} {to ti:TE} {t:P_} (ho:PE X o to) (hi:PE X i ti) (hs:Qa X t)
    (ha:∀v,assign (.Subscript o i pos) X.env v=(do
      let ov ← holding [v] (eval o X.env)
      let iv ← holding [v,ov] (eval i X.env)
      standAt pos
      holding [v,ov,iv] (setItem ov iv v)
      release [v,ov,iv] []):=by intro _;rfl):PG X (.Subscript o i pos) (qdL to ti t):=by
  intro p_ s σ H v u Q I r h;rw[ha];refine wpAny_bind (wpAny_holding (cB (ho p_ s σ H _ I h) fun ov s1 zz=>?_));obtain⟨x,H1,I1,r1,q1⟩:=zz;refine wpAny_bind (wpAny_holding (cB (hi p_ s1 σ H1 _ I1 q1) fun iv s2 zz=>?_));obtain⟨y,H2,I2,r2,q2⟩:=zz;refine wpAny_bind (wpAny_standAt (wpAny_bind (wpAny_holding (cB (hs p_ s2 σ H2 x y v ov iv u _ I2 r1 r2 r q2) fun _ s3 zz=>?_))));obtain⟨H3,I3,q3⟩:=zz;exact wpAny_release ⟨σ,H3,I3,q3⟩
def R4 (te:TE) (g:TG):TS:=fun D σ H=>te σ H fun x H1=>g x σ H1 D.nx
theorem uq {tg e:Expr} {te:TE} {g:TG} (he:PE X e te) (hg:PG X tg g) (hs:swapsWithSole [tg] e pos.line X.env=pure false:=by rfl) (hw:swappedStores [tg] e X.env=pure none:=by rfl)
    (h1:(assignEach [tg] X.env).map (·.2)=[assign tg X.env]:=by rfl):PS X (.Assign [tg] e pos) (R4 te g):=by
  intro p_ s σ H D I h;refine wpAny_Assign_stores (cB (he p_ s σ H _ I h) fun v s1 zz=>?_) hs hw;obtain⟨x,H1,I1,r1,q1⟩:=zz;rw[h1];exact cB (hg p_ s1 σ H1 x v _ I1 r1 q1) fun _ s2 q=>q
theorem bA {i:Nat} {x:Str} {e:Expr} {te:TE} {pos':Pos} (hN:X.N.Nodup) (hi:X.N[i]? = some x) (hx:Loc X.env.scope x) (he:PE X e te) (hs:swapsWith e (some (.Name x pos')) pos.line X.env=pure false:=by rfl) (hf:X.fn x=true∨X.env.scope.names.lookup x=some .local:=by first | exact .inl rfl | exact .inr rfl | assumption) :
    PS X (.Assign [.Name x pos'] e pos) (R4 te (Np i)):=by
  intro p_ s σ H D I h;refine wpAny_Assign_Name (cB (he p_ s σ H _ I h) fun v s1 zz=>?_) hs;obtain⟨y,H1,I1,r1,q1⟩:=zz;exact yS I1 hN hi hx r1 (fun s2 I2=>⟨_,H1,I2,q1⟩) hf
def qa0 (i:Nat) (te:TE) (ti:Xw):TS:=fun D σ H=>∃x,σ[i]? = some (some x)∧te σ H fun y H1=>ti x y H1 fun z H2=>D.nx (σ.set i (some z)) H2
theorem qa1 {i:Nat} {x:Str} {e:Expr} {te:TE} {op:Operator} {ti:Xw} {pos':Pos} (hN:X.N.Nodup) (hi:X.N[i]? = some x) (hx:Loc X.env.scope x) (he:PE X e te) (ho:PIp X op ti) (hf:X.fn x=true∨X.env.scope.names.lookup x=some .local:=by first | exact .inl rfl | exact .inr rfl | assumption) :
    PS X (.AugAssign (.Name x pos') op e pos) (qa0 i te ti):=by
  intro p_ s σ H D I h;obtain⟨v,e1,h⟩:=h;obtain⟨m,hn,hl⟩:=I.loc;have vis:Vis X.env.scope x:=by rcases hx with k | k;exact .inl k;exact .inr (.inl k)
  obtain⟨u,r,l⟩:=hl i x v hi e1 vis;refine wpAny_AugAssign_Name ?_;have go:wpAny (model X.prog X.w) X.A (eval e X.env) (fun w s₂=>wpAny (model X.prog X.w) X.A (inplaceOp op u w) (fun r s₃=>wpAny (model X.prog X.w) X.A (storeName X.env x r) (fun _=>SP X p_ D .next) X.xe s₃) X.xe s₂) X.xe s:=by
    refine cB (he p_ s σ H _ I h) fun w s1 zz=>?_;obtain⟨y,H1,I1,r1,q1⟩:=zz;refine cB (ho p_ s1 σ H1 v y u w _ I1 r r1 q1) fun z s2 zz=>?_;obtain⟨zv,H2,I2,r2,q2⟩:=zz;exact yS I2 hN hi hx r2 (fun s3 I3=>⟨_,H2,I3,q2⟩) hf
  rcases l with⟨hk,hm⟩ | ⟨hk,c,hc,hcell⟩
  ·exact wpAny_loadName_local I.ok.kind hk hn hm go
  · rcases hk with hk | hk
    ·exact wpAny_loadName_cell I.ok.kind hk hc hcell go
    · rcases hx with k | k
      ·have:X.env.scope.names.lookup x=some .free:=hk;rw[k] at this;cases this
      ·have:X.env.scope.names.lookup x=some .free:=hk;rw[k] at this;cases this
def ipI (f:Int→Int→Int):Xw:=fun x y H Q=>∃i j,x = .int i∧y = .int j∧Q (.int (f i j)) H
theorem qa2:PIp X .Add (ipI fun i j=>i+j):=by
  intro p_ s σ H x y v u Q I r1 r2 h;obtain⟨i,j,e1,e2,q⟩:=h;subst e1;subst e2;obtain⟨t,rfl⟩:=r1;obtain⟨t',rfl⟩:=r2;exact iadd_int ⟨.int _,H,I.tok _,⟨_,rfl⟩,q⟩
end
section
variable {X:Cx} {pos:Pos}
def E_ (c:TT) (tb:TS):TS:=fun D σ H=>∃oW:Nat→St→Hp→Prop,(∃m,oW m σ H)∧∀m σ H,oW m σ H→
  c σ H fun b H1=>if b=true then ∃N:St→Hp→Prop,(∀σ' H',N σ' H'→∃m',m'<m∧oW m' σ' H')∧tb {D with nx:=N,ct:=N,bk:=D.nx} σ H1 else D.nx σ H1
theorem Hz {c:Expr} {body:List Stmt} {tc:TT} {tb:TS} (hp:PassesOwn (model X.prog X.w) X.A X.env X.xe) (hc:PT X c tc) (hb:Dg X body tb):PS X (.While c body [] pos) (E_ tc tb):=by
  intro p_ s σ H D I h;obtain⟨oW,⟨m0,w0⟩,turn⟩:=h;refine wpAny_While (codeAny_whileLoop (fun n s'=>∃σ' H',Inv X p_ σ' H' s'∧oW n σ' H') ?_ m0 ⟨σ,H,I,w0⟩);rintro n s1 ⟨σ1,H1,I1,w1⟩;refine wpAny_passesOwn hp (cB (hc p_ s1 σ1 H1 _ I1 (turn n σ1 H1 w1)) fun b s2 zz=>?_);obtain⟨H2,I2,q2⟩:=zz;cases b with
  | true=>
    obtain⟨N,hN,q2⟩:=q2;rw[if_pos rfl];refine wpAny_passesOwn hp (cB (hb p_ s2 σ1 H2 _ I2 q2) fun f s3 q3=>?_);cases f with
    | next=>
      obtain⟨σ3,H3,I3,n3⟩:=q3;obtain⟨m',hm,w3⟩:=hN σ3 H3 n3;exact⟨m',hm,σ3,H3,I3,w3⟩
    | cont=>
      obtain⟨σ3,H3,I3,n3⟩:=q3;obtain⟨m',hm,w3⟩:=hN σ3 H3 n3;exact⟨m',hm,σ3,H3,I3,w3⟩
    | brk=>exact q3
    | ret v=>exact q3
  | false=>
    rw[if_neg Bool.false_ne_true];exact wpAny_execs_nil ⟨σ1,H2,I2,q2⟩
end
structure It where
  go:Nat→Hp→Prop
  RD:Nat→Hp→V→Hp→Prop
  stop:Nat→Hp→Prop
def iu (X:Cx) (p_:List (Addr×Obj)) (H:Hp) (b:Addr):Prop:=
  H b=none∧b≠X.env.locals∧b∉X.fs∧(b∈X.ex∨X.s₀.heap.objs.size≤b)∧(∀x c,X.env.cells.lookup x=some c→c≠b)∧∀p∈X.pn++p_,p.1≠b
theorem Inv.wD {X:Cx} {p_:List (Addr×Obj)} {σ:St} {H H':Hp} {s:Shared} {b:Addr} (I:Inv X p_ σ H s) (hb:s.heap.objs.size≤b) (hn:H' b=none):iu X p_ H' b:=by
  refine⟨hn,Nat.ne_of_gt (Nat.lt_of_lt_of_le I.lt hb),I.qi9 hb,.inr (Nat.le_trans I.sz hb),fun x c e z=>?_,fun p hp z=>?_⟩
  ·obtain⟨v,q⟩:=I.cell x c e;exact absurd (Nat.lt_of_lt_of_le q.lt (by rw[z];exact hb)) (Nat.lt_irrefl _)
  ·exact absurd (Nat.lt_of_lt_of_le (Heap.lt_size (I.pin p hp).1) (by rw[z];exact hb)) (Nat.lt_irrefl _)
structure Turn (P:Program) (w:World) (K:W.Frag) (tg:Expr) (J:It) (fp:List Addr) (it:Addr) (tn:Nat→Heap→Prop):Prop where
  mem:it∈fp
  obj:∀i h,tn i h→∀b∈fp,∃o,h.get? b=some o∧∀v,o.data≠.cell v
  keep:∀i h h',tn i h→(∀b∈fp,∀o,h.get? b=some o→h'.get? b=some o)→tn i h'
  item:∀(X:Cx),X.prog=P→X.w=w→X.K=K→X.calm=true→∀(i:Nat) (p_:List (Addr×Obj)) (s:Shared) (σ:St) (H:Hp) (E:Value→Shared→Prop),Inv X p_ σ H s→(∀b∈fp,iu X p_ H b)→tn i s.heap→J.go i H→
    wpAny (model P w) X.A (pyNext (.ref it)) (fun r s1=>∃u,r=some u∧
      wpAny (model P w) X.A (letOwnedTupleGo tg (.ref it) u) (fun _ s2=>∃x H',Inv X p_ σ H' s2∧RelV x u∧J.RD i H x H'∧tn (i+1) s2.heap∧∀b∈fp,H' b=none) E s1) E s
  done:∀(X:Cx),X.prog=P→X.w=w→X.K=K→X.calm=true→∀(i:Nat) (p_:List (Addr×Obj)) (s:Shared) (σ:St) (H:Hp) (E:Value→Shared→Prop),Inv X p_ σ H s→(∀b∈fp,iu X p_ H b)→tn i s.heap→J.stop i H→
    wpAny (model P w) X.A (pyNext (.ref it)) (fun r s1=>r=none∧Inv X p_ σ H s1) E s
  self:∀(A:Around) (i:Nat) (s:Shared) (Q:Value→Shared→Prop) (E:Value→Shared→Prop),tn i s.heap→Q (.ref it) s→wpAny (model P w) A (pyIter (.ref it)) Q E s
abbrev TI:=St→Hp→(It→Hp→Prop)→Prop
def PIE (X:Cx) (p_:List (Addr×Obj)) (σ:St) (tg:Expr) (R:It→Hp→Prop) (itv:Value) (s2:Shared):Prop:=
  ∃(it:Addr) (fp:List Addr) (tn:Nat→Heap→Prop) (J:It) (H':Hp),itv = .ref it∧Inv X p_ σ H' s2∧Turn X.prog X.w X.K tg J fp it tn∧tn 0 s2.heap∧(∀b∈fp,iu X p_ H' b)∧R J H'
def PI (X:Cx) (tg iter:Expr) (wi:TI):Prop:=
  ∀(p_:List (Addr×Obj)) (s:Shared) (σ:St) (H:Hp) (R:It→Hp→Prop),Inv X p_ σ H s→wi σ H R→
    wpAny (model X.prog X.w) X.A (eval iter X.env) (fun v s1=>wpAny (model X.prog X.w) X.A (pyIter v) (PIE X p_ σ tg R) X.xe s1) X.xe s
theorem Nq {M:Model} {A:Around} {E:Value→Shared→Prop} {s:Shared} {tg:Expr} {it:Addr} {u:Value} {o:Obj} {n:String} {vs:Array Value} {Q:Unit→Shared→Prop} (ho:s.heap.get? it=some o) (hc:o.cls = .type n) (hd:o.data = .fields vs)
    (hn : ["enumerate", "zip", "dict_itemiterator", "dict_reverseitemiterator", "odict_iterator", "itertools.zip_longest", "itertools.pairwise"].contains n=false) (hQ:Q () s):wpAny M A (letOwnedTupleGo tg (.ref it) u) Q E s:=by
  unfold letOwnedTupleGo;cases tg <;> first
    | exact wpAny_pure hQ
    | (cases u <;> first
        | exact wpAny_pure hQ
        | (refine wpAny_bind (wpAny_load ho ?_)
           rw[hc,hd];show wpAny M A (if (["enumerate", "zip", "dict_itemiterator", "dict_reverseitemiterator", "odict_iterator", "itertools.zip_longest", "itertools.pairwise"].contains n && vs[0]? == some (rawInt _))=true then _ else _) Q E s
           rw[if_neg (by intro h;rw[hn,Bool.false_and] at h;cases h)];exact wpAny_pure hQ))
def Ks (K:W.Frag) (a:Addr):It:=
  ⟨fun i H=>∃xs x,aX K H a xs∧xs[i]? = some x,fun i H x H'=>H'=H∧∀xs,aX K H a xs→xs[i]? = some x,fun i H=>∃xs,aX K H a xs∧xs.length≤i⟩
def Itt (K:W.Frag) (a:Addr):It:=
  ⟨fun i H=>∃xs x,d9 K H a xs∧xs[i]? = some x,fun i H x H'=>H'=H∧∀xs,d9 K H a xs→xs[i]? = some x,fun i H=>∃xs,d9 K H a xs∧xs.length≤i⟩
def Kp (lo:Int) (n:Nat):It:=⟨fun i _=>i<n,fun i H x H'=>H'=H∧x = .int (lo+i),fun i _=>n≤i⟩
theorem oX {P:Program} {w:World} {K:W.Frag} {tg:Expr} (a it:Addr):Turn P w K tg (Ks K a) [it] it (fun i h=>h.IsListIter it a i) where
  mem:=by simp
  obj:=fun i h st b hb=>by
    have e:b=it:=by simpa using hb
    subst e;obtain⟨o,e,c,d⟩:=st;exact⟨o,e,fun v z=>by rw[d] at z;cases z⟩
  keep:=fun i h h' st k=>st.at fun o e=>k it (by simp) o e
  item:=by
    intro X hP hw hK hc i p_ s σ H E I hf st hg;subst hP hw hK;obtain⟨xs,x,hq,hx⟩:=hg;obtain⟨its,rv,p,hz⟩:=I.list hq;obtain⟨u,hu,ru⟩:=rv.get hx;obtain⟨f0,f1,f2,f3,f4,f5⟩:=hf it (by simp);refine wpAny_pyNext_list_item st p.isList (x:=u) (by simpa using hu) fun h' st' sb=>?_;have I1:Inv X p_ σ H {s with heap:=h'}:=I.turned (t':=s.toks) (fun b o hb e=>(sb.2 b hb).trans e) f0 f1 f3 f4 f5;obtain⟨o,e,c,d⟩:=id st';exact⟨u,rfl,Nq (s:={s with heap:=h'}) e c d (by decide) ⟨x,H,I1,ru,⟨rfl,fun ys hy=>by rw[I.j8 hy hq];exact hx⟩,st',fun b hb=>(hf b hb).1⟩⟩
  done:=by
    intro X hP hw hK hc i p_ s σ H E I hf st hg;subst hP hw hK;obtain⟨xs,hq,hx⟩:=hg;obtain⟨its,rv,p,hz⟩:=I.list hq;obtain⟨f0,f1,f2,f3,f4,f5⟩:=hf it (by simp);have hl:=rv.length;exact wpAny_pyNext_list_end (I.ok.hd hc) st p.isList (by simp;omega) fun h' eb=>⟨rfl,I.turned (t':=s.toks) (fun b o hb e=>eb b o hb e) f0 f1 f3 f4 f5⟩
  self:=fun _ _ _ _ _ st h=>wpAny_pyIter_listiter st h
theorem Ku {P:Program} {w:World} {K:W.Frag} {tg:Expr} (a it:Addr):Turn P w K tg (Itt K a) [it] it (fun i h=>h.IsTupleIter it a i) where
  mem:=by simp
  obj:=fun i h st b hb=>by
    have e:b=it:=by simpa using hb
    subst e;obtain⟨o,e,c,d⟩:=st;exact⟨o,e,fun v z=>by rw[d] at z;cases z⟩
  keep:=fun i h h' st k=>st.at fun o e=>k it (by simp) o e
  item:=by
    intro X hP hw hK hc i p_ s σ H E I hf st hg;subst hP hw hK;obtain⟨xs,x,hq,hx⟩:=hg;obtain⟨its,rv,p,hz⟩:=I.tuple hq;obtain⟨u,hu,ru⟩:=rv.get hx;obtain⟨f0,f1,f2,f3,f4,f5⟩:=hf it (by simp);refine wpAny_pyNext_tuple_item st (show s.heap.IsTuple a its.toArray from p) (x:=u) (by simpa using hu) fun h' st' sb=>?_;have I1:Inv X p_ σ H {s with heap:=h'}:=I.turned (t':=s.toks) (fun b o hb e=>(sb.2 b hb).trans e) f0 f1 f3 f4 f5;obtain⟨o,e,c,d⟩:=id st';exact⟨u,rfl,Nq (s:={s with heap:=h'}) e c d (by decide) ⟨x,H,I1,ru,⟨rfl,fun ys hy=>by rw[I.Dh hy hq];exact hx⟩,st',fun b hb=>(hf b hb).1⟩⟩
  done:=by
    intro X hP hw hK hc i p_ s σ H E I hf st hg;subst hP hw hK;obtain⟨xs,hq,hx⟩:=hg;obtain⟨its,rv,p,hz⟩:=I.tuple hq;obtain⟨f0,f1,f2,f3,f4,f5⟩:=hf it (by simp);have hl:=rv.length;exact wpAny_pyNext_tuple_end (I.ok.hd hc) st (show s.heap.IsTuple a its.toArray from p) (by simp;omega) fun h' eb=>⟨rfl,I.turned (t':=s.toks) (fun b o hb e=>eb b o hb e) f0 f1 f3 f4 f5⟩
  self:=fun _ _ _ _ _ st h=>wpAny_pyIter_tupleiter st h
theorem Kv {P:Program} {w:World} {K:W.Frag} {tg:Expr} (it:Addr) (lo:Int) (n:Nat):Turn P w K tg (Kp lo n) [it] it (fun i h=>IsRangeIter h it (lo+(i:Nat) * 1) ((n:Int) - (i:Nat)) 1) where
  mem:=by simp
  obj:=fun i h st b hb=>by
    have e:b=it:=by simpa using hb
    subst e;exact⟨_,st,fun v z=>by
      have z':Data.fields _=Data.cell v:=z;cases z'⟩
  keep:=fun i h h' st k=>k it (by simp) _ st
  item:=by
    intro X hP hw hK hc i p_ s σ H E I hf st hg;subst hP hw hK;obtain⟨f0,f1,f2,f3,f4,f5⟩:=hf it (by simp);have oW:=Walks.range (prog:=X.prog) (w:=X.w) (I.ok.hd hc) it lo 1 n;refine oW.item i s _ _ hg st fun v h' tk hv st' kk=>?_;obtain⟨t,rfl⟩:=hv;have I1:Inv X p_ σ H {s with heap:=h',toks:=tk}:=I.turned (fun b o hb e=>kk b o (by simpa using hb) e) f0 f1 f3 f4 f5;refine⟨_,rfl,Nq (s:={s with heap:=h',toks:=tk}) (n:= "range_iterator") st' rfl rfl (by decide) ⟨.int (lo+i),H,I1,⟨t,?_⟩,⟨rfl,rfl⟩,st',fun b hb=>(hf b hb).1⟩⟩;rw[Int.mul_one]
  done:=by
    intro X hP hw hK hc i p_ s σ H E I hf st hg;subst hP hw hK;obtain⟨f0,f1,f2,f3,f4,f5⟩:=hf it (by simp);exact wpAny_pyNext_range_end (I.ok.hd hc) st (by have:n≤i:=hg;omega) fun h' eb=>⟨rfl,I.turned (t':=s.toks) (fun b o hb e=>eb b o hb e) f0 f1 f3 f4 f5⟩
  self:=fun _ _ _ _ _ st h=>wpAny_pyIter_rangeiter st h
section
variable {X:Cx} {tg:Expr}
def Nr (K:W.Frag) (tl:TE):TI:=fun σ H R=>tl σ H fun x H1=>∃a,x = .ref a∧(∃xs,aX K H1 a xs)∧R (Ks K a) H1
theorem Xy {l:Expr} {tl:TE} (hl:PE X l tl):PI X tg l (Nr X.K tl):=by
  intro p_ s σ H R I h;refine cB (hl p_ s σ H _ I h) fun v s1 zz=>?_;obtain⟨x,H1,I1,r1,q1⟩:=zz;obtain⟨a,e,⟨xs,hq⟩,q⟩:=q1;subst e;cases r1;obtain⟨its,rv,p,hz⟩:=I1.list hq;refine wpAny_pyIter_list p.isList ?_;refine⟨s1.heap.objs.size,[s1.heap.objs.size],_,_,H1,rfl,I1.kept (t':=s1.toks) fun b o e=>Heap.get?_push_of_some _ e,oX a _,⟨_,Heap.get?_push_size _ rfl,rfl,rfl⟩,fun b hb=>?_,q⟩;have e:b=s1.heap.objs.size:=by simpa using hb
  subst e;exact I1.wD (Nat.le_refl _) (I1.hok.fresh (Nat.le_refl _))
theorem HB {p_:List (Addr×Obj)} {σ:St} {H:Hp} {s:Shared} {R:It→Hp→Prop} {E:Value→Shared→Prop} {lo hi:Int} {t u v:Tok} {tk:Nat} (I:Inv X p_ σ H s) (h1 : -(2 ^ 62)≤lo) (h2:lo<2 ^ 62) (h3 : -(2 ^ 62)≤hi) (h4:hi<2 ^ 62)
    (q:R (Kp lo (hi - lo).toNat) H):wpAny (model X.prog X.w) X.A (pyIter (.ref s.heap.objs.size)) (PIE X p_ σ tg R) E {s with heap:=s.heap.push {cls:=.type "range",data:=.fields #[.int lo t,.int hi u,.int 1 v]},toks:=tk}:=by
  refine wpAny_pyIter_range (IsRange.new ..) (small_one h1 h2 h3 h4) ?_;have I1:Inv X p_ σ H {s with heap:=s.heap.push {cls:=.type "range",data:=.fields #[.int lo t,.int hi u,.int 1 v]},toks:=tk}:=I.kept fun b o e=>Heap.get?_push_of_some _ e;refine⟨(s.heap.push {cls:=.type "range",data:=.fields #[.int lo t,.int hi u,.int 1 v]}).objs.size,[(s.heap.push {cls:=.type "range",data:=.fields #[.int lo t,.int hi u,.int 1 v]}).objs.size],_,_,H,rfl,
    I1.kept (t':=tk) fun b o e=>Heap.get?_push_of_some _ e,Kv _ lo (hi - lo).toNat,?_,fun b hb=>?_,q⟩
  · have e1:lo+((0:Nat):Int) * 1=lo:=by simp
    have e2:(((hi - lo).toNat:Nat):Int) - ((0:Nat):Int)=Builtin.Range.rangeSize lo hi 1:=by rw[rangeSize_one];split <;> omega
    show IsRangeIter _ _ (lo+((0:Nat):Int) * 1) ((((hi - lo).toNat:Nat):Int) - ((0:Nat):Int)) 1;rw[e1,e2];exact Heap.get?_push_size _ rfl
  · have e:b=(s.heap.push {cls:=.type "range",data:=.fields #[.int lo t,.int hi u,.int 1 v]}).objs.size:=by simpa using hb
    subst e;exact I1.wD (Nat.le_refl _) (I1.hok.fresh (Nat.le_refl _))
def R5 (ta:TA):TI:=fun σ H R=>ta σ H fun vs H1=>∃j:Int,vs=[.int j]∧-(2 ^ 62)≤j∧j<2 ^ 62∧R (Kp 0 j.toNat) H1
def R6 (ta:TA):TI:=fun σ H R=>ta σ H fun vs H1=>∃i j:Int,vs=[.int i,.int j]∧(-(2 ^ 62)≤i∧i<2 ^ 62∧-(2 ^ 62)≤j∧j<2 ^ 62)∧R (Kp i (j - i).toNat) H1
theorem jD {a:Expr} {ta:TA} {p pos:Pos} (hg:Gl X "range") (hm:X.mg "range" = none) (ha:PA X [a] ta) (hs:starEach [a] X.env=[(false,eval a X.env)]:=by rfl):PI X tg (.Call (.Name "range" p) [a] [] pos) (R5 ta):=by
  intro p_ s σ H R I h;refine Call_ (jC I hg hm boot_range (PyProof.Rows.callWith_type1 (cB (ha pos p_ s σ H _ I h) fun us s1 zz=>?_) hs rfl));obtain⟨vs,H1,I1,r1,q1⟩:=zz;obtain⟨j,e,q1,q2,q⟩:=q1;subst e;cases r1 with
  | cons r rr=>
    cases rr;obtain⟨t,rfl⟩:=r;exact call_range_1 (HB I1 (by omega) (by omega) q1 q2 (by simpa using q))
theorem Qc {a b:Expr} {ta:TA} {p pos:Pos} (hg:Gl X "range") (hm:X.mg "range" = none) (ha:PA X [a,b] ta) (hs:starEach [a,b] X.env=[(false,eval a X.env),(false,eval b X.env)]:=by rfl) (hs2:starEach [b] X.env=[(false,eval b X.env)]:=by rfl) :
    PI X tg (.Call (.Name "range" p) [a,b] [] pos) (R6 ta):=by
  intro p_ s σ H R I h;refine Call_ (jC I hg hm boot_range (PyProof.Rows.callWith_type1 (cB (ha pos p_ s σ H _ I h) fun us s1 zz=>?_) (by rw[hs,hs2]) (by rw[hs2];rfl)));obtain⟨vs,H1,I1,r1,q1⟩:=zz;obtain⟨i,j,e,⟨q1,q2,q3,q4⟩,q⟩:=q1;subst e;cases r1 with
  | cons r rr=>
    cases rr with
    | cons r' rr=>
      cases rr;obtain⟨t,rfl⟩:=r;obtain⟨t',rfl⟩:=r';exact call_range_2 (HB I1 q1 q2 q3 q4 q)
def qdM (wi:TI) (g:TG) (tb:TS):TS:=fun D σ H=>wi σ H fun J H1=>∃oW:Nat→Nat→St→Hp→Prop,(∃m,oW 0 m σ H1)∧∀i m σ H,oW i m σ H→
  (J.stop i H∧D.nx σ H)∨(J.go i H∧∃N:St→Hp→Prop,(∀σ' H',N σ' H'→∃m',m'<m∧oW (i+1) m' σ' H')∧∀x H',J.RD i H x H'→g x σ H' fun σ2 H2=>tb {D with nx:=N,ct:=N,bk:=D.nx} σ2 H2)
def wF (fp:List Addr) (h:Heap):List (Addr×Obj):=fp.filterMap fun b=>(h.get? b).map fun o=>(b,o)
theorem jE {fp:List Addr} {h:Heap} {b:Addr} {o:Obj} (hb:b∈fp) (e:h.get? b=some o):(b,o)∈wF fp h:=List.mem_filterMap.mpr ⟨b,hb,by rw[e];rfl⟩
theorem Qd {fp:List Addr} {h:Heap} {p:Addr×Obj} (hp:p∈wF fp h):p.1∈fp∧h.get? p.1=some p.2:=by
  obtain⟨b,hb,e⟩:=List.mem_filterMap.mp hp;cases q:h.get? b with
  | none=>rw[q] at e;cases e
  | some o=>
    rw[q] at e;have e':(b,o)=p:=Option.some.inj e;subst e';exact⟨hb,q⟩
theorem Inv.pinned {p_:List (Addr×Obj)} {σ:St} {H:Hp} {s:Shared} {fp:List Addr} (I:Inv X p_ σ H s) (hf:∀b∈fp,iu X p_ H b) (ho:∀b∈fp,∃o,s.heap.get? b=some o∧∀v,o.data≠.cell v):Inv X (p_++wF fp s.heap) σ H s:=
  I.Nk fun p hp=>(List.mem_append.mp hp).elim (fun z=>I.pin p (List.mem_append_right _ z)) fun z=>by
    obtain⟨hb,e⟩:=Qd z;obtain⟨f0,f1,f2,_⟩:=hf p.1 hb;obtain⟨o,e',d⟩:=ho p.1 hb;rw[e] at e';cases e';exact⟨e,f0,f1,f2,d⟩
theorem Inv.qX {p_ pl:List (Addr×Obj)} {σ:St} {H:Hp} {s:Shared} (I:Inv X (p_++pl) σ H s):Inv X p_ σ H s:=I.Nk fun p hp=>I.pin p (List.mem_append_right _ (List.mem_append_left _ hp))
theorem lZ {iter:Expr} {body:List Stmt} {wi:TI} {g:TG} {tb:TS} {pos:Pos} (hp:PassesOwn (model X.prog X.w) X.A X.env X.xe) (hc:X.calm=true) (hi:PI X tg iter wi) (hg:PG X tg g) (hb:Dg X body tb)
    (hs:∀x,foldedSetIterable iter X.env x=pure x:=by intro _;rfl):PS X (.For tg iter body [] pos) (qdM wi g tb):=by
  intro p_ s σ H D I h;refine wpAny_For (cB (hi p_ s σ H _ I h) fun v s1 h1=>cB h1 fun itv s2 h2=>?_) hs;obtain⟨it,fp,tn,J,H2,e,I2,T,st2,f2,oW,⟨m0,w0⟩,turn⟩:=h2;subst e;have stat:∀{H':Hp},(∀b∈fp,H' b=none)→∀b∈fp,iu X p_ H' b:=fun hn b hb=>⟨hn b hb,(f2 b hb).2⟩;refine codeAny_forLoop_any (fun n s'=>∃i σ' H',Inv X p_ σ' H' s'∧tn i s'.heap∧(∀b∈fp,H' b=none)∧oW i n σ' H') ?_ m0 ⟨0,σ,H2,I2,st2,fun b hb=>(f2 b hb).1,w0⟩;rintro n s3 ⟨i,σ3,H3,I3,st3,fr3,w3⟩
  rcases turn i n σ3 H3 w3 with⟨stop,qn⟩ | ⟨go,N,hN,step⟩
  ·refine wpAny_passesOwn hp (cB (T.done X rfl rfl rfl hc i p_ s3 σ3 H3 X.xe I3 (stat fr3) st3 stop) fun r s4 zz=>?_);obtain⟨hr,I4⟩:=zz;subst hr;exact wpAny_execs_nil ⟨σ3,H3,I4,qn⟩
  · refine wpAny_passesOwn hp (cB (T.item X rfl rfl rfl hc i p_ s3 σ3 H3 X.xe I3 (stat fr3) st3 go) fun r s4 zz=>?_);obtain⟨u,hr,h4⟩:=zz;subst hr;refine wpAny_passesOwn hp (cB h4 fun _ s5 zz=>?_);obtain⟨x,H5,I5,r5,y5,R7,fr5⟩:=zz;have I5':=I5.pinned (stat fr5) (T.obj _ _ R7);refine wpAny_passesOwn hp (cB (hg _ s5 σ3 H5 x u _ I5' r5 (step x H5 y5)) fun _ s6 zz=>?_);obtain⟨σ6,H6,I6,q6⟩:=zz;refine wpAny_passesOwn hp (cB (hb _ s6 σ6 H6 _ I6 q6) fun f s7 q7=>?_);have again:∀{σ7:St} {H7:Hp},Inv X (p_++wF fp s5.heap) σ7 H7 s7→N σ7 H7→∃m,m<n∧∃i σ' H',Inv X p_ σ' H' s7∧tn i s7.heap∧(∀b∈fp,H' b=none)∧oW i m σ' H':=fun {σ7 H7} I7 n7=>by
      obtain⟨m',hm,w7⟩:=hN σ7 H7 n7;refine⟨m',hm,i+1,σ7,H7,I7.qX,T.keep _ _ _ R7 fun b hb o e=>(I7.pin (b,o) (List.mem_append_right _ (List.mem_append_right _ (jE hb e)))).1,fun b hb=>?_,w7⟩;obtain⟨o,e,d⟩:=T.obj _ _ R7 b hb;exact(I7.pin (b,o) (List.mem_append_right _ (List.mem_append_right _ (jE hb e)))).2.1
    cases f with
    | next=>obtain⟨σ7,H7,I7,n7⟩:=q7;exact again I7 n7
    | cont=>obtain⟨σ7,H7,I7,n7⟩:=q7;exact again I7 n7
    | brk=>obtain⟨σ7,H7,I7,q7⟩:=q7;exact⟨σ7,H7,I7.qX,q7⟩
    | ret v=>obtain⟨x7,σ7,H7,I7,r7,q7⟩:=q7;exact⟨x7,σ7,H7,I7.qX,r7,q7⟩
end
theorem R8 {K:W.Frag} {a:Addr} {xs:List V} {g:TG} {tb:TS} {D:Ends} {σ:St} {H:Hp} (Pv:Nat→St→Hp→Prop) (h0:Pv 0 σ H) (hl:∀i σ H,i≤xs.length→Pv i σ H→aX K H a xs)
    (hs:∀i x σ H,xs[i]? = some x→Pv i σ H→g x σ H fun σ2 H2=>tb {D with nx:=Pv (i+1),ct:=Pv (i+1),bk:=D.nx} σ2 H2) (hd:∀σ H,Pv xs.length σ H→D.nx σ H) :
    ∃oW:Nat→Nat→St→Hp→Prop,(∃m,oW 0 m σ H)∧∀i m σ H,oW i m σ H→
      ((Ks K a).stop i H∧D.nx σ H)∨((Ks K a).go i H∧∃N:St→Hp→Prop,(∀σ' H',N σ' H'→∃m',m'<m∧oW (i+1) m' σ' H')∧∀x H',(Ks K a).RD i H x H'→g x σ H' fun σ2 H2=>tb {D with nx:=N,ct:=N,bk:=D.nx} σ2 H2):=by
  refine⟨fun i m σ H=>m=xs.length - i∧i≤xs.length∧Pv i σ H,⟨xs.length,by simp,Nat.zero_le _,h0⟩,?_⟩;rintro i m σ H ⟨rfl,hi,p⟩;have q:=hl i σ H hi p
  by_cases hlt:i<xs.length
  ·refine .inr ⟨⟨xs,xs[i],q,by simp[hlt]⟩,Pv (i+1),fun σ' H' p'=>⟨xs.length - (i+1),by omega,rfl,hlt,p'⟩,fun x H' y=>?_⟩;obtain⟨e,y⟩:=y;subst e;exact hs i x σ _ (y xs q) p
  · have e:i=xs.length:=by omega
    subst e;exact .inl ⟨⟨xs,q,Nat.le_refl _⟩,hd σ H p⟩
theorem Qe {lo:Int} {n:Nat} {g:TG} {tb:TS} {D:Ends} {σ:St} {H:Hp} (Pv:Nat→St→Hp→Prop) (h0:Pv 0 σ H)
    (hs:∀i σ H,i<n→Pv i σ H→g (.int (lo+i)) σ H fun σ2 H2=>tb {D with nx:=Pv (i+1),ct:=Pv (i+1),bk:=D.nx} σ2 H2) (hd:∀σ H,Pv n σ H→D.nx σ H) :
    ∃oW:Nat→Nat→St→Hp→Prop,(∃m,oW 0 m σ H)∧∀i m σ H,oW i m σ H→
      ((Kp lo n).stop i H∧D.nx σ H)∨((Kp lo n).go i H∧∃N:St→Hp→Prop,(∀σ' H',N σ' H'→∃m',m'<m∧oW (i+1) m' σ' H')∧∀x H',(Kp lo n).RD i H x H'→g x σ H' fun σ2 H2=>tb {D with nx:=N,ct:=N,bk:=D.nx} σ2 H2):=by
  refine⟨fun i m σ H=>m=n - i∧i≤n∧Pv i σ H,⟨n,by simp,Nat.zero_le _,h0⟩,?_⟩;rintro i m σ H ⟨rfl,hi,p⟩
  by_cases hlt:i<n
  ·refine .inr ⟨hlt,Pv (i+1),fun σ' H' p'=>⟨n - (i+1),by omega,rfl,hlt,p'⟩,fun x H' y=>?_⟩;obtain⟨e,y⟩:=y;subst e y;exact hs i σ _ hlt p
  · have e:i=n:=by omega
    subst e;exact .inl ⟨Nat.le_refl _,hd σ H p⟩
theorem R9 {c:TT} {tb:TS} {D:Ends} {σ:St} {H:Hp} (Pv:St→Hp→Prop) (μ:St→Hp→Nat) (h0:Pv σ H)
    (hs:∀σ H,Pv σ H→c σ H fun b H1=>if b=true then tb {D with nx:=fun σ' H'=>Pv σ' H'∧μ σ' H'<μ σ H,ct:=fun σ' H'=>Pv σ' H'∧μ σ' H'<μ σ H,bk:=D.nx} σ H1 else D.nx σ H1)
    (mono:∀σ H Q Q',(∀b H1,Q b H1→Q' b H1)→c σ H Q→c σ H Q'):E_ c tb D σ H:=by
  refine⟨fun m σ H=>m=μ σ H∧Pv σ H,⟨_,rfl,h0⟩,?_⟩;rintro m σ H ⟨rfl,p⟩;refine mono σ H _ _ (fun b H1 q=>?_) (hs σ H p);cases b with
  | true=>exact⟨_,fun σ' H' ⟨p',l⟩=>⟨_,l,rfl,p'⟩,q⟩
  | false=>exact q
abbrev R2:=V→V→Hp→VK→Prop
def fY (X:Cx) (f:Value→Value→Sem Value) (r:R2):Prop:=
  ∀(p_:List (Addr×Obj)) (s:Shared) (σ:St) (H:Hp) (x y:V) (v u:Value) (Q:VK),Inv X p_ σ H s→RelV x v→RelV y u→r x y H Q→
    wpAny (model X.prog X.w) X.A (f v u) (EP X p_ σ Q) X.xe s
def cC (X:Cx) (f:Value) (r:List V→Hp→VK→Prop):Prop:=
  ∀(p_:List (Addr×Obj)) (s:Shared) (σ:St) (H:Hp) (xs:List V) (us:List Value) (Q:VK),Inv X p_ σ H s→Vals xs us→r xs H Q→
    wpAny (model X.prog X.w) X.A (call f us) (EP X p_ σ Q) X.xe s
def RG (r:R2) (ta tb:TE):TE:=fun σ H Q=>ta σ H fun x H1=>tb σ H1 fun y H2=>r x y H2 Q
def rI (C:Int→Int→Prop) (g:Int→Int→V):R2:=fun x y H Q=>∃i j,x = .int i∧y = .int j∧C i j∧Q (g i j) H
def Xi (g:Int→Int→V):R2:=fun x y H Q=>∃i j,x = .int i∧y = .int j∧Q (g i j) H
section
variable {X:Cx} {a b c:Expr} {ta tb tc:TE} {pos:Pos}
theorem qa3 (ha:PE X a ta) (hb:PE X b tb) {p_:List (Addr×Obj)} {s:Shared} {σ:St} {H:Hp} {R:V→V→Hp→Prop} (I:Inv X p_ σ H s)
    (h:ta σ H fun x H1=>tb σ H1 fun y H2=>R x y H2) {Q:Value→Shared→Prop} {f:Value→Value→Sem Value}
    (hf:∀v u s2 x y H2,Inv X p_ σ H2 s2→RelV x v→RelV y u→R x y H2→wpAny (model X.prog X.w) X.A (f v u) Q X.xe s2) :
    wpAny (model X.prog X.w) X.A (eval a X.env) (fun v s₁=>wpAny (model X.prog X.w) X.A (eval b X.env) (fun u s₂=>wpAny (model X.prog X.w) X.A (f v u) Q X.xe s₂) X.xe s₁) X.xe s:=by
  refine cB (ha p_ s σ H _ I h) fun v s1 zz=>?_;obtain⟨x,H1,I1,r1,q1⟩:=zz;refine cB (hb p_ s1 σ H1 _ I1 q1) fun u s2 zz=>?_;obtain⟨y,H2,I2,r2,q2⟩:=zz;exact hf v u s2 x y H2 I2 r1 r2 q2
theorem cD {op:Operator} {r:R2} (ho:fY X (binaryOp op) r) (ha:PE X a ta) (hb:PE X b tb):PE X (.BinOp a op b pos) (RG r ta tb):=by
  intro p_ s σ H Q I h;exact wpAny_BinOp (qa3 ha hb I h fun v u s2 x y H2 I2 rx ry q=>ho p_ s2 σ H2 x y v u Q I2 rx ry q)
theorem opI {f:Value→Value→Sem Value} {C:Int→Int→Prop} {g:Int→Int→Int}
    (rule:∀(i j:Int) (t u:Tok) (s:Shared) (Q:Value→Shared→Prop) (E:Value→Shared→Prop),C i j→Q (.int (g i j) s.toks) {s with toks:=s.toks+1}→wpAny (model X.prog X.w) X.A (f (.int i t) (.int j u)) Q E s) :
    fY X f (rI C fun i j=>.int (g i j)):=by
  intro p_ s σ H x y v u Q I rx ry h;obtain⟨i,j,rfl,rfl,hc,q⟩:=h;obtain⟨t,rfl⟩:=rx;obtain⟨t',rfl⟩:=ry;exact rule i j t t' s _ _ hc ⟨.int (g i j),H,I.tok _,⟨_,rfl⟩,q⟩
theorem qa4 {f:Value→Value→Sem Value} {g:Int→Int→Int}
    (rule:∀(i j:Int) (t u:Tok) (s:Shared) (Q:Value→Shared→Prop) (E:Value→Shared→Prop),Q (.int (g i j) s.toks) {s with toks:=s.toks+1}→wpAny (model X.prog X.w) X.A (f (.int i t) (.int j u)) Q E s) :
    fY X f (Xi fun i j=>.int (g i j)):=by
  intro p_ s σ H x y v u Q I rx ry h;obtain⟨i,j,rfl,rfl,q⟩:=h;obtain⟨t,rfl⟩:=rx;obtain⟨t',rfl⟩:=ry;exact rule i j t t' s _ _ ⟨.int (g i j),H,I.tok _,⟨_,rfl⟩,q⟩
theorem Xz {f:Value→Value→Sem Value} {g:Int→Int→Bool}
    (rule:∀(i j:Int) (t u:Tok) (s:Shared) (Q:Value→Shared→Prop) (E:Value→Shared→Prop),Q (.bool (g i j)) s→wpAny (model X.prog X.w) X.A (f (.int i t) (.int j u)) Q E s) :
    fY X f (Xi fun i j=>.bl (g i j)):=by
  intro p_ s σ H x y v u Q I rx ry h;obtain⟨i,j,rfl,rfl,q⟩:=h;obtain⟨t,rfl⟩:=rx;obtain⟨t',rfl⟩:=ry;exact rule i j t t' s _ _ ⟨.bl (g i j),H,I,rfl,q⟩
@[simp] def qdN (i j:Int):Prop:=0<j∧j<1073741824
@[simp] def XD (i j:Int):Prop:=0≤j∧j≤1000000∧i.natAbs<2 ^ 64
@[simp] def XF (i j:Int):Prop:=(-(2 ^ 64)<i∧i<2 ^ 64)∨(-(2 ^ 64)<j∧j<2 ^ 64)
theorem XF.ok {i j:Int} (h:XF i j):IntMulOk i j:=by
  rcases h with⟨h1,h2⟩ | ⟨h1,h2⟩
  ·exact .of_left (intBits_le_64 h1 h2)
  ·exact .of_right (intBits_le_64 h1 h2)
theorem two_pow_nn (k:Nat):(0:Int)≤2 ^ k:=by
  rw[two_pow_cast];exact Int.natCast_nonneg _
theorem qa5:fY X (binaryOp .Add) (Xi fun i j=>.int (i+j)):=qa4 fun _ _ _ _ _ _ _ q=>add_int q
theorem qa6:fY X (binaryOp .Sub) (Xi fun i j=>.int (i - j)):=qa4 fun _ _ _ _ _ _ _ q=>sub_int q
theorem qa7:fY X (binaryOp .Mult) (rI XF fun i j=>.int (i * j)):=opI fun _ _ _ _ _ _ _ hc q=>mul_int q hc.ok
theorem XH:fY X (binaryOp .FloorDiv) (rI qdN fun i j=>.int (i / j)):=opI fun i j _ _ _ _ _ hc q=>by
  have h1:(0:Int)<j:=hc.1;have h2:j<1073741824:=hc.2;exact floordiv_int (by omega) (by rw[Int.fdiv_eq_ediv_of_nonneg i (by omega)];exact q) (.inl (PyProof.noPylong_small (by omega)))
theorem qa8:fY X (binaryOp .Mod) (rI (fun _ j=>0<j) fun i j=>.int (i % j)):=opI fun i j _ _ _ _ _ hc q=>by
  have h1:(0:Int)<j:=hc;exact mod_int' (by omega) (by rw[Int.fmod_eq_emod_of_nonneg i (by omega)];exact q)
theorem qa9:fY X (binaryOp .Pow) (rI XD fun i j=>.int (i ^ j.toNat)):=opI fun _ _ _ _ _ _ _ hc q=>pow_int_small hc.1 hc.2.1 hc.2.2 q
theorem qa_:fY X (binaryOp .LShift) (rI XD fun i j=>.int (i * 2 ^ j.toNat)):=opI fun _ _ _ _ _ _ _ hc q=>lshift_int_small hc.1 hc.2.1 hc.2.2 q
theorem qba:fY X (binaryOp .RShift) (rI (fun _ j=>0≤j) fun i j=>.int (i / 2 ^ j.toNat)):=opI fun i j _ _ _ _ _ hc q=>
  rshift_int hc (by rw[Int.fdiv_eq_ediv_of_nonneg i (two_pow_nn _)];exact q)
theorem qbb:fY X (binaryOp .BitAnd) (Xi fun i j=>.int (Builtin.bitAnd i j)):=qa4 fun _ _ _ _ _ _ _ q=>and_int q
end
def yh:V→V→Bool
  | .non,.non=>true | .non,.int _=>true | .int _,.non=>true | .non,.bl _=>true | .bl _,.non=>true | .non,.str _=>true | .str _,.non=>true
  | .int _,.int _=>true | .bl _,.bl _=>true | .str _,.str _=>true | .Rz _,.Rz _=>true
  | .int _,.str _=>true | .str _,.int _=>true | .bl _,.str _=>true | .str _,.bl _=>true
  | _,_=>false
def rEq:R2:=fun x y H Q=>yh x y=true∧Q (.bl (decide (x=y))) H
def rNe:R2:=fun x y H Q=>yh x y=true∧Q (.bl (!decide (x=y))) H
theorem Nt {i j:Int}:decide (V.int i=V.int j)=(i == j):=by
  rw[Bool.eq_iff_iff];simp
theorem R_ {i j:Bool}:decide (V.bl i=V.bl j)=(i == j):=by
  rw[Bool.eq_iff_iff];simp
theorem Nu {i j:Str}:decide (V.str i=V.str j)=(i == j):=by
  rw[Bool.eq_iff_iff];simp
theorem Nv {i j:Array UInt8}:decide (V.Rz i=V.Rz j)=(i.toList == j.toList):=by
  rw[Bool.eq_iff_iff];cases i;cases j;simp
section
variable {X:Cx} {a b c:Expr} {ta tb tc:TE} {pos:Pos}
theorem bY {p_:List (Addr×Obj)} {σ:St} {H:Hp} {s:Shared} {Q:VK} {k k':Bool} (I:Inv X p_ σ H s) (q:Q (.bl k) H) (e:k=k'):EP X p_ σ Q (.bool k') s:=by
  subst e;exact⟨.bl k,H,I,rfl,q⟩
theorem qdO:fY X (compareOp .Eq) rEq:=by
  intro p_ s σ H x y v u Q I rx ry h;obtain⟨hs,q⟩:=h;cases x with
  | non=>
    cases rx;cases y with
    | non=>cases ry;exact PySem.EqNone.eq_none_none (bY I q (by simp))
    | bl j=>cases ry;exact PySem.EqNone.eq_none_bool (bY I q (by simp))
    | int j=>obtain⟨t',rfl⟩:=ry;exact PySem.EqNone.eq_none_int (bY I q (by simp))
    | str j=>obtain⟨t',rfl⟩:=ry;exact PySem.EqNone.eq_none_str (bY I q (by simp))
    | _=>exact absurd (show false=true from hs) Bool.false_ne_true
  | bl i=>
    cases rx;cases y with
    | non=>cases ry;exact PySem.EqNone.eq_bool_none (bY I q (by simp))
    | bl j=>cases ry;exact eq_bool (bY I q R_)
    | str j=>obtain⟨t',rfl⟩:=ry;exact PySem.EqMixed.eq_bool_str (bY I q (by simp))
    | _=>exact absurd (show false=true from hs) Bool.false_ne_true
  | int i=>
    obtain⟨t,rfl⟩:=rx;cases y with
    | non=>cases ry;exact PySem.EqNone.eq_int_none (bY I q (by simp))
    | int j=>obtain⟨t',rfl⟩:=ry;exact eq_int (bY I q Nt)
    | str j=>obtain⟨t',rfl⟩:=ry;exact PySem.EqMixed.eq_int_str (bY I q (by simp))
    | _=>exact absurd (show false=true from hs) Bool.false_ne_true
  | str i=>
    obtain⟨t,rfl⟩:=rx;cases y with
    | non=>cases ry;exact PySem.EqNone.eq_str_none (bY I q (by simp))
    | bl j=>cases ry;exact PySem.EqMixed.eq_str_bool (bY I q (by simp))
    | int j=>obtain⟨t',rfl⟩:=ry;exact PySem.EqMixed.eq_str_int (bY I q (by simp))
    | str j=>obtain⟨t',rfl⟩:=ry;exact eq_str (bY I q Nu)
    | _=>exact absurd (show false=true from hs) Bool.false_ne_true
  | Rz i=>
    obtain⟨t,rfl⟩:=rx;cases y with
    | Rz j=>obtain⟨t',rfl⟩:=ry;exact W.eq_bytes (bY I q Nv)
    | _=>exact absurd (show false=true from hs) Bool.false_ne_true
  | _=>cases y <;> exact absurd (show false=true from hs) Bool.false_ne_true
theorem qdP:fY X (compareOp .NotEq) rNe:=by
  intro p_ s σ H x y v u Q I rx ry h;obtain⟨hs,q⟩:=h;cases x with
  | non=>
    cases rx;cases y with
    | non=>cases ry;exact PySem.EqNone.ne_none_none (bY I q (by simp))
    | bl j=>cases ry;exact PySem.EqNone.ne_none_bool (bY I q (by simp))
    | int j=>obtain⟨t',rfl⟩:=ry;exact PySem.EqNone.ne_none_int (bY I q (by simp))
    | str j=>obtain⟨t',rfl⟩:=ry;exact PySem.EqNone.ne_none_str (bY I q (by simp))
    | _=>exact absurd (show false=true from hs) Bool.false_ne_true
  | bl i=>
    cases rx;cases y with
    | non=>cases ry;exact PySem.EqNone.ne_bool_none (bY I q (by simp))
    | bl j=>cases ry;exact ne_bool (bY I q (congrArg not R_))
    | str j=>obtain⟨t',rfl⟩:=ry;exact PySem.EqMixed.ne_bool_str (bY I q (by simp))
    | _=>exact absurd (show false=true from hs) Bool.false_ne_true
  | int i=>
    obtain⟨t,rfl⟩:=rx;cases y with
    | non=>cases ry;exact PySem.EqNone.ne_int_none (bY I q (by simp))
    | int j=>obtain⟨t',rfl⟩:=ry;exact ne_int (bY I q (congrArg not Nt))
    | str j=>obtain⟨t',rfl⟩:=ry;exact PySem.EqMixed.ne_int_str (bY I q (by simp))
    | _=>exact absurd (show false=true from hs) Bool.false_ne_true
  | str i=>
    obtain⟨t,rfl⟩:=rx;cases y with
    | non=>cases ry;exact PySem.EqNone.ne_str_none (bY I q (by simp))
    | bl j=>cases ry;exact PySem.EqMixed.ne_str_bool (bY I q (by simp))
    | int j=>obtain⟨t',rfl⟩:=ry;exact PySem.EqMixed.ne_str_int (bY I q (by simp))
    | str j=>obtain⟨t',rfl⟩:=ry;exact ne_str (bY I q (congrArg not Nu))
    | _=>exact absurd (show false=true from hs) Bool.false_ne_true
  | Rz i=>
    obtain⟨t,rfl⟩:=rx;cases y with
    | Rz j=>obtain⟨t',rfl⟩:=ry;exact W.ne_bytes (bY I q (congrArg not Nv))
    | _=>exact absurd (show false=true from hs) Bool.false_ne_true
  | _=>cases y <;> exact absurd (show false=true from hs) Bool.false_ne_true
theorem qdQ:fY X (compareOp .Lt) (Xi fun i j=>.bl (decide (i<j))):=Xz fun _ _ _ _ _ _ _ q=>lt_int q
theorem qdR:fY X (compareOp .LtE) (Xi fun i j=>.bl (decide (i≤j))):=Xz fun _ _ _ _ _ _ _ q=>le_int q
theorem qdS:fY X (compareOp .Gt) (Xi fun i j=>.bl (decide (j<i))):=Xz fun _ _ _ _ _ _ _ q=>gt_int q
theorem qdT:fY X (compareOp .GtE) (Xi fun i j=>.bl (decide (j≤i))):=Xz fun _ _ _ _ _ _ _ q=>ge_int q
theorem Qf:fY X (compareOp .In) (fun x y H Q=>∃i j,x = .str i∧y = .str j∧Q (.bl (!(Builtin.Str.occurrences j i 0 j.length 1).isEmpty)) H):=by
  intro p_ s σ H x y v u Q I rx ry h;obtain⟨i,j,rfl,rfl,q⟩:=h;obtain⟨t,rfl⟩:=rx;obtain⟨t',rfl⟩:=ry;exact in_str (bY I q rfl)
theorem qbc:fY X (compareOp .Is) (fun x y H Q=>y = .non∧Q (.bl (decide (x = .non))) H):=by
  intro p_ s σ H x y v u Q I rx ry h;obtain⟨rfl,q⟩:=h;cases ry;refine is_none_gen (bY I q ?_);cases x <;> first
    | (cases rx;rfl)
    | (obtain⟨t,rfl⟩:=rx;rfl)
theorem Nx:fY X (compareOp .IsNot) (fun x y H Q=>y = .non∧Q (.bl (!decide (x = .non))) H):=by
  intro p_ s σ H x y v u Q I rx ry h;obtain⟨rfl,q⟩:=h;cases ry;refine isnot_none_gen (bY I q ?_);cases x <;> first
    | (cases rx;rfl)
    | (obtain⟨t,rfl⟩:=rx;rfl)
theorem fY.or {f:Value→Value→Sem Value} {r r':R2} (h:fY X f r) (h':fY X f r'):fY X f (fun x y H Q=>r x y H Q∨r' x y H Q):=by
  intro p_ s σ H x y v u Q I rx ry q
  rcases q with q | q
  ·exact h p_ s σ H x y v u Q I rx ry q
  ·exact h' p_ s σ H x y v u Q I rx ry q
theorem bC (b:Expr) {op:CmpOp} (h:op≠.In:=by decide) (h2:op≠.NotIn:=by decide):behindInMarks op b=false:=by
  have e1:(op == CmpOp.In)=false:=by cases op <;> first | rfl | exact absurd rfl h
  have e2:(op == CmpOp.NotIn)=false:=by cases op <;> first | rfl | exact absurd rfl h2
  cases b <;> simp[behindInMarks,e1,e2]
theorem iH {op:CmpOp} {r:R2} (ho:fY X (compareOp op) r) (ha:PE X a ta) (hb:PE X b tb) (hm:behindInMarks op b=false):PE X (.Compare a [op] [b] pos) (RG r ta tb):=by
  intro p_ s σ H Q I h;exact wpAny_Compare1 (qa3 ha hb I h fun v u s2 x y H2 I2 rx ry q=>ho p_ s2 σ H2 x y v u Q I2 rx ry q) hm
def Ny (t:TE):TT:=fun σ H Q=>t σ H fun x H'=>∃k,x = .bl k∧Q k H'
theorem XJ {op:CmpOp} {r:R2} (ho:fY X (compareOp op) r) (ha:PE X a ta) (hb:PE X b tb) (hm:behindInMarks op b=false):PT X (.Compare a [op] [b] pos) (Ny (RG r ta tb)):=by
  intro p_ s σ H Q I h;refine wpAny_isTrue_Compare1 (cB (ha p_ s σ H _ I h) fun v s1 ⟨x,H1,I1,r1,q1⟩=>cB (hb p_ s1 σ H1 _ I1 q1) fun u s2 ⟨y,H2,I2,r2,q2⟩=>
    cB (ho p_ s2 σ H2 x y v u _ I2 r1 r2 q2) fun c s3 ⟨z,H3,I3,r3,k,e,q3⟩=>?_) hm
  subst e;cases r3;exact wpAny_truthy_bool ⟨H3,I3,q3⟩
def Fb (r r':R2) (ta tb tc:TE):TE:=fun σ H Q=>ta σ H fun x H1=>tb σ H1 fun y H2=>r x y H2 fun z H3=>∃k,z = .bl k∧
  (if k=true then tc σ H3 fun w' H4=>r' y w' H4 Q else Q (.bl false) H3)
theorem Sd {op op':CmpOp} {r r':R2} (ho:fY X (compareOp op) r) (ho':fY X (compareOp op') r') (ha:PE X a ta) (hb:PE X b tb) (hc:PE X c tc)
    (hm:lastMarks [op,op'] [b,c]=false:=by with_unfolding_all rfl):PE X (.Compare a [op,op'] [b,c] pos) (Fb r r' ta tb tc):=by
  intro p_ s σ H Q I h;refine Compare_chain (cB (ha p_ s σ H _ I h) fun v s1 ⟨x,H1,I1,r1,q1⟩=>chain_link (cB (hb p_ s1 σ H1 _ I1 q1) fun u s2 ⟨y,H2,I2,r2,q2⟩=>
    cB (ho p_ s2 σ H2 x y v u _ I2 r1 r2 q2) fun d s3 ⟨z,H3,I3,r3,k,e,q3⟩=>?_)) hm
  subst e;cases r3;refine wpAny_truthy_bool ?_;cases k with
  | false=>exact ite_ff ⟨.bl false,H3,I3,rfl,q3⟩
  | true=>exact ite_tt (chain_last (cB (hc p_ s3 σ H3 _ I3 q3) fun w' s4 ⟨z',H4,I4,r4,q4⟩=>ho' p_ s4 σ H4 y z' u w' Q I4 r2 r4 q4))
theorem Sg {op op':CmpOp} {r r':R2} (ho:fY X (compareOp op) r) (ho':fY X (compareOp op') r') (ha:PE X a ta) (hb:PE X b tb) (hc:PE X c tc)
    (hm:lastMarks [op,op'] [b,c]=false:=by with_unfolding_all rfl):PT X (.Compare a [op,op'] [b,c] pos) (Ny (Fb r r' ta tb tc)):=by
  intro p_ s σ H Q I h;refine isTrue_chain (cB (ha p_ s σ H _ I h) fun v s1 ⟨x,H1,I1,r1,q1⟩=>test_link (cB (hb p_ s1 σ H1 _ I1 q1) fun u s2 ⟨y,H2,I2,r2,q2⟩=>
    cB (ho p_ s2 σ H2 x y v u _ I2 r1 r2 q2) fun d s3 ⟨z,H3,I3,r3,k,e,q3⟩=>?_)) hm
  subst e;cases r3;refine wpAny_truthy_bool ?_;cases k with
  | false=>
    obtain⟨k',e',q'⟩:=q3;cases e';exact ite_ff ⟨H3,I3,q'⟩
  | true=>
    refine ite_tt (test_last (cB (hc p_ s3 σ H3 _ I3 q3) fun w' s4 ⟨z',H4,I4,r4,q4⟩=>cB (ho' p_ s4 σ H4 y z' u w' _ I4 r2 r4 q4) fun d' s5 ⟨z2,H5,I5,r5,k2,e2,q5⟩=>?_));subst e2;cases r5;exact wpAny_truthy_bool ⟨H5,I5,q5⟩
theorem ur:(sizeLine:Nat)<2 ^ 63:=by rw[sizeLine_eq];decide
theorem Kw:fY X (binaryOp .Add) (fun x y H Q=>∃i j,x = .str i∧y = .str j∧i.length+j.length≤sizeLine∧Q (.str (i++j)) H):=by
  intro p_ s σ H x y v u Q I rx ry h;obtain⟨i,j,rfl,rfl,hz,q⟩:=h;obtain⟨t,rfl⟩:=rx;obtain⟨t',rfl⟩:=ry;exact add_str (fun t' tk=>⟨.str (i++j),H,I.tok _,⟨_,rfl⟩,q⟩) hz
theorem vals1 {x:V} {us:List Value} (r:Vals [x] us):∃u,us=[u]∧RelV x u:=by
  cases r with
  | cons r1 r2=>cases r2;exact⟨_,rfl,r1⟩
theorem vals2 {x y:V} {us:List Value} (r:Vals [x,y] us):∃u w',us=[u,w']∧RelV x u∧RelV y w':=by
  cases r with
  | cons r1 r2=>
    cases r2 with
    | cons r3 r4=>cases r4;exact⟨_,_,rfl,r1,r3⟩
theorem Sh:cC X (.builtin "abs") (fun xs H Q=>∃i,xs=[.int i]∧Q (.int (if i<0 then -i else i)) H):=by
  intro p_ s σ H xs us Q I r h;obtain⟨i,rfl,q⟩:=h;obtain⟨u,rfl,t,rfl⟩:=vals1 r;exact call_abs_int fun u tk=>⟨.int (if i<0 then -i else i),H,I.tok _,⟨_,rfl⟩,q⟩
theorem Qg (hc:X.calm=true):cC X (.builtin "max") (fun xs H Q=>∃i j,xs=[.int i,.int j]∧Q (.int (if j > i then j else i)) H):=by
  intro p_ s σ H xs us Q I r h;obtain⟨i,j,rfl,q⟩:=h;obtain⟨u,w',rfl,⟨t,rfl⟩,⟨t',rfl⟩⟩:=vals2 r;refine max_two_ints (I.ok.hd hc) fun h' tk k=>⟨_,H,I.kept k,?_,q⟩
  by_cases hj:j > i
  ·rw[if_pos hj,if_pos hj];exact⟨_,rfl⟩
  ·rw[if_neg hj,if_neg hj];exact⟨_,rfl⟩
theorem Qh (hc:X.calm=true):cC X (.builtin "min") (fun xs H Q=>∃i j,xs=[.int i,.int j]∧Q (.int (if j<i then j else i)) H):=by
  intro p_ s σ H xs us Q I r h;obtain⟨i,j,rfl,q⟩:=h;obtain⟨u,w',rfl,⟨t,rfl⟩,⟨t',rfl⟩⟩:=vals2 r;refine min_two_ints (I.ok.hd hc) fun h' tk k=>⟨_,H,I.kept k,?_,q⟩
  by_cases hj:j<i
  ·rw[if_pos hj,if_pos hj];exact⟨_,rfl⟩
  ·rw[if_neg hj,if_neg hj];exact⟨_,rfl⟩
theorem Qi:cC X (.type "int") (fun xs H Q=>(∃i,xs=[.int i]∧Q (.int i) H)∨∃k,xs=[.bl k]∧Q (.int (if k then 1 else 0)) H):=by
  intro p_ s σ H xs us Q I r h
  rcases h with⟨i,rfl,q⟩ | ⟨k,rfl,q⟩
  ·obtain⟨u,rfl,t,rfl⟩:=vals1 r;exact call_int_int ⟨.int i,H,I,⟨_,rfl⟩,q⟩
  ·obtain⟨u,rfl,r1⟩:=vals1 r;cases r1;exact call_int_bool ⟨.int (if k then 1 else 0),H,I.tok _,⟨_,rfl⟩,q⟩
end
structure Ky (h:Heap) (x dx C:Addr) (mA:Str→Option Value):Prop where
  obj:h.get? x=some (W.instObj C dx)
  ns:h.Ns1 dx mA
  ne:dx≠x
theorem Dj {h:Heap} {dx:Addr} {mA:Str→Option Value} (n:h.Ns1 dx mA):∃od,h.get? dx=some od∧∀name,W.lookIn name od=some (mA name):=by
  obtain⟨o,es,ep,ho,hd,hk,_,hm⟩:=n;refine⟨o,ho,fun name=>?_⟩;have e:=hm name;unfold nsFind findBy at e;rw[← Array.find?_toList] at e;unfold W.lookIn;rw[hd];dsimp only;split
  ·rename_i y q;rw[q] at e;exact congrArg some e
  · rename_i q;rw[q] at e;have a:es.toList.any (·.refKey)=false:=by
      rw[List.any_eq_false];intro y hy;obtain⟨z,t,hkey⟩:=hk y (Array.mem_toList_iff.mp hy);simp[DictEntry.refKey,hkey]
    have a':¬es.toList.any (·.refKey)=true:=by rw[a];exact Bool.false_ne_true
    rw[if_neg a'];exact congrArg some e
theorem Ky.look {h:Heap} {x dx C:Addr} {mA:Str→Option Value} (I:Ky h x dx C mA):∃od,W.InstAt h x (W.instObj C dx) C (some od)∧∀name,W.lookIn name od=some (mA name):=
  let ⟨od,ho,hl⟩:=Dj I.ns
  ⟨od,⟨I.obj,rfl,rfl,ho⟩,hl⟩
section
variable {prog:Program} {w:World} {A:Around} {E:Value→Shared→Prop} {s:Shared} {K:W.Frag} {x dx C f:Addr} {mA:Str→Option Value} {name:Str} {v:Value}
theorem get_map {expr:Bool} {Q:Value→Shared→Prop} (X:K.In s.heap) (I:Ky s.heap x dx C mA) (hg:W.plainGet K C name=true) (hh:W.hasDictIn K C=true)
    (ha:W.findIn K (.ref C) name=some none) (hv:mA name=some v) (hv':W.handedIn v=true) (h:Q v {s with toks:=s.toks+1}) :
    wpAny (model prog w) A (getAttr (.ref x) name expr) Q E s:=by
  obtain⟨od,J,hl⟩:=I.look;exact W.get_value X J (W.plainGet_of hg).1 (W.findObj_own hh ha rfl (by rw[hl,hv])) hv' h
theorem Ss {pl:Sem Bool} {Q:Value×List Value→Shared→Prop} (X:K.In s.heap) (I:Ky s.heap x dx C mA) (hg:W.plainGet K C name=true)
    (hf:W.findIn K (.ref C) name=some (some (.ref f))) (ht:W.isFn K (.ref f)=true) (hv:mA name=none) (h:Q (.ref f,[.ref x]) s) :
    wpAny (model prog w) A (getMethod (.ref x) name pl) Q E s:=by
  obtain⟨od,J,hl⟩:=I.look;exact W.method_fn X J (W.plainGet_of hg).1 (W.plainGet_of hg).2 hf (beq_iff_eq.mp ht) (by show(W.lookIn name od).map (·.isSome)=some false;rw[hl,hv];rfl) h
theorem XM {ns:List Str} {Q:Unit→Shared→Prop} (X:K.In s.heap) (I:Ky s.heap x dx C mA)
    (hs:W.findIn K (.ref C) "__setattr__" = some (some (.builtin "object.__setattr__"))) (hp:W.plainOver K C=true) (ht:W.takerIn K C name=some none) (hh:W.hasDictIn K C=true)
    (hw:PySem.Within mA ns) (hsz:ns.length≤sizeLine)
    (h:∀h',Ky h' x dx C (fun y=>if y=name then some v else mA y)→Heap.SameBut dx s.heap h'→Q () {s with heap:=h',toks:=s.toks+2}) :
    wpAny (model prog w) A (setAttr (.ref x) name v) Q E s:=by
  obtain⟨od,J,hl⟩:=I.look;refine W.set_plain X J hs (W.osa_open (s:={s with toks:=s.toks+1}) (r:=none) X J hp ht fun b=>?_);obtain⟨cd,hc,hd'⟩:=W.any_some hh;have hx:s.heap.get? x=some ⟨.ref C,some dx,.plain,#[]⟩:=I.obj;refine wpAny_bind (wpAny_pure (wpAny_bind (wpAny_bind (wpAny_loadPart hx (wpAny_bind (W.Looks.here (s:={s with toks:=s.toks+1}) (W.looks_clsIn X hc) ?_))))));rw[hd'];refine wpAny_pure (a:=some dx) (wpAny_bind (wpAny_pure (wpAny_bind ?_)));refine wpAny_nsSet1 (s:={s with toks:=s.toks+1}) I.ns fun h' hn2 hs2=>?_;obtain⟨oD,esD,epD,hoD,hdD,hcD⟩:=hn2.count (PySem.Within.cons name v hw);refine wpAny_bind (wpAny_lookBehind hoD (by rw[hdD];exact pastItsLine_dict (Nat.le_trans hcD (by rw[List.length_cons];omega))) ?_);exact wpAny_pure (h _ ⟨(hs2.2 _ (Ne.symm I.ne)).trans I.obj,hn2,I.ne⟩ hs2)
theorem Sv {R:Result→Shared→Prop} {vs:List Value} {kw:List (Str×Value)} (X:K.In s.heap) (hm:W.makesIn K C=true)
    (hi:W.findIn K (.ref C) "__init__" = some (some (.ref f))) (hf:W.typeIn K (.ref f)=some (.type "function"))
    (h:codeAny (model prog w) (A.under (.builtin "type.__call__" ⟨.ref C::vs,kw⟩)) (.call (.ref f) ⟨.ref (s.heap.objs.size+1)::vs,kw⟩) (W.InitBack (s.heap.objs.size+1) R)
      {s with heap:=(s.heap.push W.emptyDict).push (W.instObj C s.heap.objs.size)}) :
    codeAny (model prog w) A (.call (.ref C) ⟨vs,kw⟩) R s:=by
  obtain⟨hh,g,d,t,os⟩:=s;exact W.make_core (W.makes_of X hm) (W.looks_findIn X hi) (fun self=>W.bind_fn X self hf) (.inl rfl) h
end
def jF (f:Str) (v:V):List (Str×V)→List (Str×V)
  | []=>[(f,v)]
  | (g,x)::r=>if g=f then (g,v)::r else (g,x)::jF f v r
theorem mV (f g:Str) (v:V):∀fs:List (Str×V),(jF f v fs).lookup g=if g=f then some v else fs.lookup g
  | []=>by
    show List.lookup g [(f,v)]=_
    by_cases h:g=f
    ·have hb:(g == f)=true:=beq_iff_eq.mpr h;simp only[List.lookup,hb,if_pos h]
    ·have hb:(g == f)=false:=beq_eq_false_iff_ne.mpr h;simp only[List.lookup,hb,if_neg h]
  | (k,x)::r=>by
    have ih:=mV f g v r;rw[show jF f v ((k,x)::r)=(if k=f then (k,v)::r else (k,x)::jF f v r) from rfl]
    by_cases hk:k=f
    · rw[if_pos hk]
      by_cases h:g=k
      ·have hb:(g == k)=true:=beq_iff_eq.mpr h;simp only[List.lookup,hb,if_pos (h.trans hk)]
      ·have hb:(g == k)=false:=beq_eq_false_iff_ne.mpr h;simp only[List.lookup,hb,if_neg (fun e:g=f=>h (e.trans hk.symm))]
    · rw[if_neg hk]
      by_cases h:g=k
      ·have hb:(g == k)=true:=beq_iff_eq.mpr h;simp only[List.lookup,hb,if_neg (fun e:g=f=>hk (h.symm.trans e))]
      ·have hb:(g == k)=false:=beq_eq_false_iff_ne.mpr h;simp only[List.lookup,hb];exact ih
theorem oY (f:Str) (v:V):∀fs:List (Str×V),f∈(jF f v fs).map (·.1)∧∀g,g∈fs.map (·.1)→g∈(jF f v fs).map (·.1)
  | []=>⟨by simp[jF],fun g h=>by simp at h⟩
  | (k,x)::r=>by
    obtain⟨i1,i2⟩:=oY f v r;rw[show jF f v ((k,x)::r)=(if k=f then (k,v)::r else (k,x)::jF f v r) from rfl]
    by_cases hk:k=f
    ·rw[if_pos hk];subst hk;exact⟨by simp,fun g h=>by simpa using h⟩
    · rw[if_neg hk];refine⟨?_,fun g h=>?_⟩
      ·rw[List.map_cons];exact List.mem_cons_of_mem _ i1
      · rw[List.map_cons] at h ⊢
        rcases List.mem_cons.mp h with e | e
        ·exact List.mem_cons.mpr (.inl e)
        ·exact List.mem_cons_of_mem _ (i2 g e)
theorem qY (f:Str) (v:V):∀fs:List (Str×V),(jF f v fs).length≤fs.length+1
  | []=>by simp[jF]
  | (k,x)::r=>by
    have ih:=qY f v r;rw[show jF f v ((k,x)::r)=(if k=f then (k,v)::r else (k,x)::jF f v r) from rfl]
    by_cases hk:k=f
    ·rw[if_pos hk,List.length_cons,List.length_cons];omega
    ·rw[if_neg hk,List.length_cons,List.length_cons];omega
theorem lE.some_of {v:V} {o:Option Value} (r:lE (some v) o):∃u,o=some u∧RelV v u:=by
  cases o with
  | none=>exact(show False from r).elim
  | some u=>exact⟨u,rfl,r⟩
theorem lE.none_of {o:Option Value} (r:lE none o):o=none:=by
  cases o with
  | none=>rfl
  | some u=>exact(show False from r).elim
theorem Dk {v:V} {u:Value} (r:RelV v u):W.handedIn u=true:=by
  cases v with
  | non=>cases (show u=Value.none from r);rfl
  | bl b=>cases (show u=Value.bool b from r);rfl
  | int i=>obtain⟨t,e⟩:=(show ∃t,u=Value.int i t from r);cases e;rfl
  | str x=>obtain⟨t,e⟩:=(show ∃t,u=Value.str x t from r);cases e;rfl
  | Rz b=>obtain⟨t,e⟩:=(show ∃t,u=Value.bytes b t from r);cases e;rfl
  | flt b=>obtain⟨t,e⟩:=(show ∃t,u=Value.float b t from r);cases e;rfl
  | ref a=>cases (show u=Value.ref a from r);rfl
  | ty n=>cases (show u=Value.type n from r);rfl
section
variable {P:Program} {w:World} {H H':Hp} {h h':Heap} {a C dx:Addr} {fs fs':List (Str×V)}
theorem uJ (hok:qT P w H h) (e:H a=some (.ins C dx fs)):∃mA,Ky h a dx C mA∧(∀f,lE (fs.lookup f) (mA f))∧PySem.Within mA (fs.map (·.1))∧fs.length≤1000∧H dx=some (.own a):=by
  obtain⟨d,z,ne,ob,mA,n,r,q⟩:=(show cj P w H h a (.ins C dx fs) from hok a _ e);exact⟨mA,⟨ob,n,ne⟩,r,q,z,d⟩
end
structure Cls (K:W.Frag) (C:Addr):Prop where
  pg:W.plainGet K C Str.empty=true
  hd:W.hasDictIn K C=true
  po:W.plainOver K C=true
  sa:W.findIn K (.ref C) "__setattr__" = some (some (.builtin "object.__setattr__"))
theorem Cls.get {K:W.Frag} {C:Addr} (c:Cls K C) (f:Str):W.plainGet K C f=true:=c.pg
def kO (K:W.Frag) (C:Addr) (f:Str):Prop:=W.findIn K (.ref C) f=some none
theorem kO.taker {K:W.Frag} {C:Addr} {f:Str} (n:kO K C f):W.takerIn K C f=some none:=by
  unfold W.takerIn;rw[show W.findIn K (.ref C) f=some none from n];rfl
structure Meth (K:W.Frag) (C:Addr) (m:Str) (f:Addr):Prop where
  at_:W.findIn K (.ref C) m=some (some (.ref f))
  fn:W.isFn K (.ref f)=true
  kp:W.keepIn K (.ref f)=true
section
variable {X:Cx} {p_:List (Addr×Obj)} {σ:St} {H:Hp} {s:Shared} {a C dx:Addr} {fs:List (Str×V)} {f:Str} {v:V} {A:Around} {E:Value→Shared→Prop}
theorem Kz {b:Bool} {Q:Value→Shared→Prop} (I:Inv X p_ σ H s) (e:H a=some (.ins C dx fs)) (c:Cls X.K C) (n:kO X.K C f) (l:fs.lookup f=some v)
    (h:∀u s',Inv X p_ σ H s'→RelV v u→Q u s'):wpAny (model X.prog X.w) A (getAttr (.ref a) f b) Q E s:=by
  obtain⟨mA,O,r,_,_,_⟩:=uJ I.hok e;obtain⟨u,hu,ru⟩:=lE.some_of (v:=v) (o:=mA f) (by rw[← l];exact r f);exact get_map I.mR O (c.get f) c.hd n hu (Dk ru) (h u _ (I.tok _) ru)
theorem KC {m:Str} {g:Addr} {pl:Sem Bool} {Q:Value×List Value→Shared→Prop} (I:Inv X p_ σ H s) (e:H a=some (.ins C dx fs)) (c:Cls X.K C) (k:Meth X.K C m g) (l:fs.lookup m=none)
    (h:Q (.ref g,[.ref a]) s):wpAny (model X.prog X.w) A (getMethod (.ref a) m pl) Q E s:=by
  obtain⟨mA,O,r,_,_,_⟩:=uJ I.hok e;have hn:mA m=none:=lE.none_of (by rw[← l];exact r m);exact Ss I.mR O (c.get m) k.at_ k.fn hn h
theorem KD {y:V} {u:Value} {Q:Unit→Shared→Prop} (I:Inv X p_ σ H s) (e:H a=some (.ins C dx fs)) (c:Cls X.K C) (n:kO X.K C f) (hl:fs.length<1000) (ry:RelV y u)
    (h:∀s',Inv X p_ σ (upd H a (.ins C dx (jF f y fs))) s'→Q () s'):wpAny (model X.prog X.w) A (setAttr (.ref a) f u) Q E s:=by
  obtain⟨mA,O,r,wi,_,ho⟩:=uJ I.hok e;have hz:(fs.map (·.1)).length≤sizeLine:=by rw[List.length_map,sizeLine_eq];omega
  refine XM I.mR O c.sa c.po n.taker c.hd wi hz fun h' O' sb=>h _ ?_;have hd:∃o,h'.get? dx=some o:=let ⟨o,_,_,e',_⟩:=O'.ns;⟨o,e'⟩;refine I.write (x:=a) (e:=dx) (by rw[e];exact True.intro) (.inr ho) (fun b q hb z=>(sb.2 b hb).trans z) hd ?_;refine⟨by rw[aB O.ne];exact ho,?_,O.ne,O'.obj,_,O'.ns,fun g=>?_,fun g hg=>?_⟩
  ·have:=qY f y fs;omega
  · show lE ((jF f y fs).lookup g) (if g=f then some u else mA g)
    rw[mV]
    by_cases q:g=f
    ·rw[if_pos q,if_pos q];exact ry
    ·rw[if_neg q,if_neg q];exact r g
  · by_cases q:g=f
    ·rw[q];exact(oY f y fs).1
    · refine(oY f y fs).2 g (wi g fun z=>hg ?_);show(if g=f then some u else mA g)=none
      rw[if_neg q];exact z
theorem Inv.made (I:Inv X p_ σ H s):Inv X p_ σ (upd (upd H s.heap.objs.size (.own (s.heap.objs.size+1))) (s.heap.objs.size+1) (.ins C s.heap.objs.size []))
    {s with heap:=(s.heap.push W.emptyDict).push (W.instObj C s.heap.objs.size)}:=by
  have e1:(s.heap.push W.emptyDict).get? s.heap.objs.size=some W.emptyDict:=Heap.get?_push_size s.heap rfl;have e2:((s.heap.push W.emptyDict).push (W.instObj C s.heap.objs.size)).get? (s.heap.objs.size+1)=some (W.instObj C s.heap.objs.size):=by
    have:=Heap.get?_push_size (s.heap.push W.emptyDict) (o:=W.instObj C s.heap.objs.size) rfl
    rwa [Heap.size_push] at this
  have e3:(s.heap.push W.emptyDict).Ns s.heap.objs.size (fun _=>none):=⟨W.emptyDict,#[],_,e1,rfl,(fun e he=>absurd he (by simp)),fun _=>rfl⟩;have I1:=I.laid (a:=s.heap.objs.size) (o:=.own (s.heap.objs.size+1)) (h':=s.heap.push W.emptyDict) (t':=s.toks) (fun b u q=>Heap.get?_push_of_some _ q) (Nat.le_refl _) ⟨_,e1⟩;refine I1.laid (a:=s.heap.objs.size+1) (o:=.ins C s.heap.objs.size []) (t':=s.toks) (fun b u q=>Heap.get?_push_of_some _ q) (Nat.le_of_eq (Heap.size_push _ _)) ?_;have ne:s.heap.objs.size≠s.heap.objs.size+1:=Nat.ne_of_lt (Nat.lt_succ_self _);refine⟨by rw[aB ne,ao],Nat.zero_le _,ne,e2,fun _=>none,(Heap.Ns1.of_empty e3).at fun o q=>Heap.get?_push_of_some _ q,fun _=>True.intro,fun y hy=>absurd rfl hy⟩
theorem Nz {prog:Program} {w:World} {env:Env} {e:Expr} {f:Str} {pos:Pos} {s:Shared} {Q:Value→Shared→Prop} (hb:attributeBase e f env (eval e env)=eval e env)
    (h:wpAny (model prog w) A (eval e env) (fun o s₁=>wpAny (model prog w) A (getAttr o f true) Q E s₁) E s):wpAny (model prog w) A (eval (.Attribute e f pos) env) Q E s:=
  Attribute_any_ h (by rw[arm_eval_Attribute,hb])
end
def XQ (K:W.Frag) (ta:TE) (f:Str):TE:=fun σ H Q=>ta σ H fun x H1=>∃a C dx fs v,x = .ref a∧H1 a=some (.ins C dx fs)∧Cls K C∧kO K C f∧fs.lookup f=some v∧Q v H1
def qbd (K:W.Frag) (ta tv:TE) (f:Str):TS:=fun D σ H=>tv σ H fun y H1=>ta σ H1 fun x H2=>∃a C dx fs,x = .ref a∧H2 a=some (.ins C dx fs)∧Cls K C∧kO K C f∧fs.length<1000∧
  D.nx σ (upd H2 a (.ins C dx (jF f y fs)))
section
variable {X:Cx} {o e value:Expr} {f:Str} {pos pos' tpos:Pos} {ta tv:TE}
theorem qbe (he:PE X e ta) (hb:attributeBase e f X.env (eval e X.env)=eval e X.env):PE X (.Attribute e f pos) (XQ X.K ta f):=by
  intro p_ s σ H Q I h;refine Nz hb (cB (he p_ s σ H _ I h) fun u s1 zz=>?_);obtain⟨x,H1,I1,rx,a,C,dx,fs,v,ex,ea,c,n,l,q⟩:=zz;subst ex;obtain rfl:u=Value.ref a:=rx;exact Kz I1 ea c n l fun u' s2 I2 ru=>⟨v,H1,I2,ru,q⟩
theorem qbf (ha:PE X o ta) (hv:PE X value tv) (hs:swapsWith value (some (.Attribute o f pos')) pos.line X.env=pure false):PS X (.Assign [.Attribute o f pos'] value pos) (qbd X.K ta tv f):=by
  intro p_ s σ H D I h;refine plainObj_wpAny_Assign_Attribute (cB (hv p_ s σ H _ I h) fun u s1 ⟨y,H1,I1,ry,q⟩=>cB (ha p_ s1 σ H1 _ I1 q) fun ov s2 ⟨x,H2,I2,rx,a,C,dx,fs,ex,ea,c,n,l,q2⟩=>?_) hs;subst ex;obtain rfl:ov=Value.ref a:=rx;exact KD I2 ea c n l ry fun s3 I3=>⟨σ,_,I3,q2⟩
end
section
variable {X:Cx} {p_:List (Addr×Obj)} {σ:St} {H:Hp} {s:Shared} {A:Around} {E:Value→Shared→Prop} {Q:Value→Shared→Prop} {c:Value} {b:Bool}
inductive kW (K:W.Frag) (H:Hp):V→Value→Prop where
  | non:kW K H .non (.type "NoneType")
  | bl (x:Bool):kW K H (.bl x) (.type "bool")
  | int (i:Int):kW K H (.int i) (.type "int")
  | str (x:Str):kW K H (.str x) (.type "str")
  | flt (x:UInt64):kW K H (.flt x) (.type "float")
  | lst {a:Addr} {xs:List V} (e:H a=some (.lst xs)):kW K H (.ref a) (.type "list")
  | Hv {a:Addr} {o:Obj} {xs:List V} (e:H a=some (.Hv o (.lst xs))):kW K H (.ref a) (.type "list")
  | tup {a:Addr} {xs:List V} (e:H a=some (.tup xs)):kW K H (.ref a) (.type "tuple")
  | dK {a:Addr} {kvs:List (Key×V)} (e:H a=some (.dK kvs)):kW K H (.ref a) (.type "dict")
  | dT {a:Addr} {kvs:List (List Key×V)} (e:H a=some (.dT kvs)):kW K H (.ref a) (.type "dict")
  | ins {a C dx:Addr} {fs:List (Str×V)} (e:H a=some (.ins C dx fs)) (cl:Cls K C) (ha:W.findIn K (.ref C) "__class__" = some (some (.builtin "object.__class__")))
      (hn:W.specialIn K (.builtin "object.__class__") "__get__" = some (some (.builtin "getset_descriptor.__get__"))) (htk:W.takesIn K (.builtin "object.__class__")=some true)
      (hm:W.mroIn K C (.type "object")=some true):kW K H (.ref a) (.ref C)
theorem Qj {x:V} {u t:Value} (I:Inv X p_ σ H s) (rx:RelV x u) (ty:kW X.K H x t) (e:W.kitOne X.K t c=some b) (h:∀tk,Q (.bool b) {s with toks:=tk}) :
    wpAny (model X.prog X.w) A (call (.builtin "isinstance") [u,c]) Q E s:=by
  cases ty with
  | non=>cases (show u=Value.none from rx);exact W.kia_one W.kitx_none I.mR True.intro e (fun z=>nomatch z) h
  | bl y=>cases (show u=Value.bool y from rx);exact W.kia_one W.kitx_bool I.mR True.intro e (fun z=>nomatch z) h
  | int i=>obtain⟨t,q⟩:=(show ∃t,u=Value.int i t from rx);cases q;exact W.kia_one W.kitx_int I.mR True.intro e (fun z=>nomatch z) h
  | str y=>obtain⟨t,q⟩:=(show ∃t,u=Value.str y t from rx);cases q;exact W.kia_one W.kitx_str I.mR True.intro e (fun z=>nomatch z) h
  | flt y=>obtain⟨t,q⟩:=(show ∃t,u=Value.float y t from rx);cases q;exact W.kia_one W.kitx_float I.mR True.intro e (fun z=>nomatch z) h
  | @lst a xs ea=>
    cases (show u=Value.ref a from rx);obtain⟨_,_,n,_,h1⟩:=(show cj X.prog X.w H s.heap a (.lst xs) from I.hok a _ ea);exact W.kia_one W.kitx_list I.mR ⟨_,h1,rfl⟩ e (fun z=>nomatch z) h
  | @Hv a ob xs ea=>
    cases (show u=Value.ref a from rx);obtain⟨_,_,_,n,_,h1⟩:=(show cj X.prog X.w H s.heap a (.Hv ob (.lst xs)) from I.hok a _ ea);exact W.kia_one W.kitx_list I.mR ⟨_,h1,rfl⟩ e (fun z=>nomatch z) h
  | @tup a xs ea=>
    cases (show u=Value.ref a from rx);obtain⟨_,_,_,p⟩:=(show cj X.prog X.w H s.heap a (.tup xs) from I.hok a _ ea);obtain⟨o,h1,h2,_⟩:=p;exact W.kia_one W.kitx_tuple I.mR ⟨o,h1,h2⟩ e (fun z=>nomatch z) h
  | @dK a kvs ea=>
    cases (show u=Value.ref a from rx);obtain⟨_,_,vs,_,p⟩:=(show cj X.prog X.w H s.heap a (.dK kvs) from I.hok a _ ea);obtain⟨o,es,ep,h1,h2,_⟩:=p;exact W.kia_one W.kitx_dict I.mR ⟨o,h1,h2.1⟩ e (fun z=>nomatch z) h
  | @dT a kvs ea=>
    cases (show u=Value.ref a from rx);obtain⟨_,_,xs,_,o,es,ep,h1,h2,_⟩:=(show cj X.prog X.w H s.heap a (.dT kvs) from I.hok a _ ea);exact W.kia_one W.kitx_dict I.mR ⟨o,h1,h2.1⟩ e (fun z=>nomatch z) h
  | @ins a C dx fs ea cl ha hn htk hm=>
    cases (show u=Value.ref a from rx);obtain⟨mA,O,_⟩:=uJ I.hok ea;obtain⟨od,J,_⟩:=O.look;exact W.kia_one (W.kitx_own (cl.get _) cl.hd ha hn htk hm) I.mR J e (fun z=>nomatch z) h
end
structure h_ (k:Nat) (A:Around):Prop where
  hd:A.handled=none
  dp:A.depth+3 * k+5<recursionLimit
  un:A.units+16 * k+200<cLine
  gd:A.guards=some []
theorem h_.mono {j k:Nat} {A:Around} (r:h_ k A) (h:j≤k):h_ j A:=⟨r.hd,by have:=r.dp;omega,by have:=r.un;omega,r.gd⟩
theorem h_.deeper {k:Nat} {A:Around} (r:h_ (k+1) A) (env:Env):h_ k (A.deeper env):=
  ⟨r.hd,by have:=r.dp;show A.depth+1+3 * k+5<_;omega,by have:=r.un;show A.units+3+16 * k+200<_;omega,r.gd⟩
theorem KH {A:Around} {C:Addr} {us:List Value} {kw:List (Str×Value)}:(A.under (.builtin "type.__call__" ⟨.ref C::us,kw⟩)).depth=A.depth+1:=by
  first | rfl | simp[Around.under,Code.weight,Code.isCreation,Code.isGuard,Code.isCaller,Code.frames,Code.isFrame,guardIds]
theorem KJ {A:Around} {C:Addr} {us:List Value} {kw:List (Str×Value)}:(A.under (.builtin "type.__call__" ⟨.ref C::us,kw⟩)).units=A.units+1:=by
  first | rfl | simp[Around.under,Code.cUnits,Code.frames,Code.isFrame]
theorem HD {A:Around} {C:Addr} {us:List Value} {kw:List (Str×Value)}:(A.under (.builtin "type.__call__" ⟨.ref C::us,kw⟩)).guards=A.guards:=by
  first | rfl | simp[Around.under,Code.isGuard,guardIds]
theorem h_.make {k:Nat} {A:Around} (r:h_ (k+1) A) (C:Addr) (us:List Value) (kw:List (Str×Value)):h_ k (A.under (.builtin "type.__call__" ⟨.ref C::us,kw⟩)):=
  ⟨r.hd,by have:=r.dp;rw[KH];omega,by have:=r.un;rw[KJ];omega,by rw[HD];exact r.gd⟩
theorem h_.depth {k:Nat} {A:Around} (r:h_ k A):A.depth<recursionLimit:=by have:=r.dp;omega
theorem h_.units {k:Nat} {A:Around} (r:h_ k A):A.units+64<cLine:=by have:=r.un;omega
def Cj:TA:=fun _ H Q=>Q [] H
def tu (ta:TE) (tr:TA):TA:=fun σ H Q=>ta σ H fun x H1=>tr σ H1 fun xs H2=>Q (x::xs) H2
section
variable {X:Cx} {e:Expr} {es:List Expr} {te:TE} {t:TA} {pos:Pos}
theorem aq:PA X [] Cj:=fun _ _ _ _ H Q I h=>Calls.spliced_nil ⟨[],H,I,.nil,h⟩
theorem aj (ha:PE X e te) (hr:PA X es t) (hs:starEach (e::es) X.env=(false,eval e X.env)::starEach es X.env:=by rfl):PA X (e::es) (tu te t):=by
  intro pos p_ s σ H Q I h;rw[hs];show wpAny _ _ (spliced ((false,eval e X.env)::backTo pos (starEach es X.env))) _ _ s;refine Calls.spliced_cons (cB (ha p_ s σ H _ I h) fun u s1 zz=>?_);obtain⟨x,H1,I1,r1,q1⟩:=zz;refine cB (hr pos p_ s1 σ H1 _ I1 q1) fun us s2 zz=>?_;obtain⟨xs,H2,I2,r2,q2⟩:=zz;exact⟨x::xs,H2,I2,.cons r1 r2,q2⟩
def qdU (t:TA):TE:=fun σ H Q=>t σ H fun xs H1=>xs.length≤sizeLine∧∀p,H1 p=none→Q (.ref p) (upd H1 p (.tup xs))
def qdV (t:TA):TE:=fun σ H Q=>t σ H fun xs H1=>xs.length≤sizeLine∧∀p,H1 p=none→Q (.ref p) (upd H1 p (.lst xs))
theorem iW {x1} (h:PA X es t):PE X (.Tuple es x1 pos) (qdU t):=by
  intro p_ s σ H Q I hq;refine wpAny_Tuple_spliced (cB (h pos p_ s σ H _ I hq) fun us s1 zz=>?_);obtain⟨xs,H1,I1,r,z,q⟩:=zz;refine⟨by rw[← r.length];exact z,?_⟩;have hf:H1 s1.heap.objs.size=none:=I1.hok.fresh (Nat.le_refl _);refine⟨.ref s1.heap.objs.size,upd H1 s1.heap.objs.size (.tup xs),I1.laid (t':=s1.toks) (fun b u e=>Heap.get?_push_of_some _ e) (Nat.le_refl _) ?_,rfl,q _ hf⟩;exact⟨z,us,r,⟨_,Heap.get?_push_size _ rfl,rfl,_,rfl⟩⟩
theorem gA (h:PA X es t):PE X (.List es pos) (qdV t):=by
  intro p_ s σ H Q I hq;refine wpAny_List_spliced (cB (h pos p_ s σ H _ I hq) fun us s1 zz=>?_);obtain⟨xs,H1,I1,r,z,q⟩:=zz;refine⟨by rw[← r.length];exact z,?_⟩;have hf:H1 s1.heap.objs.size=none:=I1.hok.fresh (Nat.le_refl _);refine⟨.ref s1.heap.objs.size,upd H1 s1.heap.objs.size (.lst xs),I1.laid (t':=s1.toks) (fun b u e=>Heap.get?_push_of_some _ e) (Nat.le_refl _) ?_,rfl,q _ hf⟩;exact⟨z,us,0,r,Heap.get?_push_size _ rfl⟩
end
abbrev Sp:=List V→Hp→VK→XK→Prop
abbrev Sw:=List Env→Hp→Shared→XK→Value→Shared→Prop
structure HF (P:Program) (w:World) (K:W.Frag) (mg:Str→Option Value) (base:Heap) (A:Around) (outer:List Env) (s:Shared) (H:Hp):Prop where
  frames:A.frames=some outer
  mod:Mod K mg base
  bs:∀b o,base.get? b=some o→s.heap.get? b=some o∧H b=none
  P0:base.objs.size≤s.heap.objs.size
  qU:s.heap.FunFrames base outer
  RV:∀b∈frs outer,H b=none
  hok:qT P w H s.heap
  bare:AllBare s.gens
def CE (outer:List Env) (P:Program) (w:World) (H:Hp) (s:Shared) (Q:VK) (u:Value) (s':Shared):Prop:=
  ∃v H',s'.os=s.os∧AllBare s'.gens∧Un (frs outer) [] H H' s.heap s'.heap∧qT P w H' s'.heap∧RelV v u∧Q v H'
def CR (CX:Sw) (outer:List Env) (P:Program) (w:World) (H:Hp) (s:Shared) (Q:VK) (E:XK) (r:Result) (s':Shared):Prop:=
  match r with
  | .ok (.ret u)=>CE outer P w H s Q u s'
  | .ok _=>False
  | .error e=>CX outer H s E e s'
structure cF (P:Program) (w:World) (K:W.Frag) (mg:Str→Option Value) (base:Heap) (CX:Sw) (k:Nat) (f:Addr) (fd:FuncData) (ps:List Str) (sp:Sp):Prop where
  len:∀vs H Q E,sp vs H Q E→vs.length=ps.length
  run:∀(A:Around) (outer:List Env) (s:Shared) (H:Hp) (args:Args) (us:List Value) (vs:List V) (Q:VK) (E:XK),h_ k A→HF P w K mg base A outer s H→BindsTo s fd args (ps.zip us)→Vals vs us→sp vs H Q E→
    codeAny (model P w) A (.call (.ref f) args) (CR CX outer P w H s Q E) s
theorem HF.make {P:Program} {w:World} {K:W.Frag} {mg:Str→Option Value} {base:Heap} {A:Around} {outer:List Env} {s:Shared} {H:Hp} (e:HF P w K mg base A outer s H) (C:Addr) (us:List Value) (kw:List (Str×Value)) :
    HF P w K mg base (A.under (.builtin "type.__call__" ⟨.ref C::us,kw⟩)) outer s H:=⟨by first | exact e.frames | (simpa [Around.under,Code.envs,Code.isFrame,pushEnvs] using e.frames),e.mod,e.bs,e.P0,e.qU,e.RV,e.hok,e.bare⟩
section
variable {X:Cx} {p_:List (Addr×Obj)} {σ:St} {H:Hp} {s s':Shared}
theorem Inv.env0 (I:Inv X p_ σ H s):HF X.prog X.w X.K X.mg X.base X.A X.stack s H:=
  ⟨I.ok.frames,I.ok.mod,I.bs,Nat.le_trans I.ok.P0 I.sz,I.stack,I.yr,I.hok,I.bare⟩
theorem Inv.after {Q:VK} {u:Value} (I:Inv X p_ σ H s) (h:CE X.stack X.prog X.w H s Q u s'):EP X p_ σ Q u s':=by
  obtain⟨v,H',os,bare,un,hok,r,q⟩:=h;obtain⟨hh,g,d,t,os'⟩:=s';obtain rfl:os'=s.os:=os;exact⟨v,H',I.call (h':=hh) (g':=g) (d':=d) (t':=t) (ch:=[]) un hok bare (fun b z=>absurd z (by simp)),r,q⟩
end
def Sx (sp:Sp) (wB:List V) (E:XK) (t:TA):TE:=fun σ H Q=>t σ H fun vs H1=>sp (vs++wB) H1 Q E
def Sy (C:Addr) (m:Str) (sp:Sp) (wB:List V) (E:XK) (ta:TE) (t:TA):TE:=fun σ H Q=>ta σ H fun x H1=>∃a dx fs,x = .ref a∧H1 a=some (.ins C dx fs)∧fs.lookup m=none∧
  t σ H1 fun vs H2=>sp (x::(vs++wB)) H2 Q E
def SJ (C:Addr) (sp:Sp) (wB:List V) (E:XK) (t:TA):TE:=fun σ H Q=>t σ H fun vs H1=>∀x dx,H1 x=none→H1 dx=none→dx≠x→
  sp (.ref x::(vs++wB)) (upd (upd H1 dx (.own x)) x (.ins C dx [])) (fun v H2=>v = .non∧Q (.ref x) H2) E
def Binds (K:W.Frag) (fd:FuncData) (ps:List Str) (ds:List Value):Prop:=
  ∀(s:Shared) (us:List Value),K.In s.heap→(us++ds).length=ps.length→BindsTo s fd ⟨us,[]⟩ (ps.zip (us++ds))
theorem Binds.all {K:W.Frag} {fd:FuncData} {ps:List Str} (h:∀us:List Value,us.length=ps.length→bindArgs fd ⟨us,[]⟩=pure (ps.zip us)):Binds K fd ps []:=fun s us _ hl=>by
  rw[List.append_nil] at hl ⊢;exact .of_eq (h us hl)
def Passes (CX:Sw) (X:Cx) (E:XK):Prop:=∀(p_:List (Addr×Obj)) (σ:St) (H:Hp) (s:Shared) (e:Value) (s':Shared),Inv X p_ σ H s→CX X.stack H s E e s'→X.xe e s'
section
variable {X:Cx} {CX:Sw} {k:Nat} {f C:Addr} {fd:FuncData} {ps:List Str} {sp:Sp} {wB:List V} {ds:List Value} {E:XK} {x m:Str} {p pos apos:Pos} {e o:Expr} {es:List Expr} {ta:TE} {t:TA}
theorem SM {p_:List (Addr×Obj)} {σ:St} {H:Hp} {s:Shared} {Q:VK} {us:List Value} {vs:List V} (F:cF X.prog X.w X.K X.mg X.base CX k f fd ps sp) (hr:h_ k X.A) (hb:Binds X.K fd ps ds) (hd:Vals wB ds) (hx:Passes CX X E)
    (I:Inv X p_ σ H s) (r:Vals vs us) (h:sp (vs++wB) H Q E):wpAny (model X.prog X.w) X.A (call (.ref f) us) (EP X p_ σ Q) X.xe s:=by
  have r2:Vals (vs++wB) (us++ds):=r.append hd;have hl:(us++ds).length=ps.length:=by rw[← r2.length];exact F.len _ _ _ _ h
  refine wpAny_call (codeAny_mono (F.run X.A X.stack s H ⟨us,[]⟩ (us++ds) (vs++wB) Q E hr I.env0 (hb s us I.mR hl) r2 h) fun r s' hq=>?_);cases r with
  | error e=>exact hx p_ σ H s e s' I hq
  | ok fl=>
    cases fl with
    | ret u=>exact I.after hq
    | next=>exact False.elim hq
    | brk=>exact False.elim hq
    | cont=>exact False.elim hq
theorem aN (F:cF X.prog X.w X.K X.mg X.base CX k f fd ps sp) (hr:h_ k X.A) (hg:Gl X x) (hm:X.mg x=some (.ref f)) (hk:W.keepIn X.K (.ref f)=true) (hb:Binds X.K fd ps ds) (hd:Vals wB ds) (hx:Passes CX X E)
    (ha:PA X (e::es) t) (hdb:(x == ("__debug__" : Str))=false:=by decide) (he:starEach (e::es) X.env=(false,eval e X.env)::starEach es X.env:=by rfl) (hpl:(backTo pos (starEach es X.env)).any (·.1)=false:=by rfl) :
    PE X (.Call (.Name x p) (e::es) [] pos) (Sx sp wB E t):=by
  intro p_ s σ H Q I h;refine wpAny_Call_Name_kw (mU I hg hm ?_ hdb);refine W.callWith_K (h₀:=X.base) I.ok.mod.Ko hk (cB (ha pos p_ s σ H _ I h) fun us s1 zz=>?_) he hpl;obtain⟨vs,H1,I1,r,q⟩:=zz;refine⟨I1.mR,?_⟩;exact SM F hr hb hd hx I1 r q
theorem j9 {pl:Sem Bool} (he:PE X o ta) (c:Cls X.K C) (hm:Meth X.K C m f) (F:cF X.prog X.w X.K X.mg X.base CX k f fd ps sp) (hr:h_ k X.A) (hb:Binds X.K fd ps ds) (hd:Vals wB ds) (hx:Passes CX X E)
    (ht:eval (.Call (.Attribute o m apos) [] [] pos) X.env=(do
      let ov ← eval o X.env
      standAt apos.atName
      let (f,first) ← holding [ov] (getMethod ov m pl)
      callWith pos f first (backTo pos (starEach [] X.env)) (backToKw pos (keywordEach [] X.env))):=by rfl) :
    PE X (.Call (.Attribute o m apos) [] [] pos) (Sy C m sp wB E ta Cj):=by
  intro p_ s σ H Q I h;refine W.methodCall_KW (pl:=pl) (cB (he p_ s σ H _ I h) fun u s1 zz=>?_) ht;obtain⟨x,H1,I1,rx,a,dx,fs,ex,ea,l,q⟩:=zz;subst ex;obtain rfl:u=Value.ref a:=rx;refine KC I1 ea c hm l ?_;exact W.callWith_K0 (first:=[.ref a]) I1.mR hm.kp (SM (us:=[.ref a]) (vs:=[.ref a]) F hr hb hd hx I1 (.cons rfl .nil) q)
structure Mk (K:W.Frag) (C f:Addr):Prop where
  makes:W.makesIn K C=true
  init:W.findIn K (.ref C) "__init__" = some (some (.ref f))
  fn:W.isFn K (.ref f)=true
  kp:W.keepIn K (.ref C)=true
theorem SN {p_:List (Addr×Obj)} {σ:St} {H:Hp} {s:Shared} {Q:VK} {us:List Value} {vs:List V} (M:Mk X.K C f) (F:cF X.prog X.w X.K X.mg X.base CX k f fd ps sp) (hr:h_ (k+1) X.A) (hb:Binds X.K fd ps ds) (hd:Vals wB ds)
    (hx:Passes CX X E) (I:Inv X p_ σ H s) (r:Vals vs us)
    (h:∀x dx,H x=none→H dx=none→dx≠x→sp (.ref x::(vs++wB)) (upd (upd H dx (.own x)) x (.ins C dx [])) (fun v H2=>v = .non∧Q (.ref x) H2) E) :
    wpAny (model X.prog X.w) X.A (call (.ref C) us) (EP X p_ σ Q) X.xe s:=by
  have hq:=h (s.heap.objs.size+1) s.heap.objs.size (I.hok.fresh (Nat.le_succ _)) (I.hok.fresh (Nat.le_refl _)) (Nat.ne_of_lt (Nat.lt_succ_self _));have I2:=Inv.made (C:=C) I;have r2:Vals (V.ref (s.heap.objs.size+1)::(vs++wB)) (Value.ref (s.heap.objs.size+1)::(us++ds)):=.cons rfl (r.append hd);have hl:(Value.ref (s.heap.objs.size+1)::us++ds).length=ps.length:=by
    have e:=r2.length;rw[F.len _ _ _ _ hq] at e;exact e.symm
  refine wpAny_call (Sv (f:=f) I.mR M.makes M.init (beq_iff_eq.mp M.fn) (codeAny_mono (F.run _ X.stack _ _ ⟨Value.ref (s.heap.objs.size+1)::us,[]⟩ (Value.ref (s.heap.objs.size+1)::(us++ds)) _ _ E (hr.make C us [])
    (I2.env0.make C us []) (hb _ (Value.ref (s.heap.objs.size+1)::us) I2.mR hl) r2 hq) fun r s' hq'=>?_))
  cases r with
  | error e=>exact hx p_ σ _ _ e s' I2 hq'
  | ok fl=>
    cases fl with
    | ret u=>
      obtain⟨v,H',I3,rv,ev,q3⟩:=I2.after hq';subst ev;exact⟨rv,⟨V.ref (s.heap.objs.size+1),H',I3,rfl,q3⟩⟩
    | next=>exact False.elim hq'
    | brk=>exact False.elim hq'
    | cont=>exact False.elim hq'
theorem XR (M:Mk X.K C f) (F:cF X.prog X.w X.K X.mg X.base CX k f fd ps sp) (hr:h_ (k+1) X.A) (hg:Gl X x) (hm:X.mg x=some (.ref C)) (hb:Binds X.K fd ps ds) (hd:Vals wB ds) (hx:Passes CX X E)
    (ha:PA X (e::es) t) (hdb:(x == ("__debug__" : Str))=false:=by decide) (he:starEach (e::es) X.env=(false,eval e X.env)::starEach es X.env:=by rfl) (hpl:(backTo pos (starEach es X.env)).any (·.1)=false:=by rfl) :
    PE X (.Call (.Name x p) (e::es) [] pos) (SJ C sp wB E t):=by
  intro p_ s σ H Q I h;refine wpAny_Call_Name_kw (mU I hg hm ?_ hdb);refine W.callWith_K (h₀:=X.base) I.ok.mod.Ko M.kp (cB (ha pos p_ s σ H _ I h) fun us s1 zz=>?_) he hpl;obtain⟨vs,H1,I1,r,q⟩:=zz;refine⟨I1.mR,?_⟩;exact SN M F hr hb hd hx I1 r q
end
structure aU (N P:List Str) (sc:Scope):Prop where
  kind:sc.kind = .function
  co:sc.isCoroutine=false
  gen:sc.isGenerator=false
  nd:N.Nodup
  pre:N.take P.length=P
  par:∀x∈P,sc.names.lookup x=some .local∨sc.names.lookup x=some .cell
  qbg:∀y∈sc.names,y.2≠.free
theorem Dl {kindOf:Str→Option NameKind} {x:Str}:∀{binds:List (Str×Value)} {m:Str→Option Value},(∀v,(x,v)∉binds)→bindL kindOf binds m x=m x
  | [],_,_=>rfl
  | (n,v)::r,m,h=>by
    unfold bindL;rw[Dl fun w hw=>h w (List.mem_cons_of_mem _ hw)];split
    · have:x≠n:=by rintro rfl;exact h v List.mem_cons_self
      simp[this]
    ·rfl
theorem Dm {kindOf:Str→Option NameKind} {x:Str}:∀{binds:List (Str×Value)} {m:Str→Option Value},(∀v,(x,v)∉binds)→bindC kindOf binds m x=m x
  | [],_,_=>rfl
  | (n,v)::r,m,h=>by
    unfold bindC;rw[Dm fun w hw=>h w (List.mem_cons_of_mem _ hw)];split
    ·rfl
    · have:x≠n:=by rintro rfl;exact h v List.mem_cons_self
      simp[this]
theorem Dq {kindOf:Str→Option NameKind} {x:Str} {v:Value}:∀{P:List Str} {vs:List Value} {i:Nat} {m:Str→Option Value},P.Nodup→P[i]? = some x→vs[i]? = some v→kindOf x=some .local→
    bindL kindOf (P.zip vs) m x=some v
  | [],_,_,_,_,h,_,_=>by simp at h
  | _::_,[],_,_,_,_,h,_=>by simp at h
  | p::P,w::vs,0,m,nd,h1,h2,hk=>by
    simp at h1 h2;subst h1;subst h2;show bindL kindOf ((p,w)::P.zip vs) m p=_;unfold bindL;rw[Dl fun v hv=>(List.nodup_cons.mp nd).1 (List.of_mem_zip hv).1,if_pos hk];simp
  | p::P,w::vs,i+1,m,nd,h1,h2,hk=>by
    show bindL kindOf ((p,w)::P.zip vs) m x=_;unfold bindL;exact Dq (i:=i) (List.nodup_cons.mp nd).2 (by simpa using h1) (by simpa using h2) hk
theorem Dr {kindOf:Str→Option NameKind} {x:Str} {v:Value}:∀{P:List Str} {vs:List Value} {i:Nat} {m:Str→Option Value},P.Nodup→P[i]? = some x→vs[i]? = some v→kindOf x≠some .local→
    bindC kindOf (P.zip vs) m x=some v
  | [],_,_,_,_,h,_,_=>by simp at h
  | _::_,[],_,_,_,_,h,_=>by simp at h
  | p::P,w::vs,0,m,nd,h1,h2,hk=>by
    simp at h1 h2;subst h1;subst h2;show bindC kindOf ((p,w)::P.zip vs) m p=_;unfold bindC;rw[Dm fun v hv=>(List.nodup_cons.mp nd).1 (List.of_mem_zip hv).1,if_neg hk];simp
  | p::P,w::vs,i+1,m,nd,h1,h2,hk=>by
    show bindC kindOf ((p,w)::P.zip vs) m x=_;unfold bindC;exact Dr (i:=i) (List.nodup_cons.mp nd).2 (by simpa using h1) (by simpa using h2) hk
def start (N:List Str) (vs:List V):St:=vs.map some++List.replicate (N.length - vs.length) none
def dw (CX:Sw) (P:Program) (w:World) (K:W.Frag) (mg:Str→Option Value) (base:Heap) (N:List Str) (qual:Str) (scope:Scope) (f:Addr) (cd:Value) (A:Around) (outer:List Env) (s:Shared) (H:Hp) (E:XK):Cx where
  prog:=P
  w:=w
  K:=K
  mg:=mg
  base:=base
  A:=A.deeper (envOfC qual scope s.heap.objs.size f cd)
  N:=N
  s₀:=s
  H₀:=H
  env:=envOfC qual scope s.heap.objs.size f cd
  outer:=outer
  stack:=envOfC qual scope s.heap.objs.size f cd::outer
  ex:=[]
  calm:=true
  fn:=fun _=>true
  pn:=[]
  xe:=fun e s'=>wpAny (model P w) (A.deeper (envOfC qual scope s.heap.objs.size f cd)) (leaving (envOfC qual scope s.heap.objs.size f cd) e) (fun _ s''=>CX outer H s E e s'') (fun e' s''=>CX outer H s E e' s'') s'
theorem HJ {sc:Scope} {n:Nat} {x:Str} (h:sc.names.lookup x=some .cell):∃c,(cellsFrom n sc.names []).lookup x=some c:=by
  have q:=W.cellsFrom_some sc.names n [] (.inl h);exact Option.isSome_iff_exists.mp q
theorem Ds {CX:Sw} {P:Program} {w:World} {K:W.Frag} {mg:Str→Option Value} {base:Heap} {N ps:List Str} {qual:Str} {scope:Scope} {f:Addr} {cd:Value} {A:Around} {outer:List Env} {s s1:Shared} {H:Hp} {E:XK} {us:List Value} {vs:List V}
    (S:aU N ps scope) (hd:A.handled=none) (e0:HF P w K mg base A outer s H) (hl:vs.length=ps.length) (r:Vals vs us)
    (x:InCallC s s.heap.objs.size (bindL (envOfC qual scope s.heap.objs.size f cd).kindOf (ps.zip us) fun _=>none) (cellsFrom (s.heap.objs.size+1) scope.names []) (bindC (envOfC qual scope s.heap.objs.size f cd).kindOf (ps.zip us) fun _=>none) s1) :
    Inv (dw CX P w K mg base N qual scope f cd A outer s H E) [] (start N vs) H s1:=by
  have hpl:ps.length≤N.length:=by have:=congrArg List.length S.pre;rw[List.length_take] at this;omega
  obtain⟨h1,tk,rfl,hk⟩:=x.done;have noA:∀b:Addr,b∉(dw CX P w K mg base N qual scope f cd A outer s H E).ex:=fun b z=>absurd (show b∈([]:List Addr) from z) (by simp);refine⟨⟨e0.mod,S.kind,rfl,rfl,Nat.le_refl _,fun y z c h1 h2=>?_,fun y hy=>?_,fun y c _ h=>?_,fun _=>hd,Around.frames_deeper e0.frames,.inr ⟨rfl,rfl⟩,fun b z=>absurd z (noA b),e0.bs,e0.P0,fun b _ _=>noA b,fun b z=>absurd z (noA b),e0.qU,e0.RV⟩,
    rfl,e0.bare,Un.kept hk,⟨_,x.toInCall.ns,fun i y v h1 h2 h3=>?_⟩,fun y c h=>⟨_,x.cell y c h⟩,e0.hok.fresh (Nat.le_refl _),fun y c h=>?_,fun p hp=>absurd (show p∈([]:List (Addr×Obj)) from hp) (by simp),e0.hok.kept hk,?_⟩
  ·exact name_of_addr x.apart (PySem.mem_of_lookup h1) (PySem.mem_of_lookup h2)
  · have hy:scope.names.lookup y=some .cell∨scope.names.lookup y=some .free:=hy
    rcases hy with hy | hy
    ·exact HJ hy
    ·exact absurd rfl (S.qbg _ (PySem.mem_of_lookup hy))
  ·exact Nat.le_of_lt (x.above y c (PySem.mem_of_lookup h))
  · have hi:i<vs.length:=by
      unfold start at h2
      by_cases hi:i<vs.length
      ·exact hi
      ·rw[List.getElem?_append_right (by simpa using hi)] at h2;rw[List.getElem?_replicate] at h2;split at h2 <;> cases h2
    have ha:vs[i]? = some v:=by
      unfold start at h2;rw[List.getElem?_append_left (by simpa using hi),List.getElem?_map] at h2;cases e:vs[i]? with
      | none=>rw[e] at h2;cases h2
      | some a=>rw[e] at h2;cases h2;rfl
    obtain⟨u,hu,rv⟩:=r.get ha;have hp:ps[i]? = some y:=by
      rw[← S.pre,List.getElem?_take_of_lt (by omega)];exact h1
    have ndP:ps.Nodup:=by rw[← S.pre];exact S.nd.sublist (List.take_sublist _ _)
    refine⟨u,rv,?_⟩
    rcases S.par y (List.mem_of_getElem? hp) with k | k
    ·exact .inl ⟨k,Dq ndP hp hu k⟩
    ·obtain⟨c,e⟩:=HJ (n:=s.heap.objs.size+1) k;refine .inr ⟨.inl k,c,e,?_⟩;have q:=x.cell y c e;rw[Dr ndP hp hu (by show scope.names.lookup y≠_;rw[k];decide)] at q;exact q
  ·exact e0.hok.fresh (Nat.le_of_lt (x.above y c (PySem.mem_of_lookup h)))
  ·unfold start;show _=N.length;rw[List.length_append,List.length_map,List.length_replicate];omega
theorem qac {CX:Sw} {P:Program} {w:World} {K:W.Frag} {mg:Str→Option Value} {base:Heap} {k:Nat} {f:Addr} {name qual:Str} {params:Arguments} {body:List Stmt} {scope:Scope} {dV kV doc pm cdv ct oc:Value} {an od:Option Addr}
    {osl:Array (Option Value)} {N ps:List Str} {sp:Sp} (lk:K.lookup f=some ⟨oc,od,.func (W.fnOf name qual params body scope dV kV doc pm an cdv ct),osl⟩) (hcd:W.codeIn K cdv qual=true) (S:aU N ps scope)
    (len:∀vs H Q E,sp vs H Q E→vs.length=ps.length)
    (hbody:∀(A:Around) (outer:List Env) (s:Shared) (H:Hp) (vs:List V) (Q:VK) (E:XK),h_ k (A.deeper (envOfC qual scope s.heap.objs.size f cdv))→sp vs H Q E→
      ∃t,Dg (dw CX P w K mg base N qual scope f cdv A outer s H E) body t∧t {nx:=fun _ H'=>Q .non H',rt:=Q} (start N vs) H) :
    cF P w K mg base CX (k+1) f (W.fnOf name qual params body scope dV kV doc pm an cdv ct) ps sp:=by
  refine⟨len,fun A outer s H args us vs Q E hr e0 hb r hsp=>?_⟩;have hl:=len _ _ _ _ hsp;have KX:K.In s.heap:=e0.mod.Ko.keeps fun b o e=>(e0.bs b o e).1;have lim:s.heap.NoLimit:=e0.mod.nolimit.keeps fun b o e=>(e0.bs b o e).1;have hkind:∀y∈ps.zip us,scope.names.lookup y.1=some .local∨(scope.names.lookup y.1=some .cell∧((cellsFrom (s.heap.objs.size+1) scope.names []).lookup y.1).isSome=true):=fun⟨n,v⟩ hy=>by
    rcases S.par n (List.of_mem_zip hy).1 with q | q
    ·exact .inl q
    ·exact .inr ⟨q,W.cellsFrom_some _ _ _ (.inl q)⟩
  refine codeAny_call_function hr.depth (KX _ _ lk) rfl S.co S.gen rfl (W.codeRec_of KX hcd) (hb _ _ _ _ ?_);refine wpAny_newFunctionEnv_cells S.kind hkind fun env he s1 x=>?_;subst he;refine⟨lim.keeps x.toInCall.keep,codeAny_func ?_⟩;obtain⟨t,ht,hq⟩:=hbody A outer s H vs Q E (hr.deeper _) hsp;have I:Inv (dw CX P w K mg base N qual scope f cdv A outer s H E) [] (start N vs) H s1:=Ds S hr.hd e0 hl r x;refine wpAny_mono (ht [] s1 (start N vs) H _ I hq) (fun fl s' hs=>?_) fun e s' hs=>hs;have fin:∀{σ':St} {H':Hp} {v:V} {u:Value},Inv (dw CX P w K mg base N qual scope f cdv A outer s H E) [] σ' H' s'→RelV v u→Q v H'→CE outer P w H s Q u s':=
    fun {σ' H' v u} J rv q=>⟨v,H',J.os,J.bare,J.base,J.hok,rv,q⟩
  cases fl with
  | ret u=>
    obtain⟨v,σ',H',J,rv,q⟩:=hs;exact fin J rv q
  | next=>
    obtain⟨σ',H',J,q⟩:=hs;exact fin (v:=V.non) (u:=Value.none) J rfl q
  | brk=>
    obtain⟨_,_,_,q⟩:=hs;exact False.elim q
  | cont=>
    obtain⟨_,_,_,q⟩:=hs;exact False.elim q
section
variable {X:Cx} {x:Str} {p pos:Pos} {e:Expr} {es:List Expr} {t:TA} {id T:String} {r:List V→Hp→VK→Prop}
def XS (r:List V→Hp→VK→Prop) (t:TA):TE:=fun σ H Q=>t σ H fun vs H1=>r vs H1 Q
theorem aM (hc:cC X (.builtin id) r) (hg:Gl X x) (hm:X.mg x=none) (hv:bootBuiltins x=some (.builtin id)) (ha:PA X (e::es) t) (hn:x≠ "__name__" :=by decide) (hdb:(x == ("__debug__" : Str))=false:=by decide)
    (he:starEach (e::es) X.env=(false,eval e X.env)::starEach es X.env:=by rfl) (hpl:(backTo pos (starEach es X.env)).any (·.1)=false:=by rfl):PE X (.Call (.Name x p) (e::es) [] pos) (XS r t):=by
  intro p_ s σ H Q I h;refine wpAny_Call_Name_kw (jC I hg hm hv ?_ hn hdb);refine PyProof.Rows.callWith_builtin1 (cB (ha pos p_ s σ H _ I h) fun us s1 zz=>?_) he hpl;obtain⟨vs,H1,I1,r1,q1⟩:=zz;exact hc p_ s1 σ H1 vs us Q I1 r1 q1
theorem dX (hc:cC X (.type T) r) (hg:Gl X x) (hm:X.mg x=none) (hv:bootBuiltins x=some (.type T)) (ha:PA X (e::es) t) (hn:x≠ "__name__" :=by decide) (hdb:(x == ("__debug__" : Str))=false:=by decide)
    (he:starEach (e::es) X.env=(false,eval e X.env)::starEach es X.env:=by rfl) (hpl:(backTo pos (starEach es X.env)).any (·.1)=false:=by rfl):PE X (.Call (.Name x p) (e::es) [] pos) (XS r t):=by
  intro p_ s σ H Q I h;refine wpAny_Call_Name_kw (jC I hg hm hv ?_ hn hdb);refine PyProof.Rows.callWith_type1 (cB (ha pos p_ s σ H _ I h) fun us s1 zz=>?_) he hpl;obtain⟨vs,H1,I1,r1,q1⟩:=zz;exact hc p_ s1 σ H1 vs us Q I1 r1 q1
end
abbrev TO:=St→Hp→(Option Int→Hp→Prop)→Prop
section
variable {X:Cx} {e:Expr} {te:TE} {lo hi:Option Expr} {tl th:TO} {pos p2:Pos}
end
def RJ (n:Nat) (i:Int):Option Nat:=if 0≤i then (if i<n then some i.toNat else none) else if -(n:Int)≤i then some (i+n).toNat else none
def Ce {α:Type} (xs:List α) (i:Int):Option α:=(RJ xs.length i).bind fun j=>xs[j]?
theorem NK {n:Nat} {i:Int} {j:Nat} (h:RJ n i=some j):seqIndex? i n=some j∧j<n∧-(n:Int)≤i∧i<n:=by
  unfold RJ at h
  by_cases h0:0≤i
  · rw[if_pos h0] at h
    by_cases h1:i<n
    ·rw[if_pos h1] at h;have e:i.toNat=j:=Option.some.inj h;exact⟨by rw[seqIndex_of h0 h1,e],by omega,by omega,h1⟩
    ·rw[if_neg h1] at h;cases h
  · rw[if_neg h0] at h
    by_cases h1 : -(n:Int)≤i
    ·rw[if_pos h1] at h;have e:(i+n).toNat=j:=Option.some.inj h;exact⟨by rw[seqIndex_neg (by omega) h1,e],by omega,h1,by omega⟩
    ·rw[if_neg h1] at h;cases h
theorem Fd {α:Type} {xs:List α} {i:Int} {v:α} (h:Ce xs i=some v):∃j,seqIndex? i xs.length=some j∧xs[j]? = some v∧j<xs.length∧-(xs.length:Int)≤i∧i<xs.length:=by
  unfold Ce at h;cases e:RJ xs.length i with
  | none=>rw[e] at h;cases h
  | some j=>
    rw[e] at h;obtain⟨h1,h2,h3,h4⟩:=NK e;exact⟨j,h1,h,h2,h3,h4⟩
theorem aV {α:Type} {xs:List α} {j:Nat} {v:α} (h:xs[j]? = some v):Ce xs (j:Int)=some v:=by
  have hj:j<xs.length:=(List.getElem?_eq_some_iff.mp h).1;have e:RJ xs.length (j:Int)=some j:=by
    unfold RJ;rw[if_pos (by omega),if_pos (by omega)];simp
  unfold Ce;rw[e];exact h
def X3 (b:Expr):Prop:=∀o i,subscripted b false o i=operate [o,i] (getItem o i)
def SQ (X:Cx) (r:R2):Prop:=
  ∀(value slice:Expr) (p_:List (Addr×Obj)) (s:Shared) (σ:St) (H:Hp) (x y:V) (v u:Value) (Q:VK),Inv X p_ σ H s→RelV x v→RelV y u→r x y H Q→
    subscripted slice false v u=operate [v,u] (getItem v u)→wpAny (model X.prog X.w) X.A (subscriptTail value slice v u) (EP X p_ σ Q) X.xe s
def Qk (X:Cx) (id:String) (r:V→List V→Hp→VK→Prop):Prop:=
  ∀(p_:List (Addr×Obj)) (s:Shared) (σ:St) (H:Hp) (x:V) (xs:List V) (v:Value) (us:List Value) (Q:VK),Inv X p_ σ H s→RelV x v→Vals xs us→r x xs H Q→
    wpAny (model X.prog X.w) X.A (call (.builtin id) (v::us)) (EP X p_ σ Q) X.xe s
section
variable {X:Cx} {a b:Expr} {ta tb:TE} {pos:Pos}
theorem bQ {r:R2} (hr:SQ X r) (ha:PE X a ta) (hb:PE X b tb) (hs:X3 b):PE X (.Subscript a b pos) (RG r ta tb):=by
  intro p_ s σ H Q I h;exact Subscript_ (qa3 ha hb I h fun v u s2 x y H2 I2 rx ry q=>hr a b p_ s2 σ H2 x y v u Q I2 rx ry q (hs _ _))
def qjb (K:W.Frag):R2:=fun x y H Q=>∃p xs i v,x = .ref p∧y = .int i∧aX K H p xs∧Ce xs i=some v∧Q v H
def qjc (K:W.Frag):R2:=fun x y H Q=>∃p xs i v,x = .ref p∧y = .int i∧d9 K H p xs∧Ce xs i=some v∧Q v H
def qdW:R2:=fun x y H Q=>∃z i c,x = .str z∧y = .int i∧z.length≤sizeLine∧Ce z.cps.toList i=some c∧Q (.str ⟨#[c]⟩) H
theorem X4:SQ X (qjb X.K):=by
  intro value slice p_ s σ H x y v u Q I rx ry h hs;obtain⟨p,xs,i,z,rfl,rfl,hq,he,q⟩:=h;cases rx;obtain⟨t,rfl⟩:=ry;obtain⟨its,r,pl,hz⟩:=I.list hq;obtain⟨j,h1,h2,h3,h4,h5⟩:=Fd he;obtain⟨w,ew,SX⟩:=r.get h2;have hl:=r.length;have hn:=ur;have fin:EP X p_ σ Q w s:=⟨z,H,I,SX,q⟩
  by_cases h0:0≤i
  · have hj:i.toNat=j:=by
      rw[seqIndex_of h0 h5] at h1;exact Option.some.inj h1
    exact item_listR pl.isList h0 (by omega) (by rw[hj];simpa using ew) fin hs
  · have hj:(i+(its.toArray.size:Int)).toNat=j:=by
      rw[seqIndex_neg (by omega) h4] at h1;rw[List.size_toArray,← hl];exact Option.some.inj h1
    exact subscriptTail_builtinR (x:=w) pl.isList.typeIs slot_list_getitem.lookup
      (wpAny_getItem_list_neg (Q:=fun r s'=>r=w∧EP X p_ σ Q r s') pl.isList (by omega) (by rw[List.size_toArray] <;> omega) (by omega) (by rw[hj];simpa using ew) ⟨rfl,fin⟩) hs
theorem qbh:SQ X (qjc X.K):=by
  intro value slice p_ s σ H x y v u Q I rx ry h hs;obtain⟨p,xs,i,z,rfl,rfl,hq,he,q⟩:=h;cases rx;obtain⟨t,rfl⟩:=ry;obtain⟨its,r,pl,hz⟩:=I.tuple hq;obtain⟨j,h1,h2,h3,h4,h5⟩:=Fd he;obtain⟨w,ew,SX⟩:=r.get h2;have hl:=r.length;have hn:=ur;have fin:EP X p_ σ Q w s:=⟨z,H,I,SX,q⟩;exact subscriptTail_builtinR (x:=w) pl.typeIs slot_tuple_getitem.lookup
    (getItem_tuple (j:=j) (Q:=fun r s'=>r=w∧EP X p_ σ Q r s') pl (by omega) (by omega) (by rw[List.size_toArray,← hl];exact h1) (by simpa using ew) ⟨rfl,fin⟩) hs
theorem qbi:SQ X qdW:=by
  intro value slice p_ s σ H x y v u Q I rx ry h hs;obtain⟨z,i,c,rfl,rfl,hz,he,q⟩:=h;obtain⟨t,rfl⟩:=rx;obtain⟨t',rfl⟩:=ry;obtain⟨j,h1,h2,h3,h4,h5⟩:=Fd he;have hl:z.cps.toList.length=z.length:=by simp[Str.length]
  rw[hl] at h1 h4 h5;have hn:=ur;exact tail_any (typeIs_str s z t) slot_str_getitem.lookup (getItem_str (c:=c) (by
    have e1:decide (i < -(2 ^ 63:Int))=false:=decide_eq_false (by omega);have e2:decide (i≥2 ^ 63)=false:=decide_eq_false (by omega);rw[e1,e2,Bool.or_false]) (by rw[h1];simpa using h2) ⟨.str ⟨#[c]⟩,H,I.tok _,⟨_,rfl⟩,q⟩) hs
theorem KN (its:List Value) (n j:Nat) (u:Value):Obj.mapSeq (·.setIfInBounds j u) {cls:=.type "list",data:=.seq its.toArray n}={cls:=.type "list",data:=.seq (its.set j u).toArray n}:=by
  simp[Obj.mapSeq]
theorem Inv.lst {p_:List (Addr×Obj)} {σ:St} {H:Hp} {s:Shared} {p:Addr} {xs:List V} (I:Inv X p_ σ H s) (h:H p=some (.lst xs)) :
    ∃(its:List Value) (n:Nat),Vals xs its∧s.heap.get? p=some {cls:=.type "list",data:=.seq its.toArray n}∧xs.length≤sizeLine:=by
  obtain⟨z,its,n,r,e⟩:=I.hok p _ h;exact⟨its,n,r,e,z⟩
theorem Inv.qbj {p_:List (Addr×Obj)} {σ:St} {H:Hp} {s:Shared} {p:Addr} {xs ys:List V} {its its':List Value} {n n':Nat} {f:Obj→Obj} (I:Inv X p_ σ H s) (h:H p=some (.lst xs))
    (ho:s.heap.get? p=some {cls:=.type "list",data:=.seq its.toArray n}) (hf:f {cls:=.type "list",data:=.seq its.toArray n}={cls:=.type "list",data:=.seq its'.toArray n'}) (r:Vals ys its') (hz:ys.length≤sizeLine) (t:Nat) :
    Inv X p_ σ (upd H p (.lst ys)) {s with heap:=s.heap.update p f,toks:=t}:=by
  have e:(s.heap.update p f).get? p=some {cls:=.type "list",data:=.seq its'.toArray n'}:=by
    rw[Heap.get?_update_self f ho (by rw[hf] <;> rfl),hf]
  refine I.write (x:=p) (e:=p) (by rw[h];trivial) (.inl rfl) (fun b u hb q=>(Heap.get?_update_other _ _ (Ne.symm hb)).trans q) ⟨_,e⟩ ?_;exact⟨hz,its',n',r,e⟩
def qad:V→V→V→Hp→(Hp→Prop)→Prop:=fun o i v H Q=>∃p xs k j,o = .ref p∧i = .int k∧H p=some (.lst xs)∧RJ xs.length k=some j∧Q (upd H p (.lst (xs.set j v)))
theorem set_list:Qa X qad:=by
  intro p_ s σ H o i v ov iv u Q I ro ri rv h;obtain⟨p,xs,k,j,rfl,rfl,hp,hj,q⟩:=h;cases ro;obtain⟨t,rfl⟩:=ri;obtain⟨its,n,r,ho,hz⟩:=I.lst hp;obtain⟨h1,h2,h3,h4⟩:=NK hj;have hl:=r.length;have hn:=ur;have I':Inv X p_ σ (upd H p (.lst (xs.set j v))) {s with heap:=s.heap.update p (Obj.mapSeq (·.setIfInBounds j u))}:=
    I.qbj hp ho (KN its n j u) (r.set rv j) (by rw[List.length_set];exact hz) s.toks
  by_cases h0:0≤k
  · have hk:k.toNat=j:=by
      rw[seqIndex_of h0 h4] at h1;exact Option.some.inj h1
    exact W.ki_setAt ho h0 (by omega) (by rw[List.size_toArray,← hl];exact h4) (by rw[hk];exact⟨_,I',q⟩)
  · have hk:(k+(its.toArray.size:Int)).toNat=j:=by
      rw[seqIndex_neg (by omega) h3] at h1;rw[List.size_toArray,← hl];exact Option.some.inj h1
    exact W.ki_setBack ho (by omega) (by rw[List.size_toArray,← hl];exact h3) (by omega) (by rw[hk];exact⟨_,I',q⟩)
def gB:V→Bool
  | .non=>true
  | .bl _=>true
  | .int _=>true
  | .str _=>true
  | _=>false
def Ql:V→V→Bool
  | .non,.non=>true
  | .bl a,.bl b=>a == b
  | .bl a,.int b=>(if a then 1 else 0) == b
  | .int a,.bl b=>a == (if b then 1 else 0)
  | .int a,.int b=>a == b
  | .str a,.str b=>a == b
  | _,_=>false
theorem qbk {A:Around} {s:Shared} {y x:V} {u v:Value} (ry:RelV y u) (rx:RelV x v) (fy:gB y=true) (fx:gB x=true):SeqAt.EqAt A s u v (Ql y x):=by
  cases y with
  | non=>
    cases ry;cases x with
    | non=>cases rx;exact SeqAt.EqAt.same _
    | bl b=>cases rx;exact SeqAt.EqAt.none_bool b
    | int b=>obtain⟨t,rfl⟩:=rx;exact SeqAt.EqAt.none_int b t
    | str b=>obtain⟨t,rfl⟩:=rx;exact SeqAt.EqAt.none_str b t
    | _=>exact absurd (show false=true from fx) Bool.false_ne_true
  | bl a=>
    cases ry;cases x with
    | non=>cases rx;exact SeqAt.EqAt.bool_none a
    | bl b=>cases rx;exact SeqAt.EqAt.bool_bool a b
    | int b=>obtain⟨t,rfl⟩:=rx;exact SeqAt.EqAt.bool_int a b t
    | str b=>obtain⟨t,rfl⟩:=rx;exact SeqAt.EqAt.bool_str a b t
    | _=>exact absurd (show false=true from fx) Bool.false_ne_true
  | int a=>
    obtain⟨t',rfl⟩:=ry;cases x with
    | non=>cases rx;exact SeqAt.EqAt.int_none a t'
    | bl b=>cases rx;exact SeqAt.EqAt.int_bool a t' b
    | int b=>obtain⟨t,rfl⟩:=rx;exact SeqAt.EqAt.int_int a t' b t
    | str b=>obtain⟨t,rfl⟩:=rx;exact SeqAt.EqAt.int_str a t' b t
    | _=>exact absurd (show false=true from fx) Bool.false_ne_true
  | str a=>
    obtain⟨t',rfl⟩:=ry;cases x with
    | non=>cases rx;exact SeqAt.EqAt.str_none a t'
    | bl b=>cases rx;exact SeqAt.EqAt.str_bool a t' b
    | int b=>obtain⟨t,rfl⟩:=rx;exact SeqAt.EqAt.str_int a t' b t
    | str b=>obtain⟨t,rfl⟩:=rx;exact SeqAt.EqAt.str_str a t' b t
    | _=>exact absurd (show false=true from fx) Bool.false_ne_true
  | _=>exact absurd (show false=true from fy) Bool.false_ne_true
def KQ (x:V) (u:Value):Bool:=match u with
  | .none=>Ql .non x
  | .bool b=>Ql (.bl b) x
  | .int i _=>Ql (.int i) x
  | .str z _=>Ql (.str z) x
  | _=>false
theorem S7 {x y:V} {u:Value} (r:RelV y u) (f:gB y=true):KQ x u=Ql y x:=by
  cases y with
  | non=>cases r;rfl
  | bl b=>cases r;rfl
  | int i=>obtain⟨t,rfl⟩:=r;rfl
  | str z=>obtain⟨t,rfl⟩:=r;rfl
  | _=>exact absurd (show false=true from f) Bool.false_ne_true
theorem uK {x:V}:∀{xs:List V} {us:List Value},Vals xs us→xs.all gB=true→us.any (KQ x)=xs.any fun y=>Ql y x
  | _,_,.nil,_=>rfl
  | y::xs,u::us,.cons r t,f=>by
    rw[List.all_cons,Bool.and_eq_true] at f;rw[List.any_cons,List.any_cons,S7 r f.1,uK t f.2]
theorem qZ {A:Around} {s:Shared} {x:V} {v:Value} (rx:RelV x v) (fx:gB x=true):∀{xs:List V} {us:List Value},Vals xs us→xs.all gB=true→∀u∈us,SeqAt.EqAt A s u v (KQ x u)
  | _,_,.nil,_=>fun u hu=>by cases hu
  | y::xs,u::us,.cons r t,f=>fun u' hu=>by
    rw[List.all_cons,Bool.and_eq_true] at f
    rcases List.mem_cons.mp hu with rfl | hu
    ·rw[S7 r f.1];exact qbk r rx f.1 fx
    ·exact qZ rx fx t f.2 u' hu
def inV (x:V) (xs:List V):Bool:=xs.any fun y=>Ql y x
def rIn (K:W.Frag) (neg:Bool):R2:=fun x y H Q=>∃p xs,y = .ref p∧(aX K H p xs∨d9 K H p xs)∧gB x=true∧xs.all gB=true∧Q (.bl (if neg then !inV x xs else inV x xs)) H
theorem Qm:fY X (compareOp .In) (rIn X.K false):=by
  intro p_ s σ H x y v u Q I rx ry h;obtain⟨p,xs,rfl,hq,fx,fs,q⟩:=h;cases ry
  rcases hq with hq | hq
  ·obtain⟨its,r,pl,hz⟩:=I.list hq;refine SeqAt.in_listAt (KQ x) pl.isList (fun w hw=>qZ rx fx r fs w (by simpa using hw)) ⟨.bl _,H,I,rfl,?_⟩;rw[show its.toArray.any (KQ x)=its.any (KQ x) by simp,uK r fs];exact q
  ·obtain⟨its,r,pl,hz⟩:=I.tuple hq;refine SeqAt.in_tupleAt (KQ x) pl (fun w hw=>qZ rx fx r fs w (by simpa using hw)) ⟨.bl _,H,I,rfl,?_⟩;rw[show its.toArray.any (KQ x)=its.any (KQ x) by simp,uK r fs];exact q
theorem Fe:fY X (compareOp .NotIn) (rIn X.K true):=by
  intro p_ s σ H x y v u Q I rx ry h;obtain⟨p,xs,rfl,hq,fx,fs,q⟩:=h;cases ry
  rcases hq with hq | hq
  ·obtain⟨its,r,pl,hz⟩:=I.list hq;refine SeqAt.notIn_listAt (KQ x) pl.isList (fun w hw=>qZ rx fx r fs w (by simpa using hw)) ⟨.bl _,H,I,rfl,?_⟩;rw[show its.toArray.any (KQ x)=its.any (KQ x) by simp,uK r fs];exact q
  ·obtain⟨its,r,pl,hz⟩:=I.tuple hq;refine SeqAt.notIn_tupleAt (KQ x) pl (fun w hw=>qZ rx fx r fs w (by simpa using hw)) ⟨.bl _,H,I,rfl,?_⟩;rw[show its.toArray.any (KQ x)=its.any (KQ x) by simp,uK r fs];exact q
theorem Fg:fY X (compareOp .NotIn) (fun x y H Q=>∃i j,x = .str i∧y = .str j∧Q (.bl (!(!(Builtin.Str.occurrences j i 0 j.length 1).isEmpty))) H):=by
  intro p_ s σ H x y v u Q I rx ry h;obtain⟨i,j,rfl,rfl,q⟩:=h;obtain⟨t,rfl⟩:=rx;obtain⟨t',rfl⟩:=ry;exact notIn_str ⟨.bl _,H,I,rfl,q⟩
theorem Fi:cC X (.builtin "len") (fun xs H Q=>∃p ys,xs=[.ref p]∧(aX X.K H p ys∨d9 X.K H p ys)∧Q (.int ys.length) H):=by
  intro p_ s σ H xs us Q I r h;obtain⟨p,ys,rfl,hq,q⟩:=h;obtain⟨u,rfl,rx⟩:=vals1 r;cases rx;have hn:=ur
  rcases hq with hq | hq
  ·obtain⟨its,r',pl,hz⟩:=I.list hq;have hlen:=r'.length;exact Calls.call_len_list pl.isList (by simp only[List.size_toArray] <;> omega) ⟨.int ys.length,H,I.tok _,⟨s.toks+1,by rw[List.size_toArray,hlen]⟩,q⟩
  ·obtain⟨its,r',pl,hz⟩:=I.tuple hq;have hlen:=r'.length;exact len_tuple pl (by simp only[List.size_toArray] <;> omega) ⟨.int ys.length,H,I.tok _,⟨s.toks+1,by rw[List.size_toArray,hlen]⟩,q⟩
theorem Fj:cC X (.builtin "len") (fun xs H Q=>∃z,xs=[.str z]∧z.length≤sizeLine∧Q (.int z.length) H):=by
  intro p_ s σ H xs us Q I r h;obtain⟨z,rfl,hz,q⟩:=h;obtain⟨u,rfl,t,rfl⟩:=vals1 r;have hn:=ur;exact len_str (by omega) ⟨.int z.length,H,I.tok _,⟨_,rfl⟩,q⟩
theorem Fl:cC X (.type "list") (fun xs H Q=>∃p ys,xs=[.ref p]∧(aX X.K H p ys∨d9 X.K H p ys)∧∀l,H l=none→Q (.ref l) (upd H l (.lst ys))):=by
  intro p_ s σ H xs us Q I r h;obtain⟨p,ys,rfl,hq,q⟩:=h;obtain⟨u,rfl,rx⟩:=vals1 r;cases rx;have fin:∀(its:List Value),Vals ys its→ys.length≤sizeLine→∀(h':Heap) (c':Nat),(∀b o',s.heap.get? b=some o'→h'.get? b=some o')→
      h'.get? s.heap.objs.size=some {cls:=.type "list",dict:=none,data:=.seq its.toArray c',slots:=#[]}→EP X p_ σ Q (.ref s.heap.objs.size) {s with heap:=h'}:=fun its r' hz h' c' kp e=>
    ⟨.ref s.heap.objs.size,_,I.laid (t':=s.toks) kp (Nat.le_refl _) (show cj X.prog X.w _ h' _ (.lst ys) from⟨hz,its,c',r',e⟩),rfl,q _ (I.hok.fresh (Nat.le_refl _))⟩
  rcases hq with hq | hq
  ·obtain⟨its,r',pl,hz⟩:=I.list hq;have hlen:=r'.length;obtain⟨o,ho,hc,n,hd⟩:=pl.isList;exact call_list_seq p (.inl rfl) ho hc hd (fun h' c' kp e=>fin its r' hz h' c' kp e) (by simp only[List.size_toArray] <;> omega)
  ·obtain⟨its,r',pl,hz⟩:=I.tuple hq;have hlen:=r'.length;obtain⟨o,ho,hc,n,hd⟩:=pl;exact call_list_seq p (.inr rfl) ho hc hd (fun h' c' kp e=>fin its r' hz h' c' kp e) (by simp only[List.size_toArray] <;> omega)
theorem Ck:cC X (.type "tuple") (fun xs H Q=>∃p ys,xs=[.ref p]∧((aX X.K H p ys∧∀l,H l=none→Q (.ref l) (upd H l (.tup ys)))∨(d9 X.K H p ys∧Q (.ref p) H))):=by
  intro p_ s σ H xs us Q I r h;obtain⟨p,ys,rfl,h⟩:=h;obtain⟨u,rfl,rx⟩:=vals1 r;cases rx
  rcases h with⟨hq,q⟩ | ⟨hq,q⟩
  · obtain⟨its,r',pl,hz⟩:=I.list hq;have hlen:=r'.length;refine call_tuple_list pl.isList (fun h' kp=>?_) (by simp only[List.size_toArray] <;> omega);have I1:Inv X p_ σ H {s with heap:=h'}:=I.kept (t':=s.toks) kp;have I2:Inv X p_ σ (upd H h'.objs.size (.tup ys)) {s with heap:=h'.push {cls:=.type "tuple",data:=.seq its.toArray}}:=
      I1.laid (t':=s.toks) (fun b o e=>Heap.get?_push_of_some _ e) (Nat.le_refl _) (show cj X.prog X.w _ _ _ (.tup ys) from⟨hz,its,r',IsTup.new _ _⟩)
    exact⟨.ref h'.objs.size,_,I2,rfl,q _ (I1.hok.fresh (Nat.le_refl _))⟩
  ·obtain⟨its,r',pl,hz⟩:=I.tuple hq;exact call_tuple_same pl ⟨.ref p,H,I,rfl,q⟩
def tyV (K:W.Frag) (T:String) (x:V) (H:Hp):Prop:=match x with
  | .str _=>T = "str"
  | .int _=>T = "int"
  | .ref p=>(T = "list" ∧∃xs,aX K H p xs)∨(T = "tuple" ∧∃o,K.lookup p=some o∧o.cls = .type "tuple" ∧o.dict=none)∨
      (T = "dict" ∧((∃kvs,H p=some (.dK kvs))∨∃kvs,H p=some (.dT kvs)))∨(T = "set" ∧∃S n,H p=some (.set S n))
  | _=>False
theorem qbl {p_:List (Addr×Obj)} {σ:St} {H:Hp} {s:Shared} {T:String} {x:V} {v:Value} (I:Inv X p_ σ H s) (r:RelV x v) (ty:tyV X.K T x H) :
    s.TypeIs v T∧∀a,v = .ref a→∃ob,s.heap.get? a=some ob∧ob.dict=none:=by
  cases x with
  | str z=>
    obtain⟨t,rfl⟩:=r;cases (show T = "str" from ty);exact⟨typeIs_str s z t,fun _ e=>nomatch e⟩
  | int i=>
    obtain⟨t,rfl⟩:=r;cases (show T = "int" from ty);exact⟨typeIs_int s i t,fun _ e=>nomatch e⟩
  | ref p=>
    cases r
    rcases ty with⟨rfl,xs,hq⟩ | ⟨rfl,o,hk,hc,hd⟩ | ⟨rfl,hk⟩ | ⟨rfl,S,n,hk⟩
    ·obtain⟨its,_,pl,_⟩:=I.list hq;refine⟨pl.isList.typeIs,fun a e=>?_⟩;cases e;obtain⟨o,n,e,c,hd,_⟩:=pl;exact⟨o,e,hd⟩
    ·refine⟨⟨o,I.mR p o hk,hc⟩,fun a e=>?_⟩;cases e;exact⟨o,I.mR _ o hk,hd⟩
    · have z:∃o,s.heap.get? p=some o∧o.ExactDict:=by
        rcases hk with⟨kvs,hk⟩ | ⟨kvs,hk⟩
        ·obtain⟨_,_,_,_,o,_,_,e,ex,_⟩:=I.hok p _ hk;exact⟨o,e,ex⟩
        ·obtain⟨_,_,_,_,o,_,_,e,ex,_⟩:=I.hok p _ hk;exact⟨o,e,ex⟩
      obtain⟨o,e,ex⟩:=z;refine⟨⟨o,e,ex.1⟩,fun a e2=>?_⟩;cases e2;exact⟨o,e,ex.2.1⟩
    ·obtain⟨o,_,_,_,e,ex,_⟩:=I.hok p _ hk;refine⟨⟨o,e,ex.1⟩,fun a e2=>?_⟩;cases e2;exact⟨o,e,ex.2.1⟩
  | _=>exact False.elim ty
def tBM (K:W.Frag) (T:String) (r:V→List V→Hp→VK→Prop) (to:TE) (t:TA):TE:=fun σ H Q=>to σ H fun x H1=>tyV K T x H1∧t σ H1 fun xs H2=>r x xs H2 Q
variable {o e:Expr} {es:List Expr} {to:TE} {t:TA} {name:Str} {apos cpos:Pos} {T id:String} {r:V→List V→Hp→VK→Prop}
theorem qdX (pa:PlainAttrs T) (slot:Slot T name id) (hty:typeOf (.builtin id)=pure (.type "method_descriptor")) (hm:Qk X id r) (ho:PE X o to) (ha:PA X (e::es) t)
    (hbase:attributeBase o name X.env (eval o X.env)=eval o X.env:=by rfl)
    (hfew:((backTo cpos (starEach (e::es) X.env)).all (fun x=>!x.1) && (backToKw cpos (keywordEach [] X.env)).all (fun x=>x.1.isSome)
      && decide ((e::es).length+([]:List Keyword).length+(if ([]:List Keyword).isEmpty then 0 else 1)<30))=true:=by rfl)
    (hline:(apos.endLine == cpos.line)=true:=by rfl) (hs:starEach (e::es) X.env=(false,eval e X.env)::starEach es X.env:=by rfl) (hplain:(backTo cpos (starEach es X.env)).any (·.1)=false:=by rfl) :
    PE X (.Call (.Attribute o name apos) (e::es) [] cpos) (tBM X.K T r to t):=by
  intro p_ s σ H Q I h;refine wpAny_Call_method_late hbase hfew hline rfl (cB (ho p_ s σ H _ I h) fun v s1 zz=>?_);obtain⟨x,H1,I1,r1,ty,q1⟩:=zz;obtain⟨h1,h2⟩:=qbl I1 r1 ty;refine⟨T,id,pa,slot,hty,h1,h2,?_⟩;have hA:=ha cpos p_ s1 σ H1 _ I1 q1;rw[hs] at hA ⊢;refine Calls.callWith_builtin (by show(false || (backTo cpos (starEach es X.env)).any (·.1))=false;rw[hplain] <;> rfl) (Calls.evalArgs_plain ?_)
  refine cB hA fun us s2 zz=>?_;obtain⟨vs,H2,I2,r2,q2⟩:=zz;exact hm p_ s2 σ H2 x vs v us Q I2 r1 r2 q2
end
def MtM (X:Cx) (id:String) (r:V→List V→Hp→VK→Prop):Prop:=
  ∀(p_:List (Addr×Obj)) (s:Shared) (σ:St) (H:Hp) (x:V) (xs:List V) (v:Value) (us:List Value) (Q:VK),Inv X p_ σ H s→RelV x v→Vals xs us→r x xs H Q→
    wpAny (model X.prog X.w) X.A (call (.builtin id) (v::us)) (EP X p_ σ Q) X.xe s
theorem Vals.one {x:V} {us:List Value} (h:Vals [x] us):∃u,us=[u]∧RelV x u:=vals1 h
theorem Vals.two {x y:V} {us:List Value} (h:Vals [x,y] us):∃u v,us=[u,v]∧RelV x u∧RelV y v:=vals2 h
theorem Vals.rep {xs:List V} {us:List Value} (h:Vals xs us):∀k:Nat,Vals (List.replicate k xs).flatten (List.replicate k us).flatten
  | 0=>.nil
  | k+1=>by
    rw[List.replicate_succ,List.replicate_succ,List.flatten_cons,List.flatten_cons];exact Vals.append h (Vals.rep h k)
theorem foldl_rep (its:List Value):∀(k:Nat) (acc:List Value),
    List.foldl (fun x1 x2=>x1++x2) acc.toArray (List.replicate k its.toArray)=(acc++(List.replicate k its).flatten).toArray
  | 0,acc=>by simp
  | k+1,acc=>by
    have e:acc.toArray++its.toArray=(acc++its).toArray:=by simp
    have e2:(acc++its)++(List.replicate k its).flatten=acc++(List.replicate (k+1) its).flatten:=by
      rw[List.replicate_succ,List.flatten_cons,List.append_assoc]
    rw[← e2,← foldl_rep its k (acc++its),← e,List.replicate_succ,List.foldl_cons]
section
variable {X:Cx} {p_:List (Addr×Obj)} {σ:St} {H:Hp} {s:Shared} {l b:Addr} {xs ys zs:List V}
theorem Inv.qdY {its its':List Value} {n:Nat} {f:Array Value→Array Value} {t':Nat} (I:Inv X p_ σ H s) (hH:H l=some (.lst xs))
    (e:s.heap.get? l=some {cls:=.type "list",data:=.seq its.toArray n}) (hf:f its.toArray=its'.toArray) (hv:Vals ys its') (hz:ys.length≤sizeLine) :
    Inv X p_ σ (upd H l (.lst ys)) {s with heap:=s.heap.update l (Obj.mapSeq f),toks:=t'}:=by
  have q:=PySem.IsL.update e f;rw[hf] at q;refine I.write (x:=l) (e:=l) (by rw[hH];exact trivial) (.inl rfl) (fun b' u hb hu=>(Heap.get?_update_other s.heap (Obj.mapSeq f) (Ne.symm hb)).trans hu) ⟨_,q⟩ ?_;exact⟨hz,its',_,hv,q⟩
theorem Inv.S_ {its:List Value} {t':Nat} (I:Inv X p_ σ H s) (hv:Vals ys its) (hz:ys.length≤sizeLine) :
    Inv X p_ σ (upd H s.heap.objs.size (.lst ys)) {s with heap:=s.heap.push {cls:=.type "list",data:=.seq its.toArray},toks:=t'}:=
  I.laid (fun _ _ q=>Heap.get?_push_of_some _ q) (Nat.le_refl _) ⟨hz,its,0,hv,Heap.get?_push_size _ rfl⟩
theorem Inv.fresh (I:Inv X p_ σ H s):H s.heap.objs.size=none:=I.hok.fresh (Nat.le_refl _)
theorem Inv.Qn (I:Inv X p_ σ H s) (hH:H l=some (.lst xs)):xs.length≤sizeLine∧∃(its:List Value) (n:Nat),Vals xs its∧xs.length=its.length∧s.heap.get? l=some {cls:=.type "list",data:=.seq its.toArray n}:=by
  obtain⟨z,its,n,r,e⟩:=I.hok l _ hH;exact⟨z,its,n,r,r.length,e⟩
theorem Tc {n:Nat} (h:n≤sizeLine):Builtin.List.listTooLong n=false:=by
  unfold Builtin.List.listTooLong;exact decide_eq_false (by omega)
end
section
variable {X:Cx}
def Fo:V→List V→Hp→VK→Prop:=fun x vs H Q=>∃l xs y,x = .ref l∧vs=[y]∧H l=some (.lst xs)∧xs.length<sizeLine∧Q .non (upd H l (.lst (xs++[y])))
theorem wG:MtM X "list.append" Fo:=by
  intro p_ s σ H x vs v us Q I rx rv h;obtain⟨l,xs,y,rfl,rfl,hH,hz,q⟩:=h;cases rx;obtain⟨u,rfl,ru⟩:=rv.one;obtain⟨z,its,n,r,hl,e⟩:=I.Qn hH;refine call_meets F.slot_list_append ⟨_,e,rfl⟩ F.entry_list_append (F.args_list_append_2 _ _) (PySem.list_append l its.toArray n u (by rw[List.size_toArray];omega)) ⟨e,?_⟩;refine⟨.non,_,I.qdY (its':=its++[u]) hH e (by simp) (r.append (.cons ru .nil)) ?_,rfl,q⟩;rw[List.length_append,List.length_singleton];omega
def qdZ:R2:=fun x y H Q=>∃l b xs zs,x = .ref l∧y = .ref b∧H l=some (.lst xs)∧H b=some (.lst zs)∧xs.length+zs.length≤sizeLine∧∀p,H p=none→Q (.ref p) (upd H p (.lst (xs++zs)))
theorem qbm:fY X (binaryOp .Add) qdZ:=by
  intro p_ s σ H x y v u Q I rx ry h;obtain⟨l,b,xs,zs,rfl,rfl,hH,hB,hz,q⟩:=h;cases rx;cases ry;obtain⟨z,its,n,r,hl,e⟩:=I.Qn hH;obtain⟨z2,its2,n2,r2,hl2,e2⟩:=I.Qn hB;refine PySem.P.add_list e e2 ?_ (by rw[List.size_toArray,List.size_toArray];omega);have ea:its.toArray++its2.toArray=(its++its2).toArray:=by simp
  rw[ea];exact⟨.ref _,_,I.S_ (t':=s.toks) (r.append r2) (by rw[List.length_append];omega),rfl,q _ I.fresh⟩
def qjd:R2:=fun x y H Q=>∃l k xs,x = .ref l∧y = .int k∧H l=some (.lst xs)∧-(2 ^ 63)≤k∧k<2 ^ 63∧xs.length * k.toNat≤sizeLine∧
  ∀p,H p=none→Q (.ref p) (upd H p (.lst (List.replicate k.toNat xs).flatten))
theorem len_rep {α:Type} (xs:List α) (k:Nat):(List.replicate k xs).flatten.length=k * xs.length:=by
  induction k with
  | zero=>simp
  | succ k ih=>rw[List.replicate_succ,List.flatten_cons,List.length_append,ih,Nat.succ_mul,Nat.add_comm]
theorem qbn:fY X (binaryOp .Mult) qjd:=by
  intro p_ s σ H x y v u Q I rx ry h;obtain⟨l,k,xs,rfl,rfl,hH,h1,h2,hz,q⟩:=h;cases rx;obtain⟨t,rfl⟩:=ry;obtain⟨z,its,n,r,hl,e⟩:=I.Qn hH;have hlen:its.toArray.size * k.toNat≤sizeLine:=by rw[List.size_toArray,← hl];exact hz
  have hcap:¬its.toArray.size * k.toNat > (2 ^ 63 - 1) / 8:=by
    have:(sizeLine:Nat)≤(2 ^ 63 - 1) / 8:=by decide
    omega
  have hfit:¬(!Builtin.List.listFitsIndex k)=true:=by
    rw[fitsIndex_both h1 h2];exact Bool.false_ne_true
  have qd0:¬Builtin.List.listTooLong (its.toArray.size * k.toNat)=true:=by
    rw[Tc hlen];exact Bool.false_ne_true
  have hnew:List.foldl (fun x1 x2=>x1++x2) #[] (List.replicate (if its.toArray.isEmpty=true then 0 else k.toNat) its.toArray)=(List.replicate k.toNat its).flatten.toArray:=by
    have f0:∀m:Nat,List.foldl (fun x1 x2=>x1++x2) #[] (List.replicate m its.toArray)=(List.replicate m its).flatten.toArray:=fun m=>by
      have:=foldl_rep its m [];rw[List.nil_append] at this;exact this
    rw[f0];cases its with
    | nil=>simp
    | cons a r'=>rw[if_neg (by simp)]
  refine wpAny_binaryOp_repeat_ref (T:= "list") (U:= "int") (by decide) ⟨_,e,rfl⟩ (fun s'=>typeIs_int s' k t) noFill_list_mul F.fills_int_mul F.slot_int_rmul repeat_list F.slot_int_index.lookup
    (call_meets F.slot_int_rmul (typeIs_int s k t) F.entry_int_rmul (F.args_int_rmul_2 _ _) (int___rmul___int_list k t l its.toArray n)
      ⟨e,rfl,⟨_,e,rfl⟩,call_meets F.slot_list_mul ⟨_,e,rfl⟩ F.entry_list_mul (F.args_list_mul_2 _ _) (AutoListH.list___mul___list_int_3 l its.toArray n k t hfit hcap qd0) ⟨e,?_⟩⟩)
  rw[hnew];exact⟨.ref _,_,I.S_ (t':=s.toks) (r.rep k.toNat) (by rw[len_rep,Nat.mul_comm];exact hz),rfl,q _ I.fresh⟩
end
end L2
namespace Att
open PySem PySem.W PySem.Calls PyProof.Rows
theorem yj {P:Params} {h:Heap}:∀(ns:List Int) (vs:List Value),WellAll P h vs (ns.map WData.int)→IntsAre vs ns:=by
  intro ns
  induction ns with
  | nil=>
    intro vs w;rw[List.map_nil] at w;cases w;exact .nil
  | cons n ns ih=>
    intro vs w;rw[List.map_cons] at w;cases w with
    | cons a b=>
      cases a;exact .cons _ _ (ih _ b)
theorem Qo {l:OpenLaw} {n:Nat} (hn:l.most=some n) {P:Params} {h:Heap} {args:List WData} {vals:List Value}
    (hpre:l.row.toRowW.claim.pre args=true) (hwl:WellAll P h vals args) :
    ∃a vs ns,vals=[Value.ref a]∧args=[WData.list (ns.map WData.int)]∧h.get? a=some {cls:=.type "list",data:=.seq vs.toArray}∧IntsAre vs ns∧ns.length≤n:=by
  have hsh:WShape.hasAll [] args [.list .int]=true:=(pre_splitW hpre).1;have hc:l.pre.holds [] {args:=args}=true:=(pre_splitW hpre).2;obtain⟨d,r,rfl,h1,h2⟩:=hasAllW_cons hsh;obtain rfl:=hasAllW_nil h2;obtain⟨xs,rfl,h3⟩:=hasW_list h1;obtain⟨ns,rfl⟩:=items_int h3;have hlen:ns.length≤n:=by
    unfold OpenLaw.pre at hc;have h4:(WTm.not (.lt (.lit (.int (n:Int))) (.len (.arg 0)))).holds [] {args:=[.list (ns.map .int)]}=true:=by
      have h4:=(holds_andW hc).1;rw[hn] at h4;exact h4
    have h5:=condW_of h4 (w_not (w_lt w_lit (w_len_list (w_arg rfl))));rw[List.length_map] at h5;refine Nat.le_of_not_lt fun q=>?_;have q':(n:Int)<((ns.length:Nat):Int):=by omega
    first
      | (rw[decide_eq_true q'] at h5;exact absurd h5 (by decide))
      | (simp at h5;omega)
  cases hwl with
  | cons w1 w2=>
    cases w2;cases w1 with
    | list ho hall=>exact⟨_,_,ns,rfl,rfl,ho,yj ns _ hall,hlen⟩
theorem Qp (l:OpenLaw) (args:List WData):l.row.toRowW.claim.post args (.bool true) args=true:=
  postW_of (r:=l.row.toRowW) (X:=(true == true))
    (show WShape.has [] (.bool true) .bool=true by first | rfl | decide | simp[WShape.has,WShape.arms,WShape.armsAll])
    (show(WTm.eq .res (.lit (.bool true))).value [] {args:=args,res:=some (.bool true),after:=args}=some (.bool (true == true)) from w_eq_bool (w_res rfl) w_lit) rfl
theorem HN {l:OpenLaw} {n:Nat} {q:Program} {loose:List Str} {XP:(Str→Option Value)→Heap→Prop} {YP:World→Heap→Prop} {d:DefRec}
    (hn:l.most=some n) (hdf:d.params.defaults=[])
    (call:∀(w:World) (s₀ s₁:Shared) (mg mb:Str→Option Value) (fa:Addr) (o:Obj) (pm cd doc:Value) (a:Addr) (vs:List Value) (ns:List Int),
      Ground q loose [] XP w s₀ mg mb s₁.heap→YP w s₁.heap→
      s₁.heap.get? fa=some o→o.data = .func (docDef d.name d.params d.body d.scope pm cd doc)→s₁.heap.CodeRec cd d.name→mg d.name=some (.ref fa)→
      s₁.heap.get? a=some {cls:=.type "list",data:=.seq vs.toArray}→IntsAre vs ns→ns.length≤n→s₁.gens = #[]→
      codeAny (model l.prog w) callerA (.call (.ref fa) ⟨[.ref a],[]⟩) (fun r s'=>r = .ok (.ret (.bool true))∧OldK s₁.heap s'.heap∧s'.os=s₁.os∧AllBare s'.gens) s₁) :
    WalkO q loose XP YP l.row.toRowW d [] (fun f vs=>PySem.call f vs):=by
  intro w s₀ s₁ mg mb G Y fa o pm cd doc dV kV ho hd hcd hD hmg hg args vals as hpre hlay hrd hwl hlo;obtain rfl:dV = .none:=Dflts.none hD hdf;obtain rfl:kV = .none:=Dflts.noKw hD;obtain⟨a,vs,ns,rfl,rfl,hobj,hints,hlen⟩:=Qo hn hpre hwl;refine enter_call (codeAny_mono (call w s₀ s₁ mg mb fa o pm cd doc a vs ns G Y ho (fd_plain hd) hcd hmg hobj hints hlen hg) fun r s' hq=>?_);obtain⟨rfl,h2,h3,h4⟩:=hq;exact⟨.inl ⟨.bool true,.bool true,[],rfl,fun _=>rfl,.bool true,Qp l _,fun _=>⟨List.Pairwise.nil,fun _ hm=>(nomatch hm)⟩⟩,h2,h3,h4⟩
end Att
namespace L2
open PySem PySem.Spec PyProof.Rows
theorem Dt:∀{vs:List Value} {ns:List Int},IntsAre vs ns→Vals (ns.map V.int) vs
  | _,_,.nil=>.nil
  | _,_,.cons n t h=>.cons ⟨t,rfl⟩ (Dt h)
def Only (H:Hp):Prop:=∀b,H b=none∨∃o xs,H b=some (.Hv o (.lst xs))
theorem Td {P:Program} {w:World} {K:W.Frag} {mg mb:Str→Option Value} {CX:Sw} {k:Nat} {fa a:Addr} {fd:FuncData} {x:Str} {sp:Sp} {s₁:Shared} {vs:List Value} {ns:List Int}
    (KX:K.In s₁.heap) (hns:s₁.heap.Ns mainGlobals mg) (hb:s₁.heap.Ns builtinsNs mb) (hbb:∀x:Str,x≠ "__name__" →mb x=bootBuiltins x) (hlim:s₁.heap.NoLimit) (hg:s₁.gens = #[])
    (ha:s₁.heap.get? a=some {cls:=.type "list",data:=.seq vs.toArray}) (hi:IntsAre vs ns) (hl:ns.length≤sizeLine) (hr:h_ k callerA)
    (F:∀base:Heap,K.In base→base.Ns mainGlobals mg→cF P w K mg base CX k fa fd [x] sp) (hbind:∀(s:Shared) (u:Value),BindsTo s fd ⟨[u],[]⟩ [(x,u)])
    (hsp:∀H:Hp,Only H→aX K H a (ns.map V.int)→sp [.ref a] H (fun v _=>v = .bl true) fun _ _ _=>False)
    (hCX:∀H e s',CX [] H s₁ (fun _ _ _=>False) e s'→False) :
    codeAny (model P w) callerA (.call (.ref fa) ⟨[.ref a],[]⟩) (fun r s'=>r = .ok (.ret (.bool true))∧OldK s₁.heap s'.heap∧s'.os=s₁.os∧AllBare s'.gens) s₁:=by
  have rv:=Dt hi;have lenV:=hi.length;have core:∀H:Hp,Only H→aX K H a (ns.map V.int)→qT P w H s₁.heap→(∀b,H b≠none→b=a)→(H a≠none→K.lookup a=none)→
      codeAny (model P w) callerA (.call (.ref fa) ⟨[.ref a],[]⟩) (fun r s'=>r = .ok (.ret (.bool true))∧OldK s₁.heap s'.heap∧s'.os=s₁.os∧AllBare s'.gens) s₁:=by
    intro H hO hS hok hA hK;have NP:∀{b:Addr} {o:Obj},s₁.heap.get? b=some o→H b=none→(Ey s₁.heap H).get? b=some o:=fun e n=>RQ e n;have noA:∀{b:Addr} {o:Obj} {es:Array DictEntry} {ep:Nat},s₁.heap.get? b=some o→o.data = .dict es ep→H b=none:=fun {b o es ep} e d=>by
      cases q:H b with
      | none=>rfl
      | some u=>
        have e':b=a:=hA b (by rw[q];simp);subst e';rw[ha] at e;cases e;have d':Data.seq vs.toArray _=Data.dict es ep:=d;cases d'
    have nsK:∀{b:Addr} {m:Str→Option Value},s₁.heap.Ns b m→(Ey s₁.heap H).Ns b m:=fun {b m} ⟨o,es,ep,e,d,r⟩=>⟨o,es,ep,NP e (noA e d),d,r⟩;have hKb:K.In (Ey s₁.heap H):=fun b o e=>NP (KX b o e) (by
      cases q:H b with
      | none=>rfl
      | some u=>
        have e':b=a:=hA b (by rw[q];simp);subst e';rw[hK (by rw[q];simp)] at e;cases e)
    have hM:Mod K mg (Ey s₁.heap H):=⟨hKb,nsK hns,⟨mb,nsK hb,hbb⟩,let ⟨mc,h1,h2⟩:=hlim;⟨mc,nsK h1,h2⟩⟩;have e0:HF P w K mg (Ey s₁.heap H) callerA [] s₁ H:=⟨rfl,hM,fun b o e=>Xr e,Nat.le_of_eq (PX _ _),trivial,fun b hb=>absurd (show b∈([]:List Addr) from hb) (by simp),hok,.of_eq hg⟩;refine codeAny_mono ((F _ hKb (nsK hns)).run callerA [] s₁ H ⟨[.ref a],[]⟩ [.ref a] [.ref a] _ _ hr e0 (hbind s₁ (.ref a)) (.cons rfl .nil) (hsp H hO hS)) fun r s' h=>?_;cases r with
    | error e=>exact(hCX H e s' h).elim
    | ok fl=>
      cases fl with
      | next=>exact False.elim h
      | brk=>exact False.elim h
      | cont=>exact False.elim h
      | ret u=>
        obtain⟨v,H',os,bare,un,hok',r',q⟩:=h;have q':v = .bl true:=q;subst q';obtain rfl:u=Value.bool true:=r';refine⟨rfl,OldK.of_keep fun b o e=>?_,os,bare⟩;cases q:H b with
        | none=>exact un.keep b o e q (by intro z;exact absurd (show b∈([]:List Addr) from z) (by simp)) (by simp)
        | some u=>
          rcases hO b with z | ⟨ob,xs,z⟩
          ·rw[q] at z;cases z
          ·have z2:=un.oU b ob _ z;obtain⟨e1,_⟩:=hok b _ z;obtain⟨e2,_⟩:=hok' b _ z2;rw[e] at e1;cases e1;exact e2
  cases hk:K.lookup a with
  | some o=>
    have e:=KX a o hk;rw[ha] at e;cases e;refine core (fun _=>none) (fun _=>.inl rfl) (.inr ⟨_,vs.toArray,_,hk,rfl,rfl,rfl,by rw[List.size_toArray,lenV];exact hl,by simpa using rv⟩) (fun b u z=>by have z':(none:Option HO)=some u:=z;cases z') (fun b z=>absurd rfl z) fun z=>absurd rfl z
  | none=>
    refine core (fun b=>if b=a then some (.Hv {cls:=.type "list",data:=.seq vs.toArray} (.lst (ns.map V.int))) else none) (fun b=>?_) (.inl (.inr ⟨{cls:=.type "list",data:=.seq vs.toArray},if_pos rfl⟩)) (fun b u z=>?_) (fun b z=>?_) fun _=>hk
    · by_cases hb:b=a
      ·exact .inr ⟨_,_,if_pos hb⟩
      ·exact .inl (if_neg hb)
    · by_cases hb:b=a
      ·have z':=(if_pos hb).symm.trans z;cases z';subst hb;exact⟨ha,by rw[List.length_map];exact hl,vs,_,rv,ha⟩
      ·have z':=(if_neg hb).symm.trans z;cases z'
    · by_cases hb:b=a
      ·exact hb
      ·exact absurd (if_neg hb) z
theorem X5 {l:W.OpenLaw} {n k:Nat} {q:Program} {loose:List Str} {XP:(Str→Option Value)→Heap→Prop} {YP:World→Heap→Prop} {d:DefRec} {K:Params→W.Frag} {CX:World→Sw} {sp:World→Sp} {x:Str}
    (hn:l.most=some n) (hn2:n≤sizeLine) (hdf:d.params.defaults=[]) (hr:h_ k callerA)
    (hY:∀(w:World) (h:Heap),YP w h→(K w.params).In h)
    (F:∀(w:World) (mg:Str→Option Value) (fa:Addr) (h:Heap),(K w.params).In h→h.Ns mainGlobals mg→mg d.name=some (.ref fa)→
      ∃fd:FuncData,(∀(s:Shared) (u:Value),BindsTo s fd ⟨[u],[]⟩ [(x,u)])∧
        ∀base:Heap,(K w.params).In base→base.Ns mainGlobals mg→cF l.prog w (K w.params) mg base (CX w) k fa fd [x] (sp w))
    (hsp:∀(w:World) (H:Hp) (a:Addr) (ns:List Int),ns.length≤n→Only H→aX (K w.params) H a (ns.map V.int)→sp w [.ref a] H (fun v _=>v = .bl true) fun _ _ _=>False)
    (hCX:∀(w:World) (H:Hp) (s:Shared) (e:Value) (s':Shared),CX w [] H s (fun _ _ _=>False) e s'→False) :
    W.WalkO q loose XP YP l.row.toRowW d [] (fun f vs=>PySem.call f vs):=by
  refine Att.HN hn hdf fun w s₀ s₁ mg mb fa o pm cd doc a vs ns G Y ho hd hcd hmg hobj hints hlen hg=>?_;have KX:=hY w _ Y;obtain⟨fd,hb,hF⟩:=F w mg fa _ KX G.T.g hmg;exact Td KX G.T.g G.T.b G.T.builtins G.T.nolimit hg hobj hints (Nat.le_trans hlen hn2) hr hF hb (fun H hO hS=>hsp w H a ns hlen hO hS) fun H e s'=>hCX w H s₁ e s'
def inClass (s:Stmt) (j:Nat):Stmt:=match s with
  | .ClassDef _ _ _ body _ _ _ _ _ _ _=>body.getD j (.Pass ⟨0,0,0,0⟩)
  | _=>.Pass ⟨0,0,0,0⟩
def aF (s:Stmt):Arguments:=match s with
  | .FunctionDef _ a _ _ _ _ _ _ _ _=>a
  | _=>{posonlyargs:=[],args:=[],vararg:=none,kwonlyargs:=[],kw_defaults:=[],kwarg:=none,defaults:=[]}
def aC (s:Stmt):List Stmt:=match s with
  | .FunctionDef _ _ b _ _ _ _ _ _ _=>b
  | _=>[]
def ak (s:Stmt):Scope:=match s with
  | .FunctionDef _ _ _ _ _ _ sc _ _ _=>sc
  | _=>{kind:=.function,names:=[],isGenerator:=false,isCoroutine:=false}
abbrev jA:Sw:=fun _ _ _ _ _ _=>False
abbrev E0:XK:=fun _ _ _=>False
theorem bw {X:Cx}:Passes jA X E0:=fun _ _ _ _ _ _ _ h=>h.elim
structure iY (K:W.Frag) (x qual:Str) (st:Stmt) (f:Addr) (fd:FuncData):Prop where
  ex:∃(oc:Value) (od:Option Addr) (kV doc pm:Value) (an:Option Addr) (cdv ct:Value) (osl:Array (Option Value)),
    fd=W.fnOf x qual (aF st) (aC st) (ak st) .none kV doc pm an cdv ct∧K.lookup f=some ⟨oc,od,.func fd,osl⟩∧W.codeIn K cdv qual=true
  kp:W.keepIn K (.ref f)=true
section
variable {P:Program} {w:World} {K:W.Frag} {mg:Str→Option Value} {base:Heap}
theorem iY.ok {x qual:Str} {st:Stmt} {f:Addr} {fd:FuncData} {N ps:List Str} {k:Nat} {sp:Sp} (F:iY K x qual st f fd) (S:aU N ps (ak st)) (len:∀vs H Q E,sp vs H Q E→vs.length=ps.length)
    (hbody:∀(cdv:Value) (A:Around) (outer:List Env) (s:Shared) (H:Hp) (vs:List V) (Q:VK) (E:XK),h_ k (A.deeper (envOfC qual (ak st) s.heap.objs.size f cdv))→sp vs H Q E→
      ∃t,Dg (dw jA P w K mg base N qual (ak st) f cdv A outer s H E).RB (aC st) t∧t {nx:=fun _ H'=>Q .non H',rt:=Q} (start N vs) H):cF P w K mg base jA (k+1) f fd ps sp:=by
  obtain⟨oc,od,kV,doc,pm,an,cdv,ct,osl,rfl,lk,hcd⟩:=F.ex;refine qac lk hcd S len fun A outer s H vs Q E hr hsp=>?_;obtain⟨t,h,q⟩:=hbody cdv A outer s H vs Q E hr hsp;exact⟨t,h.RB,q⟩
theorem iY.binds {x qual:Str} {st:Stmt} {f:Addr} {fd:FuncData} {ps:List Str} (F:iY K x qual st f fd)
    (h:∀(kV doc pm:Value) (an:Option Addr) (cdv ct:Value) (us:List Value),us.length=ps.length→bindArgs (W.fnOf x qual (aF st) (aC st) (ak st) .none kV doc pm an cdv ct) ⟨us,[]⟩=pure (ps.zip us)):Binds K fd ps []:=by
  obtain⟨oc,od,kV,doc,pm,an,cdv,ct,osl,rfl,lk,hcd⟩:=F.ex;exact .all (h kV doc pm an cdv ct)
theorem bD {x qual:Str} {st:Stmt} {f:Addr} {oc:Value} {od an:Option Addr} {osl:Array (Option Value)} {kV doc pm cdv ct:Value} (l:K.lookup f=some ⟨oc,od,.func (W.fnOf x qual (aF st) (aC st) (ak st) .none kV doc pm an cdv ct),osl⟩)
    (c:W.codeIn K cdv qual=true) (k:W.keepIn K (.ref f)=true):iY K x qual st f (W.fnOf x qual (aF st) (aC st) (ak st) .none kV doc pm an cdv ct):=⟨⟨oc,od,kV,doc,pm,an,cdv,ct,osl,rfl,l,c⟩,k⟩
end
theorem yV {A:Around} {k:Nat} (hr:h_ k A):A.units+1<cLine:=Nat.lt_of_le_of_lt (Nat.add_le_add_left (by decide:1≤64) _) hr.units
def Same (H H':Hp):Prop:=∀b o,H b=some o→H' b=some o
theorem Same.refl (H:Hp):Same H H:=fun _ _ h=>h
theorem Same.trans {H H1 H2:Hp} (a:Same H H1) (b:Same H1 H2):Same H H2:=fun c o h=>b c o (a c o h)
theorem Same.seq {K:W.Frag} {H H':Hp} {a:Addr} {xs:List V} (e:Same H H') (h:aX K H a xs):aX K H' a xs:=by
  rcases h with(h | ⟨o,h⟩) | h
  ·exact .inl (.inl (e _ _ h))
  ·exact .inl (.inr ⟨o,e _ _ h⟩)
  ·exact .inr h
def nu (env:Env) (cs:List (Str×Addr)) (p:Str×NameKind):List (Str×Addr):=if p.2 == .free then (p.1,(env.cells.lookup p.1).getD 0)::cs else cs
def Fp (env:Env) (names:List (Str×NameKind)):List (Str×Addr):=names.foldl (nu env) []
theorem xT {α β:Type} (f:α→β→Sem (ForInStep β)) (g:β→α→β):∀(l:List α) (b:β),(∀x∈l,∀b,f x b=pure (.yield (g b x)))→forIn l b f=pure (l.foldl g b)
  | [],_,_=>rfl
  | x::l,b,h=>by
    rw[List.forIn_cons,h x List.mem_cons_self,pure_bind];exact xT f g l (g b x) fun y hy=>h y (List.mem_cons_of_mem _ hy)
theorem kY {sc:Scope} {env:Env} (h:∀x,(x,NameKind.free)∈sc.names→∃c,env.cells.lookup x=some c):closureFor sc env=pure (Fp env sc.names):=by
  simp only[closureFor];rw[xT _ (nu env) sc.names [] (fun p hp cs=>by
    obtain⟨n,k⟩:=p;cases k with
    | free=>
      obtain⟨c,hc⟩:=h n hp;simp only[nu,cellOf,hc,beq_self_eq_true,if_true,Option.getD_some,pure_bind]
    | _=>simp only[nu];rfl)]
  rfl
theorem uL {env:Env}:∀(names:List (Str×NameKind)) (acc:List (Str×Addr)) (x:Str) (c:Addr),(∀x,(x,NameKind.free)∈names→∃c,env.cells.lookup x=some c)→(∀x c,(x,c)∈acc→env.cells.lookup x=some c)→
    (x,c)∈names.foldl (nu env) acc→env.cells.lookup x=some c
  | [],_,x,c,_,h,m=>h x c m
  | (n,k)::r,acc,x,c,hf,h,m=>by
    refine uL r (nu env acc (n,k)) x c (fun y hy=>hf y (List.mem_cons_of_mem _ hy)) (fun y d hy=>?_) m;unfold nu at hy;split at hy
    · rename_i hk;have hk':k = .free:=by simpa using hk
      subst hk';obtain⟨e,he⟩:=hf n List.mem_cons_self
      rcases List.mem_cons.mp hy with z | z
      ·cases z;show env.cells.lookup n=some _;rw[he];rfl
      ·exact h y d z
    ·exact h y d hy
theorem wH {env:Env} {x:Str}:∀(names:List (Str×NameKind)) (acc:List (Str×Addr)),((x,NameKind.free)∈names∨(acc.lookup x).isSome=true)→((names.foldl (nu env) acc).lookup x).isSome=true
  | [],_,h=>h.elim (fun z=>nomatch z) id
  | (n,k)::r,acc,h=>by
    refine wH r (nu env acc (n,k)) ?_
    by_cases hm:(x,NameKind.free)∈r
    ·exact .inl hm
    · refine .inr ?_;unfold nu
      rcases h with h | h
      · rcases List.mem_cons.mp h with z | z
        ·cases z;simp[List.lookup_cons]
        ·exact absurd z hm
      · split
        ·simp only[List.lookup_cons];cases x == n <;> simp[h]
        ·exact h
def yW (env:Env) (sc:Scope) (C:Addr):List (Str×Addr):=cellsFrom (C+1) sc.names (Fp env sc.names)
theorem iw {x:Str}:∀(names:List (Str×NameKind)) (n:Nat) (acc:List (Str×Addr)),(x,NameKind.cell)∈names∨(acc.lookup x).isSome=true→((cellsFrom n names acc).lookup x).isSome=true
  | [],_,_,h=>h.elim (fun z=>nomatch z) id
  | (y,k)::r,n,acc,h=>by
    unfold cellsFrom;split
    · refine iw r (n+1) ((y,n)::acc) ?_
      by_cases hm:(x,NameKind.cell)∈r
      ·exact .inl hm
      · refine .inr ?_
        rcases h with h | h
        · rcases List.mem_cons.mp h with z | z
          ·cases z;simp[List.lookup_cons]
          ·exact absurd z hm
        ·simp only[List.lookup_cons];cases x == y <;> simp[h]
    · rename_i hk;refine iw r n acc ?_
      rcases h with h | h
      · rcases List.mem_cons.mp h with z | z
        ·cases z;exact absurd rfl hk
        ·exact .inl z
      ·exact .inr h
theorem KR:∀(names:List (Str×NameKind)) (h:Heap) (acc:List (Str×Addr)) (x:Str) (c:Addr),(x,c)∈cellsFrom h.objs.size names acc→(x,c)∈acc∨(h.objs.size≤c∧(pushCells h names).IsCell c none)
  | [],_,_,_,_,m=>.inl m
  | (n,k)::r,h,acc,x,c,m=>by
    unfold cellsFrom at m;unfold pushCells;split at m
    · rename_i hk;rw[if_pos hk];have m':(x,c)∈cellsFrom (h.push {cls:=.type "cell",data:=.cell none}).objs.size r ((n,h.objs.size)::acc):=by rw[Heap.size_push];exact m
      rcases KR r (h.push {cls:=.type "cell",data:=.cell none}) _ x c m' with z | ⟨z1,z2⟩
      · rcases List.mem_cons.mp z with e | e
        ·cases e;exact .inr ⟨Nat.le_refl _,⟨_,pushCells_keeps _ _ _ _ (Heap.get?_push_size _ rfl),rfl⟩⟩
        ·exact .inl e
      ·rw[Heap.size_push] at z1;exact .inr ⟨by omega,z2⟩
    ·rename_i hk;rw[if_neg hk];exact KR r h acc x c m
theorem KY {n0:Nat} {x:Str}:∀(names:List (Str×NameKind)) (n:Nat) (acc:List (Str×Addr)) (c:Addr),((x,NameKind.cell)∈names∨∀d,acc.lookup x=some d→n0≤d)→n0≤n→(cellsFrom n names acc).lookup x=some c→n0≤c
  | [],_,_,c,h,_,e=>h.elim (fun z=>nomatch z) fun z=>z c e
  | (y,k)::r,n,acc,c,h,hn,e=>by
    unfold cellsFrom at e;split at e
    · refine KY r (n+1) ((y,n)::acc) c ?_ (by omega) e
      by_cases hm:(x,NameKind.cell)∈r
      ·exact .inl hm
      · refine .inr fun d hd=>?_
        by_cases hxy:x=y
        · subst hxy;have hnd:n=d:=by simpa [List.lookup_cons] using hd
          rw[← hnd];exact hn
        · have hb:(x == y)=false:=by simpa using hxy
          simp only[List.lookup_cons,hb] at hd
          rcases h with h | h
          · rcases List.mem_cons.mp h with z | z
            ·cases z;exact absurd rfl hxy
            ·exact absurd z hm
          ·exact h d hd
    · rename_i hk;refine KY r n acc c ?_ hn e
      rcases h with h | h
      · rcases List.mem_cons.mp h with z | z
        ·cases z;exact absurd rfl hk
        ·exact .inl z
      ·exact .inr h
theorem KZ:∀(names:List (Str×NameKind)) (n:Nat) (acc:List (Str×Addr)),(∀y d,(y,d)∈acc→d<n)→(∀y z d,(y,d)∈acc→(z,d)∈acc→y=z)→
    ∀y z d,(y,d)∈cellsFrom n names acc→(z,d)∈cellsFrom n names acc→y=z
  | [],_,_,_,h=>h
  | (x,k)::r,n,acc,hl,h=>by
    unfold cellsFrom;split
    · refine KZ r (n+1) ((x,n)::acc) (fun y d hm=>?_) fun y z d h1 h2=>?_
      · rcases List.mem_cons.mp hm with e | e
        ·cases e;exact Nat.lt_succ_self _
        ·exact Nat.lt_succ_of_lt (hl y d e)
      · rcases List.mem_cons.mp h1 with e1 | e1 <;> rcases List.mem_cons.mp h2 with e2 | e2
        ·cases e1;cases e2;rfl
        ·cases e1;exact absurd (hl z n e2) (Nat.lt_irrefl _)
        ·cases e2;exact absurd (hl y n e1) (Nat.lt_irrefl _)
        ·exact h y z d e1 e2
    ·exact KZ r n acc hl h
abbrev Tf:Value→Shared→Prop:=fun _ _=>False
theorem xU {prog:Program} {w:World} {A:Around} {R:Result→Shared→Prop} {s:Shared} {elt target iter:Expr} {ifs:List Expr} {scope:Scope} {pos:Pos} {it acc:Value} {env:Env} (I:Nat→Shared→Prop)
    (turn:∀n s,I n s→wpAny (model prog w) A (pyNext it) (fun r s₁=>match r with
      | none=>R (.ok .next) s₁
      | some v=>wpAny (model prog w) A (letOwnedTupleGo target it v) (fun _ s₂=>wpAny (model prog w) A (assign target env v) (fun _ s₃=>
          wpAny (model prog w) A (forIn ifs true fun c r=>if r=true then do let ok ← isTrue c env (eval c env);pure (ForInStep.yield ok) else pure (ForInStep.yield r)) (fun ok s₄=>
            if ok=true then wpAny (model prog w) A (eval elt env) (fun x s₅=>
              wpAny (model prog w) A (call (.builtin "list.append") [acc,x]) (fun _ s₆=>∃m,m<n∧I m s₆) Tf s₅) Tf s₄
            else ∃m,m<n∧I m s₄) Tf s₃) Tf s₂) Tf s₁) Tf s)
    (n:Nat) (h:I n s):codeAny (model prog w) A (.compLoop (.ListComp elt [⟨target,iter,ifs,0⟩] scope pos) 0 it acc env) R s:=by
  refine codeAny_loop rfl I (fun n s hI=>?_) n h;show wpAny _ A ((compTurn (.ListComp elt [⟨target,iter,ifs,0⟩] scope pos) 0 it acc env).onRaise (fun x=>do noteFrame x env;theTreesLotGoes x)) _ _ s
  refine wpAny_noted ?_;rw[compTurn_list];refine wpAny_bind (wpAny_standAt (wpAny_bind (wpAny_mono (turn n s hI) (fun r s₁ h₁=>?_) fun _ _ h'=>h'.elim)));cases r with
  | none=>exact wpAny_pure h₁
  | some v=>
    refine wpAny_bind (wpAny_mono h₁ (fun _ s₂ h₂=>?_) fun _ _ h'=>h'.elim);refine wpAny_bind (wpAny_mono h₂ (fun _ s₃ h₃=>wpAny_bind (wpAny_mono h₃ (fun ok s₄ h₄=>?_) fun _ _ h'=>h'.elim)) fun _ _ h'=>h'.elim);cases ok with
    | false=>exact wpAny_pure ⟨rfl,h₄⟩
    | true=>
      exact wpAny_bind (wpAny_bind (wpAny_mono h₄ (fun x s₅ h₅=>wpAny_bind (wpAny_mono h₅ (fun _ s₆ h₆=>wpAny_pure (wpAny_pure ⟨rfl,h₆⟩)) fun _ _ h'=>h'.elim)) fun _ _ h'=>h'.elim))
def bF (X:Cx) (sc:Scope) (N:List Str) (C:Addr) (s:Shared) (H:Hp) (fp:List Addr) (pn:List (Addr×Obj)):Cx:=
  {X with env:=compEnvC sc (yW X.env sc C) C X.env,N:=N,s₀:=s,H₀:=H,outer:=X.stack,ex:=fp,fn:=fun x=>sc.names.any fun p=>p.1 == x && p.2 == .cell,pn:=pn,xe:=Tf}
theorem mj {sc:Scope} {env:Env} (x:Str):(relabel sc env).names.lookup x=(sc.names.lookup x).map fun k=>if (k == NameKind.free && env.scope.kind == .function && env.kindOf x == some .cell)=true then NameKind.cell else k:=by
  unfold relabel;show List.lookup x (sc.names.map _)=_
  induction sc.names with
  | nil=>rfl
  | cons p r ih=>
    obtain⟨n,k⟩:=p;rw[List.map_cons];have e1:(if (k == NameKind.free && env.scope.kind == .function && env.kindOf n == some .cell)=true then (n,NameKind.cell) else (n,k))=(n,if (k == NameKind.free && env.scope.kind == .function && env.kindOf n == some .cell)=true then NameKind.cell else k):=by split <;> rfl
    show List.lookup x ((if (k == NameKind.free && env.scope.kind == .function && env.kindOf n == some .cell)=true then (n,NameKind.cell) else (n,k))::_)=_
    rw[e1]
    by_cases hx:x=n
    ·subst hx;simp only[List.lookup_cons,beq_self_eq_true,Option.map_some]
    · have hb:(x == n)=false:=by simpa using hx
      simp only[List.lookup_cons,hb];exact ih
structure aQ (ps sc:Scope) (pN own:List Str) (caps:List Nat) (N:List Str):Prop where
  kind:sc.kind = .function
  uniq:∀p∈sc.names,sc.names.lookup p.1=some p.2
  nd:N.Nodup
  names:N=own++caps.map fun j=>pN.getD j ""
  free:∀p∈sc.names,p.2 = .free→ps.names.lookup p.1=some .cell∨ps.names.lookup p.1=some .free
  qd1:∀j∈caps,j<pN.length∧sc.names.lookup (pN.getD j "")=some .free
@[simp] def stC (own:List Str) (caps:List Nat) (σ:St):St:=own.map (fun _=>none)++caps.map fun j=>(σ[j]?).getD none
section
variable {X:Cx} {p_:List (Addr×Obj)} {σ:St} {H:Hp} {s:Shared} {ps sc:Scope} {own pN:List Str} {caps:List Nat} {N:List Str} {fp:List Addr}
theorem aQ.cells (S:aQ ps sc pN own caps N) (hps:X.env.scope=ps) (ok:X.Ok):∀x,(x,NameKind.free)∈sc.names→∃c,X.env.cells.lookup x=some c:=fun x hx=>by
  refine ok.has x ?_;show X.env.scope.names.lookup x=_∨X.env.scope.names.lookup x=_;rw[hps];exact S.free (x,.free) hx rfl
theorem yX (hfr:∀x,(x,NameKind.free)∈sc.names→∃c,X.env.cells.lookup x=some c) {C:Addr} {x:Str} {c:Addr} {h:Heap} (hC:C+1=h.objs.size) (m:(x,c)∈yW X.env sc C):X.env.cells.lookup x=some c∨(h.objs.size≤c∧(pushCells h sc.names).IsCell c none):=by
  unfold yW at m;rw[hC] at m
  rcases KR sc.names h _ x c m with z | z
  ·exact .inl (uL sc.names [] x c hfr (fun _ _ z=>nomatch z) z)
  ·exact .inr z
theorem Fq (I:Inv X p_ σ H s) (hps:X.env.scope=ps) (S:aQ ps sc pN own caps N) (hf:∀b∈fp,iu X p_ H b) (ho:∀b∈fp,∃o,s.heap.get? b=some o∧∀v,o.data≠.cell v) :
    (bF X sc N s.heap.objs.size s H fp (X.pn++p_)).Ok where
  mod:=I.ok.mod
  kind:=S.kind
  glob:=I.ok.glob
  blt:=I.ok.blt
  above:=Nat.le_refl _
  inj:=fun x y c h1 h2=>by
    have cl:∀y d,(y,d)∈Fp X.env sc.names→X.env.cells.lookup y=some d:=fun y d m=>uL sc.names [] y d (S.cells hps I.ok) (fun _ _ z=>nomatch z) m;refine KZ sc.names (s.heap.objs.size+1) (Fp X.env sc.names) (fun y d m=>?_) (fun y z d m1 m2=>I.ok.inj y z d (cl y d m1) (cl z d m2)) x y c (PySem.mem_of_lookup h1) (PySem.mem_of_lookup h2);obtain⟨v,q⟩:=I.cell y d (cl y d m);exact Nat.lt_succ_of_lt q.lt
  has:=fun x hx=>by
    have hx1:(relabel sc X.env).names.lookup x=some .cell∨(relabel sc X.env).names.lookup x=some .free:=hx;have hx':(x,NameKind.cell)∈sc.names∨(x,NameKind.free)∈sc.names:=by
      rw[mj] at hx1;cases e:sc.names.lookup x with
      | none=>rw[e] at hx1;simp at hx1
      | some k=>
        rw[e] at hx1;have hm:=PySem.mem_of_lookup e;cases k with
        | free=>exact .inr hm
        | cell=>exact .inl hm
        | _=>simp at hx1
    have q:((cellsFrom (s.heap.objs.size+1) sc.names (Fp X.env sc.names)).lookup x).isSome=true:=by
      rcases hx' with z | z
      ·exact iw sc.names _ _ (.inl z)
      ·exact iw sc.names _ _ (.inr (wH sc.names [] (.inl z)))
    exact Option.isSome_iff_exists.mp q
  cab:=fun x c hx h=>by
    have hx':(x,NameKind.cell)∈sc.names:=by
      have hx:(sc.names.any fun p=>p.1 == x && p.2 == .cell)=true:=hx;obtain⟨⟨a,b⟩,hm,he⟩:=List.any_eq_true.mp hx;simp at he;obtain⟨rfl,rfl⟩:=he;exact hm
    exact KY (n0:=s.heap.objs.size) sc.names (s.heap.objs.size+1) (Fp X.env sc.names) c (.inl hx') (Nat.le_succ _) h
  hd:=I.ok.hd
  frames:=I.ok.frames
  stk:=.inl rfl
  Xv:=fun b hb=>by
    obtain⟨o,e,_⟩:=ho b hb;refine⟨Nat.ne_of_lt (Heap.lt_size e),fun x c h z=>?_⟩;subst z
    rcases yX (S.cells hps I.ok) (h:=s.heap.push {cls:=.type "dict",data:=.dict #[]}) (by rw[Heap.size_push]) (PySem.mem_of_lookup h) with q | ⟨q,_⟩
    ·exact(hf c hb).2.2.2.2.1 x c q rfl
    ·rw[Heap.size_push] at q;exact absurd (Nat.lt_of_lt_of_le (Nat.lt_of_lt_of_le (Heap.lt_size e) (Nat.le_succ _)) q) (Nat.lt_irrefl _)
  bs:=I.bs
  P0:=Nat.le_trans I.ok.P0 I.sz
  Hw:=fun b o e hb=>by
    rcases(hf b hb).2.2.2.1 with z | z
    ·exact I.ok.Hw b o e z
    ·exact absurd (Nat.lt_of_lt_of_le (Heap.lt_size e) (Nat.le_trans I.ok.P0 z)) (Nat.lt_irrefl _)
  Ez:=fun b hb z=>by
    rcases List.mem_cons.mp (I.um b z) with q | q
    ·exact(hf b hb).2.1 q
    ·exact(hf b hb).2.2.1 q
  qU:=I.stack
  RV:=I.yr
def blockAt (sc:Scope) (s:Shared):Shared:={s with heap:=pushCells (s.heap.push {cls:=.type "dict",data:=.dict #[]}) sc.names}
theorem HS (I:Inv X p_ σ H s) (hps:X.env.scope=ps) (hpN:X.N=pN) (S:aQ ps sc pN own caps N) (hf:∀b∈fp,iu X p_ H b) (ho:∀b∈fp,∃o,s.heap.get? b=some o∧∀v,o.data≠.cell v) :
    Inv (bF X sc N s.heap.objs.size s H fp (X.pn++p_)) [] (stC own caps σ) H (blockAt sc s):=by
  have hk:∀b o,s.heap.get? b=some o→(blockAt sc s).heap.get? b=some o:=fun b o e=>pushCells_keeps _ _ b o (Heap.get?_push_of_some _ e);have hns:(blockAt sc s).heap.Ns s.heap.objs.size fun _=>none:=(Heap.Ns.new s.heap (.type "dict")).keeps (pushCells_keeps _ _);have hcl:∀x c,(yW X.env sc s.heap.objs.size).lookup x=some c→X.env.cells.lookup x=some c∨(s.heap.objs.size+1≤c∧(blockAt sc s).heap.IsCell c none):=fun x c e=>by
    rcases yX (S.cells hps I.ok) (h:=s.heap.push {cls:=.type "dict",data:=.dict #[]}) (by rw[Heap.size_push]) (PySem.mem_of_lookup e) with q | ⟨q,r⟩
    ·exact .inl q
    ·rw[Heap.size_push] at q;exact .inr ⟨q,r⟩
  refine⟨Fq I hps S hf ho,rfl,I.bare,Un.kept hk,⟨_,hns,fun i x v e1 e2 e3=>?_⟩,fun x c e=>?_,I.hok.fresh (Nat.le_refl _),fun x c e=>?_,fun p hp=>?_,I.hok.kept hk,?_⟩
  · have e1':N[i]? = some x:=e1;rw[S.names] at e1';unfold stC at e2
    by_cases hi:i<own.length
    · rw[List.getElem?_append_left (by simpa using hi),List.getElem?_map] at e2;cases q:own[i]? with
      | none=>rw[q] at e2;cases e2
      | some y=>rw[q] at e2;cases e2
    · rw[List.getElem?_append_right (by omega),List.getElem?_map] at e1';rw[List.getElem?_append_right (by simp;omega),List.getElem?_map] at e2;simp only[List.length_map] at e2;cases q:caps[i - own.length]? with
      | none=>rw[q] at e2;cases e2
      | some j=>
        rw[q] at e1' e2;have qd2:pN.getD j "" = x:=Option.some.inj e1';have e2':(σ[j]?).getD none=some v:=Option.some.inj e2;have hj:σ[j]? = some (some v):=by
          cases z:σ[j]? with
          | none=>rw[z] at e2';cases e2'
          | some o=>rw[z] at e2';exact congrArg some e2'
        obtain⟨hlt,hfree⟩:=S.qd1 j (List.mem_of_getElem? q);rw[qd2] at hfree;have hNj:X.N[j]? = some x:=by
          rw[hpN,← qd2];simp[List.getD,List.getElem?_eq_getElem hlt]
        have qd3:=S.free (x,.free) (PySem.mem_of_lookup hfree) rfl;have vis:Vis X.env.scope x:=by rw[hps];exact .inr qd3
        obtain⟨m,hn,hl⟩:=I.loc;obtain⟨u,r,l⟩:=hl j x v hNj hj vis;refine⟨u,r,.inr ?_⟩;have hkind:(relabel sc X.env).names.lookup x=some .cell∨(relabel sc X.env).names.lookup x=some .free:=by
          rw[mj,hfree];show some (if _ then _ else _)=_∨some (if _ then _ else _)=_
          split
          ·exact .inl rfl
          ·exact .inr rfl
        refine⟨hkind,?_⟩;have hcell:X.env.kindOf x=some .cell∨X.env.kindOf x=some .free:=by
          show X.env.scope.names.lookup x=_∨X.env.scope.names.lookup x=_;rw[hps];exact qd3
        rcases l with⟨hloc,_⟩ | ⟨_,c,hc,hcv⟩
        ·rcases hcell with z | z <;> (rw[hloc] at z;cases z)
        · have q2:((yW X.env sc s.heap.objs.size).lookup x).isSome=true:=iw sc.names _ _ (.inr (wH sc.names [] (.inl (PySem.mem_of_lookup hfree))));obtain⟨d,hd⟩:=Option.isSome_iff_exists.mp q2;refine⟨d,hd,?_⟩
          rcases hcl x d hd with z | ⟨z,_⟩
          ·rw[hc] at z;cases z;exact hcv.keeps hk
          ·
            exfalso;have hnc:(x,NameKind.cell)∉sc.names:=fun hm=>by
              have:=S.uniq _ hm;rw[hfree] at this;cases this
            have hmem:=PySem.mem_of_lookup hd;have X6:∀(names:List (Str×NameKind)) (n:Nat) (acc:List (Str×Addr)),(x,NameKind.cell)∉names→(cellsFrom n names acc).lookup x=acc.lookup x:=by
              intro names
              induction names with
              | nil=>intro _ _ _;rfl
              | cons p r ih=>
                intro n acc hm;obtain⟨y,k⟩:=p;unfold cellsFrom;split
                · rename_i hkk;have hkk':k = .cell:=by simpa using hkk
                  subst hkk';rw[ih _ _ fun z=>hm (List.mem_cons_of_mem _ z)];have hxy:(x == y)=false:=by
                    cases hb:x == y with
                    | false=>rfl
                    | true=>exact absurd (by rw[beq_iff_eq.mp hb];exact List.mem_cons_self) hm
                  simp only[List.lookup_cons,hxy]
                ·exact ih _ _ fun z=>hm (List.mem_cons_of_mem _ z)
            have e5:(Fp X.env sc.names).lookup x=some d:=(X6 sc.names _ _ hnc).symm.trans hd;have e6:=uL sc.names [] x d (S.cells hps I.ok) (fun _ _ z=>nomatch z) (PySem.mem_of_lookup e5);rw[hc] at e6;cases e6;exact absurd (Nat.lt_of_lt_of_le (Nat.lt_of_lt_of_le hcv.lt (Nat.le_succ _)) z) (Nat.lt_irrefl _)
  · rcases hcl x c e with z | ⟨_,z⟩
    ·obtain⟨v,q⟩:=I.cell x c z;exact⟨v,q.keeps hk⟩
    ·exact⟨_,z⟩
  · rcases hcl x c e with z | ⟨z,_⟩
    ·exact I.gq x c z
    ·exact I.hok.fresh (by omega)
  · rw[List.append_nil] at hp;obtain⟨e,n,ne,nf,d⟩:=I.pin p hp;refine⟨hk _ _ e,n,Nat.ne_of_lt (Heap.lt_size e),fun z=>?_,d⟩
    rcases List.mem_cons.mp (I.um p.1 z) with q | q
    ·exact ne q
    ·exact nf q
  ·show(stC own caps σ).length=N.length;rw[S.names];simp[stC]
theorem Du (I:Inv X p_ σ H s) (hf:∀b∈fp,iu X p_ H b) {C:Addr} {pn:List (Addr×Obj)} {yQ:List (Addr×Obj)} {σ':St} {H':Hp} {s':Shared} (I':Inv (bF X sc N C s H fp pn) yQ σ' H' s'):Inv X p_ σ H' s':=
  I.call' (ch:=fp) I'.os I'.base I'.hok I'.bare fun b hb=>⟨(hf b hb).2.2.2.1,(hf b hb).2.1,(hf b hb).2.2.2.2.1,(hf b hb).2.2.2.2.2⟩
end
def PTs (X:Cx) (ifs:List Expr) (t:TT):Prop:=
  ∀(p_:List (Addr×Obj)) (s:Shared) (σ:St) (H:Hp) (Q:Bool→Hp→Prop),Inv X p_ σ H s→t σ H Q→
    wpAny (model X.prog X.w) X.A (forIn ifs true fun c r=>if r=true then do let ok ← isTrue c X.env (eval c X.env);pure (ForInStep.yield ok) else pure (ForInStep.yield r)) (TP X p_ σ Q) X.xe s
def qd4:TT:=fun _ H Q=>Q true H
theorem dz {X:Cx}:PTs X [] qd4:=fun _ _ _ H _ I h=>wpAny_tests_nil ⟨H,I,h⟩
theorem gw {X:Cx} {c:Expr} {t:TT} (h:PT X c t):PTs X [c] t:=fun p_ s σ H Q I hw=>wpAny_tests_one (h p_ s σ H Q I hw)
def jR (own:List Str) (caps:List Nat) (J:It) (g:TG) (tt:TT) (te:TE) (D:Addr) (σ:St) (H:Hp) (Q:Hp→Prop):Prop:=
  ∃oW:Nat→Nat→St→Hp→Prop,(∃m,oW 0 m (stC own caps σ) H)∧∀i m σ' H',oW i m σ' H'→
    (J.stop i H'∧Q H')∨(J.go i H'∧∃N:St→Hp→Prop,(∀σ2 H2,N σ2 H2→∃m',m'<m∧oW (i+1) m' σ2 H2)∧∀x H2,J.RD i H' x H2→g x σ' H2 fun σ2 H3=>tt σ2 H3 fun b H4=>
      if b=true then te σ2 H4 fun y H5=>∃ys,H5 D=some (.lst ys)∧ys.length<sizeLine∧N σ2 (upd H5 D (.lst (ys++[y]))) else N σ2 H4)
def HW (own:List Str) (caps:List Nat) (wi:TI) (g:TG) (tt:TT) (te:TE):TE:=fun σ H Q=>wi σ H fun J H1=>∀D,H1 D=none→jR own caps J g tt te D σ (upd H1 D (.lst [])) (Q (.ref D))
theorem uM {M:Model} {A:Around} {E:Value→Shared→Prop} {s:Shared} {sc:Scope} {g:Addr} {cl:List (Str×Addr)} {qual:Str} {env:Env} {Q:Env→Shared→Prop}
    (h:Q (newEnv sc s.heap.objs.size g (cellsFrom (s.heap.objs.size+1) sc.names cl) qual none .none (some env) builtinsNs) (blockAt sc s)):wpAny M A (newFunctionEnv sc g cl [] qual none .none (some env)) Q E s:=by
  simp only[newFunctionEnv,Option.isSome_some,if_true];refine wpAny_bind (wpAny_alloc ?_);refine wpAny_bind (wpAny_layCells _ (fun name kind cells=>by cases hkc:kind == NameKind.cell <;> simp[hkc]) _ _ _ _ ?_);rw[show({s with heap:=s.heap.push {cls:=.type "dict",data:=.dict #[]}}:Shared).heap.objs.size=s.heap.objs.size+1 from Heap.size_push ..];rw[List.forIn_nil];exact wpAny_bind (wpAny_pure (wpAny_pure h))
def uN (X:Cx) (p_:List (Addr×Obj)) (σ:St) (Q:Hp→Prop) (C:Addr) (r:Result) (s':Shared):Prop:=
  ∃H',r = .ok .next∧Inv X p_ σ H' s'∧(∃m,s'.heap.Ns C m)∧iu X p_ H' C∧Q H'
section
variable {X:Cx} {ps sc:Scope} {own pN:List Str} {caps:List Nat} {N:List Str}
theorem yZ {p_:List (Addr×Obj)} {σ:St} {H:Hp} {s:Shared} {E:Value→Shared→Prop} {elt tg iter:Expr} {ifs:List Expr} {pos:Pos} {J:It} {fp:List Addr} {it D:Addr} {tn:Nat→Heap→Prop} {g:TG} {tt:TT} {te:TE} {Q:Hp→Prop}
    (I:Inv X p_ σ H s) (hps:X.env.scope=ps) (hpN:X.N=pN) (S:aQ ps sc pN own caps N) (T:Turn X.prog X.w X.K tg J fp it tn) (st:tn 0 s.heap) (hf:∀b∈fp,iu X p_ H b) (hc:X.calm=true)
    (hg:∀C s H fp pn,PG (bF X sc N C s H fp pn) tg g) (ht:∀C s H fp pn,PTs (bF X sc N C s H fp pn) ifs tt) (he:∀C s H fp pn,PE (bF X sc N C s H fp pn) elt te)
    (h:jR own caps J g tt te D σ H Q) :
    wpAny (model X.prog X.w) X.A (newFunctionEnv sc X.env.globals (Fp X.env sc.names) [] X.env.qual none .none (some X.env)) (fun cenv s4=>
      codeAny (model X.prog X.w) X.A (.compStart (.ListComp elt [⟨tg,iter,ifs,0⟩] sc pos) 0 (.ref it) (.ref D) {cenv with scope:=relabel sc X.env}) (uN X p_ σ Q cenv.locals) s4) E s:=by
  obtain⟨oW,⟨m0,w0⟩,turn⟩:=h;refine uM ?_;have ho:=T.obj 0 _ st;have I0:=HS I hps hpN S hf ho;have ok':=Fq I hps S hf ho;have hk:∀b o,s.heap.get? b=some o→(blockAt sc s).heap.get? b=some o:=fun b o e=>pushCells_keeps _ _ b o (Heap.get?_push_of_some _ e);have st0:tn 0 (blockAt sc s).heap:=T.keep 0 _ _ st fun b _ o e=>hk b o e;have stat:∀{H':Hp},(∀b∈fp,H' b=none)→∀b∈fp,iu (bF X sc N s.heap.objs.size s H fp (X.pn++p_)) [] H' b:=fun hn b hb=>
    ⟨hn b hb,(ok'.Xv b hb).1,ok'.Ez b hb,.inl hb,(ok'.Xv b hb).2,fun p hp=>(hf b hb).2.2.2.2.2 p (by rw[List.append_nil] at hp;exact hp)⟩
  have loop:codeAny (model X.prog X.w) X.A (.compLoop (.ListComp elt [⟨tg,iter,ifs,0⟩] sc pos) 0 (.ref it) (.ref D) (bF X sc N s.heap.objs.size s H fp (X.pn++p_)).env) (uN X p_ σ Q s.heap.objs.size) (blockAt sc s):=by
    refine xU (fun n s'=>∃i σ' H',Inv (bF X sc N s.heap.objs.size s H fp (X.pn++p_)) [] σ' H' s'∧tn i s'.heap∧(∀b∈fp,H' b=none)∧oW i n σ' H') ?_ m0 ⟨0,_,H,I0,st0,fun b hb=>(hf b hb).1,w0⟩;rintro n s3 ⟨i,σ3,H3,I3,st3,fr3,w3⟩
    rcases turn i n σ3 H3 w3 with⟨stop,qn⟩ | ⟨go,N',hN,step⟩
    ·refine cB (T.done (bF X sc N s.heap.objs.size s H fp (X.pn++p_)) rfl rfl rfl hc i [] s3 σ3 H3 Tf I3 (stat fr3) st3 stop) fun r s4 zz=>?_;obtain⟨hr,I4⟩:=zz;subst hr;obtain⟨m,hn,_⟩:=I4.loc;exact⟨H3,rfl,Du I hf I4,⟨m,hn⟩,I.wD (Nat.le_refl _) I4.free,qn⟩
    · refine cB (T.item (bF X sc N s.heap.objs.size s H fp (X.pn++p_)) rfl rfl rfl hc i [] s3 σ3 H3 Tf I3 (stat fr3) st3 go) fun r s4 zz=>?_;obtain⟨u,hr,h4⟩:=zz;subst hr;refine cB h4 fun _ s5 zz=>?_;obtain⟨x,H5,I5,r5,y5,R7,fr5⟩:=zz;have I5':=I5.pinned (stat fr5) (T.obj _ _ R7);refine cB (hg _ _ _ _ _ _ s5 σ3 H5 x u _ I5' r5 (step x H5 y5)) fun _ s6 zz=>?_;obtain⟨σ6,H6,I6,q6⟩:=zz;refine cB (ht _ _ _ _ _ _ s6 σ6 H6 _ I6 q6) fun b s7 zz=>?_;obtain⟨H7,I7,q7⟩:=zz;have again:∀{σ8:St} {H8:Hp} {s8:Shared},Inv (bF X sc N s.heap.objs.size s H fp (X.pn++p_)) ([]++wF fp s5.heap) σ8 H8 s8→N' σ8 H8→
          ∃m,m<n∧∃i σ' H',Inv (bF X sc N s.heap.objs.size s H fp (X.pn++p_)) [] σ' H' s8∧tn i s8.heap∧(∀b∈fp,H' b=none)∧oW i m σ' H':=fun {σ8 H8 s8} I8 n8=>by
        obtain⟨m',hm,w8⟩:=hN σ8 H8 n8;refine⟨m',hm,i+1,σ8,H8,I8.qX,T.keep _ _ _ R7 fun b hb o e=>(I8.pin (b,o) (List.mem_append_right _ (List.mem_append_right _ (jE hb e)))).1,fun b hb=>?_,w8⟩;obtain⟨o,e,d⟩:=T.obj _ _ R7 b hb;exact(I8.pin (b,o) (List.mem_append_right _ (List.mem_append_right _ (jE hb e)))).2.1
      cases b with
      | false=>
        rw[if_neg Bool.false_ne_true] at q7 ⊢;exact again I7 q7
      | true=>
        rw[if_pos rfl] at q7 ⊢;refine cB (he _ _ _ _ _ _ s7 σ6 H7 _ I7 q7) fun v s8 zz=>?_;obtain⟨y,H8,I8,r8,ys,hD,hz,n8⟩:=zz;refine cB (wG (X:=bF X sc N s.heap.objs.size s H fp (X.pn++p_)) _ s8 σ6 H8 (.ref D) [y] (.ref D) [v] (fun _ H9=>N' σ6 H9) I8 rfl (.cons r8 .nil) ⟨D,ys,y,rfl,rfl,hD,hz,n8⟩) fun _ s9 zz=>?_;obtain⟨_,H9,I9,_,n9⟩:=zz;exact again I9 n9
  exact codeAny_compStart_list loop (T.self X.A 0 _ _ _ st0 loop)
variable {elt tg iter:Expr} {ifs:List Expr} {pos:Pos} {wi:TI} {g:TG} {tt:TT} {te:TE}
theorem aQ.locs (S:aQ ps sc pN own caps N):∀x∈sc.names,x.2 = .local→sc.names.lookup x.1=some .local:=fun x hx e=>by rw[← e];exact S.uniq x hx
theorem cJ (hps:X.env.scope=ps) (hpN:X.N=pN) (S:aQ ps sc pN own caps N) (hc:X.calm=true) (hi:PI X tg iter wi)
    (hg:∀C s H fp pn,PG (bF X sc N C s H fp pn) tg g) (ht:∀C s H fp pn,PTs (bF X sc N C s H fp pn) ifs tt) (he:∀C s H fp pn,PE (bF X sc N C s H fp pn) elt te)
    (hs:∀x,foldedSetIterable iter X.env x=pure x:=by intro _;rfl):PE X (.ListComp elt [⟨tg,iter,ifs,0⟩] sc pos) (HW own caps wi g tt te):=by
  intro p_ s σ H Q I h;rw[eval_ListComp];refine wpAny_comprehension_free (use:=none) rfl hs (kY (S.cells hps I.ok)) S.kind S.locs (cB (hi p_ s σ H _ I h) fun v s1 h1=>cB h1 fun itv s2 h2=>?_);obtain⟨it,fp,tn,J,H2,e,I2,T,st2,f2,q⟩:=h2;subst e;have fr:H2 s2.heap.objs.size=none:=I2.fresh;refine wpAny_newObj_type ?_;have I3:Inv X p_ σ (upd H2 s2.heap.objs.size (.lst [])) {s2 with heap:=s2.heap.push {cls:=.type "list",data:=.seq ([]:List Value).toArray},toks:=s2.toks}:=I2.S_ (its:=[]) (ys:=[]) .nil (Nat.zero_le _);have f3:∀b∈fp,iu X p_ (upd H2 s2.heap.objs.size (.lst [])) b:=fun b hb=>by
    obtain⟨o,e,_⟩:=T.obj 0 _ st2 b hb;exact⟨by rw[aB (Nat.ne_of_lt (Heap.lt_size e))];exact(f2 b hb).1,(f2 b hb).2⟩
  refine cB (yZ (iter:=iter) (pos:=pos) I3 hps hpN S T (T.keep 0 _ _ st2 fun b _ o e=>Heap.get?_push_of_some _ e) f3 hc hg ht he (q _ fr)) fun cenv s4 h4=>?_;refine codeAny_mono h4 fun r s5 ⟨H5,hr,I5,⟨m,hn⟩,f5,q5⟩=>?_;subst hr;refine⟨m,hn,fun h' hs'=>?_⟩;have I6:Inv X p_ σ H5 {s5 with heap:=h',toks:=s5.toks}:=I5.turned (it:=cenv.locals) (fun b o hb e=>(hs'.2 b hb).trans e) f5.1 f5.2.1 f5.2.2.2.1 f5.2.2.2.2.1 f5.2.2.2.2.2;exact⟨.ref s2.heap.objs.size,H5,I6,rfl,q5⟩
theorem jG {i:Nat} {y:Str} {py spos:Pos} (hN:X.N.Nodup) (hy:X.N[i]? = some y) (hl:X.env.scope.names.lookup y=some .local) (hps:X.env.scope=ps) (hpN:X.N=pN) (S:aQ ps sc pN own caps N) (hc:X.calm=true) (hi:PI X tg iter wi)
    (hg:∀C s H fp pn,PG (bF X sc N C s H fp pn) tg g) (ht:∀C s H fp pn,PTs (bF X sc N C s H fp pn) ifs tt) (he:∀C s H fp pn,PE (bF X sc N C s H fp pn) elt te)
    (hsw:swapsWith (.ListComp elt [⟨tg,iter,ifs,0⟩] sc pos) (some (.Name y py)) spos.line X.env=pure true:=by rfl)
    (hs:∀x,foldedSetIterable iter X.env x=pure x:=by intro _;rfl):PS X (.Assign [.Name y py] (.ListComp elt [⟨tg,iter,ifs,0⟩] sc pos) spos) (R4 (HW own caps wi g tt te) (Np i)):=by
  intro p_ s σ H D0 I h;rw[exec_Assign_Name_used _ _ _ _ hsw];refine wpAny_bind (wpAny_standAt (wpAny_bind ?_));show wpAny _ X.A (do let _ ← comprehension (.ListComp elt [⟨tg,iter,ifs,0⟩] sc pos) sc X.env _ (newList []) false (eval iter X.env) (some (assign (.Name y py) X.env))) _ _ s
  refine wpAny_bind (wpAny_mono (wpAny_comprehension_free (use:=some (assign (.Name y py) X.env)) (Q:=fun _ s'=>SP X p_ D0 .next s') rfl hs (kY (S.cells hps I.ok)) S.kind S.locs
    (cB (hi p_ s σ H _ I h) fun v s1 h1=>cB h1 fun itv s2 h2=>?_)) (fun _ s' hq=>wpAny_pure (wpAny_pure hq)) fun _ _ e=>e)
  obtain⟨it,fp,tn,J,H2,e,I2,T,st2,f2,q⟩:=h2;subst e;have fr:H2 s2.heap.objs.size=none:=I2.fresh;refine wpAny_newObj_type ?_;have I3:Inv X p_ σ (upd H2 s2.heap.objs.size (.lst [])) {s2 with heap:=s2.heap.push {cls:=.type "list",data:=.seq ([]:List Value).toArray},toks:=s2.toks}:=I2.S_ (its:=[]) (ys:=[]) .nil (Nat.zero_le _);have f3:∀b∈fp,iu X p_ (upd H2 s2.heap.objs.size (.lst [])) b:=fun b hb=>by
    obtain⟨o,e,_⟩:=T.obj 0 _ st2 b hb;exact⟨by rw[aB (Nat.ne_of_lt (Heap.lt_size e))];exact(f2 b hb).1,(f2 b hb).2⟩
  refine cB (yZ (iter:=iter) (pos:=pos) I3 hps hpN S T (T.keep 0 _ _ st2 fun b _ o e=>Heap.get?_push_of_some _ e) f3 hc hg ht he (q _ fr)) fun cenv s4 h4=>?_;refine codeAny_mono h4 fun r s5 ⟨H5,hr,I5,⟨m,hn⟩,f5,q5⟩=>?_;subst hr;show wpAny _ X.A (assign (.Name y py) X.env (.ref s2.heap.objs.size)) _ _ _;refine wpAny_assign_Name (rZ I5 hN hy (.inl hl) (v:=.ref s2.heap.objs.size) rfl (fun s6 I6 hsb=>?_) (.inr hl));obtain⟨a,sb,ha⟩:=hsb;have hne:cenv.locals≠a:=by
    rcases ha with z | z
    ·rw[z];exact f5.2.1
    ·exact fun e=>f5.2.2.2.2.1 y a z e.symm
  refine⟨m,hn.sameBut sb hne,fun h' hs'=>?_⟩;have I7:Inv X p_ (σ.set i (some (.ref s2.heap.objs.size))) H5 {s6 with heap:=h',toks:=s6.toks}:=I6.turned (it:=cenv.locals) (fun b o hb e=>(hs'.2 b hb).trans e) f5.1 f5.2.1 f5.2.2.2.1 f5.2.2.2.2.1 f5.2.2.2.2.2;exact⟨_,H5,I7,q5⟩
end
section
variable {X:Cx} {p_:List (Addr×Obj)} {σ:St} {H:Hp} {s:Shared} {h':Heap}
theorem Inv.jT {t':Nat} {ch:List Addr} (I:Inv X p_ σ H s) (k:∀b o,b∉ch→s.heap.get? b=some o→h'.get? b=some o) (hf:∀b∈ch,iu X p_ H b):Inv X p_ σ H {s with heap:=h',toks:=t'}:=by
  refine I.step (g':=s.gens) (d':=s.drawn) (ch:=ch) (fun b hb=>⟨(hf b hb).2.2.2.1,(hf b hb).2.1,(hf b hb).2.2.2.2.1,(hf b hb).2.2.2.2.2⟩) (fun b o _ _ hc e _=>k b o hc e) (fun b o _ _ hc e _=>⟨o.slots,k b o hc e⟩) (fun _ _ _ _ n=>n)
    (fun b o hc e=>⟨o,k b o hc e⟩) (fun _ _ e=>e) (fun _ _ _ e=>e) (fun b ps e=>⟨#[],by rw[e];simp⟩) (fun m hm=>?_) (fun b u e=>?_) I.bare
  ·obtain⟨o,es,ep,ho,r⟩:=hm;exact⟨o,es,ep,k _ o (fun z=>(hf _ z).2.1 rfl) ho,r⟩
  · refine(I.hok b u e).stay (fun c v hc q=>k c v (fun z=>?_) q) (fun _ q=>q) fun _ _ q=>q;have hn:=(hf c z).1
    rcases hc with y | y
    ·rw[y,e] at hn;cases hn
    ·rw[y] at hn;cases hn
end
def Its (x:Str):It:=⟨fun i _=>i<x.cps.size,fun i H v H'=>H'=H∧∃c,x.cps[i]? = some c∧v = .str ⟨#[c]⟩,fun i _=>x.cps.size≤i⟩
theorem Tg {P:Program} {w:World} {K:W.Frag} {tg:Expr} (x:Str) (t:Tok) (it:Addr):Turn P w K tg (Its x) [it] it (fun i h=>h.IsStrIter it (strIterType x) x t i) where
  mem:=by simp
  obj:=fun i h st b hb=>by
    have e:b=it:=by simpa using hb
    subst e;obtain⟨o,e,c,d⟩:=st;exact⟨o,e,fun v z=>by rw[d] at z;cases z⟩
  keep:=fun i h h' st k=>by
    obtain⟨o,e,c,d⟩:=st;exact⟨o,k it (by simp) o e,c,d⟩
  item:=by
    intro X hP hw hK hc i p_ s σ H E I hf st hg;subst hP hw hK;obtain⟨f0,f1,f2,f3,f4,f5⟩:=hf it (by simp);have hx:x.cps[i]? = some (x.cps[i]'hg):=Array.getElem?_eq_getElem hg;have fin:∀h',h'.IsStrIter it (strIterType x) x t (i+1)→Heap.SameBut it s.heap h'→∃u,(some (Value.str ⟨#[x.cps[i]'hg]⟩ s.toks))=some u∧
        wpAny (model X.prog X.w) X.A (letOwnedTupleGo tg (.ref it) u) (fun _ s2=>∃y H',Inv X p_ σ H' s2∧RelV y u∧(Its x).RD i H y H'∧s2.heap.IsStrIter it (strIterType x) x t (i+1)∧∀b∈[it],H' b=none) E {s with heap:=h',toks:=s.toks+1}:=fun h' st' sb=>by
      have I1:Inv X p_ σ H {s with heap:=h',toks:=s.toks+1}:=I.turned (fun b o hb e=>(sb.2 b hb).trans e) f0 f1 f3 f4 f5;refine⟨_,rfl,?_⟩;have res:∃y H',Inv X p_ σ H' {s with heap:=h',toks:=s.toks+1}∧RelV y (Value.str ⟨#[x.cps[i]'hg]⟩ s.toks)∧(Its x).RD i H y H'∧h'.IsStrIter it (strIterType x) x t (i+1)∧∀b∈[it],H' b=none:=
        ⟨.str ⟨#[x.cps[i]'hg]⟩,H,I1,⟨_,rfl⟩,⟨rfl,_,hx,rfl⟩,st',fun b hb=>(hf b hb).1⟩
      unfold letOwnedTupleGo;cases tg <;> exact wpAny_pure res
    by_cases ha:x.cps.all (· < 128)=true
    · have ey:strIterType x = "str_ascii_iterator" :=by unfold strIterType;rw[if_pos ha]
      rw[ey] at st;exact wpAny_pyNext_ascii_item st hx fun h' st' sb=>fin h' (by rw[ey];exact st') sb
    · have ey:strIterType x = "str_iterator" :=by unfold strIterType;rw[if_neg ha]
      rw[ey] at st;exact wpAny_pyNext_wide_item st hx fun h' st' sb=>fin h' (by rw[ey];exact st') sb
  done:=by
    intro X hP hw hK hc i p_ s σ H E I hf st hg;subst hP hw hK;obtain⟨f0,f1,f2,f3,f4,f5⟩:=hf it (by simp);have hx:x.cps[i]? = none:=Array.getElem?_eq_none hg
    by_cases ha:x.cps.all (· < 128)=true
    · have ey:strIterType x = "str_ascii_iterator" :=by unfold strIterType;rw[if_pos ha]
      rw[ey] at st;exact wpAny_pyNext_ascii_end (I.ok.hd hc) st hx fun h' eb=>⟨rfl,I.turned (t':=s.toks) (fun b o hb e=>eb b o hb e) f0 f1 f3 f4 f5⟩
    · have ey:strIterType x = "str_iterator" :=by unfold strIterType;rw[if_neg ha]
      rw[ey] at st;exact wpAny_pyNext_wide_end (I.ok.hd hc) st hx fun h' eb=>⟨rfl,I.turned (t':=s.toks) (fun b o hb e=>eb b o hb e) f0 f1 f3 f4 f5⟩
  self:=fun A i s Q E st h=>by
    by_cases ha:x.cps.all (· < 128)=true
    · have ey:strIterType x = "str_ascii_iterator" :=by unfold strIterType;rw[if_pos ha]
      rw[ey] at st;exact wpAny_pyIter_striter_ascii st h
    · have ey:strIterType x = "str_iterator" :=by unfold strIterType;rw[if_neg ha]
      rw[ey] at st;exact wpAny_pyIter_striter_wide st h
section
variable {X:Cx} {tg:Expr}
def qbo (tl:TE):TI:=fun σ H R=>tl σ H fun x H1=>∃z,x = .str z∧R (Its z) H1
theorem qbp {l:Expr} {tl:TE} (hl:PE X l tl):PI X tg l (qbo tl):=by
  intro p_ s σ H R I h;refine cB (hl p_ s σ H _ I h) fun v s1 zz=>?_;obtain⟨x,H1,I1,r1,q1⟩:=zz;obtain⟨z,e,q⟩:=q1;subst e;obtain⟨t,rfl⟩:=r1;refine wpAny_pyIter_strU ?_;refine⟨s1.heap.objs.size,[s1.heap.objs.size],_,_,H1,rfl,I1.kept (t':=s1.toks) fun b o e=>Heap.get?_push_of_some _ e,Tg z t _,⟨_,Heap.get?_push_size _ rfl,rfl,rfl⟩,fun b hb=>?_,q⟩;have e:b=s1.heap.objs.size:=by simpa using hb
  subst e;exact I1.wD (Nat.le_refl _) (I1.hok.fresh (Nat.le_refl _))
end
def RK (K:W.Frag) (a b:Addr):It:=
  ⟨fun i H=>∃xs ys x y,aX K H a xs∧aX K H b ys∧xs[i]? = some x∧ys[i]? = some y,
   fun i H v H'=>∃t x y,v = .ref t∧H t=none∧H'=upd H t (.tup [x,y])∧(∀xs,aX K H a xs→xs[i]? = some x)∧∀ys,aX K H b ys→ys[i]? = some y,
   fun i H=>∃xs ys,aX K H a xs∧aX K H b ys∧(xs.length≤i∨ys.length≤i)⟩
structure NQ (z TI TO i1 i2 a b:Addr) (i:Nat) (h:Heap):Prop where
  hz:IsZip h z TI TO .none
  hI:IsPair h TI (.ref i1) (.ref i2)
  hO:∃p q,IsPair h TO p q
  h1:h.IsListIter i1 a i
  h2:h.IsListIter i2 b i
theorem aL {h:Heap} {a b:Addr} {o u:Obj} {T U:String} (ha:h.get? a=some o) (hb:h.get? b=some u) (ca:o.cls = .type T) (cb:u.cls = .type U) (hne:T≠U):a≠b:=fun e=>by
  subst e;rw[ha] at hb;cases hb;rw[ca] at cb;injection cb with e2;exact hne e2
theorem Tj {P:Program} {w:World} {K:W.Frag} {es:List Expr} {k:Nat} {pos:Pos} {z TI TO i1 i2 a b:Addr} (n12:i1≠i2) (nT:TI≠TO) :
    Turn P w K (.Tuple es k pos) (RK K a b) [z,TI,TO,i1,i2] z (NQ z TI TO i1 i2 a b) where
  mem:=by simp
  obj:=fun i h st c hc=>by
    simp only[List.mem_cons,List.not_mem_nil,or_false] at hc
    rcases hc with rfl | rfl | rfl | rfl | rfl
    ·exact⟨_,st.hz,fun v e=>nomatch e⟩
    ·exact⟨_,st.hI,fun v e=>nomatch e⟩
    ·obtain⟨p,q,e⟩:=st.hO;exact⟨_,e,fun v e=>nomatch e⟩
    ·obtain⟨o,e,_,d⟩:=st.h1;exact⟨o,e,fun v y=>by rw[d] at y;cases y⟩
    ·obtain⟨o,e,_,d⟩:=st.h2;exact⟨o,e,fun v y=>by rw[d] at y;cases y⟩
  keep:=fun i h h' st kk=>by
    obtain⟨p,q,e⟩:=st.hO;exact⟨kk z (by simp) _ st.hz,kk TI (by simp) _ st.hI,⟨p,q,kk TO (by simp) _ e⟩,st.h1.at fun o e=>kk i1 (by simp) o e,st.h2.at fun o e=>kk i2 (by simp) o e⟩
  item:=by
    intro X hP hw hK hc i p_ s σ H E I hf st hg;subst hP hw hK;obtain⟨xs,ys,x,y,qa,qb,hx,hy⟩:=hg;obtain⟨its,rv,pl,hz1⟩:=I.list qa;obtain⟨its',rv',K1,hz2⟩:=I.list qb;obtain⟨u,hu,ru⟩:=rv.get hx;obtain⟨u',hu',ru'⟩:=rv'.get hy;obtain⟨p,q,hTO⟩:=st.hO;obtain⟨oa,ea,ca,_⟩:=id pl.isList;obtain⟨ob,eb,cb,_⟩:=id K1.isList;obtain⟨o1,e1,c1,_⟩:=id st.h1;obtain⟨o2,e2,c2,_⟩:=id st.h2;have D:ZipApart z TI TO i1 i2 a b:=
      ⟨aL st.hI st.hz rfl rfl (by decide),aL hTO st.hz rfl rfl (by decide),aL e1 st.hz c1 rfl (by decide),aL e2 st.hz c2 rfl (by decide),nT,aL st.hI e1 rfl c1 (by decide),aL st.hI e2 rfl c2 (by decide),
        aL hTO e1 rfl c1 (by decide),aL hTO e2 rfl c2 (by decide),n12,aL ea st.hz ca rfl (by decide),aL ea hTO ca rfl (by decide),aL ea e1 ca c1 (by decide),aL ea e2 ca c2 (by decide),
        aL eb st.hz cb rfl (by decide),aL eb hTO cb rfl (by decide),aL eb e1 cb c1 (by decide),aL eb e2 cb c2 (by decide)⟩
    refine wpAny_pyNext_zip_item D st.hz st.hI hTO st.h1 st.h2 pl.isList K1.isList (x:=u) (y:=u') (by simpa using hu) (by simpa using hu') fun h' a1 a2 a3 a4 a5 a6 kk=>?_;refine⟨_,rfl,wpAny_letOwnedTupleGo_zip a1 fun h2 b1 sb=>?_⟩;have lt:∀{c o},s.heap.get? c=some o→s.heap.objs.size≠c:=fun e=>Nat.ne_of_gt (Heap.lt_size e);have hn:H s.heap.objs.size=none:=I.hok.fresh (Nat.le_refl _);have HX:∀c o,c∉[z,TI,TO,i1,i2]→s.heap.get? c=some o→h2.get? c=some o:=fun c o hc e=>by
      simp only[List.mem_cons,List.not_mem_nil,or_false,not_or] at hc;exact(sb.2 c hc.1).trans (kk c o hc.1 hc.2.2.1 hc.2.2.2.1 hc.2.2.2.2 e)
    have I1:Inv X p_ σ H {s with heap:=h2,toks:=s.toks}:=I.jT HX hf;have q_:IsPair h2 s.heap.objs.size u u':=sb.extBut _ _ (lt st.hz) a5;have I2:Inv X p_ σ (upd H s.heap.objs.size (.tup [x,y])) {s with heap:=h2,toks:=s.toks}:=by
      have hfr:H s.heap.objs.size=none:=hn;refine⟨I1.ok,I1.os,I1.bare,⟨I1.base.keep,I1.base.slot,fun c o e n hx=>?_,I1.base.there,fun c zs e=>?_,fun c o v e=>?_,fun c qs e=>?_⟩,I1.loc,I1.cell,?_,fun v c e=>?_,fun v hv=>?_,?_,I1.len⟩
      · rw[aB (fun e'=>?_)]
        ·exact I1.base.free c o e n hx
        ·exact absurd (Nat.lt_of_lt_of_le (Heap.lt_size e) I.sz) (by rw[e'];exact Nat.lt_irrefl _)
      ·have e':=I1.base.tups c zs e;rw[aB (aH e' hfr)];exact e'
      ·have e':=I1.base.oU c o v e;rw[aB (aH e' hfr)];exact e'
      ·obtain⟨m,e'⟩:=I1.base.pF c qs e;exact⟨m,by rw[aB (aH e' hfr)];exact e'⟩
      ·rw[aB (Nat.ne_of_lt I.lt)];exact I1.free
      ·obtain⟨w',qc⟩:=I.cell v c e;rw[aB (Nat.ne_of_lt qc.lt)];exact I1.gq v c e
      ·obtain⟨f1,f2,f3⟩:=I1.pin v hv;refine⟨f1,?_,f3⟩;rw[aB (Nat.ne_of_lt (Heap.lt_size (I.pin v hv).1))];exact f2
      · intro c v e
        by_cases hcs:c=s.heap.objs.size
        ·subst hcs;rw[ao] at e;cases e;exact⟨by show 2≤sizeLine;rw[sizeLine_eq];decide,[u,u'],.cons ru (.cons ru' .nil),⟨_,q_,rfl,0,rfl⟩⟩
        · rw[aB hcs] at e;refine(I1.hok c v e).stay (fun _ _ _ qq=>qq) (fun d qd=>?_) fun d zs qd=>?_
          ·rw[aB (aH qd hfr)];exact qd
          ·rw[aB (aH qd hfr)];exact qd
    refine⟨.ref s.heap.objs.size,_,I2,rfl,⟨s.heap.objs.size,x,y,rfl,hn,rfl,fun xs' q'=>by rw[I.j8 q' qa];exact hx,fun ys' q'=>by rw[I.j8 q' qb];exact hy⟩,?_,fun c hcm=>?_⟩
    ·exact⟨b1,sb.extBut _ _ D.TIz (kk _ _ D.TIz D.TITO D.TIi1 D.TIi2 st.hI),⟨_,_,sb.extBut _ _ D.TOz a2⟩,a3.extBut sb.extBut D.i1z,a4.extBut sb.extBut D.i2z⟩
    · have hne:c≠s.heap.objs.size:=by
        simp only[List.mem_cons,List.not_mem_nil,or_false] at hcm
        rcases hcm with rfl | rfl | rfl | rfl | rfl
        ·exact(lt st.hz).symm
        ·exact(lt st.hI).symm
        ·exact(lt hTO).symm
        ·exact(lt e1).symm
        ·exact(lt e2).symm
      rw[aB hne];exact(hf c hcm).1
  done:=by
    intro X hP hw hK hc i p_ s σ H E I hf st hg;subst hP hw hK;obtain⟨xs,ys,qa,qb,hl⟩:=hg;obtain⟨its,rv,pl,hz1⟩:=I.list qa;obtain⟨its',rv',K1,hz2⟩:=I.list qb;obtain⟨p,q,hTO⟩:=st.hO;obtain⟨oa,ea,ca,_⟩:=id pl.isList;obtain⟨ob,eb,cb,_⟩:=id K1.isList;obtain⟨o1,e1,c1,_⟩:=id st.h1;obtain⟨o2,e2,c2,_⟩:=id st.h2;have D:ZipApart z TI TO i1 i2 a b:=
      ⟨aL st.hI st.hz rfl rfl (by decide),aL hTO st.hz rfl rfl (by decide),aL e1 st.hz c1 rfl (by decide),aL e2 st.hz c2 rfl (by decide),nT,aL st.hI e1 rfl c1 (by decide),aL st.hI e2 rfl c2 (by decide),
        aL hTO e1 rfl c1 (by decide),aL hTO e2 rfl c2 (by decide),n12,aL ea st.hz ca rfl (by decide),aL ea hTO ca rfl (by decide),aL ea e1 ca c1 (by decide),aL ea e2 ca c2 (by decide),
        aL eb st.hz cb rfl (by decide),aL eb hTO cb rfl (by decide),aL eb e1 cb c1 (by decide),aL eb e2 cb c2 (by decide)⟩
    have l1:=rv.length;have l2:=rv'.length;refine wpAny_pyNext_zip_end (I.ok.hd hc) D st.hz st.hI hTO st.h1 st.h2 pl.isList K1.isList ?_ fun h' kk=>⟨rfl,I.jT (t':=s.toks) (fun c o hcm e=>?_) hf⟩
    · rcases hl with hl | hl
      ·exact .inl (by simp;omega)
      ·exact .inr (by simp;omega)
    ·simp only[List.mem_cons,List.not_mem_nil,or_false,not_or] at hcm;exact kk c o hcm.1 hcm.2.2.1 hcm.2.2.2.1 hcm.2.2.2.2 e
  self:=fun _ _ _ _ _ st h=>wpAny_pyIter_zip st.hz h
section
variable {X:Cx}
def X7 (K:W.Frag) (t:TA):TI:=fun σ H R=>t σ H fun vs H1=>∃a b xs ys,vs=[.ref a,.ref b]∧aX K H1 a xs∧aX K H1 b ys∧R (RK K a b) H1
theorem boot_zip:bootBuiltins "zip" = some (.type "zip"):=by decide+kernel
theorem qbq {es:List Expr} {k:Nat} {pos':Pos} {a b:Expr} {ta:TA} {p pos:Pos} (hg:Gl X "zip") (hm:X.mg "zip" = none) (ha:PA X [a,b] ta)
    (hs:starEach [a,b] X.env=[(false,eval a X.env),(false,eval b X.env)]:=by rfl) (hs2:starEach [b] X.env=[(false,eval b X.env)]:=by rfl) :
    PI X (.Tuple es k pos') (.Call (.Name "zip" p) [a,b] [] pos) (X7 X.K ta):=by
  intro p_ s σ H R I h;refine Call_ (jC I hg hm boot_zip (PyProof.Rows.callWith_type1 (cB (ha pos p_ s σ H _ I h) fun us s1 zz=>?_) (by rw[hs,hs2]) (by rw[hs2];rfl)));obtain⟨vs,H1,I1,r1,q1⟩:=zz;obtain⟨l1,l2,xs,ys,e,qa,qb,q⟩:=q1;subst e;obtain⟨u,v,rfl,r,r'⟩:=r1.two;obtain rfl:u=Value.ref l1:=r;obtain rfl:v=Value.ref l2:=r';obtain⟨its,rv,pl,hz1⟩:=I1.list qa;obtain⟨its',rv',K1,hz2⟩:=I1.list qb;refine call_zip_2 pl.isList K1.isList fun h' b1 b2 b3 b4 b5 b6 kk=>?_;refine wpAny_pyIter_zip (s:={s1 with heap:=h'}) b1 ?_;have I2:Inv X p_ σ H1 {s1 with heap:=h'}:=I1.kept (t':=s1.toks) kk;refine⟨s1.heap.objs.size+4,[s1.heap.objs.size+4,s1.heap.objs.size+2,s1.heap.objs.size+3,s1.heap.objs.size,s1.heap.objs.size+1],_,_,H1,rfl,I2,Tj (Nat.ne_of_lt (Nat.lt_succ_self _)) (Nat.ne_of_lt (Nat.lt_succ_self (s1.heap.objs.size+2))),⟨b1,b2,⟨_,_,b3⟩,b4,b5⟩,fun c hc=>?_,q⟩;have hle:s1.heap.objs.size≤c:=by
    simp only[List.mem_cons,List.not_mem_nil,or_false] at hc
    rcases hc with rfl | rfl | rfl | rfl | rfl <;> first | exact Nat.le_add_right _ _ | exact Nat.le_refl _
  exact I1.wD hle (I1.hok.fresh hle)
end
section
variable {X:Cx} {p_:List (Addr×Obj)} {σ:St} {H:Hp} {s:Shared}
theorem kW.kit {x:V} {u t:Value} (I:Inv X p_ σ H s) (rx:RelV x u) (ty:kW X.K H x t):∃Φ,W.KitX X.K u t Φ∧Φ s.heap∧u≠.builtin "__main__.__loader__#opaque" :=by
  cases ty with
  | non=>cases (show u=Value.none from rx);exact⟨_,W.kitx_none,True.intro,fun z=>nomatch z⟩
  | bl y=>cases (show u=Value.bool y from rx);exact⟨_,W.kitx_bool,True.intro,fun z=>nomatch z⟩
  | int i=>obtain⟨t,q⟩:=(show ∃t,u=Value.int i t from rx);cases q;exact⟨_,W.kitx_int,True.intro,fun z=>nomatch z⟩
  | str y=>obtain⟨t,q⟩:=(show ∃t,u=Value.str y t from rx);cases q;exact⟨_,W.kitx_str,True.intro,fun z=>nomatch z⟩
  | flt y=>obtain⟨t,q⟩:=(show ∃t,u=Value.float y t from rx);cases q;exact⟨_,W.kitx_float,True.intro,fun z=>nomatch z⟩
  | @lst a xs ea=>
    cases (show u=Value.ref a from rx);obtain⟨_,_,n,_,h1⟩:=(show cj X.prog X.w H s.heap a (.lst xs) from I.hok a _ ea);exact⟨_,W.kitx_list,⟨_,h1,rfl⟩,fun z=>nomatch z⟩
  | @Hv a ob xs ea=>
    cases (show u=Value.ref a from rx);obtain⟨_,_,_,n,_,h1⟩:=(show cj X.prog X.w H s.heap a (.Hv ob (.lst xs)) from I.hok a _ ea);exact⟨_,W.kitx_list,⟨_,h1,rfl⟩,fun z=>nomatch z⟩
  | @tup a xs ea=>
    cases (show u=Value.ref a from rx);obtain⟨_,_,_,p⟩:=(show cj X.prog X.w H s.heap a (.tup xs) from I.hok a _ ea);obtain⟨o,h1,h2,_⟩:=p;exact⟨_,W.kitx_tuple,⟨o,h1,h2⟩,fun z=>nomatch z⟩
  | @dK a kvs ea=>
    cases (show u=Value.ref a from rx);obtain⟨_,_,vs,_,p⟩:=(show cj X.prog X.w H s.heap a (.dK kvs) from I.hok a _ ea);obtain⟨o,es,ep,h1,h2,_⟩:=p;exact⟨_,W.kitx_dict,⟨o,h1,h2.1⟩,fun z=>nomatch z⟩
  | @dT a kvs ea=>
    cases (show u=Value.ref a from rx);obtain⟨_,_,xs,_,o,es,ep,h1,h2,_⟩:=(show cj X.prog X.w H s.heap a (.dT kvs) from I.hok a _ ea);exact⟨_,W.kitx_dict,⟨o,h1,h2.1⟩,fun z=>nomatch z⟩
  | @ins a C dx fs ea cl ha hn htk hm=>
    cases (show u=Value.ref a from rx);obtain⟨mA,O,_⟩:=uJ I.hok ea;obtain⟨od,J,_⟩:=O.look;exact⟨_,W.kitx_own (cl.get _) cl.hd ha hn htk hm,J,fun z=>nomatch z⟩
theorem Qq:cC X (.builtin "isinstance") (fun xs H Q=>∃x n t b,xs=[x,.ty n]∧kW X.K H x t∧W.kitOne X.K t (.type n)=some b∧Q (.bl b) H):=by
  intro p_ s σ H xs us Q I r h;obtain⟨x,n,t,b,rfl,ty,e,q⟩:=h;obtain⟨u,v,rfl,rx,rc⟩:=r.two;obtain rfl:v=Value.type n:=rc;exact Qj I rx ty e fun tk=>⟨.bl b,H,I.tok tk,rfl,q⟩
theorem Qs:cC X (.builtin "isinstance") (fun xs H Q=>∃x p m n t b,xs=[x,.ref p]∧H p=some (.tup [.ty m,.ty n])∧kW X.K H x t∧W.kitAny X.K t [.type m,.type n]=some b∧Q (.bl b) H):=by
  intro p_ s σ H xs us Q I r h;obtain⟨x,p,m,n,t,b,rfl,hp,ty,e,q⟩:=h;obtain⟨u,v,rfl,rx,rc⟩:=r.two;obtain rfl:v=Value.ref p:=rc;obtain⟨Φ,Z,hΦ,hne⟩:=ty.kit I rx;obtain⟨_,its,rv,o,e1,e2,k,e3⟩:=(show cj X.prog X.w H s.heap p (.tup [.ty m,.ty n]) from I.hok p _ hp);obtain⟨u1,u2,rfl,r1,r2⟩:=rv.two;obtain rfl:u1=Value.type m:=r1;obtain rfl:u2=Value.type n:=r2;obtain⟨c,dd,dt,sl⟩:=o;replace e2:c = .type "tuple" :=e2;replace e3:dt = .seq [Value.type m,Value.type n].toArray k:=e3;subst e2 e3;exact W.kia_tup Z I.mR hΦ e1 e hne fun tk=>⟨.bl b,H,I.tok tk,rfl,q⟩
theorem boot_isinstance:bootBuiltins "isinstance" = some (.builtin "isinstance"):=by decide+kernel
theorem boot_str:bootBuiltins "str" = some (.type "str"):=by decide+kernel
theorem boot_list:bootBuiltins "list" = some (.type "list"):=by decide+kernel
theorem boot_tuple:bootBuiltins "tuple" = some (.type "tuple"):=by decide+kernel
theorem wI:bootBuiltins "int" = some (.type "int"):=by decide+kernel
theorem za:bootBuiltins "bool" = some (.type "bool"):=by decide+kernel
theorem K3:bootBuiltins "dict" = some (.type "dict"):=by decide+kernel
theorem Dv:bootBuiltins "set" = some (.type "set"):=by decide+kernel
end
mutual
def Is (K:W.Frag) (H:Hp):PyData→V→Prop
  | .none,v=>v = .non
  | .bool b,v=>v = .bl b
  | .int i,v=>v = .int i
  | .str x,v=>v = .str x
  | .list ds,v=>∃a xs,v = .ref a∧aX K H a xs∧qM K H ds xs
  | .tuple ds,v=>∃a xs,v = .ref a∧d9 K H a xs∧qM K H ds xs
  | .dict _,_=>False
def qM (K:W.Frag) (H:Hp):List PyData→List V→Prop
  | [],vs=>vs=[]
  | d::ds,vs=>∃v r,vs=v::r∧Is K H d v∧qM K H ds r
end
section
variable {X:Cx} {p_:List (Addr×Obj)} {σ:St} {H:Hp} {s:Shared}
mutual
theorem Is.reads (I:Inv X p_ σ H s):∀(d:PyData) (v:V) (u:Value),Is X.K H d v→RelV v u→∃as,Reads s.heap u d as
  | .none,v,u,h,r=>by
    simp only[Is] at h;subst h;cases r;exact⟨_,.none⟩
  | .bool b,v,u,h,r=>by
    simp only[Is] at h;subst h;cases r;exact⟨_,.bool b⟩
  | .int i,v,u,h,r=>by
    simp only[Is] at h;subst h;obtain⟨t,rfl⟩:=r;exact⟨_,.int i t⟩
  | .str x,v,u,h,r=>by
    simp only[Is] at h;subst h;obtain⟨t,rfl⟩:=r;exact⟨_,.str x t⟩
  | .list ds,v,u,h,r=>by
    simp only[Is] at h;obtain⟨a,xs,rfl,hq,hs⟩:=h;cases r;obtain⟨its,rv,pl,hz⟩:=I.list hq;obtain⟨o,e,c,n,dt⟩:=pl.isList;obtain⟨as,ra⟩:=qM.reads I ds xs its hs rv;exact⟨_,.list e c dt (by simpa using ra)⟩
  | .tuple ds,v,u,h,r=>by
    simp only[Is] at h;obtain⟨a,xs,rfl,hq,hs⟩:=h;cases r;obtain⟨its,rv,pl,hz⟩:=I.tuple hq;obtain⟨o,e,c,n,dt⟩:=pl;obtain⟨as,ra⟩:=qM.reads I ds xs its hs rv;exact⟨_,.tuple e c dt (by simpa using ra)⟩
  | .dict _,v,u,h,r=>by
    simp only[Is] at h
theorem qM.reads (I:Inv X p_ σ H s):∀(ds:List PyData) (vs:List V) (us:List Value),qM X.K H ds vs→Vals vs us→∃as,ReadsAll s.heap us ds as
  | [],vs,us,h,r=>by
    simp only[qM] at h;subst h;cases r;exact⟨_,.nil⟩
  | d::ds,vs,us,h,r=>by
    simp only[qM] at h;obtain⟨v,vr,rfl,h1,h2⟩:=h;cases r with
    | cons r1 r2=>
      obtain⟨as,ra⟩:=Is.reads I d v _ h1 r1;obtain⟨bs,rb⟩:=qM.reads I ds vr _ h2 r2;exact⟨_,.cons ra rb⟩
end
theorem qbr:fY X (compareOp .Eq) (fun x y H Q=>∃d e,Is X.K H d x∧Is X.K H e y∧d.canLay0=true∧e.canLay0=true∧X.A.units+min d.depth e.depth<cLine∧Q (.bl (PyData.eqv d e)) H):=by
  intro p_ s σ H x y v u Q I rx ry h;obtain⟨d,e,hx,hy,h1,h2,hu,q⟩:=h;obtain⟨as,ra⟩:=hx.reads I d x v rx;obtain⟨bs,rb⟩:=hy.reads I e y u ry;exact SeqAt.compareEq_reads ra rb h1 h2 hu ⟨.bl _,H,I,rfl,q⟩
theorem qbs:fY X (compareOp .NotEq) (fun x y H Q=>∃d e,Is X.K H d x∧Is X.K H e y∧d.canLay0=true∧e.canLay0=true∧X.A.units+min d.depth e.depth<cLine∧Q (.bl (!PyData.eqv d e)) H):=by
  intro p_ s σ H x y v u Q I rx ry h;obtain⟨d,e,hx,hy,h1,h2,hu,q⟩:=h;obtain⟨as,ra⟩:=hx.reads I d x v rx;obtain⟨bs,rb⟩:=hy.reads I e y u ry;exact SeqAt.compareNe_reads ra rb h1 h2 hu ⟨.bl _,H,I,rfl,q⟩
end
section
variable {X:Cx}
def Ft:V→List V→Hp→VK→Prop:=fun x vs H Q=>∃l xs i y,x = .ref l∧vs=[.int i,y]∧H l=some (.lst xs)∧0≤i∧i≤xs.length∧xs.length<sizeLine∧Q .non (upd H l (.lst (xs.take i.toNat++y::xs.drop i.toNat)))
theorem Vals.ins {y:V} {u:Value} (ru:RelV y u):∀{xs:List V} {us:List Value} (i:Nat),Vals xs us→Vals (xs.take i++y::xs.drop i) (us.take i++u::us.drop i):=fun i r=>(r.take i).append (.cons ru (r.drop i))
theorem Qt:MtM X "list.insert" Ft:=by
  intro p_ s σ H x vs v us Q I rx rv h;obtain⟨l,xs,i,y,rfl,rfl,hH,h0,hi,hz,q⟩:=h;cases rx;obtain⟨u1,u,rfl,⟨t,rfl⟩,ru⟩:=rv.two;obtain⟨z,its,n,r,hl,e⟩:=I.Qn hH;have hn:=ur;have hfit:¬(!Builtin.List.listFitsIndex i)=true:=by
    unfold Builtin.List.listFitsIndex;simp;omega
  refine call_meets F.slot_list_insert ⟨_,e,rfl⟩ F.entry_list_insert (F.args_list_insert_3 _ _ _) (PySem.AutoListH.list_insert_list_int_val_1 l its.toArray n i t u hfit (by rw[List.size_toArray];omega)) ⟨e,?_⟩;refine⟨.non,_,I.qdY (its':=its.take i.toNat++u::its.drop i.toNat) hH e ?_ (r.ins ru i.toNat) ?_,rfl,q⟩
  · have hm:min i.toNat its.length=i.toNat:=by omega
    simp only[List.size_toArray];rw[if_neg (by omega),hm];apply Array.toList_inj.mp;simp;exact List.take_of_length_le (by simp)
  ·simp;omega
end
section
variable {X:Cx}
def rm:List V→List Bool→Prop
  | [],bs=>bs=[]
  | x::xs,bs=>∃b r,bs=b::r∧x = .bl b∧rm xs r
theorem rm.get:∀{xs:List V} {bs:List Bool} {its:List Value},rm xs bs→Vals xs its→xs.length=bs.length∧∀(i:Nat) (v:Value),its[i]? = some v→v = .bool (bs.getD i false)
  | [],bs,its,h,r=>by
    cases h;cases r;exact⟨rfl,fun i v e=>by simp at e⟩
  | x::xs,bs,its,h,r=>by
    obtain⟨b,br,rfl,rfl,h⟩:=h;cases r with
    | cons r1 r2=>
      obtain⟨h1,h2⟩:=rm.get h r2;refine⟨by simp[h1],fun i v e=>?_⟩;cases i with
      | zero=>
        simp at e;subst e;exact r1
      | succ i=>
        simp at e;simpa using h2 i v e
theorem range_all (bs:List Bool):(List.range bs.length).all (fun i=>bs.getD i false)=bs.all id:=by
  rw[Bool.eq_iff_iff,List.all_eq_true,List.all_eq_true];constructor
  ·intro h b hb;obtain⟨i,hi,rfl⟩:=List.mem_iff_getElem.mp hb;have:=h i (List.mem_range.mpr hi);simpa [List.getD,hi] using this
  ·intro h i hi;have hi':=List.mem_range.mp hi;have:=h bs[i] (List.getElem_mem hi');simpa [List.getD,hi'] using this
theorem Qu (hc:X.calm=true):cC X (.builtin "all") (fun xs H Q=>∃a ys bs,xs=[.ref a]∧H a=some (.lst ys)∧rm ys bs∧Q (.bl (bs.all id)) H):=by
  intro p_ s σ H xs us Q I r h;obtain⟨a,ys,bs,rfl,ha,hb,q⟩:=h;obtain⟨u,rfl,ru⟩:=r.one;obtain rfl:u=Value.ref a:=ru;obtain⟨z,its,n,rv,hl,e⟩:=I.Qn ha;obtain⟨h1,h2⟩:=hb.get rv;have hL:s.heap.IsList a its.toArray:=⟨_,e,rfl,n,rfl⟩;refine call_all_walk ?_;refine wpAny_pyIter_list hL ?_;have hne:a≠s.heap.objs.size:=Nat.ne_of_lt (Heap.lt_size e);have hL2:(s.heap.push {cls:=.type "list_iterator",data:=.fields #[.ref a,.int 0 0]}).IsList a its.toArray:=⟨_,Heap.get?_push_of_some _ e,rfl,n,rfl⟩;refine⟨s.heap.objs.size,_,_,_,_,_,fun i=>bs.getD i false,rfl,Walks.list (by exact I.ok.hd hc) s.heap.objs.size a hne its.toArray,⟨⟨_,Heap.get?_push_size _ rfl,rfl,rfl⟩,hL2⟩,fun i v s' Q' E' hP hQ=>?_,fun h' tk kk=>?_⟩
  ·obtain rfl:=h2 i v (by simpa using hP);exact wpAny_truthy_bool hQ
  · have e2:(List.range its.toArray.size).all (fun i=>bs.getD i false)=bs.all id:=by
      rw[List.size_toArray,← hl,h1];exact range_all bs
    rw[e2];refine⟨.bl _,H,?_,rfl,q⟩;exact I.kept (h':=h') (t':=tk) fun b o eb=>kk b o (by simp;exact Nat.ne_of_lt (Heap.lt_size eb)) (Heap.get?_push_of_some _ eb)
end
def Fv (l:List Key) (k:Key):Bool:=l.any fun x=>decide (x=k)
theorem Tn {l:List Key} {k:Key}:Fv l k=true↔k∈l:=by
  unfold Fv;rw[List.any_eq_true];constructor
  ·rintro⟨x,hx,e⟩;have e':=of_decide_eq_true e;subst e';exact hx
  ·intro h;exact⟨k,h,decide_eq_true rfl⟩
theorem Tp (l:List Key) (x k:Key):Fv (l++[x]) k=(Fv l k || decide (k=x)):=by
  unfold Fv;rw[List.any_append];simp only[List.any_cons,List.any_nil,Bool.or_false];congr 1;exact decide_eq_decide.mpr ⟨fun e=>e.symm,fun e=>e.symm⟩
def wJ (acc:List Key) (k:Key):List Key:=if Fv acc k=true then acc else acc++[k]
def Cg (val:Nat→Key) (i:Nat):List Key:=((List.range i).map val).foldl wJ []
theorem uO (val:Nat→Key) (i:Nat):Cg val (i+1)=wJ (Cg val i) (val i):=by
  unfold Cg;rw[List.range_succ,List.map_append,List.foldl_append];rfl
theorem Tq (val:Nat→Key):∀i,(Cg val i).length≤i
  | 0=>Nat.le_refl _
  | i+1=>by
    rw[uO];have ih:=Tq val i;unfold wJ;split
    ·omega
    ·rw[List.length_append,List.length_singleton];omega
theorem K4 (val:Nat→Key):∀n,(∀i j,i<n→j<n→val i=val j→i=j)→(Cg val n).length=n∧∀k,k∈Cg val n→∃i,i<n∧val i=k
  | 0,_=>⟨rfl,fun k h=>by simp[Cg] at h⟩
  | n+1,h=>by
    obtain⟨h1,h2⟩:=K4 val n fun i j hi hj=>h i j (by omega) (by omega);have hnot:¬Fv (Cg val n) (val n)=true:=fun hm=>by
      obtain⟨i,hi,e⟩:=h2 _ (Tn.mp hm);have:=h i n (by omega) (by omega) e;omega
    rw[uO];unfold wJ;rw[if_neg hnot];refine⟨by simp[h1],fun k hk=>?_⟩
    rcases List.mem_append.mp hk with z | z
    ·obtain⟨i,hi,e⟩:=h2 k z;exact⟨i,by omega,e⟩
    ·exact⟨n,by omega,(List.mem_singleton.mp z).symm⟩
theorem X8 {k:Key} {v:Value} (h:qR k v=true):v.scannable=true:=by
  rcases dO h with⟨i,t,rfl,rfl⟩ | ⟨x,t,rfl,rfl⟩ <;> rfl
theorem HY {P:Program} {w:World} {h:Heap} {a:Addr} {S S':Key→Bool} {n n':Nat} (x:h.SetOf (bO P w) a S n) (e:∀k,S k=S' k) (en:n=n'):h.SetOf (bO P w) a S' n':=by
  have:S=S':=funext e;subst this;subst en;exact x
abbrev mW (P:Program) (w:World) (h:Heap) (a:Addr) (l:List Key):Prop:=h.SetOf (bO P w) a (Fv l) l.length
theorem mW.at {P:Program} {w:World} {h h':Heap} {a:Addr} {l:List Key} (x:mW P w h a l) (k:∀o,h.get? a=some o→h'.get? a=some o):mW P w h' a l:=by
  obtain⟨o,es,ep,t,e,r⟩:=x;exact⟨o,es,ep,t,k o e,r⟩
theorem Dw {P:Program} {w:World} {h:Heap} {a:Addr} {led:Bool} (e:h.get? a=some {cls:=.type "set",dict:=none,data:=.set #[] 0 (.fresh 0 0 led)}):mW P w h a []:=
  ⟨_,#[],0,.fresh 0 0 led,e,⟨rfl,rfl,rfl⟩,rfl,(fun x hx=>by simp at hx),(fun k=>by simp[Fv]),(by unfold scanBound;decide),(by cases led <;> rfl),rfl⟩
section
variable {P:Program} {w:World} {A:Around} {R:Result→Shared→Prop} {I:Addr} {fp wr:List Addr} {n:Nat} {PP:Nat→Value→Prop} {St:Nat→Heap→Prop}
theorem H_ (oW:Walks P w A.in1 I fp wr n PP St) (S:Addr) (hSf:S∉fp) (val:Nat→Key) (hval:∀i v,PP i v→qR (val i) v=true) (hb:n+1<scanBound) :
    ∀(k i:Nat) (s:Shared),n - i=k→i≤n→St i s.heap→mW P w s.heap S (Cg val i)→
      (∀h' tk,(∀b o,b≠S→b∉wr→s.heap.get? b=some o→h'.get? b=some o)→mW P w h' S (Cg val n)→R (.ok (.ret .none)) {s with heap:=h',toks:=tk})→
      codeAny (model P w) A (.builtin "set.update.loop" ⟨[.ref S,.ref I],[]⟩) R s:=by
  have hSw:S∉wr:=fun h=>hSf (oW.sub _ h);intro k
  induction k with
  | zero=>
    intro i s hk hi hst hS hR;obtain rfl:i=n:=by omega
    refine codeAny_builtin PyProof.Rows.F.entry_set_update_loop ?_;rw[Around.under_plainId PyProof.Rows.F.plain_set_update_loop _];show wpAny _ A.in1 (pyNext (.ref I) >>= _) _ _ s;refine wpAny_bind (oW.done s _ _ hst fun h' tk hm=>?_);exact wpAny_pure (hR h' tk (fun b o _ hb e=>hm b o hb e) (hS.at fun o e=>hm S o hSw e))
  | succ k ih=>
    intro i s hk hi hst hS hR;have hlt:i<n:=by omega
    refine codeAny_builtin PyProof.Rows.F.entry_set_update_loop ?_;rw[Around.under_plainId PyProof.Rows.F.plain_set_update_loop _];show wpAny _ A.in1 (pyNext (.ref I) >>= _) _ _ s;refine wpAny_bind (oW.item i s _ _ hlt hst fun v h' tk hP hst' hm=>?_);have hkey:(bO P w).is (val i) v=true:=hval i v hP;have hS':mW P w h' S (Cg val i):=hS.at fun o e=>hm S o hSw e;show wpAny _ A.in1 (holding [v] (setAdd S v) >>= _) _ _ _;refine wpAny_bind (wpAny_holding ?_);unfold setAdd;refine wpAny_holding (wpAny_bind ((bO P w).pyHash (k:=val i) hkey ?_));have hroom:(Cg val i).length+1<scanBound:=by have:=Tq val i;omega
    refine wpAny_setAddHashed_of (knd:=bO P w) (s:={s with heap:=h',toks:=tk+1}) hkey (X8 (hval i v hP)) hS' hroom fun h2 hsb hS2=>?_;have hSi:mW P w h2 S (Cg val (i+1)):=by
      refine HY hS2 (fun k'=>?_) ?_
      · rw[uO];unfold wJ;split
        · rename_i hm1
          by_cases e:k'=val i
          ·rw[e,hm1];rfl
          ·rw[decide_eq_false e,Bool.or_false]
        ·exact(Tp _ _ _).symm
      · rw[uO];unfold wJ;split
        ·rfl
        ·rw[List.length_append,List.length_singleton]
    refine wpAny_pure ⟨plainId_quiet PyProof.Rows.F.plain_set_update_loop _,ih (i+1) _ (by omega) hlt (oW.frame _ h' _ hst' fun b hb o e=>?_) hSi fun h3 tk3 hm3 hS3=>?_⟩
    ·exact(hsb.2 b (fun z:b=S=>hSf (by rw[← z];exact hb))).trans e
    ·refine hR h3 tk3 (fun b o hbS hbw e=>hm3 b o hbS hbw ?_) hS3;exact(hsb.2 b hbS).trans (hm b o hbw e)
end
theorem Cm:isSubtype (.type "list") (.type "set")=pure false:=by rw[isSubtype_type];kernel_rfl
theorem wK:isSubtype (.type "list") (.type "frozenset")=pure false:=by rw[isSubtype_type];kernel_rfl
set_option maxHeartbeats 4000000 in
theorem Ia {P:Program} {w:World} {A:Around} {E:Value→Shared→Prop} {s:Shared} {l:Addr} {its:Array Value} {val:Nat→Key} {Q:Value→Shared→Prop}
    (hh:A.handled=none) (hl:s.heap.IsList l its) (hval:∀i v,its[i]? = some v→qR (val i) v=true) (hb:its.size+1<scanBound)
    (h:∀(g:Heap) (tk:Nat),mW P w g s.heap.objs.size (Cg val its.size)→(∀b o,s.heap.get? b=some o→g.get? b=some o)→Q (.ref s.heap.objs.size) {s with heap:=g,toks:=tk}) :
    wpAny (model P w) A (call (.type "set") [.ref l]) Q E s:=by
  obtain⟨c,tl,hmro⟩:=PySem.F.called_set.mro;have q1:=PySem.F.called_set.made;have q2:=PySem.F.called_set.sub;refine wpAny_call (codeAny_of_tree ?_);show wpAny _ _ (callAny (.type "set") _) _ _ s;refine wpAny_pure ⟨Code.quiet_builtin _ (by decide+kernel),codeAny_builtin PySem.F.entry_type_call ?_⟩;rw[Around.under_plain (weight_type_call_type "set" [.ref l] []) rfl];have q3:=PySem.F.called_set.notType;have q4:=PySem.F.called_set.canCreate;have q5:=PySem.F.typeCall_set_1 (.ref l)
  repeat (any_goals (first | assumption | wp_step))
  refine codeAny_mono (code_set_new_1 (.ref l) (E:=E) (Q₁:=fun ob s1=>∃led:Bool,ob = .ref s.heap.objs.size∧s1={s with heap:=s.heap.push {cls:=.type "set",dict:=none,data:=.set #[] 0 (.fresh 0 0 led)}}) fun led=>⟨led,rfl,rfl⟩) fun r s1 hr=>?_;cases r with
  | error e=>exact hr
  | ok fl=>
    cases fl with
    | ret ob=>
      obtain⟨led,rfl,rfl⟩:=hr;have new:(s.heap.push {cls:=.type "set",dict:=none,data:=.set #[] 0 (.fresh 0 0 led)}).get? s.heap.objs.size=some {cls:=.type "set",dict:=none,data:=.set #[] 0 (.fresh 0 0 led)}:=Heap.get?_push_size _ rfl;have ty:Shared.TypeIs {s with heap:=s.heap.push {cls:=.type "set",dict:=none,data:=.set #[] 0 (.fresh 0 0 led)}} (.ref s.heap.objs.size) "set" :=⟨_,new,rfl⟩;have q6:=PySem.F.called_set.init.lookup;have q7:=PySem.F.called_set.init.bind (.ref s.heap.objs.size)
      repeat (any_goals (first | assumption | wp_step))
      refine codeAny_mono (codeAny_call_builtin (R:=wants (fun r s2=>r = .none∧∃g tk,s2={s with heap:=g,toks:=tk}∧mW P w g s.heap.objs.size (Cg val its.size)∧(∀b o,s.heap.get? b=some o→g.get? b=some o)) E)
        PySem.F.called_set.init.plain PySem.F.entry_set_init (check_set_init_1 ty ?_)) fun r2 s2 hr2=>?_
      · obtain⟨ol,ho,hcl,nl,hdl⟩:=hl;obtain⟨oc,od,odt,osl⟩:=ol;simp only at hcl hdl;subst hcl;subst hdl;have ho2:(s.heap.push {cls:=.type "set",dict:=none,data:=.set #[] 0 (.fresh 0 0 led)}).get? l=some {cls:=.type "list",dict:=od,data:=.seq its nl,slots:=osl}:=Heap.get?_push_of_some _ ho;have q8:=Cm;have q9:=wK;have q10:(Value.type "list" == Value.type "dict")=false:=by decide
        have hl1:(s.heap.push {cls:=.type "set",dict:=none,data:=.set #[] 0 (.fresh 0 0 led)}).IsList l its:=⟨_,ho2,rfl,nl,rfl⟩;unfold Builtin.«set.__init__» noKeywords Builtin.Frozenset.updateFrom;generalize hPI:pyIter=PI
        wp_walk
        subst hPI;refine wpAny_pyIter_list hl1 ?_;refine wpAny_bind (wpAny_runValue ?_);have lt1:l<s.heap.objs.size:=Heap.lt_size ho;have hh3:A.in1.in1.in1.handled=none:=by simp[hh]
        have ne1:l≠(s.heap.push {cls:=.type "set",dict:=none,data:=.set #[] 0 (.fresh 0 0 led)}).objs.size:=by
          rw[Heap.size_push];exact Nat.ne_of_lt (Nat.lt_succ_of_lt lt1)
        have nf:s.heap.objs.size∉[(s.heap.push {cls:=.type "set",dict:=none,data:=.set #[] 0 (.fresh 0 0 led)}).objs.size,l]:=by
          rw[Heap.size_push];simp only[List.mem_cons,List.mem_singleton,List.not_mem_nil,or_false,not_or];exact⟨Nat.ne_of_lt (Nat.lt_succ_self _),Nat.ne_of_gt lt1⟩
        refine H_ (Walks.list hh3 _ l ne1 its) s.heap.objs.size nf val hval hb (its.size - 0) 0 _ (by omega) (Nat.zero_le _) ⟨⟨_,Heap.get?_push_size _ rfl,rfl,rfl⟩,hl1.push _⟩ ?hS0 ?hR
        case hS0=>
          have hget:((s.heap.push {cls:=.type "set",dict:=none,data:=.set #[] 0 (.fresh 0 0 led)}).push {cls:=.type "list_iterator",data:=.fields #[.ref l,.int 0 0]}).get? s.heap.objs.size
              = some {cls:=.type "set",dict:=none,data:=.set #[] 0 (.fresh 0 0 led)}:=Heap.get?_push_of_some _ new
          exact Dw hget
        case hR=>
          intro g tk hm hS;show wpAny _ _ _ _ _ _;refine wpAny_pure ?_;show wpAny _ _ (ret Value.none) _ _ _;refine wpAny_pure ⟨rfl,g,tk,rfl,hS,fun b o e=>?_⟩;have lb:b<s.heap.objs.size:=Heap.lt_size e;refine hm b o (Nat.ne_of_lt lb) ?_ (Heap.get?_push_of_some _ (Heap.get?_push_of_some _ e));simp only[List.mem_cons,List.not_mem_nil,or_false];rw[Heap.size_push];exact Nat.ne_of_lt (Nat.lt_succ_of_lt lb)
      · cases r2 with
        | error e=>exact hr2
        | ok fl2=>
          cases fl2 with
          | ret r=>
            obtain⟨rfl,g,tk,rfl,hS,hk⟩:=hr2
            repeat (any_goals (first | assumption | wp_step))
            exact h _ _ hS hk
          | _=>exact hr2.elim
    | _=>exact hr.elim
theorem zc:isSubtype (.type "tuple") (.type "set")=pure false:=by rw[isSubtype_type];kernel_rfl
theorem uP:isSubtype (.type "tuple") (.type "frozenset")=pure false:=by rw[isSubtype_type];kernel_rfl
set_option maxHeartbeats 4000000 in
theorem Fw {P:Program} {w:World} {A:Around} {E:Value→Shared→Prop} {s:Shared} {l:Addr} {its:Array Value} {val:Nat→Key} {Q:Value→Shared→Prop}
    (hh:A.handled=none) (hl:s.heap.IsTuple l its) (hval:∀i v,its[i]? = some v→qR (val i) v=true) (hb:its.size+1<scanBound)
    (h:∀(g:Heap) (tk:Nat),mW P w g s.heap.objs.size (Cg val its.size)→(∀b o,s.heap.get? b=some o→g.get? b=some o)→Q (.ref s.heap.objs.size) {s with heap:=g,toks:=tk}) :
    wpAny (model P w) A (call (.type "set") [.ref l]) Q E s:=by
  obtain⟨c,tl,hmro⟩:=PySem.F.called_set.mro;have q1:=PySem.F.called_set.made;have q2:=PySem.F.called_set.sub;refine wpAny_call (codeAny_of_tree ?_);show wpAny _ _ (callAny (.type "set") _) _ _ s;refine wpAny_pure ⟨Code.quiet_builtin _ (by decide+kernel),codeAny_builtin PySem.F.entry_type_call ?_⟩;rw[Around.under_plain (weight_type_call_type "set" [.ref l] []) rfl];have q3:=PySem.F.called_set.notType;have q4:=PySem.F.called_set.canCreate;have q5:=PySem.F.typeCall_set_1 (.ref l)
  repeat (any_goals (first | assumption | wp_step))
  refine codeAny_mono (code_set_new_1 (.ref l) (E:=E) (Q₁:=fun ob s1=>∃led:Bool,ob = .ref s.heap.objs.size∧s1={s with heap:=s.heap.push {cls:=.type "set",dict:=none,data:=.set #[] 0 (.fresh 0 0 led)}}) fun led=>⟨led,rfl,rfl⟩) fun r s1 hr=>?_;cases r with
  | error e=>exact hr
  | ok fl=>
    cases fl with
    | ret ob=>
      obtain⟨led,rfl,rfl⟩:=hr;have new:(s.heap.push {cls:=.type "set",dict:=none,data:=.set #[] 0 (.fresh 0 0 led)}).get? s.heap.objs.size=some {cls:=.type "set",dict:=none,data:=.set #[] 0 (.fresh 0 0 led)}:=Heap.get?_push_size _ rfl;have ty:Shared.TypeIs {s with heap:=s.heap.push {cls:=.type "set",dict:=none,data:=.set #[] 0 (.fresh 0 0 led)}} (.ref s.heap.objs.size) "set" :=⟨_,new,rfl⟩;have q6:=PySem.F.called_set.init.lookup;have q7:=PySem.F.called_set.init.bind (.ref s.heap.objs.size)
      repeat (any_goals (first | assumption | wp_step))
      refine codeAny_mono (codeAny_call_builtin (R:=wants (fun r s2=>r = .none∧∃g tk,s2={s with heap:=g,toks:=tk}∧mW P w g s.heap.objs.size (Cg val its.size)∧(∀b o,s.heap.get? b=some o→g.get? b=some o)) E)
        PySem.F.called_set.init.plain PySem.F.entry_set_init (check_set_init_1 ty ?_)) fun r2 s2 hr2=>?_
      · obtain⟨ol,ho,hcl,nl,hdl⟩:=hl;obtain⟨oc,od,odt,osl⟩:=ol;simp only at hcl hdl;subst hcl;subst hdl;have ho2:(s.heap.push {cls:=.type "set",dict:=none,data:=.set #[] 0 (.fresh 0 0 led)}).get? l=some {cls:=.type "tuple",dict:=od,data:=.seq its nl,slots:=osl}:=Heap.get?_push_of_some _ ho;have q8:=zc;have q9:=uP;have q10:(Value.type "tuple" == Value.type "dict")=false:=by decide
        have hl1:(s.heap.push {cls:=.type "set",dict:=none,data:=.set #[] 0 (.fresh 0 0 led)}).IsTuple l its:=⟨_,ho2,rfl,nl,rfl⟩;unfold Builtin.«set.__init__» noKeywords Builtin.Frozenset.updateFrom;generalize hPI:pyIter=PI
        wp_walk
        subst hPI;refine wpAny_pyIter_tuple hl1 ?_;refine wpAny_bind (wpAny_runValue ?_);have lt1:l<s.heap.objs.size:=Heap.lt_size ho;have hh3:A.in1.in1.in1.handled=none:=by simp[hh]
        have ne1:l≠(s.heap.push {cls:=.type "set",dict:=none,data:=.set #[] 0 (.fresh 0 0 led)}).objs.size:=by
          rw[Heap.size_push];exact Nat.ne_of_lt (Nat.lt_succ_of_lt lt1)
        have nf:s.heap.objs.size∉[(s.heap.push {cls:=.type "set",dict:=none,data:=.set #[] 0 (.fresh 0 0 led)}).objs.size,l]:=by
          rw[Heap.size_push];simp only[List.mem_cons,List.mem_singleton,List.not_mem_nil,or_false,not_or];exact⟨Nat.ne_of_lt (Nat.lt_succ_self _),Nat.ne_of_gt lt1⟩
        refine H_ (Walks.tuple hh3 _ l ne1 its) s.heap.objs.size nf val hval hb (its.size - 0) 0 _ (by omega) (Nat.zero_le _) ⟨⟨_,Heap.get?_push_size _ rfl,rfl,rfl⟩,⟨_,Heap.get?_push_of_some _ ho2,rfl,nl,rfl⟩⟩ ?hS0 ?hR
        case hS0=>
          have hget:((s.heap.push {cls:=.type "set",dict:=none,data:=.set #[] 0 (.fresh 0 0 led)}).push {cls:=.type "tuple_iterator",data:=.fields #[.ref l,.int 0 0]}).get? s.heap.objs.size
              = some {cls:=.type "set",dict:=none,data:=.set #[] 0 (.fresh 0 0 led)}:=Heap.get?_push_of_some _ new
          exact Dw hget
        case hR=>
          intro g tk hm hS;show wpAny _ _ _ _ _ _;refine wpAny_pure ?_;show wpAny _ _ (ret Value.none) _ _ _;refine wpAny_pure ⟨rfl,g,tk,rfl,hS,fun b o e=>?_⟩;have lb:b<s.heap.objs.size:=Heap.lt_size e;refine hm b o (Nat.ne_of_lt lb) ?_ (Heap.get?_push_of_some _ (Heap.get?_push_of_some _ e));simp only[List.mem_cons,List.not_mem_nil,or_false];rw[Heap.size_push];exact Nat.ne_of_lt (Nat.lt_succ_of_lt lb)
      · cases r2 with
        | error e=>exact hr2
        | ok fl2=>
          cases fl2 with
          | ret r=>
            obtain⟨rfl,g,tk,rfl,hS,hk⟩:=hr2
            repeat (any_goals (first | assumption | wp_step))
            exact h _ _ hS hk
          | _=>exact hr2.elim
    | _=>exact hr.elim
def X_ (P:Program) (w:World) (a:Addr) (l:List Key):HO:=.ext fun h=>mW P w h a l
section
variable {X:Cx}
def keysOf:List V→List Key
  | []=>[]
  | .int i::r=>.inl i::keysOf r
  | .str x::r=>.inr x::keysOf r
  | _::r=>keysOf r
def isKey:V→Bool
  | .int _=>true
  | .str _=>true
  | _=>false
theorem Fx:∀{xs:List V} {its:List Value},xs.all isKey=true→Vals xs its→(keysOf xs).length=its.length∧∀(i:Nat) (v:Value),its[i]? = some v→qR ((keysOf xs).getD i (.inl 0)) v=true
  | [],_,_,.nil=>⟨rfl,fun i v e=>by simp at e⟩
  | x::xs,u::us,h,.cons r1 r2=>by
    rw[List.all_cons,Bool.and_eq_true] at h;obtain⟨h1,h2⟩:=Fx h.2 r2;cases x with
    | int i=>
      obtain⟨t,rfl⟩:=r1;refine⟨by simp[keysOf,h1],fun j v e=>?_⟩;cases j with
      | zero=>simp at e;subst e;exact Dd i t
      | succ j=>simp at e;simpa [keysOf] using h2 j v e
    | str z=>
      obtain⟨t,rfl⟩:=r1;refine⟨by simp[keysOf,h1],fun j v e=>?_⟩;cases j with
      | zero=>simp at e;subst e;exact Df z t
      | succ j=>simp at e;simpa [keysOf] using h2 j v e
    | _=>exact absurd (show false=true from h.1) Bool.false_ne_true
theorem Dy (hc:X.calm=true):cC X (.type "set") (fun xs H Q=>∃a ys,xs=[.ref a]∧(aX X.K H a ys∨d9 X.K H a ys)∧ys.all isKey=true∧ys.length+1<scanBound∧
    ∀p,H p=none→Q (.ref p) (upd H p (X_ X.prog X.w p (Cg (fun i=>(keysOf ys).getD i (.inl 0)) ys.length)))):=by
  intro p_ s σ H xs us Q I r h;obtain⟨a,ys,rfl,hq,hk,hb,q⟩:=h;obtain⟨u,rfl,ru⟩:=r.one;obtain rfl:u=Value.ref a:=ru;have fin:∀(g:Heap) (tk:Nat),mW X.prog X.w g s.heap.objs.size (Cg (fun i=>(keysOf ys).getD i (.inl 0)) ys.length)→(∀b o,s.heap.get? b=some o→g.get? b=some o)→EP X p_ σ Q (.ref s.heap.objs.size) {s with heap:=g,toks:=tk}:=fun g tk hS kk=>by
    have hn:H s.heap.objs.size=none:=I.hok.fresh (Nat.le_refl _);refine⟨.ref s.heap.objs.size,_,I.laid (o:=X_ X.prog X.w s.heap.objs.size (Cg (fun i=>(keysOf ys).getD i (.inl 0)) ys.length)) (fun b o e=>kk b o e) (Nat.le_refl _) ⟨hS,?_,fun h1 h2 p k=>p.at k⟩,rfl,q _ hn⟩;obtain⟨o,_,_,_,e,_⟩:=hS;exact⟨o,e⟩
  rcases hq with hq | hq
  · obtain⟨its,rv,pl,hz⟩:=I.list hq;obtain⟨h1,h2⟩:=Fx hk rv;have hl:=rv.length;refine Ia (val:=fun i=>(keysOf ys).getD i (.inl 0)) (I.ok.hd hc) pl.isList (fun i v e=>h2 i v (by simpa using e)) (by rw[List.size_toArray];omega) fun g tk hS kk=>fin g tk ?_ kk;have ez:its.toArray.size=ys.length:=by rw[List.size_toArray,hl]
    rw[ez] at hS;exact hS
  · obtain⟨its,rv,pl,hz⟩:=I.tuple hq;obtain⟨h1,h2⟩:=Fx hk rv;have hl:=rv.length;refine Fw (val:=fun i=>(keysOf ys).getD i (.inl 0)) (I.ok.hd hc) (show s.heap.IsTuple a its.toArray from pl) (fun i v e=>h2 i v (by simpa using e)) (by rw[List.size_toArray];omega) fun g tk hS kk=>fin g tk ?_ kk;have ez:its.toArray.size=ys.length:=by rw[List.size_toArray,hl]
    rw[ez] at hS;exact hS
theorem Dz:cC X (.builtin "len") (fun xs H Q=>∃a l,xs=[.ref a]∧H a=some (X_ X.prog X.w a l)∧Q (.int l.length) H):=by
  intro p_ s σ H xs us Q I r h;obtain⟨a,l,rfl,ha,q⟩:=h;obtain⟨u,rfl,ru⟩:=r.one;obtain rfl:u=Value.ref a:=ru;obtain⟨⟨o,es,ep,t,e,ex,hd,_,_,hsz,hf,hn⟩,_⟩:=(show cj X.prog X.w H s.heap a (X_ X.prog X.w a l) from I.hok a _ ha);refine call_len_set e ex hd hf (by unfold scanBound at hsz;omega) ⟨.int l.length,H,I.tok _,⟨_,by rw[hn]⟩,q⟩
end
section
variable {X:Cx}
def qd5:R2:=fun x y H Q=>∃i j,x = .str i∧y = .str j∧i.length+j.length≤sizeLine∧Q (.str (i++j)) H
def qje:R2:=fun x y H Q=>∃i j,x = .str i∧y = .str j∧Q (.bl (!(Builtin.Str.occurrences j i 0 j.length 1).isEmpty)) H
def Yb:R2:=fun x y H Q=>∃i j,x = .str i∧y = .str j∧Q (.bl (!(!(Builtin.Str.occurrences j i 0 j.length 1).isEmpty))) H
def Yc (K:W.Frag):R2:=fun x y H Q=>rIn K false x y H Q∨qje x y H Q
def Fy (K:W.Frag):R2:=fun x y H Q=>rIn K true x y H Q∨Yb x y H Q
theorem qbt:fY X (compareOp .In) (Yc X.K):=Qm.or Qf
theorem Qv:fY X (compareOp .NotIn) (Fy X.K):=Fe.or Fg
def qbu (K:W.Frag):R2:=fun x y H Q=>∃p xs i v,x = .ref p∧y = .int i∧(aX K H p xs∨d9 K H p xs)∧Ce xs i=some v∧Q v H
theorem ixQ:SQ X (qbu X.K):=by
  intro value slice p_ s σ H x y v u Q I rx ry h hs;obtain⟨p,xs,i,z,e1,e2,hq | hq,e3,q⟩:=h
  ·exact X4 value slice p_ s σ H x y v u Q I rx ry ⟨p,xs,i,z,e1,e2,hq,e3,q⟩ hs
  ·exact qbh value slice p_ s σ H x y v u Q I rx ry ⟨p,xs,i,z,e1,e2,hq,e3,q⟩ hs
def qae (K:W.Frag):List V→Hp→VK→Prop:=fun xs H Q=>∃p ys,xs=[.ref p]∧(aX K H p ys∨d9 K H p ys)∧Q (.int ys.length) H
def qaf:List V→Hp→VK→Prop:=fun xs H Q=>∃z,xs=[.str z]∧z.length≤sizeLine∧Q (.int z.length) H
variable {K:W.Frag}
theorem qjf (hK:X.K=K):SQ X (qbu K):=by subst hK;exact ixQ
theorem inK (hK:X.K=K):fY X (compareOp .In) (Yc K):=by subst hK;exact qbt
theorem qbw (hK:X.K=K):fY X (compareOp .NotIn) (Fy K):=by subst hK;exact Qv
theorem qd6 (hK:X.K=K):cC X (.builtin "len") (qae K):=by subst hK;exact Fi
theorem qd7:cC X (.builtin "len") qaf:=Fj
def NT (K:W.Frag):List V→Hp→VK→Prop:=fun xs H Q=>∃p ys,xs=[.ref p]∧(aX K H p ys∨d9 K H p ys)∧∀l,H l=none→Q (.ref l) (upd H l (.lst ys))
theorem Yd (hK:X.K=K):cC X (.type "list") (NT K):=by subst hK;exact Fl
def qag (K:W.Frag):List V→Hp→VK→Prop:=fun xs H Q=>∃x n t b,xs=[x,.ty n]∧kW K H x t∧W.kitOne K t (.type n)=some b∧Q (.bl b) H
theorem qd8 (hK:X.K=K):cC X (.builtin "isinstance") (qag K):=by subst hK;exact Qq
def qah (K:W.Frag):List V→Hp→VK→Prop:=fun xs H Q=>∃x p m n t b,xs=[x,.ref p]∧H p=some (.tup [.ty m,.ty n])∧kW K H x t∧W.kitAny K t [.type m,.type n]=some b∧Q (.bl b) H
theorem qd9 (hK:X.K=K):cC X (.builtin "isinstance") (qah K):=by subst hK;exact Qs
theorem fH (hK:X.K=K) {es:List Expr} {k:Nat} {pos:Pos} {t:Di} {n:Nat} (hc:X.calm=true) (h:g_ X es t)
    (hn:(assignEach es X.env).length=n:=by rfl) (hst:(assignEach es X.env).findIdx? (·.1)=none:=by rfl):PG X (.Tuple es k pos) (Xx K n t):=by subst hK;exact qaZ hc h hn hst
theorem cN (hK:X.K=K) {tg l:Expr} {tl:TE} (hl:PE X l tl):PI X tg l (Nr K tl):=by subst hK;exact Xy hl
theorem Fz (hK:X.K=K) {e:Expr} {ta:TE} {f:Str} {pos:Pos} (he:PE X e ta) (hb:attributeBase e f X.env (eval e X.env)=eval e X.env):PE X (.Attribute e f pos) (XQ K ta f):=by subst hK;exact qbe he hb
theorem nA (hK:X.K=K) {o e:Expr} {es:List Expr} {to:TE} {t:TA} {name:Str} {apos cpos:Pos} {T id:String} {r:V→List V→Hp→VK→Prop} (pa:PlainAttrs T) (slot:Slot T name id) (hty:typeOf (.builtin id)=pure (.type "method_descriptor")) (hm:Qk X id r) (ho:PE X o to) (ha:PA X (e::es) t)
    (hbase:attributeBase o name X.env (eval o X.env)=eval o X.env:=by rfl)
    (hfew:((backTo cpos (starEach (e::es) X.env)).all (fun x=>!x.1) && (backToKw cpos (keywordEach [] X.env)).all (fun x=>x.1.isSome)
      && decide ((e::es).length+([]:List Keyword).length+(if ([]:List Keyword).isEmpty then 0 else 1)<30))=true:=by rfl)
    (hline:(apos.endLine == cpos.line)=true:=by rfl) (hs:starEach (e::es) X.env=(false,eval e X.env)::starEach es X.env:=by rfl) (hplain:(backTo cpos (starEach es X.env)).any (·.1)=false:=by rfl) :
    PE X (.Call (.Attribute o name apos) (e::es) [] cpos) (tBM K T r to t):=by subst hK;exact qdX pa slot hty hm ho ha hbase hfew hline hs hplain
theorem jH:bootBuiltins "all" = some (.builtin "all"):=by decide+kernel
theorem boot_max:bootBuiltins "max" = some (.builtin "max"):=by decide+kernel
theorem boot_min:bootBuiltins "min" = some (.builtin "min"):=by decide+kernel
theorem boot_abs:bootBuiltins "abs" = some (.builtin "abs"):=by decide+kernel
theorem boot_divmod:bootBuiltins "divmod" = some (.builtin "divmod"):=by decide+kernel
end
structure Nm (mg:Str→Option Value):Prop where
  len:mg "len" = none
  max:mg "max" = none
  min:mg "min" = none
  abs:mg "abs" = none
  divmod:mg "divmod" = none
  range:mg "range" = none
  zip:mg "zip" = none
  list:mg "list" = none
  tuple:mg "tuple" = none
  int:mg "int" = none
  str:mg "str" = none
  set:mg "set" = none
  all:mg "all" = none
  isinstance:mg "isinstance" = none
section
variable {K:W.Frag} {own:List Str} {caps:List Nat} {g:TG} {tt:TT} {te:TE} {D:Addr} {σ:St} {H:Hp} {Q:Hp→Prop}
abbrev DG (g:TG) (tt:TT) (te:TE) (D:Addr) (N:St→Hp→Prop) (x:V) (σ:St) (H:Hp):Prop:=
  g x σ H fun σ2 H3=>tt σ2 H3 fun b H4=>if b=true then te σ2 H4 fun y H5=>∃ys,H5 D=some (.lst ys)∧ys.length<sizeLine∧N σ2 (upd H5 D (.lst (ys++[y]))) else N σ2 H4
theorem DK {l:Addr} {xs:List V} (Pv:Nat→St→Hp→Prop) (h0:Pv 0 (stC own caps σ) H) (hl:∀i σ H,i≤xs.length→Pv i σ H→aX K H l xs)
    (hs:∀i x σ H,xs[i]? = some x→Pv i σ H→DG g tt te D (Pv (i+1)) x σ H) (hd:∀σ H,Pv xs.length σ H→Q H):jR own caps (Ks K l) g tt te D σ H Q:=by
  refine⟨fun i m σ H=>m=xs.length - i∧i≤xs.length∧Pv i σ H,⟨xs.length,by simp,Nat.zero_le _,h0⟩,?_⟩;rintro i m σ H ⟨rfl,hi,p⟩;have q:=hl i σ H hi p
  by_cases hlt:i<xs.length
  ·refine .inr ⟨⟨xs,xs[i],q,by simp[hlt]⟩,Pv (i+1),fun σ' H' p'=>⟨xs.length - (i+1),by omega,rfl,hlt,p'⟩,fun x H' y=>?_⟩;obtain⟨e,y⟩:=y;subst e;exact hs i x σ _ (y xs q) p
  · have e:i=xs.length:=by omega
    subst e;exact .inl ⟨⟨xs,q,Nat.le_refl _⟩,hd σ H p⟩
theorem Tr {l:Addr} {xs:List V} (Pv:Nat→St→Hp→Prop) (h0:Pv 0 (stC own caps σ) H) (hl:∀i σ H,i≤xs.length→Pv i σ H→d9 K H l xs)
    (hs:∀i x σ H,xs[i]? = some x→Pv i σ H→DG g tt te D (Pv (i+1)) x σ H) (hd:∀σ H,Pv xs.length σ H→Q H):jR own caps (Itt K l) g tt te D σ H Q:=by
  refine⟨fun i m σ H=>m=xs.length - i∧i≤xs.length∧Pv i σ H,⟨xs.length,by simp,Nat.zero_le _,h0⟩,?_⟩;rintro i m σ H ⟨rfl,hi,p⟩;have q:=hl i σ H hi p
  by_cases hlt:i<xs.length
  ·refine .inr ⟨⟨xs,xs[i],q,by simp[hlt]⟩,Pv (i+1),fun σ' H' p'=>⟨xs.length - (i+1),by omega,rfl,hlt,p'⟩,fun x H' y=>?_⟩;obtain⟨e,y⟩:=y;subst e;exact hs i x σ _ (y xs q) p
  · have e:i=xs.length:=by omega
    subst e;exact .inl ⟨⟨xs,q,Nat.le_refl _⟩,hd σ H p⟩
theorem K5 {lo:Int} {n:Nat} (Pv:Nat→St→Hp→Prop) (h0:Pv 0 (stC own caps σ) H)
    (hs:∀i σ H,i<n→Pv i σ H→DG g tt te D (Pv (i+1)) (.int (lo+i)) σ H) (hd:∀σ H,Pv n σ H→Q H):jR own caps (Kp lo n) g tt te D σ H Q:=by
  refine⟨fun i m σ H=>m=n - i∧i≤n∧Pv i σ H,⟨n,by simp,Nat.zero_le _,h0⟩,?_⟩;rintro i m σ H ⟨rfl,hi,p⟩
  by_cases hlt:i<n
  ·refine .inr ⟨hlt,Pv (i+1),fun σ' H' p'=>⟨n - (i+1),by omega,rfl,hlt,p'⟩,fun x H' y=>?_⟩;obtain⟨e,y⟩:=y;subst e y;exact hs i σ _ hlt p
  · have e:i=n:=by omega
    subst e;exact .inl ⟨Nat.le_refl _,hd σ H p⟩
theorem Tt {z:Str} (Pv:Nat→St→Hp→Prop) (h0:Pv 0 (stC own caps σ) H)
    (hs:∀i c σ H,z.cps[i]? = some c→Pv i σ H→DG g tt te D (Pv (i+1)) (.str ⟨#[c]⟩) σ H) (hd:∀σ H,Pv z.cps.size σ H→Q H):jR own caps (Its z) g tt te D σ H Q:=by
  refine⟨fun i m σ H=>m=z.cps.size - i∧i≤z.cps.size∧Pv i σ H,⟨z.cps.size,by simp,Nat.zero_le _,h0⟩,?_⟩;rintro i m σ H ⟨rfl,hi,p⟩
  by_cases hlt:i<z.cps.size
  ·refine .inr ⟨hlt,Pv (i+1),fun σ' H' p'=>⟨z.cps.size - (i+1),by omega,rfl,hlt,p'⟩,fun x H' y=>?_⟩;obtain⟨e,c,hc,rfl⟩:=y;subst e;exact hs i c σ _ hc p
  · have e:i=z.cps.size:=by omega
    subst e;exact .inl ⟨Nat.le_refl _,hd σ H p⟩
theorem Tv {l1 l2:Addr} {xs ys:List V} (Pv:Nat→St→Hp→Prop) (h0:Pv 0 (stC own caps σ) H) (he:xs.length=ys.length) (hl:∀i σ H,i≤xs.length→Pv i σ H→aX K H l1 xs∧aX K H l2 ys)
    (hs:∀i x y t σ H,xs[i]? = some x→ys[i]? = some y→H t=none→Pv i σ H→DG g tt te D (Pv (i+1)) (.ref t) σ (upd H t (.tup [x,y]))) (hd:∀σ H,Pv xs.length σ H→Q H):jR own caps (RK K l1 l2) g tt te D σ H Q:=by
  refine⟨fun i m σ H=>m=xs.length - i∧i≤xs.length∧Pv i σ H,⟨xs.length,by simp,Nat.zero_le _,h0⟩,?_⟩;rintro i m σ H ⟨rfl,hi,p⟩;obtain⟨q1,q2⟩:=hl i σ H hi p
  by_cases hlt:i<xs.length
  · have hlt2:i<ys.length:=by omega
    refine .inr ⟨⟨xs,ys,xs[i],ys[i],q1,q2,by simp[hlt],by simp[hlt2]⟩,Pv (i+1),fun σ' H' p'=>⟨xs.length - (i+1),by omega,rfl,hlt,p'⟩,fun x H' y=>?_⟩;obtain⟨t,u,v,rfl,ht,rfl,e1,e2⟩:=y;exact hs i u v t σ H (e1 xs q1) (e2 ys q2) ht p
  · have e:i=xs.length:=by omega
    subst e;exact .inl ⟨⟨xs,ys,q1,q2,.inl (Nat.le_refl _)⟩,hd σ H p⟩
end
def Ib (b:Bool) (K:W.Frag) (H:Hp) (p:Addr) (xs:List V):Prop:=match b with | true=>aX K H p xs | false=>d9 K H p xs
def Itq (b:Bool) (K:W.Frag) (p:Addr):It:=match b with | true=>Ks K p | false=>Itt K p
def qbx (K:W.Frag) (tl:TE):TI:=fun σ H R=>tl σ H fun x H1=>∃b p,x = .ref p∧(∃xs,Ib b K H1 p xs)∧R (Itq b K p) H1
theorem pG {X:Cx} {K:W.Frag} (hK:X.K=K) {tg l:Expr} {tl:TE} (hl:PE X l tl):PI X tg l (qbx K tl):=by
  intro p_ s σ H R I h;refine cB (hl p_ s σ H _ I h) fun v s1 zz=>?_;obtain⟨x,H1,I1,r1,q1⟩:=zz;obtain⟨b,p,e,hq,q⟩:=q1;subst e;subst hK;cases b with
  | true=>
    cases r1;obtain⟨xs,hq⟩:=hq;obtain⟨its,rv,pl,hz⟩:=I1.list hq;refine wpAny_pyIter_list pl.isList ?_;refine⟨s1.heap.objs.size,[s1.heap.objs.size],_,_,H1,rfl,I1.kept (t':=s1.toks) fun b o e=>Heap.get?_push_of_some _ e,oX p _,⟨_,Heap.get?_push_size _ rfl,rfl,rfl⟩,fun b hb=>?_,q⟩;have e:b=s1.heap.objs.size:=by simpa using hb
    subst e;exact I1.wD (Nat.le_refl _) (I1.hok.fresh (Nat.le_refl _))
  | false=>
    cases r1;obtain⟨xs,hq⟩:=hq;obtain⟨its,rv,pl,hz⟩:=I1.tuple hq;refine wpAny_pyIter_tuple (show s1.heap.IsTuple p its.toArray from pl) ?_;refine⟨s1.heap.objs.size,[s1.heap.objs.size],_,_,H1,rfl,I1.kept (t':=s1.toks) fun b o e=>Heap.get?_push_of_some _ e,Ku p _,⟨_,Heap.get?_push_size _ rfl,rfl,rfl⟩,fun b hb=>?_,q⟩;have e:b=s1.heap.objs.size:=by simpa using hb
    subst e;exact I1.wD (Nat.le_refl _) (I1.hok.fresh (Nat.le_refl _))
section
variable {K:W.Frag} {own:List Str} {caps:List Nat} {g:TG} {tt:TT} {te:TE} {D:Addr} {σ:St} {H:Hp} {Q:Hp→Prop}
theorem Tw {b:Bool} {l:Addr} {xs:List V} (Pv:Nat→St→Hp→Prop) (h0:Pv 0 (stC own caps σ) H) (hl:∀i σ H,i≤xs.length→Pv i σ H→Ib b K H l xs)
    (hs:∀i x σ H,xs[i]? = some x→Pv i σ H→DG g tt te D (Pv (i+1)) x σ H) (hd:∀σ H,Pv xs.length σ H→Q H):jR own caps (Itq b K l) g tt te D σ H Q:=by
  cases b with
  | true=>exact DK Pv h0 hl hs hd
  | false=>exact Tr Pv h0 hl hs hd
end
theorem au {H:Hp} {p:Addr} {o:HO} (h:H p=none):Same H (upd H p o):=fun b u e=>by rw[aB (aH e h)];exact e
theorem aW {H H':Hp} {p:Addr} {o:HO} (s:Same H H') (h:H p=none):Same H (upd H' p o):=fun b u e=>by rw[aB (aH e h)];exact s b u e
def Sq (H:Hp) (p:Addr) (xs:List V):Prop:=H p=some (.lst xs)∨H p=some (.tup xs)
theorem Sq.q {K:W.Frag} {H:Hp} {p:Addr} {xs:List V} (h:Sq H p xs):aX K H p xs∨d9 K H p xs:=h.elim (fun e=>.inl (aX.of e)) fun e=>.inr (d9.of e)
theorem Sq.b {H:Hp} {p:Addr} {xs:List V} (h:Sq H p xs):∃b,∀K H',Same H H'→Ib b K H' p xs:=h.elim (fun e=>⟨true,fun _ _ s=>aX.of (s _ _ e)⟩) fun e=>⟨false,fun _ _ s=>d9.of (s _ _ e)⟩
theorem Sq.same {H H':Hp} {p:Addr} {xs:List V} (h:Sq H p xs) (s:Same H H'):Sq H' p xs:=h.elim (fun e=>.inl (s _ _ e)) fun e=>.inr (s _ _ e)
theorem Sq.ty {K:W.Frag} {H:Hp} {p:Addr} {xs:List V} (h:Sq H p xs):kW K H (.ref p) (.type "list")∨kW K H (.ref p) (.type "tuple"):=h.elim (fun e=>.inl (.lst e)) fun e=>.inr (.tup e)
theorem oZ {α:Type} (f:α→Bool):∀l:List α,rm (l.map fun c=>.bl (f c)) (l.map f)
  | []=>rfl
  | c::l=>⟨f c,l.map f,rfl,rfl,oZ f l⟩
theorem K6 {α:Type} (f:α→Bool) (l:List α):(l.map f).all id=l.all f:=by
  rw[List.all_map];rfl
theorem take_one {α:Type} {l:List α} {i:Nat} {x:α} (h:l[i]? = some x):l.take (i+1)=l.take i++[x]:=by
  rw[List.take_succ,h];rfl
def NZ:List V→Hp→VK→Prop:=fun xs H Q=>∃p ys,xs=[.ref p]∧Sq H p ys∧∀l H',H' l=some (.tup ys)→Same H H'→Q (.ref l) H'
theorem Tz {X:Cx}:cC X (.type "tuple") NZ:=by
  intro p_ s σ H xs us Q I r h;obtain⟨p,ys,rfl,hq,q⟩:=h;refine Ck p_ s σ H _ us Q I r ⟨p,ys,rfl,?_⟩
  rcases hq with e | e
  ·exact .inl ⟨aX.of e,fun l hl=>q l _ ao (au hl)⟩
  ·exact .inr ⟨d9.of e,q p H e (Same.refl H)⟩
def qby (J:It) (g:TG) (tb:TS):TS:=fun D σ H=>∃oW:Nat→Nat→St→Hp→Prop,(∃m,oW 0 m σ H)∧∀i m σ H,oW i m σ H→
      (J.stop i H∧D.nx σ H)∨(J.go i H∧∃N:St→Hp→Prop,(∀σ' H',N σ' H'→∃m',m'<m∧oW (i+1) m' σ' H')∧∀x H',J.RD i H x H'→g x σ H' fun σ2 H2=>tb {D with nx:=N,ct:=N,bk:=D.nx} σ2 H2)
theorem bI {H:Hp} {b p:Addr} {o u:HO} (h:H b=some o) (n:H p=none):upd H p u b=some o:=by rw[aB (aH h n)];exact h
theorem yt {H:Hp} {b p:Addr} {o o' u:HO} (h:H b=some o) (n:H p=some o') (d:o≠o'):upd H p u b=some o:=by
  rw[aB (fun e=>d (by subst e;rw[h] at n;exact Option.some.inj n))];exact h
theorem cu {H H':Hp} {b:Addr} (s:Same H H') (h:H' b=none):H b=none:=by
  cases e:H b with
  | none=>rfl
  | some o=>rw[s b o e] at h;cases h
def But (p:Addr) (H H':Hp):Prop:=∀b o,b≠p→H b=some o→H' b=some o
theorem But.refl (p:Addr) (H:Hp):But p H H:=fun _ _ _ e=>e
theorem But.trans {p:Addr} {H H1 H2:Hp} (x:But p H H1) (y:But p H1 H2):But p H H2:=fun b o hb e=>y b o hb (x b o hb e)
theorem But.new {p q:Addr} {H H':Hp} {u:HO} (x:But p H H') (h:H q=none):But p H (upd H' q u):=fun b o hb e=>by
  rw[aB (aH e h)];exact x b o hb e
theorem But.of {p:Addr} {H H':Hp} (x:Same H H'):But p H H':=fun b o _ e=>x b o e
theorem But.same {p:Addr} {H H1 H2:Hp} (x:But p H H1) (y:Same H1 H2):But p H H2:=fun b o hb e=>y b o (x b o hb e)
theorem But.none {p b:Addr} {H H':Hp} {u:HO} (x:But p H H') (hp:H' p=some u) (h:H' b = .none):H b = .none:=by
  cases e:H b with
  | none=>rfl
  | some o=>
    have hb:b≠p:=fun z=>by subst z;rw[hp] at h;cases h
    rw[x b o hb e] at h;cases h
theorem N5 {α:Type} {xs:List α} {i:Int} (h0:0≤i) (h1:i<xs.length):∃v,xs[i.toNat]? = some v∧Ce xs i=some v:=by
  obtain⟨j,rfl⟩:∃j:Nat,i=j:=⟨i.toNat,by omega⟩;have hj:j<xs.length:=by omega
  exact⟨xs[j],by simp[hj],aV (by simp[hj])⟩
theorem qbz {d e n:Int} (h0:0≤d) (h1:d<n) (h2:0≤e) (h3:e<n - 1):0≤(d+1+e) % n∧(d+1+e) % n<n∧(d+1+e) % n≠d:=by
  refine⟨Int.emod_nonneg _ (by omega),Int.emod_lt_of_pos _ (by omega),?_⟩
  by_cases h:d+1+e<n
  ·rw[Int.emod_eq_of_lt (by omega) h];omega
  · have z:d+1+e=(d+1+e - n)+n * 1:=by omega
    rw[z,Int.add_mul_emod_self_left,Int.emod_eq_of_lt (by omega) (by omega)];omega
theorem iK {xs:List Str} {i:Nat} {x:V} (h:(xs.map V.str)[i]? = some x):∃z,xs[i]? = some z∧x = .str z:=by
  rw[List.getElem?_map] at h;cases e:xs[i]? with
  | none=>rw[e] at h;cases h
  | some z=>rw[e] at h;exact⟨z,rfl,(Option.some.inj h).symm⟩
theorem zf {α:Type} {xs:List α} (h:xs.Nodup) {i j:Nat} {x:α} (hi:xs[i]? = some x) (hj:xs[j]? = some x):i=j:=by
  obtain⟨h1,e1⟩:=List.getElem?_eq_some_iff.mp hi;obtain⟨h2,e2⟩:=List.getElem?_eq_some_iff.mp hj;exact(List.getElem_inj h).mp (e1.trans e2.symm)
def Xj (c:Nat):Bool:=!(Builtin.Str.occurrences ("abcdefghijklmnopqrstuvwxyz" : Str) ⟨#[c]⟩ 0 ("abcdefghijklmnopqrstuvwxyz" : Str).length 1).isEmpty
def nameB (x:Str):Bool:=decide (1≤x.length) && decide (x.length≤4) && x.cps.toList.all Xj
theorem TF:∀n<26,Xj (97+n)=true:=by decide+kernel
theorem K7:∀n:Nat,n<26→Ce (Str.ofString "abcdefghijklmnopqrstuvwxyz").cps.toList (n:Int)=some (97+n):=by decide+kernel
theorem xV:(Str.ofString "abcdefghijklmnopqrstuvwxyz").length≤sizeLine:=by decide+kernel
theorem rA {i:Int} (h0:0≤i) (h1:i<26):∃n:Nat,i=n∧n<26∧Ce (Str.ofString "abcdefghijklmnopqrstuvwxyz").cps.toList i=some (97+n):=
  ⟨i.toNat,by omega,by omega,by
    obtain⟨n,rfl⟩:∃n:Nat,i=n:=⟨i.toNat,by omega⟩;exact K7 n (by omega)⟩
structure pH (c:Nat) (k:Nat) (x:Str):Prop where
  len:x.length=k
  fst:x.cps[0]? = some c
  all:x.cps.toList.all Xj=true
theorem pH.one {n:Nat} (h:n<26):pH (97+n) 1 ⟨#[97+n]⟩:=⟨rfl,rfl,by simp[TF n h]⟩
theorem pH.name {c k:Nat} {x:Str} (h:pH c k x) (h1:1≤k) (h4:k≤4):nameB x=true:=by
  unfold nameB;rw[h.len,h.all];simp;omega
section
variable {κ:Type} [DecidableEq κ]
def j_ (kvs:List (κ×V)) (k:κ):Option V:=(kvs.find? fun kv=>decide (kv.1=k)).map (·.2)
def putK (kvs:List (κ×V)) (k:κ) (v:V):List (κ×V):=
  if (kvs.any fun kv=>decide (kv.1=k))=true then kvs.map (fun kv=>if kv.1=k then (kv.1,v) else kv) else kvs++[(k,v)]
theorem uQ {p:κ×V} {r:List (κ×V)} {k:κ} (e:p.1=k):j_ (p::r) k=some p.2:=by simp[j_,List.find?_cons,e]
theorem uR {p:κ×V} {r:List (κ×V)} {k:κ} (e:¬p.1=k):j_ (p::r) k=j_ r k:=by simp[j_,List.find?_cons,e]
theorem zj (k:κ):∀kvs:List (κ×V),(kvs.any fun kv=>decide (kv.1=k))=(j_ kvs k).isSome
  | []=>rfl
  | p::r=>by
    rw[List.any_cons]
    by_cases e:p.1=k
    ·simp only[uQ e,decide_eq_true e,Bool.true_or,Option.isSome_some]
    ·rw[uR e,decide_eq_false e,Bool.false_or];exact zj k r
theorem rB (kvs:List (κ×V)) (k:κ) (v:V):(putK kvs k v).length≤kvs.length+1:=by
  unfold putK;split
  ·rw[List.length_map];omega
  ·rw[List.length_append,List.length_cons,List.length_nil];omega
theorem TJ {kvs:List (κ×V)} {k:κ} (v:V) (h:j_ kvs k=none):putK kvs k v=kvs++[(k,v)]:=by
  unfold putK;rw[zj,h];exact if_neg (by decide)
theorem lE.o9 {o:Option V} {u:Option Value} (r:lE o u):o.isSome=u.isSome:=by
  cases o with
  | none=>cases u with
    | none=>rfl
    | some _=>exact(show False from r).elim
  | some _=>cases u with
    | none=>exact(show False from r).elim
    | some _=>rfl
theorem lE.getD {o:Option V} {u:Option Value} {d:V} {d':Value} (r:lE o u) (rd:RelV d d'):RelV (o.getD d) (u.getD d'):=by
  cases o with
  | none=>cases u with
    | none=>exact rd
    | some _=>exact(show False from r).elim
  | some _=>cases u with
    | none=>exact(show False from r).elim
    | some _=>exact r
theorem KV.val {kvs:List (κ×V)} {vs:List (κ×Value)} (r:KV kvs vs) (k:κ):lE (j_ kvs k) (valueAt vs k):=by
  unfold KV at r
  induction r with
  | nil=>exact True.intro
  | @cons p q ps qs h t ih=>
    obtain⟨h1,h2⟩:=h
    by_cases e:p.1=k
    · have e':q.1=k:=h1.symm.trans e;have b:valueAt (q::qs) k=some q.2:=by simp[valueAt,List.find?_cons,e']
      rw[uQ e,b];exact h2
    · have e':¬q.1=k:=fun z=>e (h1.trans z);have b:valueAt (q::qs) k=valueAt qs k:=by simp[valueAt,List.find?_cons,e']
      rw[uR e,b];exact ih
theorem KV.any {kvs:List (κ×V)} {vs:List (κ×Value)} (r:KV kvs vs) (k:κ):(kvs.any fun kv=>decide (kv.1=k))=vs.any fun kv=>decide (kv.1=k):=by
  unfold KV at r
  induction r with
  | nil=>rfl
  | cons h t ih=>rw[List.any_cons,List.any_cons,ih,h.1]
theorem KV.repl {kvs:List (κ×V)} {vs:List (κ×Value)} (r:KV kvs vs) (k:κ) {y:V} {u:Value} (ry:RelV y u) :
    KV (kvs.map fun kv=>if kv.1=k then (kv.1,y) else kv) (vs.map fun kv=>if kv.1=k then (kv.1,u) else kv):=by
  unfold KV at r ⊢
  induction r with
  | nil=>exact .nil
  | @cons p q ps qs h t ih=>
    rw[List.map_cons,List.map_cons];refine .cons ?_ ih;obtain⟨h1,h2⟩:=h
    by_cases e:p.1=k
    ·rw[if_pos e,if_pos (h1.symm.trans e)];exact⟨h1,ry⟩
    ·rw[if_neg e,if_neg (fun z=>e (h1.trans z))];exact⟨h1,h2⟩
theorem KV.put {kvs:List (κ×V)} {vs:List (κ×Value)} (r:KV kvs vs) (k:κ) {y:V} {u:Value} (ry:RelV y u):KV (putK kvs k y) (stored vs k u):=by
  unfold putK stored;rw[r.any k]
  by_cases e:(vs.any fun kv=>decide (kv.1=k))=true
  ·rw[if_pos e,if_pos e];exact r.repl k ry
  ·rw[if_neg e,if_neg e];exact Paired.snoc r ⟨rfl,ry⟩
theorem KV.length {kvs:List (κ×V)} {vs:List (κ×Value)} (r:KV kvs vs):kvs.length=vs.length:=Paired.length r
end
theorem zm {P:Program} {w:World} {k:Key} {u:Value} (r:RelV (kV k) u):(bO P w).is k u=true:=by
  cases k with
  | inl i=>obtain⟨t,e⟩:=(show ∃t,u=Value.int i t from r);subst e;exact xR P w i t
  | inr x=>obtain⟨t,e⟩:=(show ∃t,u=Value.str x t from r);subst e;exact Hu P w x t
theorem DN {P:Program} {w:World}:∀{ks:List Key} {us:List Value},Vals (ks.map kV) us→ItemsAre (bO P w) ks us
  | [],_,r=>by rw[List.map_nil] at r;cases r;exact .nil
  | k::ks,_,r=>by
    rw[List.map_cons] at r;cases r with
    | cons h t=>exact .cons (zm h) (DN t)
abbrev KT (H:Hp):List (List Key×V)→List (List Key×Addr×Value)→Prop:=Paired fun p q=>p.1=q.1∧H q.2.1=some (.tup (p.1.map kV))∧RelV p.2 q.2.2
theorem KT.val {H:Hp} {kvs:List (List Key×V)} {xs:List (List Key×Addr×Value)} (r:KT H kvs xs) (k:List Key):lE (j_ kvs k) ((atKey xs k).map (·.2)):=by
  induction r with
  | nil=>exact True.intro
  | @cons p q ps qs h t ih=>
    obtain⟨h1,_,h2⟩:=h
    by_cases e:p.1=k
    · have e':q.1=k:=h1.symm.trans e;have b:atKey (q::qs) k=some q.2:=by simp[atKey,List.find?_cons,e']
      rw[uQ e,b];exact h2
    · have e':¬q.1=k:=fun z=>e (h1.trans z);have b:atKey (q::qs) k=atKey qs k:=by simp[atKey,List.find?_cons,e']
      rw[uR e,b];exact ih
theorem KT.repl {H:Hp} {kvs:List (List Key×V)} {xs:List (List Key×Addr×Value)} (r:KT H kvs xs) (k:List Key) {y:V} {u:Value} (ry:RelV y u) :
    KT H (kvs.map fun kv=>if kv.1=k then (kv.1,y) else kv) (xs.map (putAt k u)):=by
  induction r with
  | nil=>exact .nil
  | @cons p q ps qs h t ih=>
    rw[List.map_cons,List.map_cons];refine .cons ?_ ih;obtain⟨h1,h2,h3⟩:=h;unfold putAt
    by_cases e:p.1=k
    ·rw[if_pos e,if_pos (h1.symm.trans e)];exact⟨h1,h2,ry⟩
    ·rw[if_neg e,if_neg (fun z=>e (h1.trans z))];exact⟨h1,h2,h3⟩
theorem KT.put {H:Hp} {kvs:List (List Key×V)} {xs:List (List Key×Addr×Value)} (r:KT H kvs xs) (k:List Key) {b:Addr} {y:V} {u:Value} (hb:H b=some (.tup (k.map kV))) (ry:RelV y u) :
    KT H (putK kvs k y) (storedH xs k b u):=by
  have e:(kvs.any fun kv=>decide (kv.1=k))=(atKey xs k).isSome:=by
    rw[zj,(r.val k).o9,Option.isSome_map]
  unfold putK storedH;rw[e]
  by_cases q:(atKey xs k).isSome=true
  ·rw[if_pos q,if_pos q];exact r.repl k ry
  ·rw[if_neg q,if_neg q];exact Paired.snoc r ⟨rfl,hb,ry⟩
theorem KT.keeps {H H':Hp} {kvs:List (List Key×V)} {xs:List (List Key×Addr×Value)} (r:KT H kvs xs) (ht:∀b ys,H b=some (.tup ys)→H' b=some (.tup ys)):KT H' kvs xs:=
  Paired.qaQ r fun _ _ z=>⟨z.1,ht _ _ z.2.1,z.2.2⟩
section
variable {P:Program} {w:World} {H:Hp} {h:Heap} {a:Addr}
theorem qai {u:HO} (ok:qT P w H h) (e:Rd H a u):cj P w H h a u:=e.ok ok
theorem zq {kvs:List (Key×V)} (ok:qT P w H h) (e:Rd H a (.dK kvs)):kvs.length≤sizeLine∧(a == sysModules)=false∧∃vs,KV kvs vs∧h.DictOf (bO P w) a vs:=
  show cj P w H h a (.dK kvs) from qai ok e
theorem TQ {kvs:List (Key×V)} (ok:qT P w H h) (e:H a=some (.dK kvs)):kvs.length≤sizeLine∧(a == sysModules)=false∧∃vs,KV kvs vs∧h.DictOf (bO P w) a vs:=zq ok (.inl e)
theorem wL {ks:List Key} (ok:qT P w H h) (e:H a=some (.tup (ks.map kV))):(tupleKind (bO P w)).is h ks a:=by
  obtain⟨_,its,r,o,h1,h2,n,h3⟩:=(show cj P w H h a (.tup (ks.map kV)) from ok a _ e);exact⟨o,its.toArray,n,h1,h2,h3,by simpa using DN r⟩
theorem zu {kvs:List (List Key×V)} (ok:qT P w H h) (e:Rd H a (.dT kvs)):kvs.length≤sizeLine∧(a == sysModules)=false∧
    ∃xs,KT H kvs xs∧h.DictOfH (tupleKind (bO P w)) a xs:=by
  obtain⟨z,y,xs,r,o,es,ep,h1,h2,h3,h4,h5⟩:=(show cj P w H h a (.dT kvs) from qai ok e);refine⟨z,y,xs,r,o,es,ep,h1,h2,h3,h4,fun x hx=>?_,h5⟩;have all:∀{l:List (List Key×V)} {m:List (List Key×Addr×Value)},KT H l m→∀x∈m,(tupleKind (bO P w)).is h x.1 x.2.1:=by
    intro l m q
    induction q with
    | nil=>intro x hx;exact nomatch hx
    | @cons p q ps qs hq t ih=>
      intro x hx
      rcases List.mem_cons.mp hx with e | hx
      ·subst e;exact wL ok (by rw[← hq.1];exact hq.2.1)
      ·exact ih x hx
  exact all r x hx
theorem qd_ {kvs:List (List Key×V)} (ok:qT P w H h) (e:H a=some (.dT kvs)):kvs.length≤sizeLine∧(a == sysModules)=false∧
    ∃xs,KT H kvs xs∧h.DictOfH (tupleKind (bO P w)) a xs:=zu ok (.inl e)
end
def iZ (H:Hp) (a:Addr) (y:V) (r:Option V):Prop:=
  (∃kvs k,Rd H a (.dK kvs)∧y=kV k∧r=j_ kvs k)∨∃kvs k b,Rd H a (.dT kvs)∧y = .ref b∧H b=some (.tup (k.map kV))∧r=j_ kvs k
def FJ (H:Hp) (a:Addr) (y v:V) (H':Hp):Prop:=
  (∃kvs k,H a=some (.dK kvs)∧y=kV k∧kvs.length<sizeLine∧H'=upd H a (.dK (putK kvs k v)))∨
  ∃kvs k b,H a=some (.dT kvs)∧y = .ref b∧H b=some (.tup (k.map kV))∧kvs.length<sizeLine∧H'=upd H a (.dT (putK kvs k v))
theorem iZ.k {H:Hp} {a:Addr} {kvs:List (Key×V)} {k:Key} (e:H a=some (.dK kvs)):iZ H a (kV k) (j_ kvs k):=.inl ⟨kvs,k,.inl e,rfl,rfl⟩
theorem FJ.k {H:Hp} {a:Addr} {kvs:List (Key×V)} {k:Key} {v:V} (e:H a=some (.dK kvs)) (hl:kvs.length<sizeLine):FJ H a (kV k) v (upd H a (.dK (putK kvs k v))):=.inl ⟨kvs,k,e,rfl,hl,rfl⟩
section
variable {X:Cx} {p_:List (Addr×Obj)} {σ:St} {H:Hp} {s:Shared} {a:Addr} {y v:V} {u r:Value} {o:Option V} {A:Around} {E:Value→Shared→Prop}
theorem Inv.big (I:Inv X p_ σ H s):sysModules<s.heap.objs.size:=by
  have h:mainGlobals<s.heap.objs.size:=(I.mod.glob.keeps I.bk).lt;exact Nat.lt_trans (by decide) h
theorem Qw {Q:Value→Shared→Prop} (hu:A.units+1<cLine) (I:Inv X p_ σ H s) (g:iZ H a y (some v)) (ry:RelV y u) (h:∀w' s',Inv X p_ σ H s'→RelV v w'→Q w' s') :
    wpAny (model X.prog X.w) A (getItem (.ref a) u) Q E s:=by
  rcases g with⟨kvs,k,e,ey,l⟩ | ⟨kvs,k,b,e,ey,eb,l⟩
  ·subst ey;obtain⟨z,hd,vs,rel,dd⟩:=zq I.hok e;obtain⟨w',hw,SX⟩:=lE.some_of (v:=v) (o:=valueAt vs k) (by rw[l];exact rel.val k);exact wpAny_getItem_of (zm ry) dd.mapOf hw (h w' _ (I.tok _) SX)
  · subst ey;cases (show u=Value.ref b from ry);obtain⟨z,hd,xs,rel,dd⟩:=zu I.hok e;obtain⟨w',hw,SX⟩:=lE.some_of (v:=v) (o:=(atKey xs k).map (·.2)) (by rw[l];exact rel.val k);obtain⟨p,hp,hp2⟩:=Option.map_eq_some_iff.mp hw;refine wpAny_getItem_heap (tupleKind_room_in1 hu) (wL I.hok eb) dd hp ?_;rw[hp2];exact h w' _ (I.tok _) SX
theorem qjg {Q:Value→Shared→Prop} (hu:A.units+1<cLine) (I:Inv X p_ σ H s) (g:iZ H a y o) (ry:RelV y u) (h:∀s',Inv X p_ σ H s'→Q (.bool o.isSome) s') :
    wpAny (model X.prog X.w) A (compareOp .In u (.ref a)) Q E s:=by
  rcases g with⟨kvs,k,e,ey,l⟩ | ⟨kvs,k,b,e,ey,eb,l⟩
  ·subst ey;obtain⟨z,hd,vs,rel,dd⟩:=zq I.hok e;refine wpAny_in_of (zm ry) hd dd.mapOf ?_;rw[← (rel.val k).o9,← l];exact h _ (I.tok _)
  ·subst ey;cases (show u=Value.ref b from ry);obtain⟨z,hd,xs,rel,dd⟩:=zu I.hok e;refine wpAny_in_heap (tupleKind_room_in1 hu) (wL I.hok eb) hd dd ?_;have q:=(rel.val k).o9;rw[Option.isSome_map] at q;rw[← q,← l];exact h _ (I.tok _)
theorem Ye {Q:Value→Shared→Prop} (hu:A.units+1<cLine) (I:Inv X p_ σ H s) (g:iZ H a y o) (ry:RelV y u) (h:∀s',Inv X p_ σ H s'→Q (.bool (!o.isSome)) s') :
    wpAny (model X.prog X.w) A (compareOp .NotIn u (.ref a)) Q E s:=by
  rcases g with⟨kvs,k,e,ey,l⟩ | ⟨kvs,k,b,e,ey,eb,l⟩
  ·subst ey;obtain⟨z,hd,vs,rel,dd⟩:=zq I.hok e;refine wpAny_notIn_of (zm ry) hd dd.mapOf ?_;rw[← (rel.val k).o9,← l];exact h _ (I.tok _)
  ·subst ey;cases (show u=Value.ref b from ry);obtain⟨z,hd,xs,rel,dd⟩:=zu I.hok e;refine wpAny_notIn_heap (tupleKind_room_in1 hu) (wL I.hok eb) hd dd ?_;have q:=(rel.val k).o9;rw[Option.isSome_map] at q;rw[← q,← l];exact h _ (I.tok _)
theorem FN {h':Heap} {t':Nat} {ob:HO} (I:Inv X p_ σ H s) (mu:Mut (H a)) (hs:Heap.SameBut a s.heap h') (he:∃q,h'.get? a=some q) (new:cj X.prog X.w (upd H a ob) h' a ob) :
    Inv X p_ σ (upd H a ob) {s with heap:=h',toks:=t'}:=
  I.write (x:=a) (e:=a) mu (.inl rfl) (fun b q hb z=>(hs.2 b hb).trans z) he new
theorem TV {P:Program} {w:World} {H':Hp} {h':Heap} {kvs:List (Key×V)} {vs:List (Key×Value)} (z:kvs.length≤sizeLine) (hd:(a == sysModules)=false) (rel:KV kvs vs) (dd:h'.DictOf (bO P w) a vs) :
    cj P w H' h' a (.dK kvs):=⟨z,hd,vs,rel,dd⟩
theorem Qx {H':Hp} {Q:Unit→Shared→Prop} (hu:A.units+1<cLine) (I:Inv X p_ σ H s) (g:FJ H a y v H') (ry:RelV y u) (rv:RelV v r) (h:∀s',Inv X p_ σ H' s'→Q () s') :
    wpAny (model X.prog X.w) A (setItem (.ref a) u r) Q E s:=by
  rcases g with⟨kvs,k,e,ey,l,eH⟩ | ⟨kvs,k,b,e,ey,eb,l,eH⟩
  · subst ey eH;obtain⟨z,hd,vs,rel,dd⟩:=TQ I.hok e;have hz:vs.length≤sizeLine:=by rw[← rel.length];exact z
    have hl:(putK kvs k v).length≤sizeLine:=by have:=rB kvs k v;omega
    refine wpAny_setItem_pairs (hsz:=hz) (zm ry) dd fun h' Xk hs=>h _ ?_;have he:∃q,h'.get? a=some q:=let ⟨q,_,_,hq,_⟩:=Xk;⟨q,hq⟩;exact FN I (by rw[e];exact True.intro) hs he (TV hl hd (rel.put k rv) Xk)
  · subst ey eH;cases (show u=Value.ref b from ry);obtain⟨z,hd,xs,rel,dd⟩:=qd_ I.hok e;have hz:xs.length≤sizeLine:=by rw[← Paired.length rel];exact z
    have hl:(putK kvs k v).length≤sizeLine:=by have:=rB kvs k v;omega
    refine wpAny_setItem_heap (hsz:=hz) (tupleKind_room_in1 hu) (wL I.hok eb) dd fun h' Xk hs=>h _ ?_;obtain⟨q,es,ep,hq,h2,h3,h4,_,h5⟩:=Xk;refine FN I (by rw[e];exact True.intro) hs ⟨q,hq⟩ ⟨hl,hd,_,(rel.put k eb rv).keeps fun c ys ec=>?_,q,es,ep,hq,h2,h3,h4,h5⟩;rw[aB (yP ec e (fun z=>nomatch z))];exact ec
end
def qea (i:Expr):Prop:=∀ov iv,subscripted i false ov iv=operate [ov,iv] (getItem ov iv)
theorem Yg {prog:Program} {w:World} {A:Around} {E:Value→Shared→Prop} {s:Shared} {env:Env} {value slice:Expr} {pos:Pos} {T id:String} {Q:Value→Shared→Prop}
    (hl:typeLookup (.type T) "__getitem__" = pure (some (.builtin id))) (hs:qea slice)
    (h:wpAny (model prog w) A (eval value env) (fun o s₁=>wpAny (model prog w) A (eval slice env) (fun i s₂=>s₂.TypeIs o T∧wpAny (model prog w) A (getItem o i) Q E s₂) E s₁) E s) :
    wpAny (model prog w) A (eval (.Subscript value slice pos) env) Q E s:=by
  refine Subscript_ (wpAny_mono h (fun o s₁ h₁=>wpAny_mono h₁ (fun i s₂ h₂=>?_) fun _ _ x=>x) fun _ _ x=>x);obtain⟨hT,h₂⟩:=h₂;unfold subscriptTail;refine wpAny_bind ?_;rw[getitemInPython_of_ne hT.not_modules];refine wpAny_bind (wpAny_specialOf hT hl ?_);have fin:wpAny (model prog w) A (subscripted slice false o i) (fun r s₃=>wpAny (model prog w) A (letTemporaryGo value o r >>= fun _=>pure r) Q E s₃) E s₂:=by
    rw[hs o i];exact wpAny_operating (wpAny_mono h₂ (fun r s₃ h₃=>wpAny_bind (wpAny_letTemporaryGo (wpAny_pure h₃))) fun _ _ x=>x)
  first
    | exact wpAny_pure (wpAny_bind fin)
    | exact wpAny_bind (wpAny_pure (wpAny_bind fin))
    | exact wpAny_bind fin
theorem Ie {X:Cx} {p_:List (Addr×Obj)} {σ:St} {H:Hp} {s:Shared} {a:Addr} {y:V} {o:Option V} (I:Inv X p_ σ H s) (g:iZ H a y o):s.TypeIs (.ref a) "dict" :=by
  rcases g with⟨kvs,k,e,_,_⟩ | ⟨kvs,k,b,e,_,_,_⟩
  ·obtain⟨_,_,vs,_,dd⟩:=zq I.hok e;exact dd.typeIs
  ·obtain⟨_,_,xs,_,dd⟩:=zu I.hok e;exact dd.typeIs
def TX (td ty:TE):TE:=fun σ H Q=>td σ H fun x H1=>ty σ H1 fun y H2=>∃a v,x = .ref a∧iZ H2 a y (some v)∧Q v H2
def qbA (ty td:TE):TE:=fun σ H Q=>ty σ H fun y H1=>td σ H1 fun x H2=>∃a o,x = .ref a∧iZ H2 a y o∧Q (.bl o.isSome) H2
def FP (ty td:TE):TE:=fun σ H Q=>ty σ H fun y H1=>td σ H1 fun x H2=>∃a o,x = .ref a∧iZ H2 a y o∧Q (.bl (!o.isSome)) H2
def TY (td ty tv:TE):TS:=fun D σ H=>tv σ H fun v H1=>td σ H1 fun x H2=>ty σ H2 fun y H3=>∃a H4,x = .ref a∧FJ H3 a y v H4∧D.nx σ H4
section
variable {X:Cx} {o i e value:Expr} {pos pos' tpos:Pos} {td ty tv:TE}
theorem N6 (hu:X.A.units+1<cLine) (ho:PE X o td) (hi:PE X i ty) (hs:qea i):PE X (.Subscript o i pos) (TX td ty):=by
  intro p_ s σ H Q I h;refine Yg PySem.F.slot_dict_getitem.lookup hs (cB (ho p_ s σ H _ I h) fun u s1 ⟨x,H1,I1,rx,q1⟩=>cB (hi p_ s1 σ H1 _ I1 q1) fun iv s2 ⟨y,H2,I2,ry,a,v,ex,g,q2⟩=>?_);subst ex;obtain rfl:u=Value.ref a:=rx;exact⟨Ie I2 g,Qw hu I2 g ry fun w' s3 I3 SX=>⟨v,H2,I3,SX,q2⟩⟩
theorem qbB (hu:X.A.units+1<cLine) (hi:PE X i ty) (ho:PE X o td):PC X .In i o (qbA ty td):=by
  intro p_ s σ H Q I h;refine cB (hi p_ s σ H _ I h) fun iv s1 ⟨y,H1,I1,ry,q1⟩=>cB (ho p_ s1 σ H1 _ I1 q1) fun u s2 ⟨x,H2,I2,rx,a,ov,ex,g,q2⟩=>?_;subst ex;obtain rfl:u=Value.ref a:=rx;exact qjg hu I2 g ry fun s3 I3=>⟨.bl ov.isSome,H2,I3,rfl,q2⟩
theorem Qy (hu:X.A.units+1<cLine) (hi:PE X i ty) (ho:PE X o td):PC X .NotIn i o (FP ty td):=by
  intro p_ s σ H Q I h;refine cB (hi p_ s σ H _ I h) fun iv s1 ⟨y,H1,I1,ry,q1⟩=>cB (ho p_ s1 σ H1 _ I1 q1) fun u s2 ⟨x,H2,I2,rx,a,ov,ex,g,q2⟩=>?_;subst ex;obtain rfl:u=Value.ref a:=rx;exact Ye hu I2 g ry fun s3 I3=>⟨.bl (!ov.isSome),H2,I3,rfl,q2⟩
theorem Yh (hu:X.A.units+1<cLine) (ho:PE X o td) (hi:PE X i ty) (hv:PE X value tv) (hs:swapsWith value (some (.Subscript o i pos')) pos.line X.env=pure false) :
    PS X (.Assign [.Subscript o i pos'] value pos) (TY td ty tv):=by
  intro p_ s σ H D I h;refine wpAny_Assign_Subscript (cB (hv p_ s σ H _ I h) fun r s1 ⟨v,H1,I1,rv,q1⟩=>cB (ho p_ s1 σ H1 _ I1 q1) fun u s2 ⟨x,H2,I2,rx,q2⟩=>cB (hi p_ s2 σ H2 _ I2 q2) fun iv s3 ⟨y,H3,I3,ry,a,H4,ex,g,q3⟩=>?_) hs;subst ex;obtain rfl:u=Value.ref a:=rx;exact Qx hu I3 g ry rv fun s4 I4=>⟨σ,H4,I4,q3⟩
end
theorem T3 {P:Program} {w:World} {H:Hp} (h:Heap) (hb:sysModules<h.objs.size):cj P w H (h.push {cls:=.type "dict",data:=.dict #[]}) h.objs.size (.dK []):=
  ⟨Nat.zero_le _,beq_eq_false_iff_ne.mpr (Ne.symm (Nat.ne_of_lt hb)),[],.nil,Heap.DictOf.new h⟩
def uw:List (TE×TE)→St→Hp→(List (V×V)→Hp→Prop)→Prop
  | [],_,H,Q=>Q [] H
  | (tk,tv)::r,σ,H,Q=>tk σ H fun x H1=>tv σ H1 fun y H2=>uw r σ H2 fun ps H3=>Q ((x,y)::ps) H3
abbrev VV:List (V×V)→List (Value×Value)→Prop:=Paired fun p q=>RelV p.1 q.1∧RelV p.2 q.2
def PPs (X:Cx) (pos:Pos) (keys:List (Option Expr)) (values:List Expr) (RL:List (TE×TE)):Prop:=
  ∀(p_:List (Addr×Obj)) (s:Shared) (σ:St) (H:Hp) (Q:List (V×V)→Hp→Prop),Inv X p_ σ H s→uw RL σ H Q→
    wpAny (model X.prog X.w) X.A (evalPairs (pairTrees keys values X.env pos)) (fun vs s'=>∃ps H',Inv X p_ σ H' s'∧VV ps vs∧Q ps H') X.xe s
theorem Yi {X:Cx} {pos:Pos}:PPs X pos [] [] []:=fun p_ s σ H Q I h=>pairTrees_nil_walk ⟨[],H,I,.nil,h⟩
theorem T7 {X:Cx} {pos:Pos} {k v:Expr} {ks:List (Option Expr)} {vs:List Expr} {tk tv:TE} {RL:List (TE×TE)} (hk:PE X k tk) (hv:PE X v tv) (hr:PPs X pos ks vs RL) :
    PPs X pos (some k::ks) (v::vs) ((tk,tv)::RL):=fun p_ s σ H Q I h=>
  pairTrees_cons_walk (cB (hk p_ s σ H _ I h) fun u s1 ⟨x,H1,I1,rx,q1⟩=>cB (hv p_ s1 σ H1 _ I1 q1) fun w2 s2 ⟨y,H2,I2,ry,q2⟩=>
    cB (hr p_ s2 σ H2 _ I2 q2) fun ws s3 ⟨ps,H3,I3,rel,q3⟩=>⟨(x,y)::ps,H3,I3,.cons ⟨rx,ry⟩ rel,q3⟩)
def ux (kvs more:List (Key×V)):List (Key×V):=more.foldl (fun acc kv=>putK acc kv.1 kv.2) kvs
theorem KV.merge:∀{more:List (Key×V)} {rs:List (Key×Value)} {kvs:List (Key×V)} {vs:List (Key×Value)},KV more rs→KV kvs vs→KV (ux kvs more) (merged vs rs):=by
  intro more rs kvs vs r;unfold KV at r
  induction r generalizing kvs vs with
  | nil=>intro q;exact q
  | @cons p q ps qs h t ih=>
    intro r0;have e:KV (putK kvs p.1 p.2) (stored vs q.1 q.2):=by
      have:=r0.put p.1 h.2;rw[← h.1];exact this
    exact ih e
theorem tD:∀(more kvs:List (Key×V)),(ux kvs more).length≤kvs.length+more.length
  | [],kvs=>by show kvs.length≤kvs.length+0;omega
  | p::r,kvs=>by
    have h1:=tD r (putK kvs p.1 p.2);have h2:=rB kvs p.1 p.2;show(ux (putK kvs p.1 p.2) r).length≤_;rw[List.length_cons];omega
theorem zx {P:Program} {w:World}:∀{kvs:List (Key×V)} {ws:List (Value×Value)},VV (kvs.map fun kv=>(kV kv.1,kv.2)) ws→∃rs,Carries (bO P w) ws rs∧KV kvs rs
  | [],_,r=>by rw[List.map_nil] at r;cases r;exact⟨[],True.intro,.nil⟩
  | p::kvs,_,r=>by
    rw[List.map_cons] at r;cases r with
    | @cons a b as bs h t=>
      obtain⟨rs,c,q⟩:=zx (P:=P) (w:=w) t;obtain⟨b1,b2⟩:=b;exact⟨(p.1,b2)::rs,⟨zm h.1,rfl,c⟩,.cons ⟨rfl,h.2⟩ q⟩
def qaj (RL:List (TE×TE)):TE:=fun σ H Q=>∀p,H p=none→uw RL σ (upd H p (.dK [])) fun ps H2=>H2 p=some (.dK [])∧∃kvs:List (Key×V),ps=kvs.map (fun kv=>(kV kv.1,kv.2))∧kvs.length≤15∧Q (.ref p) (upd H2 p (.dK (ux [] kvs)))
theorem Yj {X:Cx} {pos:Pos} {keys:List (Option Expr)} {values:List Expr} {RL:List (TE×TE)} (h:PPs X pos keys values RL) (hall:keys.all (·.isSome)=true) (hl:keys.length=values.length) (h0:keys≠[])
    (h15:keys.length≤15):PE X (.Dict keys values pos) (qaj RL):=by
  intro p_ s σ H Q I q;have hn:=I.hok.fresh (Nat.le_refl s.heap.objs.size);have I1:=I.laid (a:=s.heap.objs.size) (o:=.dK []) (h':=s.heap.push {cls:=.type "dict",data:=.dict #[]}) (t':=s.toks) (fun _ _ q=>Heap.get?_push_of_some _ q) (Nat.le_refl _) (T3 s.heap I.big);refine wpAny_Dict_walk (knd:=bO X.prog X.w) hall hl h0 h15 (cB (h p_ _ σ _ _ I1 (q _ hn)) fun ws s2 zz=>?_);obtain⟨ps,H2,I2,rel,e,kvs,ep,lk,q2⟩:=zz;subst ep;obtain⟨rs,c,rk⟩:=zx (P:=X.prog) (w:=X.w) rel;obtain⟨z,hd,vs0,r0,dd⟩:=TQ I2.hok e;cases r0;refine⟨rs,c,dd,fun h' Xk hs=>⟨.ref s.heap.objs.size,_,?_,rfl,q2⟩⟩;have hz:(ux [] kvs).length≤sizeLine:=by
    have h1:=tD kvs [];rw[List.length_nil] at h1;rw[sizeLine_eq];omega
  have he:∃q,h'.get? s.heap.objs.size=some q:=let ⟨q,_,_,hq,_⟩:=Xk;⟨q,hq⟩;exact FN I2 (by rw[e];exact True.intro) hs he (TV hz hd (rk.merge .nil) Xk)
structure M2 (X:Cx) (o:Expr) (m:Str) (apos:Pos) (e f:Expr) (cpos:Pos):Prop where
  base:attributeBase o m X.env (eval o X.env)=eval o X.env
  few:((backTo cpos (starEach [e,f] X.env)).all (fun x=>!x.1) && (backToKw cpos (keywordEach [] X.env)).all (fun x=>x.1.isSome)
    && decide (([e,f]:List Expr).length+([]:List Keyword).length+(if ([]:List Keyword).isEmpty then 0 else 1)<30))=true
  line:(apos.endLine == cpos.line)=true
  trees:backTo cpos (starEach [e,f] X.env)=[(false,eval e X.env),(false,eval f X.env)]
def IsD (H:Hp) (a:Addr):Prop:=(∃kvs,Rd H a (.dK kvs))∨∃kvs,Rd H a (.dT kvs)
theorem qbC {X:Cx} {p_:List (Addr×Obj)} {σ:St} {H:Hp} {s:Shared} {a:Addr} (I:Inv X p_ σ H s) (d:IsD H a) :
    s.TypeIs (.ref a) "dict" ∧(∀b,Value.ref a = .ref b→∃ob,s.heap.get? b=some ob∧ob.dict=none)∧(a == sysModules)=false:=by
  rcases d with⟨kvs,e⟩ | ⟨kvs,e⟩
  ·obtain⟨_,hd,vs,_,dd⟩:=zq I.hok e;refine⟨dd.typeIs,fun b q=>?_,hd⟩;cases q;obtain⟨ob,_,_,h1,h2,_⟩:=dd;exact⟨ob,h1,h2.2.1⟩
  ·obtain⟨_,hd,xs,_,dd⟩:=zu I.hok e;refine⟨dd.typeIs,fun b q=>?_,hd⟩;cases q;obtain⟨ob,_,_,h1,h2,_⟩:=dd;exact⟨ob,h1,h2.2.1⟩
section
variable {X:Cx} {p_:List (Addr×Obj)} {σ:St} {H:Hp} {s:Shared} {a:Addr} {y d:V} {u r:Value} {o:Option V} {A:Around} {E:Value→Shared→Prop}
theorem qbD {Q:Value→Shared→Prop} (hu:A.units+1<cLine) (I:Inv X p_ σ H s) (g:iZ H a y o) (ry:RelV y u) (rd:RelV d r) (h:∀w' s',Inv X p_ σ H s'→RelV (o.getD d) w'→Q w' s') :
    wpAny (model X.prog X.w) A (call (.builtin "dict.get") [.ref a,u,r]) Q E s:=by
  rcases g with⟨kvs,k,e,ey,l⟩ | ⟨kvs,k,b,e,ey,eb,l⟩
  ·subst ey;obtain⟨z,hd,vs,rel,dd⟩:=zq I.hok e;refine call_meetsIn PySem.F.slot_dict_get dd.typeIs PySem.F.entry_dict_get (PySem.F.args_dict_get_3 _ _ _) (meets_dict_get_default (bO X.prog X.w) a (zm ry) hd r) ⟨_,dd.mapOf,h _ _ (I.tok _) ?_⟩;rw[l];exact(rel.val k).getD rd
  ·subst ey;cases (show u=Value.ref b from ry);obtain⟨z,hd,xs,rel,dd⟩:=zu I.hok e;refine call_meetsIn PySem.F.slot_dict_get dd.typeIs PySem.F.entry_dict_get (PySem.F.args_dict_get_3 _ _ _) (meetsH_dict_get_default (tupleKind (bO X.prog X.w)) a b hd r) ⟨tupleKind_room_in1 hu,k,xs,wL I.hok eb,dd,h _ _ (I.tok _) ?_⟩;rw[l];exact(rel.val k).getD rd
end
def K8 (td ty tx:TE):TE:=fun σ H Q=>td σ H fun x H1=>∃a,x = .ref a∧IsD H1 a∧ty σ H1 fun y H2=>tx σ H2 fun z H3=>∃o,iZ H3 a y o∧Q (o.getD z) H3
section
variable {X:Cx} {o e f:Expr} {apos cpos:Pos} {td ty tx:TE}
theorem Ig (hu:X.A.units+1<cLine) (ho:PE X o td) (he:PE X e ty) (hf:PE X f tx) (m:M2 X o "get" apos e f cpos):PE X (.Call (.Attribute o "get" apos) [e,f] [] cpos) (K8 td ty tx):=by
  intro p_ s σ H Q I h;refine wpAny_Call_method m.base m.few m.line PySem.F.plainAttrs_dict PySem.F.slot_dict_get PySem.F.type_dict_get (cB (ho p_ s σ H _ I h) fun u s1 zz=>?_);obtain⟨x,H1,I1,rx,a,ex,d,q1⟩:=zz;subst ex;obtain rfl:u=Value.ref a:=rx;obtain⟨t1,t2,_⟩:=qbC I1 d;refine⟨t1,t2,?_⟩;rw[m.trees];refine Calls.callWith_builtin rfl (Calls.evalArgs_plain (Calls.spliced_cons (cB (he p_ s1 σ H1 _ I1 q1) fun iv s2 ⟨y,H2,I2,ry,q2⟩=>
    Calls.spliced_cons (cB (hf p_ s2 σ H2 _ I2 q2) fun fv s3 ⟨z,H3,I3,rz,ov,g,q3⟩=>Calls.spliced_nil ?_))))
  exact qbD hu I3 g ry rz fun w' s4 I4 SX=>⟨_,H3,I4,SX,q3⟩
end
structure Nm2 (mg:Str→Option Value):Prop where
  enumerate:mg "enumerate" = none
  any:mg "any" = none
  dict:mg "dict" = none
  sorted:mg "sorted" = none
  repr:mg "repr" = none
  bool:mg "bool" = none
theorem Inv.N7 {X:Cx} {p_:List (Addr×Obj)} {σ:St} {H:Hp} {s:Shared} {h2:Heap} {t':Nat} {x y:V} {u u':Value} (I:Inv X p_ σ H s) (I1:Inv X p_ σ H {s with heap:=h2,toks:=t'}) (ru:RelV x u) (ru':RelV y u')
    (q_:h2.get? s.heap.objs.size=some {cls:=.type "tuple",data:=.seq #[u,u']}):Inv X p_ σ (upd H s.heap.objs.size (.tup [x,y])) {s with heap:=h2,toks:=t'}:=by
  have hfr:H s.heap.objs.size=none:=I.hok.fresh (Nat.le_refl _);refine⟨I1.ok,I1.os,I1.bare,⟨I1.base.keep,I1.base.slot,fun c o e n hx=>?_,I1.base.there,fun c zs e=>?_,fun c o v e=>?_,fun c qs e=>?_⟩,I1.loc,I1.cell,?_,fun v c e=>?_,fun v hv=>?_,?_,I1.len⟩
  · rw[aB (fun e'=>?_)]
    ·exact I1.base.free c o e n hx
    ·exact absurd (Nat.lt_of_lt_of_le (Heap.lt_size e) I.sz) (by rw[e'];exact Nat.lt_irrefl _)
  ·have e':=I1.base.tups c zs e;rw[aB (aH e' hfr)];exact e'
  ·have e':=I1.base.oU c o v e;rw[aB (aH e' hfr)];exact e'
  ·obtain⟨m,e'⟩:=I1.base.pF c qs e;exact⟨m,by rw[aB (aH e' hfr)];exact e'⟩
  ·rw[aB (Nat.ne_of_lt I.lt)];exact I1.free
  ·obtain⟨w',qc⟩:=I.cell v c e;rw[aB (Nat.ne_of_lt qc.lt)];exact I1.gq v c e
  ·obtain⟨f1,f2,f3⟩:=I1.pin v hv;refine⟨f1,?_,f3⟩;rw[aB (Nat.ne_of_lt (Heap.lt_size (I.pin v hv).1))];exact f2
  · intro c v e
    by_cases hcs:c=s.heap.objs.size
    ·subst hcs;rw[ao] at e;cases e;exact⟨by show 2≤sizeLine;rw[sizeLine_eq];decide,[u,u'],.cons ru (.cons ru' .nil),⟨_,q_,rfl,0,rfl⟩⟩
    · rw[aB hcs] at e;refine(I1.hok c v e).stay (fun _ _ _ qq=>qq) (fun d qd=>?_) fun d zs qd=>?_
      ·rw[aB (aH qd hfr)];exact qd
      ·rw[aB (aH qd hfr)];exact qd
def Ite (K:W.Frag) (a:Addr):It:=
  ⟨fun i H=>∃xs x,aX K H a xs∧xs[i]? = some x,
   fun i H v H'=>∃t x,v = .ref t∧H t=none∧H'=upd H t (.tup [.int i,x])∧∀xs,aX K H a xs→xs[i]? = some x,
   fun i H=>∃xs,aX K H a xs∧xs.length≤i⟩
structure qbE (e it a:Addr) (i:Nat) (h:Heap):Prop where
  he:∃old,IsEnum h e it i old
  hi:h.IsListIter it a i
theorem Qz {P:Program} {w:World} {K:W.Frag} {es:List Expr} {k:Nat} {pos:Pos} {e it a:Addr} (nei:e≠it) :
    Turn P w K (.Tuple es k pos) (Ite K a) [e,it] e (qbE e it a) where
  mem:=by simp
  obj:=fun i h st c hc=>by
    simp only[List.mem_cons,List.not_mem_nil,or_false] at hc
    rcases hc with rfl | rfl
    ·obtain⟨old,q⟩:=st.he;exact⟨_,q,fun v e=>nomatch e⟩
    ·obtain⟨o,e,_,d⟩:=st.hi;exact⟨o,e,fun v y=>by rw[d] at y;cases y⟩
  keep:=fun i h h' st kk=>by
    obtain⟨old,q⟩:=st.he;exact⟨⟨old,kk e (by simp) _ q⟩,st.hi.at fun o z=>kk it (by simp) o z⟩
  item:=by
    intro X hP hw hK hc i p_ s σ H E I hf st hg;subst hP hw hK;obtain⟨xs,x,qa,hx⟩:=hg;obtain⟨its,rv,pl,hz1⟩:=I.list qa;obtain⟨u,hu,ru⟩:=rv.get hx;obtain⟨old,hE⟩:=st.he;obtain⟨o1,e1,c1,_⟩:=id st.hi;refine wpAny_pyNext_enum_item hE st.hi pl.isList (x:=u) (by simpa using hu) nei fun h' a1 a2 a3 a4 kk=>?_;refine⟨_,rfl,wpAny_letOwnedTupleGo_enum a1 fun h2 b1 sb=>?_⟩;have lt:∀{c o},s.heap.get? c=some o→s.heap.objs.size≠c:=fun e=>Nat.ne_of_gt (Heap.lt_size e);have hn:H s.heap.objs.size=none:=I.hok.fresh (Nat.le_refl _);have HX:∀c o,c∉[e,it]→s.heap.get? c=some o→h2.get? c=some o:=fun c o hc z=>by
      simp only[List.mem_cons,List.not_mem_nil,or_false,not_or] at hc;exact(sb.2 c hc.1).trans (kk c o hc.1 hc.2 z)
    have I1:Inv X p_ σ H {s with heap:=h2,toks:=s.toks+1}:=I.jT HX hf;have q_:=sb.extBut _ _ (lt hE) a3;have I2:Inv X p_ σ (upd H s.heap.objs.size (.tup [.int i,x])) {s with heap:=h2,toks:=s.toks+1}:=I.N7 I1 ⟨_,rfl⟩ ru q_;refine⟨.ref s.heap.objs.size,_,I2,rfl,⟨s.heap.objs.size,x,rfl,hn,rfl,fun xs' q'=>by rw[I.j8 q' qa];exact hx⟩,?_,fun c hcm=>?_⟩
    ·exact⟨⟨_,b1⟩,a2.extBut sb.extBut nei.symm⟩
    · have hne:c≠s.heap.objs.size:=by
        simp only[List.mem_cons,List.not_mem_nil,or_false] at hcm
        rcases hcm with rfl | rfl
        ·exact(lt hE).symm
        ·exact(lt e1).symm
      rw[aB hne];exact(hf c hcm).1
  done:=by
    intro X hP hw hK hc i p_ s σ H E I hf st hg;subst hP hw hK;obtain⟨xs,qa,hl⟩:=hg;obtain⟨its,rv,pl,hz1⟩:=I.list qa;obtain⟨old,hE⟩:=st.he;have l1:=rv.length;refine wpAny_pyNext_enum_end (I.ok.hd hc) hE st.hi pl.isList (by simp;omega) fun h' kk=>⟨rfl,I.jT (t':=s.toks) (fun c o hcm z=>?_) hf⟩;simp only[List.mem_cons,List.not_mem_nil,or_false,not_or] at hcm;exact kk c o hcm.2 z
  self:=fun _ _ _ _ _ st h=>by
    obtain⟨old,q⟩:=st.he;exact wpAny_pyIter_enum q h
section
variable {X:Cx} {K:W.Frag}
def T8 (K:W.Frag) (t:TA):TI:=fun σ H R=>t σ H fun vs H1=>∃a xs,vs=[.ref a]∧aX K H1 a xs∧R (Ite K a) H1
theorem wM:bootBuiltins "enumerate" = some (.type "enumerate"):=by decide+kernel
theorem FQ (hK:X.K=K) {es:List Expr} {k:Nat} {pos':Pos} {a:Expr} {ta:TA} {p pos:Pos} (hg:Gl X "enumerate") (hm:X.mg "enumerate" = none) (ha:PA X [a] ta)
    (hs:starEach [a] X.env=[(false,eval a X.env)]:=by rfl) :
    PI X (.Tuple es k pos') (.Call (.Name "enumerate" p) [a] [] pos) (T8 K ta):=by
  subst hK;intro p_ s σ H R I h;refine Call_ (jC I hg hm wM (PyProof.Rows.callWith_type1 (cB (ha pos p_ s σ H _ I h) fun us s1 zz=>?_) (by rw[hs];rfl) (by rfl)));obtain⟨vs,H1,I1,r1,q1⟩:=zz;obtain⟨l1,xs,e,qa,q⟩:=q1;subst e;obtain⟨u,rfl,r⟩:=vals1 r1;obtain rfl:u=Value.ref l1:=r;obtain⟨its,rv,pl,hz1⟩:=I1.list qa;refine call_enumerate_list pl.isList fun h' b1 b2 b3 kk=>?_;refine wpAny_pyIter_enum (s:={s1 with heap:=h'}) b1 ?_;have I2:Inv X p_ σ H1 {s1 with heap:=h'}:=I1.kept (t':=s1.toks) kk;refine⟨s1.heap.objs.size+1,[s1.heap.objs.size+1,s1.heap.objs.size],_,_,H1,rfl,I2,Qz (Nat.succ_ne_self _),⟨⟨_,b1⟩,b2⟩,fun c hc=>?_,q⟩;have hle:s1.heap.objs.size≤c:=by
    simp only[List.mem_cons,List.not_mem_nil,or_false] at hc
    rcases hc with rfl | rfl <;> first | exact Nat.le_add_right _ _ | exact Nat.le_refl _
  exact I1.wD hle (I1.hok.fresh hle)
end
section
variable {X:Cx} {K:W.Frag} {tg:Expr}
theorem N8 (hK:X.K=K) {es:List Expr} {k:Nat} {pos':Pos} {a b:Expr} {ta:TA} {p pos:Pos} (hg:Gl X "zip") (hm:X.mg "zip" = none) (ha:PA X [a,b] ta)
    (hs:starEach [a,b] X.env=[(false,eval a X.env),(false,eval b X.env)]:=by rfl) (hs2:starEach [b] X.env=[(false,eval b X.env)]:=by rfl) :
    PI X (.Tuple es k pos') (.Call (.Name "zip" p) [a,b] [] pos) (X7 K ta):=by subst hK;exact qbq hg hm ha hs hs2
theorem N_ (hK:X.K=K) {o value:Expr} {ta tv:TE} {f:Str} {pos pos':Pos} (ha:PE X o ta) (hv:PE X value tv) (hs:swapsWith value (some (.Attribute o f pos')) pos.line X.env=pure false):PS X (.Assign [.Attribute o f pos'] value pos) (qbd K ta tv f):=by subst hK;exact qbf ha hv hs
end
@[simp ↓] theorem qjh (i:Nat) σ H Q:qaR i σ H Q=(∃v,σ[i]? = some (some v)∧Q v H):=rfl
@[simp ↓] theorem qmB (v:V) z0 H Q:tC v z0 H Q=(Q v H):=rfl
@[simp ↓] theorem qmC (t:TE) σ H Q:tB t σ H Q=(t σ H fun x H1=>∃c,x = .bl c∧Q c H1):=rfl
@[simp ↓] theorem qji (t:TT) σ H Q:qdI t σ H Q=(t σ H fun c H1=>Q (!c) H1):=rfl
@[simp ↓] theorem qh7 (ta:TE) σ H Q:RZ ta σ H Q=(ta σ H fun x H1=>∃c,x = .bl c∧Q (.bl (!c)) H1):=rfl
@[simp ↓] theorem qh8 D σ H:qaa  D σ H=(D.nx σ H):=rfl
@[simp ↓] theorem qjj (t u:TS) D σ H:qaX t u D σ H=(t {D with nx:=u D} σ H):=rfl
@[simp ↓] theorem qh9 (te:TE) D σ H:qab te D σ H=(te σ H fun _ H1=>D.nx σ H1):=rfl
@[simp ↓] theorem qjk (te:TE) D σ H:qdJ te D σ H=(te σ H D.rt):=rfl
@[simp ↓] theorem qeb z0 z1 z2:R0  z0 z1 z2=(False):=rfl
@[simp ↓] theorem qh_ (i:Nat) v σ H Q:Np i v σ H Q=(Q (σ.set i (some v)) H):=rfl
@[simp ↓] theorem qjl vs σ H Q:qaY  vs σ H Q=(vs=[]∧Q σ H):=rfl
@[simp ↓] theorem qia (t:TG) (u:Di) vs σ H Q:R3 t u vs σ H Q=(∃v r,vs=v::r∧t v σ H fun σ' H'=>u r σ' H' Q):=rfl
@[simp ↓] theorem qjm (K:W.Frag) (n:Nat) (t:Di) v σ H Q:Xx K n t v σ H Q=(∃a xs,v = .ref a∧d9 K H a xs∧xs.length=n∧t xs σ H Q):=rfl
@[simp ↓] theorem qjn (to ti:TE) (t:P_) v σ H Q:qdL to ti t v σ H Q=(to σ H fun o H1=>ti σ H1 fun i H2=>t o i v H2 fun H3=>Q σ H3):=rfl
@[simp ↓] theorem qjo (te:TE) (g:TG) D σ H:R4 te g D σ H=(te σ H fun x H1=>g x σ H1 D.nx):=rfl
@[simp ↓] theorem qjp (i:Nat) (te:TE) (ti:Xw) D σ H:qa0 i te ti D σ H=(∃x,σ[i]? = some (some x)∧te σ H fun y H1=>ti x y H1 fun z H2=>D.nx (σ.set i (some z)) H2):=rfl
@[simp ↓] theorem ql_ (f:Int→Int→Int) x y H Q:ipI f x y H Q=(∃i j,x = .int i∧y = .int j∧Q (.int (f i j)) H):=rfl
@[simp ↓] theorem qib (K:W.Frag) (tl:TE) σ H R:Nr K tl σ H R=(tl σ H fun x H1=>∃a,x = .ref a∧(∃xs,aX K H1 a xs)∧R (Ks K a) H1):=rfl
@[simp ↓] theorem qic (ta:TA) σ H R:R5 ta σ H R=(ta σ H fun vs H1=>∃j:Int,vs=[.int j]∧-(2 ^ 62)≤j∧j<2 ^ 62∧R (Kp 0 j.toNat) H1):=rfl
@[simp ↓] theorem qid (ta:TA) σ H R:R6 ta σ H R=(ta σ H fun vs H1=>∃i j:Int,vs=[.int i,.int j]∧(-(2 ^ 62)≤i∧i<2 ^ 62∧-(2 ^ 62)≤j∧j<2 ^ 62)∧R (Kp i (j - i).toNat) H1):=rfl
@[simp ↓] theorem qma (r:R2) (ta tb:TE) σ H Q:RG r ta tb σ H Q=(ta σ H fun x H1=>tb σ H1 fun y H2=>r x y H2 Q):=rfl
@[simp ↓] theorem qie (t:TE) σ H Q:Ny t σ H Q=(t σ H fun x H'=>∃k,x = .bl k∧Q k H'):=rfl
@[simp ↓] theorem qjq (K:W.Frag) (ta:TE) (f:Str) σ H Q:XQ K ta f σ H Q=(ta σ H fun x H1=>∃a C dx fs v,x = .ref a∧H1 a=some (.ins C dx fs)∧Cls K C∧kO K C f∧fs.lookup f=some v∧Q v H1):=rfl
@[simp ↓] theorem qjr (K:W.Frag) (ta tv:TE) (f:Str) D σ H:qbd K ta tv f D σ H=(tv σ H fun y H1=>ta σ H1 fun x H2=>∃a C dx fs,x = .ref a∧H2 a=some (.ins C dx fs)∧Cls K C∧kO K C f∧fs.length<1000∧D.nx σ (upd H2 a (.ins C dx (jF f y fs)))):=rfl
@[simp ↓] theorem qjs z0 H Q:Cj  z0 H Q=(Q [] H):=rfl
@[simp ↓] theorem qif (ta:TE) (tr:TA) σ H Q:tu ta tr σ H Q=(ta σ H fun x H1=>tr σ H1 fun xs H2=>Q (x::xs) H2):=rfl
@[simp ↓] theorem qjt (t:TA) σ H Q:qdU t σ H Q=(t σ H fun xs H1=>xs.length≤sizeLine∧∀p,H1 p=none→Q (.ref p) (upd H1 p (.tup xs))):=rfl
@[simp ↓] theorem qju (t:TA) σ H Q:qdV t σ H Q=(t σ H fun xs H1=>xs.length≤sizeLine∧∀p,H1 p=none→Q (.ref p) (upd H1 p (.lst xs))):=rfl
@[simp ↓] theorem qmb (r:List V→Hp→VK→Prop) (t:TA) σ H Q:XS r t σ H Q=(t σ H fun vs H1=>r vs H1 Q):=rfl
@[simp ↓] theorem qmc (K:W.Frag) (T:String) (r:V→List V→Hp→VK→Prop) (to:TE) (t:TA) σ H Q:tBM K T r to t σ H Q=(to σ H fun x H1=>tyV K T x H1∧t σ H1 fun xs H2=>r x xs H2 Q):=rfl
@[simp ↓] theorem qjv z0 H Q:qd4  z0 H Q=(Q true H):=rfl
@[simp ↓] theorem qjw (tl:TE) σ H R:qbo tl σ H R=(tl σ H fun x H1=>∃z,x = .str z∧R (Its z) H1):=rfl
@[simp ↓] theorem qjx (K:W.Frag) (t:TA) σ H R:X7 K t σ H R=(t σ H fun vs H1=>∃a b xs ys,vs=[.ref a,.ref b]∧aX K H1 a xs∧aX K H1 b ys∧R (RK K a b) H1):=rfl
@[simp ↓] theorem qjy (K:W.Frag) (tl:TE) σ H R:qbx K tl σ H R=(tl σ H fun x H1=>∃b p,x = .ref p∧(∃xs,Ib b K H1 p xs)∧R (Itq b K p) H1):=rfl
structure qjz (Q:VK) where
  n:Nat
structure qbF (g:TG) (tb:TS) (D:Ends) where
  n:Nat
structure qec (c:TT) (tb:TS) (D:Ends) where
  n:Nat
structure QB (g:TG) (tt:TT) (te:TE) (Q:Hp→Prop) where
  n:Nat
structure K9 (A B:Prop) where
  n:Nat
def K_ (sp:Sp) (vs:List V) (H:Hp) (Q:VK) (d:qjz Q) (E:XK):Prop:=sp vs H Q E
def tFr (J:It) (g:TG) (tb:TS) (D:Ends) (d:qbF g tb D) (σ:St) (H:Hp):Prop:=qby J g tb D σ H
def tWh (c:TT) (tb:TS) (D:Ends) (d:qec c tb D) (σ:St) (H:Hp):Prop:=E_ c tb D σ H
def Xl (own:List Str) (caps:List Nat) (J:It) (g:TG) (tt:TT) (te:TE) (Q:Hp→Prop) (d:QB g tt te Q) (D:Addr) (σ:St) (H:Hp):Prop:=jR own caps J g tt te D σ H Q
def fB (b:Bool) (A B:Prop) (d:K9 A B):Prop:=if b=true then A else B
@[simp] theorem qmd (A B:Prop) (d:K9 A B):fB true A B d=A:=rfl
@[simp] theorem qme (A B:Prop) (d:K9 A B):fB false A B d=B:=rfl
theorem fB.of {b:Bool} {A B:Prop} {d:K9 A B} (h1:b=true→A) (h2:b=false→B):fB b A B d:=by
  cases b with
  | true=>exact h1 rfl
  | false=>exact h2 rfl
theorem fB.pos {b:Bool} {A B:Prop} {d:K9 A B} (h:b=true) (h1:A):fB b A B d:=by subst h;exact h1
theorem fB.neg {b:Bool} {A B:Prop} {d:K9 A B} (h:b=false) (h1:B):fB b A B d:=by subst h;exact h1
@[simp ↓] theorem qig (sp:Sp) (wB:List V) (E:XK) (t:TA) (σ:St) (H:Hp) (Q:VK):Sx sp wB E t σ H Q=t σ H fun vs H1=>K_ sp (vs++wB) H1 Q ⟨0⟩ E:=rfl
@[simp ↓] theorem qih (C:Addr) (m:Str) (sp:Sp) (wB:List V) (E:XK) (ta:TE) (t:TA) (σ:St) (H:Hp) (Q:VK):Sy C m sp wB E ta t σ H Q=ta σ H fun x H1=>∃a dx fs,x = .ref a∧H1 a=some (.ins C dx fs)∧fs.lookup m=none∧t σ H1 fun vs H2=>K_ sp (x::(vs++wB)) H2 Q ⟨0⟩ E:=rfl
@[simp ↓] theorem qii (C:Addr) (sp:Sp) (wB:List V) (E:XK) (t:TA) (σ:St) (H:Hp) (Q:VK):SJ C sp wB E t σ H Q=t σ H fun vs H1=>∀x dx,H1 x=none→H1 dx=none→dx≠x→
  K_ sp (.ref x::(vs++wB)) (upd (upd H1 dx (.own x)) x (.ins C dx [])) (fun v H2=>v = .non∧Q (.ref x) H2) ⟨0⟩ E:=rfl
@[simp ↓] theorem qjA (wi:TI) (g:TG) (tb:TS) (D:Ends) (σ:St) (H:Hp):qdM wi g tb D σ H=wi σ H fun J H1=>tFr J g tb D ⟨0⟩ σ H1:=rfl
@[simp ↓] theorem qee (c:TT) (tb:TS) (D:Ends) (σ:St) (H:Hp):E_ c tb D σ H=tWh c tb D ⟨0⟩ σ H:=rfl
@[simp ↓] theorem qij (own:List Str) (caps:List Nat) (wi:TI) (g:TG) (tt:TT) (te:TE) (σ:St) (H:Hp) (Q:VK):HW own caps wi g tt te σ H Q=wi σ H fun J H1=>∀D,H1 D=none→Xl own caps J g tt te (Q (.ref D)) ⟨0⟩ D σ (upd H1 D (.lst [])):=rfl
@[simp ↓] theorem qjB (c:TT) (t u:TS) (D:Ends) (σ:St) (H:Hp):qdK c t u D σ H=c σ H fun b H1=>fB b (t D σ H1) (u D σ H1) ⟨0⟩:=rfl
@[simp ↓] theorem qmf (c:TT) (t u:TE) (σ:St) (H:Hp) (Q:VK):tIf c t u σ H Q=c σ H fun b H1=>fB b (t σ H1 Q) (u σ H1 Q) ⟨0⟩:=rfl
@[simp ↓] theorem qjC (t u:TT) (σ:St) (H:Hp) (Q:Bool→Hp→Prop):qdH t u σ H Q=t σ H fun c H1=>fB c (u σ H1 Q) (Q false H1) ⟨0⟩:=rfl
@[simp ↓] theorem qmg (t u:TT) (σ:St) (H:Hp) (Q:Bool→Hp→Prop):tOr t u σ H Q=t σ H fun c H1=>fB c (Q true H1) (u σ H1 Q) ⟨0⟩:=rfl
@[simp ↓] theorem qik (ta tb:TE) (σ:St) (H:Hp) (Q:VK):RX ta tb σ H Q=ta σ H fun x H1=>∃c,x = .bl c∧fB c (tb σ H1 Q) (Q (.bl false) H1) ⟨0⟩:=rfl
@[simp ↓] theorem qef (r r':R2) (ta tb tc:TE) (σ:St) (H:Hp) (Q:VK):Fb r r' ta tb tc σ H Q=ta σ H fun x H1=>tb σ H1 fun y H2=>r x y H2 fun z H3=>∃k,z = .bl k∧fB k (tc σ H3 fun z H4=>r' y z H4 Q) (Q (.bl false) H3) ⟨0⟩:=rfl
def tE (g:TG) (tt:TT) (te:TE) (D:Addr) (N:St→Hp→Prop) (x:V) (σ:St) (H:Hp):Prop:=
  g x σ H fun σ2 H3=>tt σ2 H3 fun b H4=>fB b (te σ2 H4 fun y H5=>∃ys,H5 D=some (.lst ys)∧ys.length<sizeLine∧N σ2 (upd H5 D (.lst (ys++[y])))) (N σ2 H4) ⟨0⟩
@[simp ↓] theorem qil (g:TG) (tt:TT) (te:TE) (D:Addr) (N:St→Hp→Prop) (x:V) (σ:St) (H:Hp):tE g tt te D N x σ H =
  (g x σ H fun σ2 H3=>tt σ2 H3 fun b H4=>fB b (te σ2 H4 fun y H5=>∃ys,H5 D=some (.lst ys)∧ys.length<sizeLine∧N σ2 (upd H5 D (.lst (ys++[y])))) (N σ2 H4) ⟨0⟩):=rfl
@[simp ↓] theorem qjD {α:Type} (a b:α) (R:α→α→Prop):(∃v w,[a,b]=[v,w]∧R v w)=R a b:=by
  refine propext ⟨?_,fun h=>⟨a,b,rfl,h⟩⟩;rintro⟨_,_,e,h⟩;cases e;exact h
@[simp] theorem qim {α β:Type} (a:α) (b:β) (R:α→β→Prop):(∃v w,(a=v∧b=w)∧R v w)=R a b:=by
  refine propext ⟨?_,fun h=>⟨a,b,⟨rfl,rfl⟩,h⟩⟩;rintro⟨_,_,⟨rfl,rfl⟩,h⟩;exact h
@[simp] theorem sz0:(0≤sizeLine)=True:=eq_true (by decide)
@[simp] theorem sz1:(1≤sizeLine)=True:=eq_true (by decide)
@[simp] theorem sz2:(2≤sizeLine)=True:=eq_true (by decide)
@[simp] theorem sz3:(3≤sizeLine)=True:=eq_true (by decide)
@[simp] theorem sz4:(4≤sizeLine)=True:=eq_true (by decide)
@[simp] theorem sz5:(5≤sizeLine)=True:=eq_true (by decide)
@[simp] theorem sz6:(6≤sizeLine)=True:=eq_true (by decide)
@[simp] theorem sz7:(7≤sizeLine)=True:=eq_true (by decide)
@[simp] theorem sz8:(8≤sizeLine)=True:=eq_true (by decide)
@[simp] theorem sz9:(9≤sizeLine)=True:=eq_true (by decide)
@[simp] theorem qmD:(10≤sizeLine)=True:=eq_true (by decide)
@[simp] theorem qmE:(11≤sizeLine)=True:=eq_true (by decide)
@[simp] theorem qmF:(12≤sizeLine)=True:=eq_true (by decide)
@[simp] theorem qmG:(13≤sizeLine)=True:=eq_true (by decide)
@[simp] theorem qmH:(14≤sizeLine)=True:=eq_true (by decide)
@[simp] theorem qmI:(15≤sizeLine)=True:=eq_true (by decide)
@[simp] theorem qmJ:(16≤sizeLine)=True:=eq_true (by decide)
@[simp] theorem qmK:(17≤sizeLine)=True:=eq_true (by decide)
@[simp] theorem qmL:(18≤sizeLine)=True:=eq_true (by decide)
@[simp] theorem qmM:(19≤sizeLine)=True:=eq_true (by decide)
@[simp] theorem yp:(20≤sizeLine)=True:=eq_true (by decide)
@[simp] theorem qin (i j:Int):yh (.int i) (.int j)=true:=rfl
@[simp] theorem qio (i j:Str):yh (.str i) (.str j)=true:=rfl
@[simp] theorem qip (i j:Bool):yh (.bl i) (.bl j)=true:=rfl
@[simp] theorem qiq (i:Int) (j:Str):yh (.int i) (.str j)=true:=rfl
@[simp] theorem qir (i:Int) (j:Str):yh (.str j) (.int i)=true:=rfl
@[simp] theorem qeg (K:W.Frag) (p:Addr) (H:Hp):tyV K "list" (.ref p) H=(∃xs,aX K H p xs):=by simp[tyV]
@[simp] theorem qis (K:W.Frag) (p:Str) (H:Hp):tyV K "str" (.str p) H=True:=by simp[tyV]
section
variable {K:W.Frag} {l:Addr} {xs:List V} {g:TG} {tb:TS} {D:Ends} {d:qbF g tb D} {σ:St} {H:Hp}
theorem frL (xs:List V) (Pv:Nat→St→Hp→Prop) (h0:Pv 0 σ H) (hl:∀i σ H,i≤xs.length→Pv i σ H→aX K H l xs)
    (hs:∀i x σ H,xs[i]? = some x→Pv i σ H→g x σ H fun σ2 H2=>tb {D with nx:=Pv (i+1),ct:=Pv (i+1),bk:=D.nx} σ2 H2) (hd:∀σ H,Pv xs.length σ H→D.nx σ H):tFr (Ks K l) g tb D d σ H:=R8 Pv h0 hl hs hd
theorem frR {lo:Int} {n:Nat} (Pv:Nat→St→Hp→Prop) (h0:Pv 0 σ H)
    (hs:∀i σ H,i<n→Pv i σ H→g (.int (lo+i)) σ H fun σ2 H2=>tb {D with nx:=Pv (i+1),ct:=Pv (i+1),bk:=D.nx} σ2 H2) (hd:∀σ H,Pv n σ H→D.nx σ H):tFr (Kp lo n) g tb D d σ H:=Qe Pv h0 hs hd
end
section
variable {K:W.Frag} {own:List Str} {caps:List Nat} {g:TG} {tt:TT} {te:TE} {D l l1 l2:Addr} {σ:St} {H:Hp} {Q:Hp→Prop} {d:QB g tt te Q}
theorem Oa (xs:List V) (Pv:Nat→St→Hp→Prop) (h0:Pv 0 (stC own caps σ) H) (hl:∀i σ H,i≤xs.length→Pv i σ H→aX K H l xs)
    (hs:∀i x σ H,xs[i]? = some x→Pv i σ H→tE g tt te D (Pv (i+1)) x σ H) (hd:∀σ H,Pv xs.length σ H→Q H):Xl own caps (Ks K l) g tt te Q d D σ H:=DK Pv h0 hl hs hd
theorem cmQ {b:Bool} (xs:List V) (Pv:Nat→St→Hp→Prop) (h0:Pv 0 (stC own caps σ) H) (hl:∀i σ H,i≤xs.length→Pv i σ H→Ib b K H l xs)
    (hs:∀i x σ H,xs[i]? = some x→Pv i σ H→tE g tt te D (Pv (i+1)) x σ H) (hd:∀σ H,Pv xs.length σ H→Q H):Xl own caps (Itq b K l) g tt te Q d D σ H:=Tw Pv h0 hl hs hd
theorem cmR {lo:Int} {n:Nat} (Pv:Nat→St→Hp→Prop) (h0:Pv 0 (stC own caps σ) H)
    (hs:∀i σ H,i<n→Pv i σ H→tE g tt te D (Pv (i+1)) (.int (lo+i)) σ H) (hd:∀σ H,Pv n σ H→Q H):Xl own caps (Kp lo n) g tt te Q d D σ H:=K5 Pv h0 hs hd
theorem cmS {z:Str} (Pv:Nat→St→Hp→Prop) (h0:Pv 0 (stC own caps σ) H)
    (hs:∀i c σ H,z.cps[i]? = some c→Pv i σ H→tE g tt te D (Pv (i+1)) (.str ⟨#[c]⟩) σ H) (hd:∀σ H,Pv z.cps.size σ H→Q H):Xl own caps (Its z) g tt te Q d D σ H:=Tt Pv h0 hs hd
theorem cmZ (xs ys:List V) (Pv:Nat→St→Hp→Prop) (h0:Pv 0 (stC own caps σ) H) (he:xs.length=ys.length) (hl:∀i σ H,i≤xs.length→Pv i σ H→aX K H l1 xs∧aX K H l2 ys)
    (hs:∀i x y t σ H,xs[i]? = some x→ys[i]? = some y→H t=none→Pv i σ H→tE g tt te D (Pv (i+1)) (.ref t) σ (upd H t (.tup [x,y]))) (hd:∀σ H,Pv xs.length σ H→Q H):Xl own caps (RK K l1 l2) g tt te Q d D σ H:=Tv Pv h0 he hl hs hd
end
theorem zy {c:Bool} {t u:TS} {D:Ends} {σ:St} {H:Hp} {d:K9 (t D σ H) (u D σ H)} (R:St→Hp→Prop) (hc:∀σ H,R σ H→D.nx σ H)
    (h:∀N:St→Hp→Prop,(∀σ H,R σ H→N σ H)→fB c (t {D with nx:=N} σ H) (u {D with nx:=N} σ H) ⟨0⟩):fB c (t D σ H) (u D σ H) d:=h D.nx hc
theorem uT {α β:Type} {f:α→β} {ys zs:List β} (h:ys.Perm zs):∀l:List α,zs=l.map f→∃l':List α,l'.Perm l∧ys=l'.map f:=by
  induction h with
  | nil=>
    intro l e;cases l with
    | nil=>exact⟨[],.nil,rfl⟩
    | cons a l=>cases e
  | cons x _ ih=>
    intro l e;cases l with
    | nil=>cases e
    | cons a l=>
      simp only[List.map_cons,List.cons.injEq] at e;obtain⟨l',p,e'⟩:=ih l e.2;exact⟨a::l',p.cons a,by rw[e',e.1,List.map_cons]⟩
  | swap x y _=>
    intro l e
    match l,e with
    | a::b::l,e=>
      simp only[List.map_cons,List.cons.injEq] at e;exact⟨b::a::l,.swap ..,by rw[e.1,e.2.1,e.2.2];rfl⟩
  | trans _ _ ih1 ih2=>
    intro l e;obtain⟨l',p,e'⟩:=ih2 l e;obtain⟨l2,p2,e2⟩:=ih1 l' e';exact⟨l2,p2.trans p,e2⟩
theorem T9 {α:Type} {xs:List α} {k:Nat} (h2:2≤xs.length) (hk:k<xs.length):∃j x,j≠k∧xs[j]? = some x∧Ce xs ((k:Int) - 1)=some x:=by
  cases k with
  | zero=>
    have hj:xs.length - 1<xs.length:=by omega
    refine⟨xs.length - 1,xs[xs.length - 1],by omega,by simp[hj],?_⟩;unfold Ce RJ;rw[if_neg (by omega),if_pos (by omega)];have e:(((0:Nat):Int) - 1+xs.length).toNat=xs.length - 1:=by omega
    show xs[(((0:Nat):Int) - 1+xs.length).toNat]? = _;rw[e];simp[hj]
  | succ k=>
    have hj:k<xs.length:=by omega
    have e:((k+1:Nat):Int) - 1=(k:Int):=by omega
    rw[e];exact⟨k,xs[k],by omega,by simp[hj],aV (by simp[hj])⟩
end L2
namespace L2
open PySem
theorem tG (K:W.Frag):W.kitOne K (.type "list") (.type "list")=some true:=by simp[W.kitOne]
theorem FT (K:W.Frag):W.kitOne K (.type "list") (.type "int")=some false:=by simp[W.kitOne];rfl
theorem Cp (K:W.Frag):W.kitOne K (.type "list") (.type "bool")=some false:=by simp[W.kitOne];rfl
theorem Cq (K:W.Frag):W.kitOne K (.type "tuple") (.type "int")=some false:=by simp[W.kitOne];rfl
theorem zA (K:W.Frag):W.kitOne K (.type "tuple") (.type "bool")=some false:=by simp[W.kitOne];rfl
theorem Ih (K:W.Frag):W.kitOne K (.type "str") (.type "str")=some true:=by simp[W.kitOne]
theorem Ii (K:W.Frag):W.kitOne K (.type "str") (.type "int")=some false:=by simp[W.kitOne];rfl
theorem FW (K:W.Frag):W.kitOne K (.type "str") (.type "bool")=some false:=by simp[W.kitOne];rfl
theorem Ij (K:W.Frag):W.kitOne K (.type "int") (.type "int")=some true:=by simp[W.kitOne]
theorem uU (K:W.Frag):W.kitOne K (.type "int") (.type "bool")=some false:=by simp[W.kitOne];rfl
theorem FZ (K:W.Frag):W.kitOne K (.type "bool") (.type "int")=some true:=by simp[W.kitOne];rfl
theorem Cr (K:W.Frag):W.kitOne K (.type "bool") (.type "bool")=some true:=by simp[W.kitOne]
theorem Ga (K:W.Frag):W.kitOne K (.type "dict") (.type "int")=some false:=by simp[W.kitOne];rfl
theorem Cu (K:W.Frag):W.kitOne K (.type "dict") (.type "bool")=some false:=by simp[W.kitOne];rfl
theorem wN (K:W.Frag):W.kitOne K (.type "NoneType") (.type "int")=some false:=by simp[W.kitOne];rfl
theorem uV (K:W.Frag):W.kitOne K (.type "NoneType") (.type "bool")=some false:=by simp[W.kitOne];rfl
end L2
namespace L2
open PySem PySem.Spec PyProof.Rows
section
variable {X:Cx} {K:W.Frag}
def qeh (K:W.Frag):R2:=fun x y H Q=>∃d e,Is K H d x∧Is K H e y∧d.canLay0=true∧e.canLay0=true∧d.depth≤64∧Q (.bl (PyData.eqv d e)) H
def qei (K:W.Frag):R2:=fun x y H Q=>∃d e,Is K H d x∧Is K H e y∧d.canLay0=true∧e.canLay0=true∧d.depth≤64∧Q (.bl (!PyData.eqv d e)) H
theorem qbG (hK:X.K=K) (hu:X.A.units+64<cLine):fY X (compareOp .Eq) (qeh K):=by
  subst hK;intro p_ s σ H x y v u Q I rx ry h;obtain⟨d,e,h1,h2,h3,h4,h5,q⟩:=h;exact qbr p_ s σ H x y v u Q I rx ry ⟨d,e,h1,h2,h3,h4,by omega,q⟩
theorem qbH (hK:X.K=K) (hu:X.A.units+64<cLine):fY X (compareOp .NotEq) (qei K):=by
  subst hK;intro p_ s σ H x y v u Q I rx ry h;obtain⟨d,e,h1,h2,h3,h4,h5,q⟩:=h;exact qbs p_ s σ H x y v u Q I rx ry ⟨d,e,h1,h2,h3,h4,by omega,q⟩
end
def gZ (xs:List Str):List PyData:=xs.map PyData.str
theorem Ob {K:W.Frag} {H:Hp}:∀xs:List Str,qM K H (gZ xs) (xs.map V.str)
  | []=>rfl
  | x::xs=>⟨_,_,rfl,rfl,Ob xs⟩
theorem Yk (c:Nat):Xj c=decide (c∈("abcdefghijklmnopqrstuvwxyz" : Str).cps.toList):=PySem.StrLaws.found_one _ c
theorem qbI {c:Nat} (h:Xj c=true):c<128:=by
  rw[Yk] at h;have h':=of_decide_eq_true h;have key:∀x∈("abcdefghijklmnopqrstuvwxyz" : Str).cps.toList,x<128:=by decide+kernel
  exact key c h'
theorem Yl {x:Str} (h:nameB x=true):PyData.strOk x=true:=by
  unfold nameB at h;simp only[Bool.and_eq_true] at h;have h2:=h.2;unfold PyData.strOk;rw[← Array.all_toList];rw[List.all_eq_true] at h2 ⊢;intro c hc;have:=qbI (h2 c hc);exact decide_eq_true (by omega)
theorem Ik:∀xs:List Str,(∀x∈xs,PyData.strOk x=true)→PyData.canLayAll0 (gZ xs)=true
  | [],_=>by simp[gZ,PyData.canLayAll0]
  | x::xs,h=>by
    have:=Ik xs fun y hy=>h y (List.mem_cons_of_mem _ hy);simp[gZ] at this;simp[gZ,PyData.canLayAll0,PyData.canLay0,this,h x List.mem_cons_self]
theorem Il:∀xs:List Str,PyData.depthAll (gZ xs)≤1
  | []=>by simp[gZ,PyData.depthAll]
  | x::xs=>by
    have:=Il xs;simp[gZ] at this;simp[gZ,PyData.depthAll,PyData.depth,this]
@[simp ↓] theorem qit (td ty:TE) (σ:St) (H:Hp) (Q:VK):TX td ty σ H Q=(td σ H fun x H1=>ty σ H1 fun y H2=>∃a v,x = .ref a∧iZ H2 a y (some v)∧Q v H2):=rfl
@[simp ↓] theorem qjE (ty td:TE) (σ:St) (H:Hp) (Q:VK):qbA ty td σ H Q=(ty σ H fun y H1=>td σ H1 fun x H2=>∃a o,x = .ref a∧iZ H2 a y o∧Q (.bl o.isSome) H2):=rfl
@[simp ↓] theorem qdv (ty td:TE) (σ:St) (H:Hp) (Q:VK):FP ty td σ H Q=(ty σ H fun y H1=>td σ H1 fun x H2=>∃a o,x = .ref a∧iZ H2 a y o∧Q (.bl (!o.isSome)) H2):=rfl
@[simp ↓] theorem qiu (td ty tv:TE) (D:Ends) (σ:St) (H:Hp):TY td ty tv D σ H=(tv σ H fun v H1=>td σ H1 fun x H2=>ty σ H2 fun y H3=>∃a H4,x = .ref a∧FJ H3 a y v H4∧D.nx σ H4):=rfl
@[simp ↓] theorem qiv (RL:List (TE×TE)) (σ:St) (H:Hp) (Q:VK):qaj RL σ H Q=(∀p,H p=none→uw RL σ (upd H p (.dK [])) fun ps H2=>H2 p=some (.dK [])∧∃kvs:List (Key×V),ps=kvs.map (fun kv=>(kV kv.1,kv.2))∧kvs.length≤15∧Q (.ref p) (upd H2 p (.dK (ux [] kvs)))):=rfl
@[simp ↓] theorem qej (σ:St) (H:Hp) (Q:List (V×V)→Hp→Prop):uw [] σ H Q=Q [] H:=rfl
@[simp ↓] theorem qek (tk tv:TE) (r:List (TE×TE)) (σ:St) (H:Hp) (Q:List (V×V)→Hp→Prop):uw ((tk,tv)::r) σ H Q=(tk σ H fun x H1=>tv σ H1 fun y H2=>uw r σ H2 fun ps H3=>Q ((x,y)::ps) H3):=rfl
@[simp ↓] theorem qel (td ty tx:TE) (σ:St) (H:Hp) (Q:VK):K8 td ty tx σ H Q=(td σ H fun x H1=>∃a,x = .ref a∧IsD H1 a∧ty σ H1 fun y H2=>tx σ H2 fun z H3=>∃o,iZ H3 a y o∧Q (o.getD z) H3):=rfl
@[simp ↓] theorem qiw (K:W.Frag) (t:TA) (σ:St) (H:Hp) (R:It→Hp→Prop):T8 K t σ H R=(t σ H fun vs H1=>∃a xs,vs=[.ref a]∧aX K H1 a xs∧R (Ite K a) H1):=rfl
theorem qem {H:Hp} {a:Addr} {kvs:List (Key×V)} (i:Int) (e:H a=some (.dK kvs)):iZ H a (.int i) (j_ kvs (Sum.inl i)):=iZ.k (k:=Sum.inl i) e
theorem qen {H:Hp} {a:Addr} {kvs:List (Key×V)} (x:Str) (e:H a=some (.dK kvs)):iZ H a (.str x) (j_ kvs (Sum.inr x)):=iZ.k (k:=Sum.inr x) e
theorem qjF {H:Hp} {a:Addr} {kvs:List (Key×V)} {v:V} (x:Str) (e:H a=some (.dK kvs)) (hl:kvs.length<sizeLine):FJ H a (.str x) v (upd H a (.dK (putK kvs (Sum.inr x) v))):=FJ.k (k:=Sum.inr x) e hl
theorem isD {H:Hp} {a:Addr} {kvs:List (Key×V)} (e:H a=some (.dK kvs)):IsD H a:=.inl ⟨kvs,.inl e⟩
section
variable {K:W.Frag} {l:Addr} {g:TG} {tb:TS} {D:Ends} {d:qbF g tb D} {σ:St} {H:Hp}
theorem frE (xs:List V) (Pv:Nat→St→Hp→Prop) (h0:Pv 0 σ H) (hl:∀i σ H,i≤xs.length→Pv i σ H→aX K H l xs)
    (hs:∀i x t σ H,xs[i]? = some x→H t=none→Pv i σ H→g (.ref t) σ (upd H t (.tup [.int i,x])) fun σ2 H2=>tb {D with nx:=Pv (i+1),ct:=Pv (i+1),bk:=D.nx} σ2 H2) (hd:∀σ H,Pv xs.length σ H→D.nx σ H):tFr (Ite K l) g tb D d σ H:=by
  refine⟨fun i m σ H=>m=xs.length - i∧i≤xs.length∧Pv i σ H,⟨xs.length,by simp,Nat.zero_le _,h0⟩,?_⟩;rintro i m σ H ⟨rfl,hi,p⟩;have q:=hl i σ H hi p
  by_cases hlt:i<xs.length
  ·refine .inr ⟨⟨xs,xs[i],q,by simp[hlt]⟩,Pv (i+1),fun σ' H' p'=>⟨xs.length - (i+1),by omega,rfl,hlt,p'⟩,fun x H' y=>?_⟩;obtain⟨t,u,rfl,ht,rfl,e⟩:=y;exact hs i u t σ H (e xs q) ht p
  · have e:i=xs.length:=by omega
    subst e;exact .inl ⟨⟨xs,q,Nat.le_refl _⟩,hd σ H p⟩
end
section
variable {K:W.Frag} {own:List Str} {caps:List Nat} {g:TG} {tt:TT} {te:TE} {D l:Addr} {σ:St} {H:Hp} {Q:Hp→Prop} {d:QB g tt te Q}
theorem cmE (xs:List V) (Pv:Nat→St→Hp→Prop) (h0:Pv 0 (stC own caps σ) H) (hl:∀i σ H,i≤xs.length→Pv i σ H→aX K H l xs)
    (hs:∀i x t σ H,xs[i]? = some x→H t=none→Pv i σ H→tE g tt te D (Pv (i+1)) (.ref t) σ (upd H t (.tup [.int i,x]))) (hd:∀σ H,Pv xs.length σ H→Q H):Xl own caps (Ite K l) g tt te Q d D σ H:=by
  refine⟨fun i m σ H=>m=xs.length - i∧i≤xs.length∧Pv i σ H,⟨xs.length,by simp,Nat.zero_le _,h0⟩,?_⟩;rintro i m σ H ⟨rfl,hi,p⟩;have q:=hl i σ H hi p
  by_cases hlt:i<xs.length
  ·refine .inr ⟨⟨xs,xs[i],q,by simp[hlt]⟩,Pv (i+1),fun σ' H' p'=>⟨xs.length - (i+1),by omega,rfl,hlt,p'⟩,fun x H' y=>?_⟩;obtain⟨t,u,rfl,ht,rfl,e⟩:=y;exact hs i u t σ H (e xs q) ht p
  · have e:i=xs.length:=by omega
    subst e;exact .inl ⟨⟨xs,q,Nat.le_refl _⟩,hd σ H p⟩
end
section
variable {c:TT} {tb:TS} {D:Ends} {d:qec c tb D} {σ:St} {H:Hp}
theorem whB (Pv:St→Hp→Prop) (μ:St→Hp→Nat) (h0:Pv σ H)
    (hs:∀σ H,Pv σ H→c σ H fun b H1=>fB b (tb {D with nx:=fun σ' H'=>Pv σ' H'∧μ σ' H'<μ σ H,ct:=fun σ' H'=>Pv σ' H'∧μ σ' H'<μ σ H,bk:=D.nx} σ H1) (D.nx σ H1) ⟨0⟩)
    (mono:∀σ H Q Q',(∀b H1,Q b H1→Q' b H1)→c σ H Q→c σ H Q'):tWh c tb D d σ H:=R9 Pv μ h0 hs mono
end
end L2
namespace L2
open PySem
inductive RT {α:Type} (R:α→α→Prop):α→α→Prop where
  | refl (a:α):RT R a a
  | tail {a b c:α}:RT R a b→R b c→RT R a c
theorem RT.one {α:Type} {R:α→α→Prop} {a b:α} (h:R a b):RT R a b:=.tail (.refl a) h
theorem RT.trans {α:Type} {R:α→α→Prop} {a b c:α} (h:RT R a b) (h2:RT R b c):RT R a c:=by
  induction h2 with
  | refl=>exact h
  | tail _ r ih=>exact .tail ih r
abbrev nC:=Nat×Str×Str
def iy (S:List nC) (a b:Str):Prop:=∃n,(n,a,b)∈S
def Gb (fx:Nat→Option Int) (e:Str×Str) (k:Nat):List nC:=
  (if (fx k).getD 0=0 then [(k,e.1,e.2)] else [])++(if (fx k).getD 1=1 then [(k,e.2,e.1)] else [])
def fJ (fx:Nat→Option Int):List (Str×Str)→Nat→List nC
  | [],_=>[]
  | e::r,k=>Gb fx e k++fJ fx r (k+1)
theorem rC (fx:Nat→Option Int):∀(l m:List (Str×Str)) (k:Nat),fJ fx (l++m) k=fJ fx l k++fJ fx m (k+l.length)
  | [],m,k=>by simp[fJ]
  | e::l,m,k=>by
    simp only[List.cons_append,fJ,rC fx l m (k+1),List.append_assoc,List.length_cons];rw[show k+1+l.length=k+(l.length+1) by omega]
theorem Gd (fx:Nat→Option Int) {ps:List (Str×Str)} {i:Nat} {e:Str×Str} (h:ps[i]? = some e):fJ fx (ps.take (i+1)) 0=fJ fx (ps.take i) 0++Gb fx e i:=by
  have hi:i<ps.length:=(List.getElem?_eq_some_iff.mp h).1;rw[take_one h,rC,List.length_take,Nat.min_eq_left (Nat.le_of_lt hi),Nat.zero_add];simp[fJ]
end L2
namespace L2
open PySem PySem.Spec PyProof.Rows
def mX {β:Type} (R:Hp→V→β→Prop) (H:Hp) (vs:List V) (bs:List β):Prop:=vs.length=bs.length∧∀(i:Nat) v b,vs[i]? = some v→bs[i]? = some b→R H v b
section
variable {β:Type} {R:Hp→V→β→Prop} {H H':Hp} {vs:List V} {bs:List β}
theorem mX.nil:mX R H [] []:=⟨rfl,fun i v b h=>by simp at h⟩
theorem mX.keep (h:mX R H vs bs) (k:∀v b,R H v b→R H' v b):mX R H' vs bs:=⟨h.1,fun i v b h1 h2=>k v b (h.2 i v b h1 h2)⟩
theorem mX.at (h:mX R H vs bs) {i:Nat} {v:V} (hv:vs[i]? = some v):∃b,bs[i]? = some b∧R H v b:=by
  have hi:i<bs.length:=by rw[← h.1];exact(List.getElem?_eq_some_iff.mp hv).1
  exact⟨bs[i],by simp[hi],h.2 i v _ hv (by simp[hi])⟩
theorem mX.snoc {v:V} {b:β} (h:mX R H vs bs) (hv:R H v b):mX R H (vs++[v]) (bs++[b]):=by
  refine⟨by simp[h.1],fun i u d h1 h2=>?_⟩
  by_cases hi:i<vs.length
  ·rw[List.getElem?_append_left hi] at h1;rw[List.getElem?_append_left (by rw[← h.1];exact hi)] at h2;exact h.2 i u d h1 h2
  · rw[List.getElem?_append_right (by omega)] at h1;rw[List.getElem?_append_right (by rw[← h.1];omega),← h.1] at h2;cases hk:i - vs.length with
    | zero=>
      rw[hk] at h1 h2;cases h1;cases h2;exact hv
    | succ j=>
      rw[hk] at h1;simp at h1
end
def Im (H:Hp) (v:V) (s:nC):Prop:=∃t,v = .ref t∧H t=some (.tup [.int s.1,.str s.2.1,.str s.2.2])
abbrev dB:=mX Im
def dD (H H':Hp):Prop:=∀b xs,H b=some (.tup xs)→H' b=some (.tup xs)
theorem dD.of {H H':Hp} (s:Same H H'):dD H H':=fun b xs e=>s b _ e
theorem dD.set {H:Hp} {p:Addr} {o u:HO} (h:H p=some o) (hn:∀xs,o≠.tup xs):dD H (upd H p u):=fun b xs e=>by
  rw[aB (fun z=>by subst z;rw[h] at e;exact hn xs (Option.some.inj e))];exact e
theorem Im.keep {H H':Hp} (k:dD H H'):∀v s,Im H v s→Im H' v s:=fun v s ⟨t,e,h⟩=>⟨t,e,k _ _ h⟩
theorem dB.keep {H H':Hp} {vs:List V} {S:List nC} (h:dB H vs S) (k:dD H H'):dB H' vs S:=mX.keep h (Im.keep k)
def qeo (H:Hp) (d:Addr) (fx:Nat→Option Int):Prop:=∃kvs,H d=some (.dK kvs)∧∀k:Nat,j_ kvs (Sum.inl (k:Int))=(fx k).map V.int
theorem Io (o:Option Int) (x:Int):(o.map V.int).getD (.int x) = .int (o.getD x):=by cases o <;> rfl
end L2
namespace L2
open PySem
inductive qN (S:List nC) (a:Str):List Nat→List Str→Str→Prop where
  | nil:qN S a [] [a] a
  | snoc {w:List Nat} {vs:List Str} {b c:Str} {n:Nat}:qN S a w vs b→(n,b,c)∈S→qN S a (w++[n]) (vs++[c]) c
theorem qN.reach {S:List nC} {a:Str} {w:List Nat} {vs:List Str} {b:Str} (h:qN S a w vs b):RT (iy S) a b:=by
  induction h with
  | nil=>exact .refl _
  | snoc _ q ih=>exact .tail ih ⟨_,q⟩
inductive Walk (S:List nC) (a:Str):Nat→Str→Prop where
  | nil:Walk S a 0 a
  | snoc {k:Nat} {b c:Str} {n:Nat}:Walk S a k b→(n,b,c)∈S→Walk S a (k+1) c
theorem Walk.of {S:List nC} {a b:Str} (h:RT (iy S) a b):∃k,Walk S a k b:=by
  induction h with
  | refl=>exact⟨0,.nil⟩
  | tail _ q ih=>
    obtain⟨k,hk⟩:=ih;obtain⟨n,hn⟩:=q;exact⟨k+1,.snoc hk hn⟩
abbrev BR:=List (Str×List Nat)
structure Kq (S:List nC) (a:Str) (at_:Nat) (R:BR):Prop where
  st:R[0]? = some (a,[])
  nd:(R.map (·.1)).Nodup
  Ym:∀y w,(y,w)∈R→∃vs,qN S a w vs y∧vs.Nodup∧∀v∈vs,v∈R.map (·.1)
  cl:∀(i:Nat) y w,i<at_→R[i]? = some (y,w)→∀n c,(n,y,c)∈S→∃w',(c,w')∈R∧w'.length≤w.length+1
  mono:∀(i j:Nat) y w z u,i≤j→R[i]? = some (y,w)→R[j]? = some (z,u)→w.length≤u.length
  bd:∀(y:Str) (w:List Nat) z u,R[at_]? = some (y,w)→(z,u)∈R→u.length≤w.length+1
structure kZ (S T:List nC) (a:Str) (at_:Nat) (h:Str) (wh:List Nat) (R:BR):Prop where
  bf:Kq S a at_ R
  hr:R[at_]? = some (h,wh)
  md:∀n c,(n,h,c)∈T→∃w',(c,w')∈R∧w'.length≤wh.length+1
theorem Kq.begin (S:List nC) (a:Str):Kq S a 0 [(a,[])]:=by
  refine⟨rfl,by simp,?_,by intro i y w h;omega,?_,?_⟩
  ·intro y w h;simp at h;obtain⟨rfl,rfl⟩:=h;exact⟨[y],.nil,by simp,by simp⟩
  · intro i j y w z u hij h1 h2;have hi:i=0:=by have:=(List.getElem?_eq_some_iff.mp h1).1;simp at this;omega
    have hj:j=0:=by have:=(List.getElem?_eq_some_iff.mp h2).1;simp at this;omega
    subst hi hj;rw[h1] at h2;cases h2;exact Nat.le_refl _
  ·intro y w z u h1 h2;simp at h1 h2;rw[h2.2,← h1.2];simp
theorem kZ.enter {S:List nC} {a:Str} {at_:Nat} {h:Str} {wh:List Nat} {R:BR} (b:Kq S a at_ R) (hr:R[at_]? = some (h,wh)):kZ S [] a at_ h wh R:=⟨b,hr,by simp⟩
theorem kZ.skip {S T:List nC} {a:Str} {at_:Nat} {h:Str} {wh:List Nat} {R:BR} (b:kZ S T a at_ h wh R) {s:nC} (hs:s.2.1=h→s.2.2∈R.map (·.1)):kZ S (T++[s]) a at_ h wh R:=by
  refine⟨b.bf,b.hr,fun n c hm=>?_⟩
  rcases List.mem_append.mp hm with q | q
  ·exact b.md n c q
  ·simp at q;subst q;obtain⟨⟨c',w'⟩,hw,e⟩:=List.mem_map.mp (hs rfl);simp only at e;subst e;exact⟨w',hw,b.bf.bd _ _ _ _ b.hr hw⟩
theorem kZ.add {S T:List nC} {a:Str} {at_:Nat} {h:Str} {wh:List Nat} {R:BR} (b:kZ S T a at_ h wh R) {n:Nat} {c:Str} (hS:(n,h,c)∈S) (hc:¬c∈R.map (·.1)):kZ S (T++[(n,h,c)]) a at_ h wh (R++[(c,wh++[n])]):=by
  obtain⟨⟨st,nd,Ym,cl,mono,bd⟩,hr,md⟩:=b;have hat:at_<R.length:=(List.getElem?_eq_some_iff.mp hr).1;have ml:∀{i:Nat} {x},i<R.length→(R++[(c,wh++[n])])[i]? = some x→R[i]? = some x:=fun hi e=>by rwa [List.getElem?_append_left hi] at e
  have last:∀{i:Nat} {x},¬i<R.length→(R++[(c,wh++[n])])[i]? = some x→x=(c,wh++[n]):=fun hi e=>by
    rw[List.getElem?_append_right (by omega)] at e;cases hk:_ - R.length with
    | zero=>rw[hk] at e;simp at e;exact e.symm
    | succ k=>rw[hk] at e;simp at e
  refine⟨⟨?_,?_,?_,?_,?_,?_⟩,?_,?_⟩
  ·rw[List.getElem?_append_left (by omega)];exact st
  ·rw[List.map_append,List.nodup_append];refine⟨nd,by simp,?_⟩;intro x hx y hy e;simp at hy;subst hy;exact hc (e▸hx)
  · intro y w hy
    rcases List.mem_append.mp hy with q | q
    ·obtain⟨vs,h1,h2,h3⟩:=Ym y w q;exact⟨vs,h1,h2,fun v hv=>by rw[List.map_append];exact List.mem_append_left _ (h3 v hv)⟩
    · simp at q;obtain⟨rfl,rfl⟩:=q;obtain⟨vs,h1,h2,h3⟩:=Ym h wh (List.mem_of_getElem? hr);refine⟨vs++[y],.snoc h1 hS,?_,?_⟩
      ·rw[List.nodup_append];refine⟨h2,by simp,?_⟩;intro x hx z hz e;simp at hz;subst hz;exact hc (e▸h3 x hx)
      · intro v hv;rw[List.map_append]
        rcases List.mem_append.mp hv with q | q
        ·exact List.mem_append_left _ (h3 v q)
        ·simp at q;subst q;simp
  ·intro i y w hi e m c' hm;obtain⟨w',q1,q2⟩:=cl i y w hi (ml (by omega) e) m c' hm;exact⟨w',List.mem_append_left _ q1,q2⟩
  · intro i j y w z u hij h1 h2
    by_cases hj:j<R.length
    ·exact mono i j y w z u hij (ml (by omega) h1) (ml hj h2)
    · have e2:=last hj h2;cases e2
      by_cases hi:i<R.length
      ·have:=bd h wh y w hr (List.mem_of_getElem? (ml hi h1));simp;exact this
      ·have e1:=last hi h1;cases e1;exact Nat.le_refl _
  · intro y w z u h1 h2;have h1':=ml hat h1;rw[hr] at h1';cases h1'
    rcases List.mem_append.mp h2 with q | q
    ·exact bd _ _ z u hr q
    ·simp at q;rw[q.2];simp
  ·rw[List.getElem?_append_left hat];exact hr
  · intro m c' hm
    rcases List.mem_append.mp hm with q | q
    ·obtain⟨w',q1,q2⟩:=md m c' q;exact⟨w',List.mem_append_left _ q1,q2⟩
    ·simp at q;obtain⟨rfl,rfl⟩:=q;exact⟨wh++[m],by simp,by simp⟩
theorem kZ.leave {S:List nC} {a:Str} {at_:Nat} {h:Str} {wh:List Nat} {R:BR} (b:kZ S S a at_ h wh R):Kq S a (at_+1) R:=by
  obtain⟨⟨st,nd,Ym,cl,mono,bd⟩,hr,md⟩:=b;refine⟨st,nd,Ym,?_,mono,?_⟩
  · intro i y w hi e n c hm
    by_cases hia:i=at_
    ·subst hia;rw[hr] at e;cases e;exact md n c hm
    ·exact cl i y w (by omega) e n c hm
  ·intro y w z u h1 h2;have q1:=bd h wh z u hr h2;have q2:=mono at_ (at_+1) h wh y w (by omega) hr h1;omega
theorem Kq.all {S:List nC} {a:Str} {R:BR} (b:Kq S a R.length R) {k:Nat} {y:Str} (h:Walk S a k y):∃w,(y,w)∈R∧w.length≤k:=by
  induction h with
  | nil=>exact⟨[],List.mem_of_getElem? b.st,Nat.le_refl _⟩
  | @snoc k b' c n _ q ih=>
    obtain⟨w,h1,h2⟩:=ih;obtain⟨i,hi⟩:=List.mem_iff_getElem?.mp h1;obtain⟨w',h3,h4⟩:=b.cl i b' w (List.getElem?_eq_some_iff.mp hi).1 hi n c q;exact⟨w',h3,by omega⟩
theorem Kq.iff {S:List nC} {a:Str} {R:BR} (b:Kq S a R.length R) (y:Str):y∈R.map (·.1)↔RT (iy S) a y:=by
  constructor
  ·intro h;obtain⟨⟨z,w⟩,h1,e⟩:=List.mem_map.mp h;simp only at e;subst e;obtain⟨vs,p,_⟩:=b.Ym z w h1;exact p.reach
  ·intro h;obtain⟨k,hk⟩:=Walk.of h;obtain⟨w,h1,_⟩:=b.all hk;exact List.mem_map.mpr ⟨(y,w),h1,rfl⟩
theorem Kq.sub {S:List nC} {a:Str} {i:Nat} {R:BR} (b:Kq S a i R) {xs:List Str} (ha:a∈xs) (hS:∀s∈S,s.2.2∈xs):∀y∈R.map (·.1),y∈xs:=by
  intro y h;obtain⟨⟨z,w⟩,h1,e⟩:=List.mem_map.mp h;simp only at e;subst e;obtain⟨vs,p,_⟩:=b.Ym z w h1;cases p with
  | nil=>exact ha
  | snoc _ q=>exact hS _ q
theorem o_ {α:Type} [DecidableEq α]:∀{l xs:List α},l.Nodup→(∀y∈l,y∈xs)→l.length≤xs.length
  | [],_,_,_=>Nat.zero_le _
  | y::l,xs,hn,hs=>by
    obtain⟨h1,h2⟩:=List.nodup_cons.mp hn;have hy:y∈xs:=hs y List.mem_cons_self;have:=o_ (l:=l) (xs:=xs.erase y) h2 fun z hz=>(List.mem_erase_of_ne (fun(e:z=y)=>h1 (e▸hz))).mpr (hs z (List.mem_cons_of_mem _ hz));rw[List.length_erase_of_mem hy] at this;have h0:0<xs.length:=List.length_pos_of_mem hy;simp only[List.length_cons];omega
theorem qN.len {S:List nC} {a:Str} {w:List Nat} {vs:List Str} {b:Str} (h:qN S a w vs b):vs.length=w.length+1:=by
  induction h with
  | nil=>rfl
  | snoc _ _ ih=>simp[ih]
theorem Kq.qjG {S:List nC} {a:Str} {i:Nat} {R:BR} (b:Kq S a i R) {y:Str} {w:List Nat} (h:(y,w)∈R):w.length<R.length:=by
  obtain⟨vs,p,nd,sub⟩:=b.Ym y w h;have h1:=o_ nd sub;have h2:=p.len;simp at h1;omega
def qjH (H:Hp) (kv:Key×V) (yw:Str×List Nat):Prop:=kv.1=Sum.inr yw.1∧∃p,kv.2 = .ref p∧H p=some (.lst (yw.2.map fun n:Nat=>V.int n))
structure eO (H:Hp) (kvs:List (Key×V)) (R:BR):Prop where
  len:kvs.length=R.length
  ok:∀(i:Nat) kv yw,kvs[i]? = some kv→R[i]? = some yw→qjH H kv yw
theorem eO.keep {H H':Hp} {kvs:List (Key×V)} {R:BR} (h:eO H kvs R) (k:∀(p:Addr) (w:List Nat),H p=some (.lst (w.map fun n:Nat=>V.int n))→H' p=some (.lst (w.map fun n:Nat=>V.int n))):eO H' kvs R:=
  ⟨h.len,fun i kv yw h1 h2=>by
    obtain⟨e,p,e2,q⟩:=h.ok i kv yw h1 h2;exact⟨e,p,e2,k _ _ q⟩⟩
theorem eO.none {H:Hp} {kvs:List (Key×V)} {R:BR} (h:eO H kvs R) {y:Str} (hy:¬y∈R.map (·.1)):j_ kvs (Sum.inr y)=Option.none:=by
  unfold j_;rw[List.find?_eq_none.mpr]
  ·rfl
  · intro kv hk;obtain⟨i,hi⟩:=List.mem_iff_getElem?.mp hk;have hl:i<R.length:=by rw[← h.len];exact(List.getElem?_eq_some_iff.mp hi).1
    obtain⟨e,_⟩:=h.ok i kv R[i] hi (by simp[hl]);simp only[decide_eq_true_eq];intro z;rw[e] at z;cases z;exact hy (List.mem_map.mpr ⟨R[i],List.getElem_mem hl,rfl⟩)
theorem eO.some {H:Hp} {kvs:List (Key×V)} {R:BR} (h:eO H kvs R) (nd:(R.map (·.1)).Nodup) {y:Str} {w:List Nat} (hy:(y,w)∈R):∃p,j_ kvs (Sum.inr y)=Option.some (.ref p)∧H p=Option.some (.lst (w.map fun n:Nat=>V.int n)):=by
  obtain⟨i,hi⟩:=List.mem_iff_getElem?.mp hy;have hl:i<kvs.length:=by rw[h.len];exact(List.getElem?_eq_some_iff.mp hi).1
  have hk:kvs[i]? = Option.some kvs[i]:=by simp[hl]
  unfold j_;have hf:∃kv,kvs.find? (fun kv=>decide (kv.1=Sum.inr y))=Option.some kv:=by
    cases e:kvs.find? (fun kv=>decide (kv.1=Sum.inr y)) with
    | some kv=>exact⟨kv,rfl⟩
    | none=>
      have:=List.find?_eq_none.mp e kvs[i] (List.getElem_mem hl);obtain⟨e1,_⟩:=h.ok i _ _ hk hi;simp[e1] at this
  obtain⟨kv,hkv⟩:=hf;rw[hkv];have hm:=List.mem_of_find?_eq_some hkv;have hp:=List.find?_some hkv;simp only[decide_eq_true_eq] at hp;obtain⟨j,hj⟩:=List.mem_iff_getElem?.mp hm;have hlj:j<R.length:=by rw[← h.len];exact(List.getElem?_eq_some_iff.mp hj).1
  obtain⟨e1,p,e2,e3⟩:=h.ok j kv R[j] hj (by simp[hlj]);rw[hp] at e1;have ey:R[j].1=y:=(Sum.inr.inj e1).symm;have ej:j=i:=zf nd (x:=y) (by rw[List.getElem?_map,show R[j]? = Option.some R[j] by simp[hlj]];simp[ey]) (by rw[List.getElem?_map,hi];rfl);subst ej;have:R[j]=(y,w):=by
    have:=hi;simp[hlj] at this;exact this
  rw[this] at e3;exact⟨p,by simp[e2],e3⟩
theorem eO.has {H:Hp} {kvs:List (Key×V)} {R:BR} (h:eO H kvs R) (nd:(R.map (·.1)).Nodup) (y:Str):(j_ kvs (Sum.inr y)).isSome=decide (y∈R.map (·.1)):=by
  by_cases hy:y∈R.map (·.1)
  ·obtain⟨⟨z,w⟩,h1,e⟩:=List.mem_map.mp hy;simp only at e;subst e;obtain⟨p,e,_⟩:=h.some nd h1;rw[e,decide_eq_true hy];rfl
  ·rw[h.none hy,decide_eq_false hy];rfl
theorem eO.qjI {H:Hp} {kvs:List (Key×V)} {R:BR} (h:eO H kvs R) (nd:(R.map (·.1)).Nodup) (y:Str):(j_ kvs (Sum.inr y)).isNone = !decide (y∈R.map (·.1)):=by
  rw[← h.has nd y];cases j_ kvs (Sum.inr y) <;> rfl
theorem eO.snoc {H:Hp} {kvs:List (Key×V)} {R:BR} {y:Str} {w:List Nat} {p:Addr} (h:eO H kvs R) (hp:H p=Option.some (.lst (w.map fun n:Nat=>V.int n))):eO H (kvs++[(Sum.inr y,.ref p)]) (R++[(y,w)]):=by
  refine⟨by simp[h.len],fun i kv yw h1 h2=>?_⟩
  by_cases hi:i<kvs.length
  ·rw[List.getElem?_append_left hi] at h1;rw[List.getElem?_append_left (by rw[← h.len];exact hi)] at h2;exact h.ok i kv yw h1 h2
  · rw[List.getElem?_append_right (by omega)] at h1;rw[List.getElem?_append_right (by rw[← h.len];omega),← h.len] at h2;cases hk:i - kvs.length with
    | zero=>
      rw[hk] at h1 h2;cases h1;cases h2;exact⟨rfl,p,rfl,hp⟩
    | succ j=>
      rw[hk] at h1;simp at h1
def qep (i:Nat) (σ:St):Nat:=match σ[i]? with | some (some (V.int n))=>(10 - n).toNat | _=>0
theorem bH (x:Str) (xs:List Str):inV (.str x) (xs.map V.str)=decide (x∈xs):=by
  unfold inV;rw[List.any_map,Bool.eq_iff_iff,List.any_eq_true,decide_eq_true_eq];constructor
  ·rintro⟨y,hy,e⟩;simp[Ql] at e;exact e▸hy
  ·intro h;exact⟨x,h,by simp[Ql]⟩
theorem wO (xs:List Str):(xs.map V.str).all gB=true:=by
  rw[List.all_map,List.all_eq_true];intro x _;rfl
end L2
namespace L2
open PySem PySem.Spec PyProof.Rows
@[simp] theorem qix (i:Int):yh (.int i) .non=true:=rfl
@[simp] theorem qiy (i:Int):yh .non (.int i)=true:=rfl
@[simp] theorem qiz (i:Str):yh (.str i) .non=true:=rfl
theorem Ip:∀a b:List Str,PyData.eqvAll (gZ a) (gZ b)=decide (a=b)
  | [],[]=>rfl
  | [],y::b=>by simp[gZ,PyData.eqvAll]
  | x::a,[]=>by simp[gZ,PyData.eqvAll]
  | x::a,y::b=>by
    show(PyData.eqv (.str x) (.str y) && PyData.eqvAll (gZ a) (gZ b))=_;rw[Ip a b,Bool.eq_iff_iff];simp[PyData.eqv]
end L2
namespace L2
open PySem
end L2
set_option maxHeartbeats 4000000
namespace L2
open PySem PySem.Spec PyProof.Rows
section
variable {prog:Program} {w:World} {A:Around} {E:Value→Shared→Prop} {s:Shared}
theorem T_ {a:Addr} {Q:Option Obj→Shared→Prop} (h:Q (s.heap.get? a) s):wpAny (model prog w) A (loadIfAlive a) Q E s:=fun Γ p _=>by
  show Sem.wp _ _ (Sem.loadIfAlive a Sem.pure) _ _ _ _;rw[Sem.wp_loadIfAlive];exact h
def kh (b:Bool) (it l:Addr) (items:Array Value) (i:Nat) (h:Heap):Prop:=match b with
  | true=>h.IsListIter it l i∧h.IsList l items
  | false=>h.IsTupleIter it l i∧h.IsTuple l items
theorem qbJ {b:Bool} {it l:Addr} {items:Array Value} {i:Nat} {h:Heap} (st:kh b it l items i h):l≠it:=by
  cases b with
  | true=>
    obtain⟨⟨o,e,c,_⟩,⟨u,e',c',_⟩⟩:=st;exact aL e' e c' c (by decide)
  | false=>
    obtain⟨⟨o,e,c,_⟩,⟨u,e',c',_⟩⟩:=st;exact aL e' e c' c (by decide)
theorem Ua {b:Bool} {it l:Addr} {items:Array Value} {i:Nat} {h:Heap} (st:kh b it l items i h):∃o T,h.get? it=some o∧o.cls = .type T∧T≠ "enumerate" :=by
  cases b with
  | true=>obtain⟨⟨o,e,c,_⟩,_⟩:=st;exact⟨o,_,e,c,by decide⟩
  | false=>obtain⟨⟨o,e,c,_⟩,_⟩:=st;exact⟨o,_,e,c,by decide⟩
theorem qak {b:Bool} {it l:Addr} {items:Array Value} {i:Nat} {h:Heap} (st:kh b it l items i h):∃o T,h.get? l=some o∧o.cls = .type T∧T≠ "enumerate" :=by
  cases b with
  | true=>obtain⟨_,⟨o,e,c,_⟩⟩:=st;exact⟨o,_,e,c,by decide⟩
  | false=>obtain⟨_,⟨o,e,c,_⟩⟩:=st;exact⟨o,_,e,c,by decide⟩
theorem uW {b:Bool} {it l:Addr} {items:Array Value} {i:Nat} {h h':Heap} (st:kh b it l items i h) (k1:∀o,h.get? it=some o→h'.get? it=some o) (k2:∀o,h.get? l=some o→h'.get? l=some o):kh b it l items i h':=by
  cases b with
  | true=>obtain⟨⟨o,e,c⟩,⟨u,e',c'⟩⟩:=st;exact⟨⟨o,k1 _ e,c⟩,⟨u,k2 _ e',c'⟩⟩
  | false=>obtain⟨⟨o,e,c⟩,⟨u,e',c'⟩⟩:=st;exact⟨⟨o,k1 _ e,c⟩,⟨u,k2 _ e',c'⟩⟩
theorem zB {b:Bool} {it l:Addr} {items:Array Value} {i:Nat} {x:Value} {Q:Value→Shared→Prop} (st:kh b it l items i s.heap) (hx:items[i]? = some x)
    (hQ:∀h',kh b it l items (i+1) h'→Heap.SameBut it s.heap h'→Q x {s with heap:=h'}):wpAny (model prog w) A (Builtin.SmallTypes.nextOf (.ref it)) Q E s:=by
  have ne:=qbJ st;cases b with
  | true=>
    obtain⟨h1,h2⟩:=st;refine wpAny_nextOf_list_item h1 h2 hx fun h' a1 a2=>hQ h' ⟨a1,?_⟩ a2;obtain⟨u,e',c'⟩:=h2;exact⟨u,(a2.2 _ ne).trans e',c'⟩
  | false=>
    obtain⟨h1,h2⟩:=st;obtain⟨o,ho,hc,hd⟩:=id h1;obtain⟨ol,hol,hcl,nl,hdl⟩:=id h2;unfold Builtin.SmallTypes.nextOf;refine wpAny_bind (wpAny_callSpecial?_slot (name:=Str.ofString "__next__") h1.typeIs F.slot_tuple_iterator_next (wpAny_call_entry F.slot_tuple_iterator_next h1.typeIs F.entry_tuple_iterator_next ?_ (F.args_tuple_iterator_next_1 _)));show wpAny (model prog w) _ (field (.ref it) 0 >>= _) _ _ s;refine wpAny_bind (wpAny_field ho hd (x:=.ref l) rfl ?_);show wpAny (model prog w) _ (if (Value.ref l == Value.none)=true then _ else _) _ _ s
    rw[if_neg (fun z=>by cases z)];show wpAny (model prog w) _ (field (.ref it) 1 >>= _) _ _ s;refine wpAny_bind (wpAny_field ho hd (x:=.int i 0) rfl ?_);show wpAny (model prog w) _ (seqItems? (.ref l) >>= _) _ _ s;refine wpAny_bind (wpAny_seqItems hol hdl ?_);simp only[Int.toNat_natCast,hx];refine wpAny_bind (wpAny_setField ho hd (by simp) (wpAny_pure ⟨x,rfl,wpAny_pure (hQ _ ⟨?_,?_⟩ (Heap.SameBut.update ..))⟩))
    ·exact⟨_,Heap.get?_update_self _ ho (Obj.isFreed_of_fields (Obj.data_mapFields hd _)),(Obj.cls_mapFields ..).trans hc,by rw[Obj.data_mapFields hd];simp[rawInt]⟩
    ·exact⟨ol,((Heap.SameBut.update ..).2 _ ne).trans hol,hcl,nl,hdl⟩
theorem Ub {b:Bool} {it l:Addr} {items:Array Value} {i:Nat} {Q:Value→Shared→Prop} (hh:A.handled=none) (st:kh b it l items i s.heap) (hx:items[i]? = none)
    (hE:∀h' e,Heap.ExtBut it s.heap h'→(∃o,h'.get? e=some o∧o.cls = .type "StopIteration")→E (.ref e) {s with heap:=h'}):wpAny (model prog w) A (Builtin.SmallTypes.nextOf (.ref it)) Q E s:=by
  cases b with
  | true=>exact wpAny_nextOf_list_end hh st.1 st.2 hx hE
  | false=>
    obtain⟨h1,h2⟩:=st;obtain⟨o,ho,hc,hd⟩:=id h1;obtain⟨ol,hol,hcl,nl,hdl⟩:=id h2;unfold Builtin.SmallTypes.nextOf;refine wpAny_bind (wpAny_callSpecial?_slot (name:=Str.ofString "__next__") h1.typeIs F.slot_tuple_iterator_next (wpAny_call_entry F.slot_tuple_iterator_next h1.typeIs F.entry_tuple_iterator_next ?_ (F.args_tuple_iterator_next_1 _)));show wpAny (model prog w) _ (field (.ref it) 0 >>= _) _ _ s;refine wpAny_bind (wpAny_field ho hd (x:=.ref l) rfl ?_);show wpAny (model prog w) _ (if (Value.ref l == Value.none)=true then _ else _) _ _ s
    rw[if_neg (fun z=>by cases z)];show wpAny (model prog w) _ (field (.ref it) 1 >>= _) _ _ s;refine wpAny_bind (wpAny_field ho hd (x:=.int i 0) rfl ?_);show wpAny (model prog w) _ (seqItems? (.ref l) >>= _) _ _ s;refine wpAny_bind (wpAny_seqItems hol hdl ?_);simp only[Int.toNat_natCast,hx];refine wpAny_bind (wpAny_rule (wpAny_bind (wpAny_setField ho hd (by simp) ?_)));show wpAny (model prog w) _ (newExc (.type "StopIteration") [] >>= _) _ _ _;refine wpAny_bind ?_;simp only[newExc,newTuple];refine wpAny_bind (wpAny_newObj_type ?_ (by size_fits));refine wpAny_bind (m:=firstArgMember _ _) (wpAny_of_eq (a:=Value.none) (by first | rfl | (simp only[firstArgMember];rfl)) ?_)
    refine wpAny_newObj_type ?_ (by size_fits);simp only[raiseNew];refine wpAny_bind (wpAny_handled ?_)
    first | rw[show A.in1.handled=none from hh] | rw[hh]
    refine wpAny_bind (wpAny_pure (wpAny_throw ?_));exact hE _ _ (((Heap.SameBut.update ..).extBut.push _).push _) ⟨_,Heap.get?_push_size _ rfl,rfl⟩
def iI (h:Heap) (e it:Addr) (i:Int):Prop:=∃f0 f1 old,h.get? e=some {cls:=.type "enumerate",dict:=none,data:=.fields #[f0,f1,.ref it,rawInt i,.none,old],slots:=#[]}∧(f0 = .none∨∃a:Int,f0=rawInt a)
theorem Yn {e it r:Addr} {i:Int} {x f0 f1 old:Value} {Q:PySem.Fin→Shared→Prop} (he:s.heap.get? e=some {cls:=.type "enumerate",dict:=none,data:=.fields #[f0,f1,.ref it,rawInt i,.none,old],slots:=#[]}) (hf:f0 = .none∨∃a:Int,f0=rawInt a)
    (hQ:∀h',iI h' e it i→Heap.SameBut e s.heap h'→Q (.done (.ret (.ref r))) {s with heap:=h'}) :
    wpAny (model prog w) A (Builtin.SmallTypes.ownedTupleIsFree (.ref e) >>= fun b=>if b=true then (rule "enumerate.__next__.owned-tuple-again" >>= fun _=>field (.ref e) 5 >>= fun o=>setField (.ref e) 5 x >>= fun _=>Builtin.SmallTypes.ownedTupleHandOut (.ref e) (.ref r) >>= fun _=>letGo [o] [.ref r] >>= fun _=>ret (.ref r)) else ret (.ref r)) Q E s:=by
  have out:wpAny (model prog w) A (rule "enumerate.__next__.owned-tuple-again" >>= fun _=>field (.ref e) 5 >>= fun o=>setField (.ref e) 5 x >>= fun _=>Builtin.SmallTypes.ownedTupleHandOut (.ref e) (.ref r) >>= fun _=>letGo [o] [.ref r] >>= fun _=>ret (.ref r)) Q E s:=by
    refine wpAny_bind (wpAny_rule ?_);refine wpAny_bind (wpAny_field he rfl (x:=old) rfl ?_);refine wpAny_bind (wpAny_setField_rec he (by simp) fun h5 Yo Yp=>?_);refine wpAny_bind ?_;unfold Builtin.SmallTypes.ownedTupleHandOut;refine wpAny_bind (wpAny_setField_rec Yo (by simp) fun h6 he6 Uc=>?_);refine wpAny_setField_rec he6 (by simp) fun h7 he7 hs7=>?_;refine wpAny_bind (wpAny_letGo (wpAny_pure (hQ h7 ⟨rawInt r,.bool false,x,he7,.inr ⟨_,rfl⟩⟩ ?_)));exact⟨hs7.1.trans (Uc.1.trans Yp.1),fun c hc=>(hs7.2 c hc).trans ((Uc.2 c hc).trans (Yp.2 c hc))⟩
  refine wpAny_bind ?_;unfold Builtin.SmallTypes.ownedTupleIsFree;refine wpAny_bind (wpAny_field he rfl (x:=f0) rfl ?_)
  rcases hf with rfl | ⟨a,rfl⟩
  ·exact wpAny_pure out
  · show wpAny (model prog w) A (loadIfAlive a.toNat >>= _) _ _ s;refine wpAny_bind (T_ ?_);cases hl:s.heap.get? a.toNat with
    | none=>exact wpAny_pure out
    | some ob=>
      show wpAny (model prog w) A (field (.ref e) 1 >>= _) _ _ s;refine wpAny_bind (wpAny_field he rfl (x:=f1) rfl ?_)
      by_cases hb:(f1 != .bool true)=true
      ·rw[if_pos hb];refine wpAny_bind (wpAny_setField_rec he (by simp) fun h5 Yo Yp=>?_);exact wpAny_pure (wpAny_pure (hQ h5 ⟨rawInt a,.bool true,old,Yo,.inr ⟨_,rfl⟩⟩ Yp))
      ·rw[if_neg hb];exact wpAny_pure (wpAny_pure (hQ s.heap ⟨rawInt a,f1,old,he,.inr ⟨_,rfl⟩⟩ ⟨rfl,fun _ _=>rfl⟩))
theorem zE {b:Bool} {e it l:Addr} {i:Nat} {items:Array Value} {x:Value} {Q:Option Value→Shared→Prop}
    (he:iI s.heap e it i) (st:kh b it l items i s.heap) (hx:items[i]? = some x)
    (hQ:∀h',iI h' e it ((i:Int)+1)→kh b it l items (i+1) h'→h'.get? s.heap.objs.size=some {cls:=.type "tuple",data:=.seq #[.int i s.toks,x]}→
      (∀c o,c≠e→c≠it→s.heap.get? c=some o→h'.get? c=some o)→Q (some (.ref s.heap.objs.size)) {s with heap:=h',toks:=s.toks+1}) :
    wpAny (model prog w) A (pyNext (.ref e)) Q E s:=by
  obtain⟨f0,f1,old,he,hf⟩:=he;obtain⟨oi,Ti,hoi,hci,hTi⟩:=Ua st;obtain⟨ol,Tl,hol,hcl,hTl⟩:=qak st;have hne:it≠e:=aL hoi he hci rfl hTi;have hnl:l≠e:=aL hol he hcl rfl hTl;have hT:s.TypeIs (.ref e) "enumerate" :=⟨_,he,rfl⟩;unfold pyNext;refine wpAny_bind (wpAny_attempt (wpAny_callSpecial?_slot (name:=Str.ofString "__next__") hT F.slot_enumerate_next (wpAny_call_entry F.slot_enumerate_next hT F.entry_enumerate_next ?_ (F.args_enumerate_next_1 _))));obtain⟨hp,g,d,tk,os⟩:=s;show wpAny (model prog w) _ (field (.ref e) 2 >>= _) _ _ _;refine wpAny_bind (wpAny_field he rfl (x:=.ref it) rfl ?_);refine wpAny_bind (zB st hx fun h1 st1 hs1=>?_);replace hs1:Heap.SameBut it hp h1:=hs1;have Cv:=(hs1.2 e hne.symm).trans he;show wpAny (model prog w) _ (field (.ref e) 3 >>= _) _ _ ⟨h1,g,d,tk,os⟩;refine wpAny_bind (wpAny_field Cv rfl (x:=rawInt i) rfl ?_);show wpAny (model prog w) _ (field (.ref e) 4 >>= _) _ _ ⟨h1,g,d,tk,os⟩;refine wpAny_bind (wpAny_field Cv rfl (x:=.none) rfl ?_);show wpAny (model prog w) _ (mkInt i >>= _) _ _ ⟨h1,g,d,tk,os⟩;refine wpAny_bind (wpAny_mkInt ?_);show wpAny (model prog w) _ (setField (.ref e) 3 (rawInt ((i:Int)+1)) >>= _) _ _ ⟨h1,g,d,tk+1,os⟩;refine wpAny_bind (wpAny_setField_rec Cv (by simp) fun h2 he2 hs2=>?_);replace hs2:Heap.SameBut e h1 h2:=hs2;show wpAny (model prog w) _ (setField (.ref e) 4 .none >>= _) _ _ ⟨h2,g,d,tk+1,os⟩;refine wpAny_bind (wpAny_setField_rec he2 (by simp) fun h3 he3 hs3=>?_);replace hs3:Heap.SameBut e h2 h3:=hs3;show wpAny (model prog w) _ (newTuple [.int i tk,x] >>= _) _ _ ⟨h3,g,d,tk+1,os⟩;refine wpAny_bind (wpAny_newTuple ?_);have hsz:h3.objs.size=hp.objs.size:=by rw[hs3.1,hs2.1,hs1.1]
  have hel:e<hp.objs.size:=Heap.lt_size he;have he4:(h3.push {cls:=.type "tuple",data:=.seq #[.int i tk,x]}).get? e=some {cls:=.type "enumerate",dict:=none,data:=.fields #[f0,f1,.ref it,rawInt ((i:Int)+1),.none,old],slots:=#[]}:=Heap.get?_push_of_some _ he3;have ht4:(h3.push {cls:=.type "tuple",data:=.seq #[.int i tk,x]}).get? hp.objs.size=some {cls:=.type "tuple",data:=.seq #[.int i tk,x]}:=by rw[← hsz];exact Heap.get?_push_size _ rfl
  have hk4:∀c o,c≠e→c≠it→hp.get? c=some o→(h3.push {cls:=.type "tuple",data:=.seq #[.int i tk,x]}).get? c=some o:=fun c o h1 h2 h3=>Heap.get?_push_of_some _ (hs3.extBut c o h1 (hs2.extBut c o h1 (hs1.extBut c o h2 h3)));have st4:kh b it l items (i+1) (h3.push {cls:=.type "tuple",data:=.seq #[.int i tk,x]}):=uW st1 (fun o z=>Heap.get?_push_of_some _ (hs3.extBut _ _ hne (hs2.extBut _ _ hne z))) (fun o z=>Heap.get?_push_of_some _ (hs3.extBut _ _ hnl (hs2.extBut _ _ hnl z)));refine Yn (s:=⟨h3.push {cls:=.type "tuple",data:=.seq #[.int i tk,x]},g,d,tk+1,os⟩) he4 hf fun h5 hE5 Yp=>⟨_,rfl,wpAny_pure ?_⟩;rw[show(Shared.mk h3 g d (tk+1) os).heap.objs.size=hp.objs.size from hsz];refine hQ h5 hE5 (uW st4 (fun o z=>(Yp.2 _ hne).trans z) (fun o z=>(Yp.2 _ hnl).trans z)) ((Yp.2 _ (Nat.ne_of_gt hel)).trans ht4) fun c o h1 h2 h3=>(Yp.2 c h1).trans (hk4 c o h1 h2 h3)
end
end L2
namespace PySem
open Sem (wp)
theorem rD:typeLookup (.type "enumerate") "__getattr__" = pure none:=by rw[typeLookup_type,builtinLookup_eq_fast];kernel_rfl
theorem uX:typeLookup (.type "enumerate") "keys" = pure none:=by rw[typeLookup_type,builtinLookup_eq_fast];kernel_rfl
theorem mq:entryFor table "enumerate.__getattribute__" = some Builtin.«object.__getattribute__»:=
  entryFor_alias (id':= "object.__getattribute__") (by kernel_rfl) (by decide+kernel) (by decide+kernel) (by kernel_rfl)
theorem Ge (a:Addr) (xs:Array Value) (sl:Array (Option Value)) (name:Str) (u:Tok) (hmiss:typeLookup (.type "enumerate") name=pure none) (hname:(["__module__", "__name__", "__qualname__", "__doc__", "__annotations__"]:List Str).contains name=false) (hsz:name.length+100≤sizeLine:=by size_fits) :
    Meets (Builtin.«object.__getattribute__» ⟨[.ref a,.str name u],[]⟩) (fun A R s=>s.heap.get? a=some {cls:=.type "enumerate",dict:=none,data:=.fields xs,slots:=sl}∧raisesAttr (.ref a) name A R s):=
  Meets.of_wp fun prog w A R s hs=>by
    obtain⟨hp,g,d,tk,os⟩:=s;obtain⟨hx,hs⟩:=hs;have hT:(⟨hp,g,d,tk,os⟩:Shared).TypeIs (.ref a) "enumerate" :=⟨_,hx,rfl⟩;unfold Builtin.«object.__getattribute__»
    repeat (any_goals (first | assumption | wp_step))
    simp only[hname,Bool.false_eq_true,if_false]
    repeat (any_goals (first | assumption | wp_step))
    exact wpAny_raiseAttrError hs.1 hs.2 (attrMsg_fits (by decide+kernel) hsz)
theorem Gf {prog:Program} {w:World} {A:Around} {E:Value→Shared→Prop} {s:Shared} {a:Addr} {xs:Array Value} {Q:Option Value→Shared→Prop}
    (hx:s.heap.get? a=some {cls:=.type "enumerate",dict:=none,data:=.fields xs,slots:=#[]}) (hA:A.handled=none)
    (h:∀h' tk,(∀b o,s.heap.get? b=some o→h'.get? b=some o)→Q none {s with heap:=h',toks:=tk}) :
    wpAny (model prog w) A (getAttr? (.ref a) "keys") Q E s:=by
  obtain⟨hp,g,d,tk,os⟩:=s;have hT:∀tk',(⟨hp,g,d,tk',os⟩:Shared).TypeIs (.ref a) "enumerate" :=fun _=>⟨_,hx,rfl⟩;have f1:=sub_AttributeError;have f3:=F.slot_enumerate_getattribute.lookup;have f4:=F.slot_enumerate_getattribute.bind (.ref a);have f5:=rD;have hname:(["__module__", "__name__", "__qualname__", "__doc__", "__annotations__"]:List Str).contains "keys" = false:=by decide
  unfold getAttr? getAttrBy? getAttrBy
  repeat (any_goals (first | assumption | exact hT _ | ((with_reducible show wpAny _ _ (call (Value.builtin "enumerate.__getattribute__") _ _) _ _ _);refine call_meets F.slot_enumerate_getattribute (hT _) mq (F.args_enumerate_getattribute_2 _ _) (Ge a xs #[] "keys" _ uX hname) ⟨hx,hA,fun h' tk' e hx'=>?_⟩) | wp_step))
  obtain⟨t',u',he⟩:=hx'.there;show wpAny _ _ (getattributeRaised _ _ _ _ _ _ _) _ _ _;unfold getattributeRaised
  repeat (any_goals (first | assumption | wp_step))
  exact h _ _ hx'.of.keeps
end PySem
namespace PySem
open Sem (wp)
open AutoSeq1 (wpAny_loadPart')
theorem uY (l:Addr) (items:Array Value) (n:Nat) (dct:Option Addr) (sl:Array (Option Value)) :
    Meets (Builtin.«enumerate.__new__» ⟨[.type "enumerate",.ref l],[]⟩) (fun _ R s=>s.heap.get? l=some {cls:=.type "tuple",dict:=dct,data:=.seq items n,slots:=sl}∧
      R (.ok (.ret (.ref (s.heap.push {cls:=.type "tuple_iterator",data:=.fields #[.ref l,.int 0 0]}).objs.size)))
        {s with heap:=(s.heap.push {cls:=.type "tuple_iterator",data:=.fields #[.ref l,.int 0 0]}).push {cls:=.type "enumerate",data:=.fields #[.none,.bool false,.ref s.heap.objs.size,rawInt 0,.none,.none]}}):=
  .of_wp fun prog w A R s h=>by
    obtain⟨hp,g,d,tk,os⟩:=s;obtain⟨hl,h⟩:=h;have hsub:=sub_enumerate;have hL:Heap.IsTuple (Shared.heap ⟨hp,g,d,tk,os⟩) l items:=⟨_,hl,rfl,n,rfl⟩
    wp_walk using wpAny_loadPart' hl
    refine wpAny_stack_any fun st=>wpAny_pure ?_;split
    · rename_i c _ _ _ _ _;cases (c == Value.type "enumerate")
      · wp_walk using wpAny_loadPart' hl,wpAny_pyIter_tuple hL
        exact⟨_,rfl,h⟩
      · wp_walk using wpAny_loadPart' hl,wpAny_pyIter_tuple hL
        exact⟨_,rfl,h⟩
    · wp_walk using wpAny_loadPart' hl,wpAny_pyIter_tuple hL
      exact⟨_,rfl,h⟩
section
variable {prog:Program} {w:World} {A:Around} {E:Value→Shared→Prop} {s:Shared}
theorem mY {b:Bool} {l:Addr} {items:Array Value} {Q:Value→Shared→Prop} (hL:match b with | true=>s.heap.IsList l items | false=>s.heap.IsTuple l items)
    (h:∀h',L2.iI h' (s.heap.objs.size+1) s.heap.objs.size 0→L2.kh b s.heap.objs.size l items 0 h'→h'.objs.size=s.heap.objs.size+2→
      (∀b o,s.heap.get? b=some o→h'.get? b=some o)→Q (.ref (s.heap.objs.size+1)) {s with heap:=h'}) :
    wpAny (model prog w) A (call (.type "enumerate") [.ref l]) Q E s:=by
  cases b with
  | true=>
    exact call_enumerate_list hL fun h' b1 b2 b3 kk=>h h' ⟨_,_,_,b1,.inl rfl⟩ ⟨b2,hL.at fun o z=>kk _ _ z⟩ b3 kk
  | false=>
    obtain⟨⟨c,dct,dt,sl⟩,hl,hc,n,hd⟩:=id hL;replace hc:c = .type "tuple" :=hc;replace hd:dt = .seq items n:=hd;subst hc hd;refine callType_new F.called_enumerate (by decide) (F.typeCall_enumerate_1 _) (F.newCall_enumerate_1 _) (fun obj=>F.args_object_init_2 obj _) F.entry_enumerate_new
      (uY l items n dct sl) ⟨hl,?_⟩
    have hz:(s.heap.push {cls:=.type "tuple_iterator",data:=.fields #[.ref l,.int 0 0]}).objs.size=s.heap.objs.size+1:=Heap.size_push ..;show _∧_;rw[hz];have he:L2.iI ((s.heap.push {cls:=.type "tuple_iterator",data:=.fields #[.ref l,.int 0 0]}).push
        {cls:=.type "enumerate",data:=.fields #[.none,.bool false,.ref s.heap.objs.size,rawInt 0,.none,.none]}) (s.heap.objs.size+1) s.heap.objs.size 0:=by
      have:=Heap.get?_push_size (s.heap.push {cls:=.type "tuple_iterator",data:=.fields #[.ref l,.int 0 0]})
        (o:={cls:=.type "enumerate",data:=.fields #[.none,.bool false,.ref s.heap.objs.size,rawInt 0,.none,.none]}) rfl
      rw[hz] at this;exact⟨_,_,_,this,.inl rfl⟩
    obtain⟨_,_,_,he',_⟩:=id he;have kk:∀b o,s.heap.get? b=some o→((s.heap.push {cls:=.type "tuple_iterator",data:=.fields #[.ref l,.int 0 0]}).push
        {cls:=.type "enumerate",data:=.fields #[.none,.bool false,.ref s.heap.objs.size,rawInt 0,.none,.none]}).get? b=some o:=fun b o x=>Heap.get?_push_of_some _ (Heap.get?_push_of_some _ x)
    refine⟨⟨_,he',rfl⟩,h _ he ⟨⟨_,Heap.get?_push_of_some _ (Heap.get?_push_size _ rfl),rfl,rfl⟩,⟨_,kk _ _ hl,rfl,n,rfl⟩⟩ (by rw[Heap.size_push,hz]) kk⟩
end
end PySem
namespace L2
open PySem PySem.Spec PyProof.Rows
section
variable {prog:Program} {w:World} {A:Around} {E:Value→Shared→Prop} {s:Shared}
theorem zF {b:Bool} {e it l:Addr} {i:Nat} {items:Array Value} {Q:Option Value→Shared→Prop} (hh:A.handled=none)
    (he:iI s.heap e it i) (st:kh b it l items i s.heap) (hx:items[i]? = none)
    (hQ:∀h',Heap.ExtBut it s.heap h'→Q none {s with heap:=h'}):wpAny (model prog w) A (pyNext (.ref e)) Q E s:=by
  obtain⟨f0,f1,old,he,hf⟩:=he;have hT:s.TypeIs (.ref e) "enumerate" :=⟨_,he,rfl⟩;unfold pyNext;refine wpAny_bind (wpAny_attempt (wpAny_callSpecial?_slot (name:=Str.ofString "__next__") hT F.slot_enumerate_next
    (wpAny_call_entry F.slot_enumerate_next hT F.entry_enumerate_next ?_ (F.args_enumerate_next_1 _))))
  show wpAny _ _ (field (.ref e) 2 >>= _) _ _ _;refine wpAny_bind (wpAny_field he rfl (x:=.ref it) rfl ?_);refine wpAny_bind (Ub hh st hx fun h' x he' hx'=>?_);obtain⟨o,ho,hc⟩:=hx';refine wpAny_bind (wpAny_isInstance (T:= "StopIteration") (b:=true) ⟨o,ho,hc⟩ isSubtype_stop ?_);exact wpAny_pure (hQ _ he')
end
theorem uZ:entryFor table "dict.update.loop" = some Builtin.«dict.update.loop»:=entryFor_of_fast (by kernel_rfl)
theorem lF:plainId "dict.update.loop" = true:=by decide+kernel
def nums {α:Type}:Nat→List α→List (Key×α)
  | _,[]=>[]
  | n,x::xs=>(Sum.inl (n:Int),x)::nums (n+1) xs
theorem zG {α:Type}:∀(n:Nat) (xs:List α),(nums n xs).length=xs.length
  | _,[]=>rfl
  | n,x::xs=>by rw[nums,List.length_cons,List.length_cons,zG]
theorem Ir {α:Type}:∀(n:Nat) (xs:List α) (y:α),nums n (xs++[y])=nums n xs++[(Sum.inl ((n+xs.length:Nat):Int),y)]
  | n,[],y=>rfl
  | n,x::xs,y=>by
    rw[List.cons_append,nums,Ir (n+1) xs y,nums,List.cons_append,List.length_cons,Nat.add_right_comm,Nat.add_assoc]
theorem Iu {α:Type}:∀(n:Nat) (xs:List α) (m:Nat),(nums n xs).any (fun kv=>decide (kv.1=(Sum.inl (m:Int):Key)))=true→n≤m∧m<n+xs.length
  | n,[],m,h=>by simp[nums] at h
  | n,x::xs,m,h=>by
    rw[nums,List.any_cons,Bool.or_eq_true] at h
    rcases h with h | h
    · have h1:=of_decide_eq_true h;injection h1 with h1;have h2:n=m:=by omega
      subst h2;simp
    ·have:=Iu (n+1) xs m h;rw[List.length_cons];omega
theorem Yq:∀{ys:List V} {its:List Value} (n:Nat),Vals ys its→KV (nums n ys) (nums n its):=by
  intro ys its n r
  induction r generalizing n with
  | nil=>exact .nil
  | cons h t ih=>exact .cons ⟨rfl,h⟩ (ih (n+1))
section
variable {P:Program} {w:World} {A:Around} {R:Result→Shared→Prop} {b:Bool} {e it l D:Addr} {its:List Value}
theorem Yr (hh:A.handled=none) (h1:D≠e) (h2:D≠it) (h3:D≠l) (hs:its.length≤sizeLine) :
    ∀(k i:Nat) (s:Shared),its.length - i=k→i≤its.length→iI s.heap e it i→kh b it l its.toArray i s.heap→s.heap.DictOf (bO P w) D (nums 0 (its.take i))→
      (∀h' tk,(∀c o,c≠D→c≠e→c≠it→s.heap.get? c=some o→h'.get? c=some o)→h'.DictOf (bO P w) D (nums 0 its)→R (.ok (.ret .none)) {s with heap:=h',toks:=tk})→
      codeAny (model P w) A (.builtin "dict.update.loop" ⟨[.ref D,.ref e,rawInt i,.none],[]⟩) R s:=by
  intro k
  induction k with
  | zero=>
    intro i s hk hi hE hst hD hR;obtain rfl:i=its.length:=by omega
    refine codeAny_builtin uZ ?_;rw[Around.under_plainId lF _];show wpAny _ A.in1 (pyNext (.ref e) >>= _) _ _ s;refine wpAny_bind (zF (A:=A.in1) hh hE hst (by simp) fun h' hm=>?_);refine wpAny_bind (wpAny_pure ?_);refine wpAny_pure (hR h' s.toks (fun c o c1 c2 c3 z=>hm c o c3 z) ?_);rw[List.take_length] at hD;exact hD.extBut hm h2
  | succ k ih=>
    intro i s hk hi hE hst hD hR;have hlt:i<its.length:=by omega
    refine codeAny_builtin uZ ?_;rw[Around.under_plainId lF _];show wpAny _ A.in1 (pyNext (.ref e) >>= _) _ _ s;refine wpAny_bind (zE hE hst (x:=its[i]) (by simp[hlt]) fun h' hE' hst' ht hm=>?_);have hT:(Shared.mk h' s.gens s.drawn (s.toks+1) s.os).TypeIs (.ref s.heap.objs.size) "tuple" :=⟨_,ht,rfl⟩;show wpAny _ A.in1 (holding _ _ >>= _) _ _ _;refine wpAny_bind (wpAny_holding ?_);refine wpAny_bind (wpAny_tryCatch ?_);unfold Builtin.Dict.pairItems;refine wpAny_bind (wpAny_typeOf hT ?_);rw[if_pos (by decide)];refine wpAny_bind (wpAny_seqItems ht rfl ?_);refine wpAny_pure ?_;show wpAny _ A.in1 (holding _ (dictSet D (.int i s.toks) its[i])) _ _ _;refine wpAny_holding ?_;have hD':h'.DictOf (bO P w) D (nums 0 (its.take i)):=by
      obtain⟨o,es,ep,ho,r⟩:=hD;exact⟨o,es,ep,hm D o h1 h2 ho,r⟩
    refine wpAny_dictSet_pairs (knd:=bO P w) (k:=Sum.inl (i:Int)) (s:=Shared.mk h' s.gens s.drawn (s.toks+1) s.os) (xR P w i s.toks) hD' (fun h2' hD2 hsb=>?_) (by rw[zG,List.length_take];omega);have ei:(i:Int)+1=((i+1:Nat):Int):=by omega
    have est:stored (nums 0 (its.take i)) (Sum.inl (i:Int)) its[i]=nums 0 (its.take (i+1)):=by
      unfold stored;rw[if_neg (fun z=>?_)]
      ·rw[List.take_succ_eq_append_getElem hlt,Ir,List.length_take,Nat.min_eq_left (by omega),Nat.zero_add]
      ·have:=Iu _ _ _ z;rw[List.length_take] at this;omega
    rw[est] at hD2;rw[ei] at hE';refine wpAny_pure ⟨plainId_quiet lF _,?_⟩;show codeAny _ A (.builtin "dict.update.loop" ⟨[.ref D,.ref e,rawInt ((i:Int)+1),.none],[]⟩) _ _;rw[ei];refine ih (i+1) _ (by omega) hlt ?_ (uW hst' (fun o z=>(hsb.2 _ h2.symm).trans z) (fun o z=>(hsb.2 _ h3.symm).trans z)) hD2 fun h3' tk hm3 mz=>?_
    ·obtain⟨f0,f1,old,q,hf⟩:=hE';exact⟨f0,f1,old,(hsb.2 _ h1.symm).trans q,hf⟩
    ·exact hR h3' tk (fun c o c1 c2 c3 z=>hm3 c o c1 c2 c3 ((hsb.2 c c1).trans (hm c o c2 c3 z))) mz
end
section
variable {P:Program} {w:World} {A:Around} {E:Value→Shared→Prop} {s:Shared} {b:Bool} {e it l:Addr} {its:List Value}
theorem Gg {Q:Value→Shared→Prop} (hT:s.TypeIs (.ref e) "enumerate") (h:Q (.ref e) s):wpAny (model P w) A (pyIter (.ref e)) Q E s:=by
  refine wpAny_pyIter_slot hT F.slot_enumerate_iter (wpAny_call_entry F.slot_enumerate_iter hT F.entry_enumerate_iter ?_ (F.args_enumerate_iter_1 _));show wpAny _ _ (ret (.ref e)) _ _ s;exact wpAny_pure ⟨_,rfl, "enumerate",_,hT,F.slot_enumerate_next.lookup,h⟩
theorem Ys {Q:Value→Shared→Prop} (hh:A.handled=none) (hE:iI s.heap e it 0) (hst:kh b it l its.toArray 0 s.heap) (hs:its.length≤sizeLine)
    (h:∀h' tk,(∀c o,c≠e→c≠it→s.heap.get? c=some o→h'.get? c=some o)→h'.DictOf (bO P w) s.heap.objs.size (nums 0 its)→Q (.ref s.heap.objs.size) {s with heap:=h',toks:=tk}) :
    wpAny (model P w) A (call (.type "dict") [.ref e]) Q E s:=by
  obtain⟨f0,f1,old,he,hf⟩:=hE;obtain⟨oi,Ti,hoi,hci,hTi⟩:=Ua hst;obtain⟨ol,Tl,hol,hcl,hTl⟩:=qak hst;refine callType_codes (Q₁:=fun obj s₁=>obj = .ref s.heap.objs.size∧s₁={s with heap:=s.heap.push {cls:=.type "dict",data:=.dict #[]}}) F.kt_called_dict (F.kt_typeCall_dict_1 _) F.entry_dict_init (kt_code_dict_new _ ⟨rfl,rfl⟩) ?_;rintro obj s₁ ⟨rfl,rfl⟩;have hnew:(s.heap.push {cls:=.type "dict",data:=.dict #[]}).DictOf (bO P w) s.heap.objs.size []:=Heap.DictOf.new s.heap;have kp:∀c o,s.heap.get? c=some o→(s.heap.push {cls:=.type "dict",data:=.dict #[]}).get? c=some o:=fun c o z=>Heap.get?_push_of_some _ z;have ne:∀{c o},s.heap.get? c=some o→s.heap.objs.size≠c:=fun z=>Nat.ne_of_gt (Heap.lt_size z);have hT:(Shared.mk (s.heap.push {cls:=.type "dict",data:=.dict #[]}) s.gens s.drawn s.toks s.os).TypeIs (.ref e) "enumerate" :=⟨_,kp _ _ he,rfl⟩;refine⟨hnew.typeIs,F.args_dict_init_2 _ _,?_⟩;unfold Builtin.«dict.__init__»;refine wpAny_bind ?_;unfold Builtin.Dict.selfAndRest;refine wpAny_bind (wpAny_notOrdered_dict hnew.typeIs ?_);show wpAny _ _ (pure (s.heap.objs.size,[Value.ref e])) _ _ _;refine wpAny_pure ?_;show wpAny _ _ (Builtin.Dict.updateFrom "dict.__init__" s.heap.objs.size (.ref e) [] .none) _ _ _;unfold Builtin.Dict.updateFrom;refine wpAny_bind (wpAny_typeOf hT ?_);rw[if_pos (by decide)];show wpAny (model P w) A.in1.in1 (getAttr? (.ref e) "keys" >>= _) _ _ _;refine wpAny_bind (Gf (A:=A.in1.in1) (kp _ _ he) hh fun h1 tk1 k1=>?_);have Cv:=k1 _ _ (kp _ _ he);have hT1:(Shared.mk h1 s.gens s.drawn tk1 s.os).TypeIs (.ref e) "enumerate" :=⟨_,Cv,rfl⟩;simp only[Option.isNone_none,if_true];refine wpAny_bind (wpAny_rule ?_);refine wpAny_bind (Gg (s:=Shared.mk h1 s.gens s.drawn tk1 s.os) hT1 ?_);refine wpAny_pure ⟨plainId_quiet lF _,?_⟩;have hD1:h1.DictOf (bO P w) s.heap.objs.size []:=by
    obtain⟨o,es,ep,ho,r⟩:=hnew;exact⟨o,es,ep,k1 _ o ho,r⟩
  refine Yr (A:=A.in1) (b:=b) (l:=l) (it:=it) hh (ne he) (ne hoi) (ne hol) hs its.length 0 _ (by omega) (Nat.zero_le _) ⟨f0,f1,old,Cv,hf⟩ (uW hst (fun o z=>k1 _ _ (kp _ _ z)) (fun o z=>k1 _ _ (kp _ _ z))) (by simpa [nums] using hD1) fun h' tk hm hD=>⟨rfl,h h' tk (fun c o c1 c2 z=>hm c o (ne z).symm c1 c2 (k1 _ _ (kp _ _ z))) hD⟩
end
section
variable {X:Cx} {K:W.Frag}
def tDE (K:W.Frag) (t:TA):TE:=fun σ H Q=>t σ H fun vs H1=>∃a xs,vs=[.ref a]∧(aX K H1 a xs∨d9 K H1 a xs)∧∀p,H1 p=none→Q (.ref p) (upd H1 p (.dK (nums 0 xs)))
@[simp ↓] theorem qmh (K:W.Frag) (t:TA) σ H Q:tDE K t σ H Q=(t σ H fun vs H1=>∃a xs,vs=[.ref a]∧(aX K H1 a xs∨d9 K H1 a xs)∧∀p,H1 p=none→Q (.ref p) (upd H1 p (.dK (nums 0 xs)))):=rfl
theorem Iv (hK:X.K=K) (hc:X.calm=true) {a:Expr} {ta:TA} {p p2 pos pos2:Pos} (hg1:Gl X "dict") (hm1:X.mg "dict" = none) (hg2:Gl X "enumerate") (hm2:X.mg "enumerate" = none) (ha:PA X [a] ta)
    (hs:starEach [a] X.env=[(false,eval a X.env)]:=by rfl)
    (hs1:starEach [.Call (.Name "enumerate" p2) [a] [] pos2] X.env=[(false,eval (.Call (.Name "enumerate" p2) [a] [] pos2) X.env)]:=by rfl) :
    PE X (.Call (.Name "dict" p) [.Call (.Name "enumerate" p2) [a] [] pos2] [] pos) (tDE K ta):=by
  subst hK;intro p_ s σ H Q I h;refine wpAny_Call_Name_kw (jC I hg1 hm1 K3 ?_ (by decide) (by decide));refine PyProof.Rows.callWith_type1 ?_ (by rw[hs1];rfl) (by rfl);rw[hs1];show wpAny _ _ (spliced ((false,eval (.Call (.Name "enumerate" p2) [a] [] pos2) X.env)::[])) _ _ s;refine Calls.spliced_cons ?_;refine wpAny_Call_Name_kw (jC I hg2 hm2 wM ?_ (by decide) (by decide));refine PyProof.Rows.callWith_type1 (cB (ha pos2 p_ s σ H _ I h) fun us s1 zz=>?_) (by rw[hs];rfl) (by rfl);obtain⟨vs,H1,I1,r1,q1⟩:=zz;obtain⟨l1,xs,rfl,qa,q⟩:=q1;obtain⟨u,rfl,r⟩:=vals1 r1;obtain rfl:u=Value.ref l1:=r;have go:∃(b:Bool) (its:List Value),Vals xs its∧its.length≤sizeLine∧(match b with | true=>s1.heap.IsList l1 its.toArray | false=>s1.heap.IsTuple l1 its.toArray):=by
    rcases qa with qa | qa
    ·obtain⟨its,rv,pl,hz⟩:=I1.list qa;exact⟨true,its,rv,by rw[← rv.length];exact hz,pl.isList⟩
    ·obtain⟨its,rv,pl,hz⟩:=I1.tuple qa;exact⟨false,its,rv,by rw[← rv.length];exact hz,pl⟩
  obtain⟨b,its,rv,hz,hL⟩:=go;refine mY (b:=b) hL fun h' b1 b2 b3 kk=>?_;refine Calls.spliced_nil ?_;refine Ys (s:={s1 with heap:=h'}) (b:=b) (I1.ok.hd hc) b1 b2 hz fun h2 tk km hD=>?_;have HX:∀c o,s1.heap.get? c=some o→h2.get? c=some o:=fun c o z=>km c o (Nat.ne_of_lt (Nat.lt_succ_of_lt (Heap.lt_size z))) (Nat.ne_of_lt (Heap.lt_size z)) (kk c o z);have hle:s1.heap.objs.size≤h'.objs.size:=by rw[b3];omega
  have hf:H1 h'.objs.size=none:=I1.hok.fresh hle;refine⟨.ref h'.objs.size,_,I1.laid (o:=.dK (nums 0 xs)) (t':=tk) HX hle ?_,rfl,q _ hf⟩;refine(show cj _ _ _ _ _ (.dK (nums 0 xs)) from⟨by rw[zG,rv.length];exact hz,?_,nums 0 its,Yq 0 rv,hD⟩);have h1:=I1.big;have h2:sysModules<h'.objs.size:=Nat.lt_of_lt_of_le h1 hle;exact beq_eq_false_iff_ne.mpr (Nat.ne_of_gt h2)
end
structure Nm3 (mg:Str→Option Value):Prop where
  sum:mg "sum" = none
theorem boot_sum:bootBuiltins "sum" = some (.builtin "sum"):=by decide+kernel
theorem zH:∀{ys:List Str} {us:List Value},Vals (ys.map V.str) us→StrsAre us ys
  | [],_,r=>by rw[List.map_nil] at r;cases r;exact .nil
  | y::ys,_,r=>by
    rw[List.map_cons] at r;cases r with
    | cons h t=>
      obtain⟨k,rfl⟩:=h;exact .cons y k (zH t)
theorem zJ:∀{ns:List Int} {us:List Value},Vals (ns.map V.int) us→∃l:List (Int×Tok),us.toArray=intItems l.toArray∧l.map (·.1)=ns
  | [],_,r=>by rw[List.map_nil] at r;cases r;exact⟨[],by simp[intItems],rfl⟩
  | y::ys,_,r=>by
    rw[List.map_cons] at r;cases r with
    | @cons _ _ _ us h t=>
      obtain⟨k,rfl⟩:=h;obtain⟨l,h1,h2⟩:=zJ t;refine⟨(y,k)::l,?_,by rw[List.map_cons,h2]⟩;have:us=l.map fun p=>Value.int p.1 p.2:=by simpa [intItems] using congrArg Array.toList h1
      rw[this];simp[intItems]
section
variable {X:Cx} {K:W.Frag}
def rJoin:V→List V→Hp→VK→Prop:=fun x xs H Q=>∃(sep:Str) (l:Addr) (ys:List Str),x = .str sep∧xs=[.ref l]∧H l=some (.lst (ys.map V.str))∧(ys.map (·.length)).sum+ys.length * sep.length≤16777216∧Q (.str (Txt.join sep ys)) H
theorem Yt:Qk X "str.join" rJoin:=by
  intro p_ s σ H x xs v us Q I rx rs q;obtain⟨sep,l,ys,rfl,rfl,hl,hz,q⟩:=q;obtain⟨u,rfl,ru⟩:=rs.one;obtain rfl:u=Value.ref l:=ru;obtain⟨t,rfl⟩:=rx;obtain⟨its,rv,pl,hz1⟩:=I.list (aX.of hl);exact join_list pl.isList (by simpa using zH rv) hz fun t' k=>⟨.str _,H,I.tok _,⟨t',rfl⟩,q⟩
def Ud (K:W.Frag):V→List V→Hp→VK→Prop:=fun x xs H Q=>∃(l:Addr) (ys:List Str) (k:Str),x = .ref l∧xs=[.str k]∧aX K H l (ys.map V.str)∧Q (.int (ys.count k:Nat)) H
theorem tH (k:Str):∀ys:List Str,countIn (.str k) (ys.map PyData.str)=((ys.count k:Nat):Int)
  | []=>rfl
  | y::ys=>by
    rw[countIn_strs_sum,List.map_cons,List.sum_cons,← countIn_strs_sum,tH k ys,List.count_cons]
    by_cases h:(y == k)=true
    ·rw[if_pos h,if_pos h];omega
    ·rw[if_neg h,if_neg h];omega
theorem Ue (hK:X.K=K):Qk X "list.count" (Ud K):=by
  subst hK;intro p_ s σ H x xs v us Q I rx rs q;obtain⟨l,ys,k,rfl,rfl,hl,q⟩:=q;obtain⟨u,rfl,ru⟩:=rs.one;obtain⟨t,rfl⟩:=ru;obtain rfl:v=Value.ref l:=rx;obtain⟨its,rv,pl,hz1⟩:=I.list hl;refine count_list_strs pl.isList (zH rv) ?_;rw[tH];exact⟨.int _,H,I.tok _,⟨_,rfl⟩,q⟩
def qeq (K:W.Frag):List V→Hp→VK→Prop:=fun xs H Q=>∃(l:Addr) (ns:List Int),xs=[.ref l]∧aX K H l (ns.map V.int)∧Q (.int ns.sum) H
theorem QC (hK:X.K=K) (hc:X.calm=true):cC X (.builtin "sum") (qeq K):=by
  subst hK;intro p_ s σ H xs us Q I r h;obtain⟨l,ns,rfl,hl,q⟩:=h;obtain⟨u,rfl,ru⟩:=r.one;obtain rfl:u=Value.ref l:=ru;obtain⟨its,rv,pl,hz1⟩:=I.list hl;obtain⟨ls,e1,e2⟩:=zJ rv;have hL:=pl.isList;rw[e1] at hL;refine sum_intListG (I.ok.hd hc) hL fun h' tk t' kk=>⟨.int _,H,I.kept (t':=tk) kk,⟨t',rfl⟩,?_⟩;rw[preSum_eq,List.take_of_length_le (by simp)];rw[show(ls.toArray.toList.map (·.1))=ns from e2];exact q
theorem DP:∀(xs:List Str) (a:Array Nat),(xs.foldl (fun acc p=>acc++(Str.ofString "").cps++p.cps) a).toList=a.toList++xs.flatMap (·.cps.toList)
  | [],a=>by simp
  | x::xs,a=>by
    rw[List.foldl_cons,DP xs];rw[show(Str.ofString "").cps = #[] from rfl,Array.append_empty];simp
theorem QD (ys:List Str):(Txt.join (Str.ofString "") ys).cps.toList=ys.flatMap (·.cps.toList):=by
  cases ys with
  | nil=>rfl
  | cons x xs=>
    show(List.foldl _ x.cps xs).toList=_;exact(DP xs x.cps).trans (by simp)
theorem rE:∀(ys:List Str),(∀y∈ys,∃n,n<26∧y=⟨#[97+n]⟩)→(ys.flatMap (·.cps.toList)).length=ys.length∧(ys.flatMap (·.cps.toList)).all Xj=true∧(ys.map (·.length)).sum=ys.length
  | [],_=>by simp
  | y::ys,h=>by
    obtain⟨n,hn,rfl⟩:=h y (List.mem_cons_self ..);obtain⟨h1,h2,h3⟩:=rE ys fun z hz=>h z (List.mem_cons_of_mem _ hz);refine⟨by simp only[List.flatMap_cons,List.length_append,List.length_cons,h1];simp;omega,by rw[List.flatMap_cons,List.all_append,h2];simp[TF n hn],?_⟩;rw[List.map_cons,List.sum_cons,h3,List.length_cons];show 1+_=_;omega
theorem pH.glue {c k:Nat} {x:Str} (h:pH c k x) (hk:0<k) {ys:List Str} (hy:∀y∈ys,∃n,n<26∧y=⟨#[97+n]⟩):pH c (k+ys.length) (x++Txt.join (Str.ofString "") ys):=by
  obtain⟨h1,h2,h3⟩:=h;obtain⟨y1,y2,_⟩:=rE ys hy;have e:=QD ys;have hs:x.cps.size=k:=h1;refine⟨?_,?_,?_⟩
  ·show(x.cps++(Txt.join (Str.ofString "") ys).cps).size=_;rw[Array.size_append,hs,← Array.length_toList,e,y1]
  ·show(x.cps++(Txt.join (Str.ofString "") ys).cps)[0]? = _;rw[Array.getElem?_append_left (by omega)];exact h2
  ·show(x.cps++(Txt.join (Str.ofString "") ys).cps).toList.all Xj=true;rw[Array.toList_append,List.all_append,h3,e,y2];rfl
end
section
variable {X:Cx} {sc0 sc:Scope} {N0 own N:List Str} {caps:List Nat} {elt tg iter:Expr} {ifs:List Expr} {pos:Pos} {wi:TI} {g:TG} {tt:TT} {te:TE}
theorem Ug {C0 s0 H0 fp0 pn0} (S:aQ sc0 sc N0 own caps N) (hc:(bF X sc0 N0 C0 s0 H0 fp0 pn0).calm=true) (hi:PI (bF X sc0 N0 C0 s0 H0 fp0 pn0) tg iter wi)
    (hg:∀C s H fp pn,PG (bF (bF X sc0 N0 C0 s0 H0 fp0 pn0) sc N C s H fp pn) tg g) (ht:∀C s H fp pn,PTs (bF (bF X sc0 N0 C0 s0 H0 fp0 pn0) sc N C s H fp pn) ifs tt) (he:∀C s H fp pn,PE (bF (bF X sc0 N0 C0 s0 H0 fp0 pn0) sc N C s H fp pn) elt te)
    (hs:∀x,foldedSetIterable iter (bF X sc0 N0 C0 s0 H0 fp0 pn0).env x=pure x:=by intro _;rfl):PE (bF X sc0 N0 C0 s0 H0 fp0 pn0) (.ListComp elt [⟨tg,iter,ifs,0⟩] sc pos) (HW own caps wi g tt te):=by
  have S':aQ (relabel sc0 X.env) sc N0 own caps N:=by
    refine⟨S.kind,S.uniq,S.nd,S.names,fun p hp e=>?_,S.qd1⟩;rw[mj]
    rcases S.free p hp e with h | h
    ·rw[h];exact .inl rfl
    · rw[h];simp only[Option.map_some];split
      ·exact .inl rfl
      ·exact .inr rfl
  exact cJ (ps:=relabel sc0 X.env) (pN:=N0) rfl rfl S' hc hi hg ht he hs
end
def gC (ns:List Int):List PyData:=ns.map PyData.int
theorem yu {K:W.Frag} {H:Hp}:∀ns:List Int,qM K H (gC ns) (ns.map V.int)
  | []=>rfl
  | n::ns=>⟨_,_,rfl,rfl,yu ns⟩
theorem lay_ints:∀ns:List Int,PyData.canLayAll0 (gC ns)=true
  | []=>by simp[gC,PyData.canLayAll0]
  | x::xs=>by
    have:=lay_ints xs;simp[gC] at this;simp[gC,PyData.canLayAll0,PyData.canLay0,this]
theorem zK:∀xs:List Int,PyData.depthAll (gC xs)≤1
  | []=>by simp[gC,PyData.depthAll]
  | x::xs=>by
    have:=zK xs;simp[gC] at this;simp[gC,PyData.depthAll,PyData.depth,this]
theorem u0:∀a b:List Int,PyData.eqvAll (gC a) (gC b)=decide (a=b)
  | [],[]=>rfl
  | [],y::b=>by simp[gC,PyData.eqvAll]
  | x::a,[]=>by simp[gC,PyData.eqvAll]
  | x::a,y::b=>by
    show(PyData.eqv (.int x) (.int y) && PyData.eqvAll (gC a) (gC b))=_;rw[u0 a b,Bool.eq_iff_iff];simp[PyData.eqv]
def u5 (n:Int) (e:Str×Str):Str:=if n=0 then e.1 else e.2
def k_ (n:Int) (e:Str×Str):Str:=if n=0 then e.2 else e.1
def mC:List Int→List (Str×Str)→Nat→List nC
  | n::ns,e::ps,k=>(k,u5 n e,k_ n e)::mC ns ps (k+1)
  | _,_,_=>[]
theorem Uh (fx:Nat→Option Int):∀(ps:List (Str×Str)) (ns:List Int) (k:Nat),(∀i,fx (k+i)=ns[i]?)→ns.length=ps.length→(∀n∈ns,0≤n∧n≤1)→fJ fx ps k=mC ns ps k
  | [],ns,k,_,hl,_=>by
    have:ns=[]:=List.length_eq_zero_iff.mp hl;subst this;rfl
  | e::ps,[],k,_,hl,_=>by simp at hl
  | e::ps,n::ns,k,hf,hl,h01=>by
    have h0:=hf 0;rw[Nat.add_zero] at h0;have hn:=h01 n List.mem_cons_self;have ih:=Uh fx ps ns (k+1) (fun i=>by rw[show k+1+i=k+(i+1) by omega,hf (i+1)];simp) (by simpa using hl) fun m hm=>h01 m (List.mem_cons_of_mem _ hm);rw[fJ,mC,ih];unfold Gb u5 k_;rw[h0];have:n=0∨n=1:=by omega
    rcases this with rfl | rfl <;> simp
def bN:List Int→List (Str×Str)→List Str
  | n::ns,e::ps=>k_ n e::bN ns ps
  | _,_=>[]
def DQ (c:List Str):List Int→List (Str×Str)→Nat
  | n::ns,e::ps=>(if ¬u5 n e∈c∧k_ n e∈c then 1 else 0)+DQ c ns ps
  | _,_=>0
def La (c:List Str) (ps:List (Str×Str)):Nat:=(ps.filter fun e=>decide (e.1∈c) && decide (e.2∈c)).length
theorem Oc:∀(ns:List Int) (ps:List (Str×Str)) (k:Nat),(mC ns ps k).map (·.2.2)=bN ns ps
  | [],_,_=>by simp[mC,bN]
  | n::ns,[],_=>by simp[mC,bN]
  | n::ns,e::ps,k=>by rw[mC,bN,List.map_cons,Oc ns ps]
theorem su:∀(ns:List Int) (ps:List (Str×Str)) (c:List Str),ns.length=ps.length→((bN ns ps).filter fun x=>decide (x∈c)).length=La c ps+DQ c ns ps
  | [],[],c,_=>by simp[bN,La,DQ]
  | [],e::ps,c,h=>by simp at h
  | n::ns,[],c,h=>by simp at h
  | n::ns,e::ps,c,h=>by
    have ih:=su ns ps c (by simpa using h);unfold La at ih ⊢;rw[bN,DQ,List.filter_cons,List.filter_cons];unfold k_ u5
    by_cases h1:e.1∈c <;> by_cases h2:e.2∈c <;> by_cases hn:n=0 <;> simp[h1,h2,hn] <;> omega
def isInt (x:V) (R:Int→Prop):Prop:=match x with | .int i=>R i | _=>False
def isStr (x:V) (R:Str→Prop):Prop:=match x with | .str i=>R i | _=>False
def pI (x:V) (R:Bool→Prop):Prop:=match x with | .bl i=>R i | _=>False
def isRef (x:V) (R:Addr→Prop):Prop:=match x with | .ref i=>R i | _=>False
def QF (x:V) (R:String→Prop):Prop:=match x with | .ty n=>R n | _=>False
def ar0 (xs:List V) (R:Prop):Prop:=match xs with | []=>R | _=>False
def ar1 (xs:List V) (R:V→Prop):Prop:=match xs with | [x]=>R x | _=>False
def ar2 (xs:List V) (R:V→V→Prop):Prop:=match xs with | [x,y]=>R x y | _=>False
def arH (xs:List V) (R:V→List V→Prop):Prop:=match xs with | x::r=>R x r | []=>False
def getSt:St→Nat→(V→Prop)→Prop
  | [],_,_=>False
  | o::_,0,R=>match o with | some v=>R v | none=>False
  | _::σ,n+1,R=>getSt σ n R
@[simp ↓] theorem qiA (i:Int) R:isInt (.int i) R=R i:=rfl
@[simp ↓] theorem qiB (i:Str) R:isStr (.str i) R=R i:=rfl
@[simp ↓] theorem qjJ (i:Bool) R:pI (.bl i) R=R i:=rfl
@[simp ↓] theorem qiC (i:Addr) R:isRef (.ref i) R=R i:=rfl
@[simp ↓] theorem qjK (i:String) R:QF (.ty i) R=R i:=rfl
@[simp ↓] theorem qmi R:ar0 [] R=R:=rfl
@[simp ↓] theorem qmj x R:ar1 [x] R=R x:=rfl
@[simp ↓] theorem qmk x y R:ar2 [x,y] R=R x y:=rfl
@[simp ↓] theorem qml x r R:arH (x::r) R=R x r:=rfl
@[simp ↓] theorem qiD v σ R:getSt (some v::σ) 0 R=R v:=rfl
@[simp ↓] theorem qiE o σ n R:getSt (o::σ) (n+1) R=getSt σ n R:=rfl
theorem isInt.out {x:V} {R} (h:isInt x R):∃i,x = .int i∧R i:=by cases x <;> first | exact⟨_,rfl,h⟩ | exact h.elim
theorem isStr.out {x:V} {R} (h:isStr x R):∃i,x = .str i∧R i:=by cases x <;> first | exact⟨_,rfl,h⟩ | exact h.elim
theorem pI.out {x:V} {R} (h:pI x R):∃i,x = .bl i∧R i:=by cases x <;> first | exact⟨_,rfl,h⟩ | exact h.elim
theorem isRef.out {x:V} {R} (h:isRef x R):∃i,x = .ref i∧R i:=by cases x <;> first | exact⟨_,rfl,h⟩ | exact h.elim
theorem QF.out {x:V} {R} (h:QF x R):∃i,x = .ty i∧R i:=by cases x <;> first | exact⟨_,rfl,h⟩ | exact h.elim
theorem ar0.out {xs:List V} {R} (h:ar0 xs R):xs=[]∧R:=by cases xs <;> first | exact⟨rfl,h⟩ | exact h.elim
theorem ar1.out {xs:List V} {R} (h:ar1 xs R):∃x,xs=[x]∧R x:=by
  match xs,h with
  | [x],h=>exact⟨x,rfl,h⟩
theorem ar2.out {xs:List V} {R} (h:ar2 xs R):∃x y,xs=[x,y]∧R x y:=by
  match xs,h with
  | [x,y],h=>exact⟨x,y,rfl,h⟩
theorem arH.out {xs:List V} {R} (h:arH xs R):∃x r,xs=x::r∧R x r:=by cases xs <;> first | exact⟨_,_,rfl,h⟩ | exact h.elim
theorem getSt.out:∀{σ:St} {i:Nat} {R},getSt σ i R→∃v,σ[i]? = some (some v)∧R v
  | [],_,_,h=>h.elim
  | some v::_,0,_,h=>⟨v,rfl,h⟩
  | none::_,0,_,h=>h.elim
  | _::σ,n+1,R,h=>by
    obtain⟨v,e,q⟩:=getSt.out (σ:=σ) (i:=n) h;exact⟨v,by simpa using e,q⟩
section
variable {X:Cx}
theorem PE.mono {e:Expr} {t t':TE} (o:PE X e t) (h:∀{σ H Q},t' σ H Q→t σ H Q):PE X e t':=fun p_ s σ H Q I q=>o p_ s σ H Q I (h q)
theorem PS.mono {e:Stmt} {t t':TS} (o:PS X e t) (h:∀{D σ H},t' D σ H→t D σ H):PS X e t':=fun p_ s σ H D I q=>o p_ s σ H D I (h q)
theorem g_.mono {e:List Expr} {t t':Di} (o:g_ X e t) (h:∀{v σ H Q},t' v σ H Q→t v σ H Q):g_ X e t':=fun p_ s σ H v u Q I r q=>o p_ s σ H v u Q I r (h q)
theorem fY.mono {f:Value→Value→Sem Value} {r r':R2} (o:fY X f r) (h:∀{x y H Q},r' x y H Q→r x y H Q):fY X f r':=fun p_ s σ H x y v u Q I rx ry q=>o p_ s σ H x y v u Q I rx ry (h q)
theorem cC.mono {f:Value} {r r':List V→Hp→VK→Prop} (o:cC X f r) (h:∀{x H Q},r' x H Q→r x H Q):cC X f r':=fun p_ s σ H x v Q I rx q=>o p_ s σ H x v Q I rx (h q)
theorem Qk.mono {f:String} {r r':V→List V→Hp→VK→Prop} (o:Qk X f r) (h:∀{x y H Q},r' x y H Q→r x y H Q):Qk X f r':=fun p_ s σ H x y v u Q I rx ry q=>o p_ s σ H x y v u Q I rx ry (h q)
theorem SQ.mono {r r':R2} (o:SQ X r) (h:∀{x y H Q},r' x y H Q→r x y H Q):SQ X r':=fun a b p_ s σ H x y v u Q I rx ry q z=>o a b p_ s σ H x y v u Q I rx ry (h q) z
theorem PIp.mono {op:Operator} {r r':Xw} (o:PIp X op r) (h:∀{x y H Q},r' x y H Q→r x y H Q):PIp X op r':=fun p_ s σ H x y v u Q I rx ry q=>o p_ s σ H x y v u Q I rx ry (h q)
theorem Qa.mono {r r':P_} (o:Qa X r) (h:∀{x y z H Q},r' x y z H Q→r x y z H Q):Qa X r':=fun p_ s σ H o' i v ov iv u Q I a b c q=>o p_ s σ H o' i v ov iv u Q I a b c (h q)
end
def fVar (i:Nat):TE:=fun σ H Q=>getSt σ i fun v=>Q v H
@[simp ↓] theorem qjL (i:Nat) σ H Q:fVar i σ H Q=getSt σ i (fun v=>Q v H):=rfl
theorem qbK {i:Nat} {σ H Q} (h:fVar i σ H Q):qaR i σ H Q:=getSt.out h
def jJ:List Str→List V→St
  | _::N,v::vs=>some v::jJ N vs
  | _::N,[]=>none::jJ N []
  | [],_=>[]
@[simp ↓] theorem qdw n N v vs:jJ (n::N) (v::vs)=some v::jJ N vs:=rfl
@[simp ↓] theorem qdx n N:jJ (n::N) []=none::jJ N []:=rfl
@[simp ↓] theorem qer vs:jJ [] vs=[]:=by cases vs <;> rfl
theorem pq:∀(N:List Str) (vs:List V),vs.length≤N.length→jJ N vs=start N vs
  | [],[],_=>rfl
  | [],_::_,h=>by simp at h
  | n::N,[],_=>by
    rw[jJ,pq N [] (by simp)];simp[start,List.replicate_succ]
  | n::N,v::vs,h=>by
    rw[jJ,pq N vs (by simpa using h)];simp[start]
def Lb (g:Int→Int→V):R2:=fun x y H Q=>isInt x fun i=>isInt y fun j=>Q (g i j) H
def fI (C:Int→Int→Prop) (g:Int→Int→V):R2:=fun x y H Q=>isInt x fun i=>isInt y fun j=>C i j∧Q (g i j) H
@[simp ↓] theorem qmm g x y H Q:Lb g x y H Q=(isInt x fun i=>isInt y fun j=>Q (g i j) H):=rfl
@[simp ↓] theorem qmN C g x y H Q:fI C g x y H Q=(isInt x fun i=>isInt y fun j=>C i j∧Q (g i j) H):=rfl
theorem zL {g:Int→Int→V} {x y H Q} (h:Lb g x y H Q):Xi g x y H Q:=by
  obtain⟨i,rfl,h1⟩:=isInt.out h;obtain⟨j,rfl,h2⟩:=isInt.out h1;exact⟨i,j,rfl,rfl,h2⟩
theorem QG {C} {g:Int→Int→V} {x y H Q} (h:fI C g x y H Q):rI C g x y H Q:=by
  obtain⟨i,rfl,h1⟩:=isInt.out h;obtain⟨j,rfl,h2⟩:=isInt.out h1;exact⟨i,j,rfl,rfl,h2⟩
def fEq:R2:=fun x y H Q=>match x,y with
  | .int i,.int j=>Q (.bl (decide (i=j))) H
  | .str i,.str j=>Q (.bl (decide (i=j))) H
  | .bl i,.bl j=>Q (.bl (decide (i=j))) H
  | x,y=>yh x y=true∧Q (.bl (decide (x=y))) H
def fNe:R2:=fun x y H Q=>match x,y with
  | .int i,.int j=>∃k,decide (i=j) = !k∧Q (.bl k) H
  | .str i,.str j=>∃k,decide (i=j) = !k∧Q (.bl k) H
  | .bl i,.bl j=>∃k,decide (i=j) = !k∧Q (.bl k) H
  | x,y=>yh x y=true∧∃k,decide (x=y) = !k∧Q (.bl k) H
@[simp ↓] theorem qmn i j H Q:fEq (.int i) (.int j) H Q=Q (.bl (decide (i=j))) H:=rfl
@[simp ↓] theorem qmo i j H Q:fEq (.str i) (.str j) H Q=Q (.bl (decide (i=j))) H:=rfl
@[simp ↓] theorem qmp i j H Q:fEq (.bl i) (.bl j) H Q=Q (.bl (decide (i=j))) H:=rfl
@[simp ↓] theorem qmq i j H Q:fNe (.int i) (.int j) H Q=∃k,decide (i=j) = !k∧Q (.bl k) H:=rfl
@[simp ↓] theorem qmr i j H Q:fNe (.str i) (.str j) H Q=∃k,decide (i=j) = !k∧Q (.bl k) H:=rfl
@[simp ↓] theorem qms i j H Q:fNe (.bl i) (.bl j) H Q=∃k,decide (i=j) = !k∧Q (.bl k) H:=rfl
theorem wQ {b:Bool} {R:Bool→Prop} (h:∃k,b = !k∧R k):R (!b):=by
  obtain⟨k,e,q⟩:=h;rw[e,Bool.not_not];exact q
theorem qes {x y H Q} (h:fEq x y H Q):rEq x y H Q:=by
  unfold fEq at h;split at h
  ·exact⟨rfl,by simpa using h⟩
  ·exact⟨rfl,by simpa using h⟩
  ·exact⟨rfl,by simpa using h⟩
  ·exact h
theorem qet {x y H Q} (h:fNe x y H Q):rNe x y H Q:=by
  unfold fNe at h;split at h
  ·exact⟨rfl,by simpa using wQ (R:=fun k=>Q (.bl k) H) h⟩
  ·exact⟨rfl,by simpa using wQ (R:=fun k=>Q (.bl k) H) h⟩
  ·exact⟨rfl,by simpa using wQ (R:=fun k=>Q (.bl k) H) h⟩
  ·exact⟨h.1,wQ (R:=fun k=>Q (.bl k) H) h.2⟩
def Ui:R2:=fun x y H Q=>isStr x fun i=>isStr y fun j=>i.length+j.length≤sizeLine∧Q (.str (i++j)) H
@[simp ↓] theorem qiF x y H Q:Ui x y H Q=(isStr x fun i=>isStr y fun j=>i.length+j.length≤sizeLine∧Q (.str (i++j)) H):=rfl
theorem Yu {x y H Q} (h:Ui x y H Q):qd5 x y H Q:=by
  obtain⟨i,rfl,h1⟩:=isStr.out h;obtain⟨j,rfl,h2⟩:=isStr.out h1;exact⟨i,j,rfl,rfl,h2⟩
def qbL:R2:=fun x y H Q=>isRef x fun l=>isRef y fun b=>∃xs,H l=some (.lst xs)∧∃zs,H b=some (.lst zs)∧xs.length+zs.length≤sizeLine∧∀p,H p=none→Q (.ref p) (upd H p (.lst (xs++zs)))
@[simp ↓] theorem qjM x y H Q:qbL x y H Q=(isRef x fun l=>isRef y fun b=>∃xs,H l=some (.lst xs)∧∃zs,H b=some (.lst zs)∧xs.length+zs.length≤sizeLine∧∀p,H p=none→Q (.ref p) (upd H p (.lst (xs++zs)))):=rfl
theorem qbM {x y H Q} (h:qbL x y H Q):qdZ x y H Q:=by
  obtain⟨i,rfl,h0⟩:=isRef.out h;obtain⟨j,rfl,xs,h1,zs,h2,h3⟩:=isRef.out h0;exact⟨i,j,xs,zs,rfl,rfl,h1,h2,h3⟩
def qeu:R2:=fun x y H Q=>isRef x fun l=>isInt y fun k=>∃xs,H l=some (.lst xs)∧-(2 ^ 63)≤k∧k<2 ^ 63∧xs.length * k.toNat≤sizeLine∧∀p,H p=none→Q (.ref p) (upd H p (.lst (List.replicate k.toNat xs).flatten))
def pA (t:TE):TT:=fun σ H Q=>t σ H fun x H'=>pI x fun k=>Q k H'
@[simp ↓] theorem qiG (t:TE) σ H Q:pA t σ H Q=(t σ H fun x H'=>pI x fun k=>Q k H'):=rfl
def Uj (ta:TE):TE:=fun σ H Q=>ta σ H fun x H1=>pI x fun c=>Q (.bl (!c)) H1
@[simp ↓] theorem qiH (ta:TE) σ H Q:Uj ta σ H Q=(ta σ H fun x H1=>pI x fun c=>Q (.bl (!c)) H1):=rfl
def Uk (ta tb:TE):TE:=fun σ H Q=>ta σ H fun x H1=>pI x fun c=>fB c (tb σ H1 Q) (Q (.bl false) H1) ⟨0⟩
@[simp ↓] theorem qiI (ta tb:TE) σ H Q:Uk ta tb σ H Q=(ta σ H fun x H1=>pI x fun c=>fB c (tb σ H1 Q) (Q (.bl false) H1) ⟨0⟩):=rfl
def Gh (r r':R2) (ta tb tc:TE):TE:=fun σ H Q=>ta σ H fun x H1=>tb σ H1 fun y H2=>r x y H2 fun z H3=>pI z fun k=>fB k (tc σ H3 fun w' H4=>r' y w' H4 Q) (Q (.bl false) H3) ⟨0⟩
@[simp ↓] theorem qev (r r':R2) (ta tb tc:TE) σ H Q:Gh r r' ta tb tc σ H Q=(ta σ H fun x H1=>tb σ H1 fun y H2=>r x y H2 fun z H3=>pI z fun k=>fB k (tc σ H3 fun w' H4=>r' y w' H4 Q) (Q (.bl false) H3) ⟨0⟩):=rfl
section
variable {X:Cx} {K:W.Frag} {a b c:Expr} {ta tb tc:TE} {tA:TT} {pos:Pos}
theorem aK (i:Nat) {x:Str} {pos:Pos} (hN:X.N[i]? = some x:=by rfl) (hv:Vis X.env.scope x:=by first | exact Or.inl rfl | exact Or.inr (Or.inl rfl) | exact Or.inr (Or.inr rfl)) (hd:(x == ("__debug__" : Str))=false:=by decide)
    (hcd:(x == ("__classdict__" : Str))=false:=by decide):PE X (.Name x pos) (fVar i):=(qaS hN hv hd hcd).mono qbK
theorem i_:fY X (binaryOp .Add) (Lb fun i j=>.int (i+j)):=qa5.mono zL
theorem pJ:fY X (binaryOp .Sub) (Lb fun i j=>.int (i - j)):=qa6.mono zL
theorem pK:fY X (compareOp .Lt) (Lb fun i j=>.bl (decide (i<j))):=qdQ.mono zL
theorem uy:fY X (compareOp .LtE) (Lb fun i j=>.bl (decide (i≤j))):=qdR.mono zL
theorem nF:fY X (compareOp .Gt) (Lb fun i j=>.bl (decide (j<i))):=qdS.mono zL
theorem qbN:fY X (compareOp .GtE) (Lb fun i j=>.bl (decide (j≤i))):=qdT.mono zL
theorem lg:fY X (compareOp .Eq) fEq:=qdO.mono qes
theorem wR:fY X (compareOp .NotEq) fNe:=qdP.mono qet
theorem Iw:fY X (binaryOp .Add) Ui:=Kw.mono Yu
theorem Yv:fY X (binaryOp .Add) qbL:=qbm.mono qbM
theorem u6 (x:V) (R:Bool→Prop):pI x R=(∃k,x = .bl k∧R k):=propext ⟨pI.out,fun⟨k,e,q⟩=>by subst e;exact q⟩
theorem Iz (x:V) (R:Addr→Prop):isRef x R=(∃k,x = .ref k∧R k):=propext ⟨isRef.out,fun⟨k,e,q⟩=>by subst e;exact q⟩
theorem Ul (x:V) (R:Str→Prop):isStr x R=(∃k,x = .str k∧R k):=propext ⟨isStr.out,fun⟨k,e,q⟩=>by subst e;exact q⟩
theorem qbO (x:List V) (R:V→List V→Prop):arH x R=(∃k j,x=k::j∧R k j):=propext ⟨arH.out,fun⟨k,j,e,q⟩=>by subst e;exact q⟩
theorem IK (t:TE):pA t=Ny t:=by
  funext σ H Q
  exact congrArg (t σ H) (funext fun x=>funext fun H'=>u6 _ _)
theorem qal (t:TE):pA t=tB t:=by
  funext σ H Q
  exact congrArg (t σ H) (funext fun x=>funext fun H'=>u6 _ _)
theorem Um (t:TE):Uj t=RZ t:=by
  funext σ H Q
  exact congrArg (t σ H) (funext fun x=>funext fun H'=>u6 _ _)
theorem Uo (t u:TE):Uk t u=RX t u:=by
  funext σ H Q
  exact congrArg (t σ H) (funext fun x=>funext fun H'=>u6 _ _)
theorem DR (r r':R2) (ta tb tc:TE):Gh r r' ta tb tc=Fb r r' ta tb tc:=by
  funext σ H Q
  exact congrArg (ta σ H) (funext fun x=>funext fun H1=>congrArg (tb σ H1) (funext fun y=>funext fun H2=>congrArg (r x y H2) (funext fun z=>funext fun H3=>u6 _ _)))
theorem aR {op:CmpOp} {r:R2} (ho:fY X (compareOp op) r) (ha:PE X a ta) (hb:PE X b tb) (hm:behindInMarks op b=false):PT X (.Compare a [op] [b] pos) (pA (RG r ta tb)):=IK _▸XJ ho ha hb hm
theorem Od {op:CmpOp} {t:TE} (h:PC X op a b t) (h1:behindInMarks op b=false:=by first | exact Hx _ (by decide) (by decide) | rfl):PT X (.Compare a [op] [b] pos) (pA t):=qal _▸qaT h h1
theorem cA {e:Expr} {t:TE} (h:PE X e t) (he:∀whole,isTrue e X.env whole=(do let v ← whole;standAt e.pos;holding [v] (truthy v)):=by intro _;rfl):PT X e (pA t):=qal _▸qaU h he
theorem DW {op op':CmpOp} {r r':R2} (ho:fY X (compareOp op) r) (ho':fY X (compareOp op') r') (ha:PE X a ta) (hb:PE X b tb) (hc:PE X c tc)
    (hm:lastMarks [op,op'] [b,c]=false:=by with_unfolding_all rfl):PE X (.Compare a [op,op'] [b,c] pos) (Gh r r' ta tb tc):=DR _ _ _ _ _▸Sd ho ho' ha hb hc hm
theorem DX {op op':CmpOp} {r r':R2} (ho:fY X (compareOp op) r) (ho':fY X (compareOp op') r') (ha:PE X a ta) (hb:PE X b tb) (hc:PE X c tc)
    (hm:lastMarks [op,op'] [b,c]=false:=by with_unfolding_all rfl):PT X (.Compare a [op,op'] [b,c] pos) (pA (Gh r r' ta tb tc)):=by
  rw[IK,DR];exact Sg ho ho' ha hb hc hm
theorem Yw (ha:PE X a ta):PE X (.UnaryOp .Not a pos) (Uj ta):=Um _▸qaW ha
theorem pL {rest:List Expr} (ha:PE X a ta) (hb:PE X (.BoolOp .And (b::rest) pos) tb):PE X (.BoolOp .And (a::b::rest) pos) (Uk ta tb):=Uo _ _▸qaV ha hb
end
def qbP (K:W.Frag):R2:=fun x y H Q=>isRef x fun p=>isInt y fun i=>∃xs,(aX K H p xs∨d9 K H p xs)∧∃v,Ce xs i=some v∧Q v H
@[simp ↓] theorem qjN (K:W.Frag) x y H Q:qbP K x y H Q=(isRef x fun p=>isInt y fun i=>∃xs,(aX K H p xs∨d9 K H p xs)∧∃v,Ce xs i=some v∧Q v H):=rfl
theorem qbQ {K:W.Frag} {x y H Q} (h:qbP K x y H Q):qbu K x y H Q:=by
  obtain⟨p,rfl,h1⟩:=isRef.out h;obtain⟨i,rfl,xs,h2,v,h3,h4⟩:=isInt.out h1;exact⟨p,xs,i,v,rfl,rfl,h2,h3,h4⟩
def qbR  : R2:=fun x y H Q=>isStr x fun z=>isInt y fun i=>z.length≤sizeLine∧∃c,Ce z.cps.toList i=some c∧Q (.str ⟨#[c]⟩) H
@[simp ↓] theorem qjO  x y H Q:qbR x y H Q=(isStr x fun z=>isInt y fun i=>z.length≤sizeLine∧∃c,Ce z.cps.toList i=some c∧Q (.str ⟨#[c]⟩) H):=rfl
theorem qbS  {x y H Q} (h:qbR x y H Q):qdW x y H Q:=by
  obtain⟨z,rfl,h1⟩:=isStr.out h;obtain⟨i,rfl,h2,c,h3,h4⟩:=isInt.out h1;exact⟨z,i,c,rfl,rfl,h2,h3,h4⟩
def u9 (K:W.Frag):List V→Hp→VK→Prop:=fun xs H Q=>ar1 xs fun x=>isRef x fun p=>∃ys,(aX K H p ys∨d9 K H p ys)∧Q (.int ys.length) H
@[simp ↓] theorem qiJ (K:W.Frag) xs H Q:u9 K xs H Q=(ar1 xs fun x=>isRef x fun p=>∃ys,(aX K H p ys∨d9 K H p ys)∧Q (.int ys.length) H):=rfl
theorem Yx {K:W.Frag} {xs H Q} (h:u9 K xs H Q):qae K xs H Q:=by
  obtain⟨x,rfl,h1⟩:=ar1.out h;obtain⟨p,rfl,ys,h2,h3⟩:=isRef.out h1;exact⟨p,ys,rfl,h2,h3⟩
def Uq  : List V→Hp→VK→Prop:=fun xs H Q=>ar1 xs fun x=>isStr x fun z=>z.length≤sizeLine∧Q (.int z.length) H
@[simp ↓] theorem qiK  xs H Q:Uq xs H Q=(ar1 xs fun x=>isStr x fun z=>z.length≤sizeLine∧Q (.int z.length) H):=rfl
theorem Yy  {xs H Q} (h:Uq xs H Q):qaf xs H Q:=by
  obtain⟨x,rfl,h1⟩:=ar1.out h;obtain⟨p,rfl,h2⟩:=isStr.out h1;exact⟨p,rfl,h2⟩
def Gi (K:W.Frag):List V→Hp→VK→Prop:=fun xs H Q=>ar1 xs fun x=>isRef x fun p=>∃ys,(aX K H p ys∨d9 K H p ys)∧∀l,H l=none→Q (.ref l) (upd H l (.lst ys))
@[simp ↓] theorem qdy (K:W.Frag) xs H Q:Gi K xs H Q=(ar1 xs fun x=>isRef x fun p=>∃ys,(aX K H p ys∨d9 K H p ys)∧∀l,H l=none→Q (.ref l) (upd H l (.lst ys))):=rfl
theorem QH {K:W.Frag} {xs H Q} (h:Gi K xs H Q):NT K xs H Q:=by
  obtain⟨x,rfl,h1⟩:=ar1.out h;obtain⟨p,rfl,ys,h2,h3⟩:=isRef.out h1;exact⟨p,ys,rfl,h2,h3⟩
def Gj  : List V→Hp→VK→Prop:=fun xs H Q=>ar1 xs fun x=>isRef x fun p=>∃ys,Sq H p ys∧∀l H',H' l=some (.tup ys)→Same H H'→Q (.ref l) H'
@[simp ↓] theorem qdz  xs H Q:Gj xs H Q=(ar1 xs fun x=>isRef x fun p=>∃ys,Sq H p ys∧∀l H',H' l=some (.tup ys)→Same H H'→Q (.ref l) H'):=rfl
theorem QJ  {xs H Q} (h:Gj xs H Q):NZ xs H Q:=by
  obtain⟨x,rfl,h1⟩:=ar1.out h;obtain⟨p,rfl,ys,h2,h3⟩:=isRef.out h1;exact⟨p,ys,rfl,h2,h3⟩
def Ur (K:W.Frag):List V→Hp→VK→Prop:=fun xs H Q=>ar2 xs fun x y=>QF y fun n=>∃t,kW K H x t∧∃b,W.kitOne K t (.type n)=some b∧Q (.bl b) H
@[simp ↓] theorem qiL (K:W.Frag) xs H Q:Ur K xs H Q=(ar2 xs fun x y=>QF y fun n=>∃t,kW K H x t∧∃b,W.kitOne K t (.type n)=some b∧Q (.bl b) H):=rfl
theorem Yz {K:W.Frag} {xs H Q} (h:Ur K xs H Q):qag K xs H Q:=by
  obtain⟨x,y,rfl,h1⟩:=ar2.out h;obtain⟨n,rfl,t,h2,b,h3,h4⟩:=QF.out h1;exact⟨x,n,t,b,rfl,h2,h3,h4⟩
def Us (K:W.Frag):List V→Hp→VK→Prop:=fun xs H Q=>ar2 xs fun x y=>isRef y fun p=>∃m n,H p=some (.tup [.ty m,.ty n])∧∃t,kW K H x t∧∃b,W.kitAny K t [.type m,.type n]=some b∧Q (.bl b) H
@[simp ↓] theorem qiM (K:W.Frag) xs H Q:Us K xs H Q=(ar2 xs fun x y=>isRef y fun p=>∃m n,H p=some (.tup [.ty m,.ty n])∧∃t,kW K H x t∧∃b,W.kitAny K t [.type m,.type n]=some b∧Q (.bl b) H):=rfl
theorem YB {K:W.Frag} {xs H Q} (h:Us K xs H Q):qah K xs H Q:=by
  obtain⟨x,y,rfl,h1⟩:=ar2.out h;obtain⟨p,rfl,m,n,h0,t,h2,b,h3,h4⟩:=isRef.out h1;exact⟨x,p,m,n,t,b,rfl,h0,h2,h3,h4⟩
def fIn (K:W.Frag):R2:=fun x y H Q=>isRef y fun p=>∃xs,(aX K H p xs∨d9 K H p xs)∧gB x=true∧(∀z∈xs,gB z=true)∧Q (.bl (inV x xs)) H
@[simp ↓] theorem qmt (K:W.Frag) x y H Q:fIn K x y H Q=(isRef y fun p=>∃xs,(aX K H p xs∨d9 K H p xs)∧gB x=true∧(∀z∈xs,gB z=true)∧Q (.bl (inV x xs)) H):=rfl
theorem qew {K:W.Frag} {x y H Q} (h:fIn K x y H Q):Yc K x y H Q:=by
  obtain⟨p,rfl,xs,h1,h2,h3,h4⟩:=isRef.out h;exact .inl ⟨p,xs,rfl,h1,h2,List.all_eq_true.mpr h3,h4⟩
def Ld (K:W.Frag):R2:=fun x y H Q=>isRef y fun p=>∃xs,(aX K H p xs∨d9 K H p xs)∧gB x=true∧(∀z∈xs,gB z=true)∧∃k,inV x xs = !k∧Q (.bl k) H
@[simp ↓] theorem qex (K:W.Frag) x y H Q:Ld K x y H Q=(isRef y fun p=>∃xs,(aX K H p xs∨d9 K H p xs)∧gB x=true∧(∀z∈xs,gB z=true)∧∃k,inV x xs = !k∧Q (.bl k) H):=rfl
theorem Ut {K:W.Frag} {x y H Q} (h:Ld K x y H Q):Fy K x y H Q:=by
  obtain⟨p,rfl,xs,h1,h2,h3,h4⟩:=isRef.out h;exact .inl ⟨p,xs,rfl,h1,h2,List.all_eq_true.mpr h3,wQ (R:=fun k=>Q (.bl k) H) h4⟩
def qbT (K:W.Frag):R2:=fun x y H Q=>isStr x fun i=>isStr y fun j=>Q (.bl (!(Builtin.Str.occurrences j i 0 j.length 1).isEmpty)) H
@[simp ↓] theorem qjP (K:W.Frag) x y H Q:qbT K x y H Q=(isStr x fun i=>isStr y fun j=>Q (.bl (!(Builtin.Str.occurrences j i 0 j.length 1).isEmpty)) H):=rfl
theorem qbU {K:W.Frag} {x y H Q} (h:qbT K x y H Q):Yc K x y H Q:=by
  obtain⟨i,rfl,h1⟩:=isStr.out h;obtain⟨j,rfl,h2⟩:=isStr.out h1;exact .inr ⟨i,j,rfl,rfl,h2⟩
def Gk  : V→List V→Hp→VK→Prop:=fun x vs H Q=>isRef x fun l=>ar1 vs fun y=>∃xs,H l=some (.lst xs)∧xs.length<sizeLine∧Q .non (upd H l (.lst (xs++[y])))
@[simp ↓] theorem qdA  x vs H Q:Gk x vs H Q=(isRef x fun l=>ar1 vs fun y=>∃xs,H l=some (.lst xs)∧xs.length<sizeLine∧Q .non (upd H l (.lst (xs++[y])))):=rfl
theorem QK  {x vs H Q} (h:Gk x vs H Q):Fo x vs H Q:=by
  obtain⟨l,rfl,h1⟩:=isRef.out h;obtain⟨y,rfl,xs,h2,h3⟩:=ar1.out h1;exact⟨l,xs,y,rfl,rfl,h2,h3⟩
def Gm  : V→List V→Hp→VK→Prop:=fun x vs H Q=>isRef x fun l=>ar2 vs fun j y=>isInt j fun i=>∃xs,H l=some (.lst xs)∧0≤i∧i≤xs.length∧xs.length<sizeLine∧Q .non (upd H l (.lst (xs.take i.toNat++y::xs.drop i.toNat)))
@[simp ↓] theorem qdB  x vs H Q:Gm x vs H Q=(isRef x fun l=>ar2 vs fun j y=>isInt j fun i=>∃xs,H l=some (.lst xs)∧0≤i∧i≤xs.length∧xs.length<sizeLine∧Q .non (upd H l (.lst (xs.take i.toNat++y::xs.drop i.toNat)))):=rfl
theorem QL  {x vs H Q} (h:Gm x vs H Q):Ft x vs H Q:=by
  obtain⟨l,rfl,h1⟩:=isRef.out h;obtain⟨j,y,rfl,h2⟩:=ar2.out h1;obtain⟨i,rfl,xs,h3⟩:=isInt.out h2;exact⟨l,xs,i,y,rfl,rfl,h3⟩
def Uu  : V→List V→Hp→VK→Prop:=fun x vs H Q=>isStr x fun sep=>ar1 vs fun y=>isRef y fun l=>∃ys:List Str,H l=some (.lst (ys.map V.str))∧(ys.map (·.length)).sum+ys.length * sep.length≤16777216∧Q (.str (Txt.join sep ys)) H
@[simp ↓] theorem qiN  x vs H Q:Uu x vs H Q=(isStr x fun sep=>ar1 vs fun y=>isRef y fun l=>∃ys:List Str,H l=some (.lst (ys.map V.str))∧(ys.map (·.length)).sum+ys.length * sep.length≤16777216∧Q (.str (Txt.join sep ys)) H):=rfl
theorem YC  {x vs H Q} (h:Uu x vs H Q):rJoin x vs H Q:=by
  obtain⟨sep,rfl,h1⟩:=isStr.out h;obtain⟨y,rfl,h2⟩:=ar1.out h1;obtain⟨l,rfl,ys,h3⟩:=isRef.out h2;exact⟨sep,l,ys,rfl,rfl,h3⟩
def Le (K:W.Frag):V→List V→Hp→VK→Prop:=fun x vs H Q=>isRef x fun l=>ar1 vs fun y=>isStr y fun k=>∃ys:List Str,aX K H l (ys.map V.str)∧Q (.int (ys.count k:Nat)) H
@[simp ↓] theorem qey (K:W.Frag) x vs H Q:Le K x vs H Q=(isRef x fun l=>ar1 vs fun y=>isStr y fun k=>∃ys:List Str,aX K H l (ys.map V.str)∧Q (.int (ys.count k:Nat)) H):=rfl
theorem Uv {K:W.Frag} {x vs H Q} (h:Le K x vs H Q):Ud K x vs H Q:=by
  obtain⟨l,rfl,h1⟩:=isRef.out h;obtain⟨y,rfl,h2⟩:=ar1.out h1;obtain⟨k,rfl,ys,h3⟩:=isStr.out h2;exact⟨l,ys,k,rfl,rfl,h3⟩
def qbV (K:W.Frag):List V→Hp→VK→Prop:=fun xs H Q=>ar1 xs fun x=>isRef x fun l=>∃ns:List Int,aX K H l (ns.map V.int)∧Q (.int ns.sum) H
@[simp ↓] theorem qjQ (K:W.Frag) xs H Q:qbV K xs H Q=(ar1 xs fun x=>isRef x fun l=>∃ns:List Int,aX K H l (ns.map V.int)∧Q (.int ns.sum) H):=rfl
theorem qbW {K:W.Frag} {xs H Q} (h:qbV K xs H Q):qeq K xs H Q:=by
  obtain⟨x,rfl,h1⟩:=ar1.out h;obtain⟨l,rfl,ns,h2⟩:=isRef.out h1;exact⟨l,ns,rfl,h2⟩
def qbX (K:W.Frag):R2:=fun x y H Q=>∃d,Is K H d x∧∃e,Is K H e y∧d.canLay0=true∧e.canLay0=true∧d.depth≤64∧∃k,PyData.eqv d e = !k∧Q (.bl k) H
@[simp ↓] theorem qjR (K:W.Frag) x y H Q:qbX K x y H Q=(∃d,Is K H d x∧∃e,Is K H e y∧d.canLay0=true∧e.canLay0=true∧d.depth≤64∧∃k,PyData.eqv d e = !k∧Q (.bl k) H):=rfl
theorem qbY {K:W.Frag} {x y H Q} (h:qbX K x y H Q):qei K x y H Q:=by
  obtain⟨d,h1,e,h2,h3,h4,h5,h6⟩:=h;exact⟨d,e,h1,h2,h3,h4,h5,wQ (R:=fun k=>Q (.bl k) H) h6⟩
def qbZ (K:W.Frag):R2:=fun x y H Q=>∃d,Is K H d x∧∃e,Is K H e y∧d.canLay0=true∧e.canLay0=true∧d.depth≤64∧Q (.bl (PyData.eqv d e)) H
@[simp ↓] theorem qjS (K:W.Frag) x y H Q:qbZ K x y H Q=(∃d,Is K H d x∧∃e,Is K H e y∧d.canLay0=true∧e.canLay0=true∧d.depth≤64∧Q (.bl (PyData.eqv d e)) H):=rfl
theorem qb0 {K:W.Frag} {x y H Q} (h:qbZ K x y H Q):qeh K x y H Q:=by
  obtain⟨d,h1,e,h2,h3,h4,h5,h6⟩:=h;exact⟨d,e,h1,h2,h3,h4,h5,h6⟩
def qb1  : List V→Hp→VK→Prop:=fun xs H Q=>ar1 xs fun x=>isInt x fun i=>Q (.int (if i<0 then -i else i)) H
@[simp ↓] theorem qjT  xs H Q:qb1 xs H Q=(ar1 xs fun x=>isInt x fun i=>Q (.int (if i<0 then -i else i)) H):=rfl
theorem qb2  {xs H Q} (h:qb1 xs H Q):(fun xs H Q=>∃i,xs=[.int i]∧Q (.int (if i<0 then -i else i)) H:List V→Hp→VK→Prop) xs H Q:=by
  obtain⟨x,rfl,h1⟩:=ar1.out h;obtain⟨i,rfl,h2⟩:=isInt.out h1;exact⟨i,rfl,h2⟩
def Uw  : List V→Hp→VK→Prop:=fun xs H Q=>ar2 xs fun x y=>isInt x fun i=>isInt y fun j=>Q (.int (if j > i then j else i)) H
@[simp ↓] theorem qiO  xs H Q:Uw xs H Q=(ar2 xs fun x y=>isInt x fun i=>isInt y fun j=>Q (.int (if j > i then j else i)) H):=rfl
theorem YD  {xs H Q} (h:Uw xs H Q):(fun xs H Q=>∃i j,xs=[.int i,.int j]∧Q (.int (if j > i then j else i)) H:List V→Hp→VK→Prop) xs H Q:=by
  obtain⟨x,y,rfl,h1⟩:=ar2.out h;obtain⟨i,rfl,h2⟩:=isInt.out h1;obtain⟨j,rfl,h3⟩:=isInt.out h2;exact⟨i,j,rfl,h3⟩
def Ux  : List V→Hp→VK→Prop:=fun xs H Q=>ar2 xs fun x y=>isInt x fun i=>isInt y fun j=>Q (.int (if j<i then j else i)) H
@[simp ↓] theorem qiP  xs H Q:Ux xs H Q=(ar2 xs fun x y=>isInt x fun i=>isInt y fun j=>Q (.int (if j<i then j else i)) H):=rfl
theorem YF  {xs H Q} (h:Ux xs H Q):(fun xs H Q=>∃i j,xs=[.int i,.int j]∧Q (.int (if j<i then j else i)) H:List V→Hp→VK→Prop) xs H Q:=by
  obtain⟨x,y,rfl,h1⟩:=ar2.out h;obtain⟨i,rfl,h2⟩:=isInt.out h1;obtain⟨j,rfl,h3⟩:=isInt.out h2;exact⟨i,j,rfl,h3⟩
def qb3  : List V→Hp→VK→Prop:=fun xs H Q=>ar1 xs fun x=>isRef x fun a=>∃ys,H a=some (.lst ys)∧∃bs,rm ys bs∧Q (.bl (bs.all id)) H
@[simp ↓] theorem qjU  xs H Q:qb3 xs H Q=(ar1 xs fun x=>isRef x fun a=>∃ys,H a=some (.lst ys)∧∃bs,rm ys bs∧Q (.bl (bs.all id)) H):=rfl
theorem qb4  {xs H Q} (h:qb3 xs H Q):(fun xs H Q=>∃a ys bs,xs=[.ref a]∧H a=some (.lst ys)∧rm ys bs∧Q (.bl (bs.all id)) H:List V→Hp→VK→Prop) xs H Q:=by
  obtain⟨x,rfl,h1⟩:=ar1.out h;obtain⟨a,rfl,ys,h2,bs,h3,h4⟩:=isRef.out h1;exact⟨a,ys,bs,rfl,h2,h3,h4⟩
def Oe:List V→Hp→VK→Prop:=fun xs H Q=>ar1 xs fun x=>match x with | .int i=>Q (.int i) H | .bl k=>Q (.int (if k=true then 1 else 0)) H | _=>False
@[simp ↓] theorem qiQ i H Q:Oe [.int i] H Q=Q (.int i) H:=rfl
@[simp ↓] theorem qiR k H Q:Oe [.bl k] H Q=Q (.int (if k=true then 1 else 0)) H:=rfl
theorem YG {xs H Q} (h:Oe xs H Q):(fun xs H Q=>(∃i,xs=[.int i]∧Q (.int i) H)∨∃k,xs=[.bl k]∧Q (.int (if k then 1 else 0)) H:List V→Hp→VK→Prop) xs H Q:=by
  obtain⟨x,rfl,h1⟩:=ar1.out h;cases x with
  | int i=>exact .inl ⟨i,rfl,h1⟩
  | bl k=>exact .inr ⟨k,rfl,h1⟩
  | _=>exact h1.elim
def Uy:P_:=fun o i v H Q=>isRef o fun p=>isInt i fun k=>∃xs,H p=some (.lst xs)∧∃j,RJ xs.length k=some j∧Q (upd H p (.lst (xs.set j v)))
@[simp ↓] theorem qiS o i v H Q:Uy o i v H Q=(isRef o fun p=>isInt i fun k=>∃xs,H p=some (.lst xs)∧∃j,RJ xs.length k=some j∧Q (upd H p (.lst (xs.set j v)))):=rfl
theorem YH {o i v H Q} (h:Uy o i v H Q):qad o i v H Q:=by
  obtain⟨p,rfl,h1⟩:=isRef.out h;obtain⟨k,rfl,xs,h2,j,h3,h4⟩:=isInt.out h1;exact⟨p,xs,k,j,rfl,rfl,h2,h3,h4⟩
def qez:Di:=fun vs σ H Q=>ar0 vs (Q σ H)
def qam (t:TG) (u:Di):Di:=fun vs σ H Q=>arH vs fun v r=>t v σ H fun σ' H'=>u r σ' H' Q
def YJ (K:W.Frag) (n:Nat) (t:Di):TG:=fun v σ H Q=>isRef v fun a=>∃xs,d9 K H a xs∧xs.length=n∧t xs σ H Q
@[simp ↓] theorem qjV vs σ H Q:qez vs σ H Q=ar0 vs (Q σ H):=rfl
@[simp ↓] theorem qiT t u vs σ H Q:qam t u vs σ H Q=(arH vs fun v r=>t v σ H fun σ' H'=>u r σ' H' Q):=rfl
@[simp ↓] theorem qjW K n t v σ H Q:YJ K n t v σ H Q=(isRef v fun a=>∃xs,d9 K H a xs∧xs.length=n∧t xs σ H Q):=rfl
theorem gD {vs σ H Q} (h:qez vs σ H Q):qaY vs σ H Q:=ar0.out h
theorem bx (t:TG) (u:Di):qam t u=R3 t u:=by
  funext vs σ H Q
  exact qbO _ _
theorem fK (K:W.Frag) (n:Nat) (t:Di):YJ K n t=Xx K n t:=by
  funext v σ H Q
  refine propext ⟨fun h=>?_,fun⟨a,xs,e,h⟩=>by subst e;exact⟨xs,h⟩⟩;obtain⟨a,rfl,xs,h1⟩:=isRef.out h;exact⟨a,xs,rfl,h1⟩
def qb5 (f:Int→Int→Int):Xw:=fun x y H Q=>isInt x fun i=>isInt y fun j=>Q (.int (f i j)) H
@[simp ↓] theorem qjX f x y H Q:qb5 f x y H Q=(isInt x fun i=>isInt y fun j=>Q (.int (f i j)) H):=rfl
theorem qb6 {f:Int→Int→Int} {x y H Q} (h:qb5 f x y H Q):ipI f x y H Q:=by
  obtain⟨i,rfl,h1⟩:=isInt.out h;obtain⟨j,rfl,h2⟩:=isInt.out h1;exact⟨i,j,rfl,rfl,h2⟩
def qeA (i:Nat) (te:TE) (ti:Xw):TS:=fun D σ H=>getSt σ i fun x=>te σ H fun y H1=>ti x y H1 fun z H2=>D.nx (σ.set i (some z)) H2
@[simp ↓] theorem qjY i te ti D σ H:qeA i te ti D σ H=(getSt σ i fun x=>te σ H fun y H1=>ti x y H1 fun z H2=>D.nx (σ.set i (some z)) H2):=rfl
theorem qb7 {i:Nat} {te:TE} {ti:Xw} {D σ H} (h:qeA i te ti D σ H):qa0 i te ti D σ H:=getSt.out h
def Uz (K:W.Frag) (tl:TE):TI:=fun σ H R=>tl σ H fun x H1=>isRef x fun a=>(∃xs,aX K H1 a xs)∧R (Ks K a) H1
def qan (K:W.Frag) (tl:TE):TI:=fun σ H R=>tl σ H fun x H1=>isRef x fun p=>∃b,(∃xs,Ib b K H1 p xs)∧R (Itq b K p) H1
def qao (tl:TE):TI:=fun σ H R=>tl σ H fun x H1=>isStr x fun z=>R (Its z) H1
def UG (ta:TA):TI:=fun σ H R=>ta σ H fun vs H1=>ar1 vs fun v=>isInt v fun j=>-(2 ^ 62)≤j∧j<2 ^ 62∧R (Kp 0 j.toNat) H1
def UJ (ta:TA):TI:=fun σ H R=>ta σ H fun vs H1=>ar2 vs fun v w=>isInt v fun i=>isInt w fun j=>(-(2 ^ 62)≤i∧i<2 ^ 62∧-(2 ^ 62)≤j∧j<2 ^ 62)∧R (Kp i (j - i).toNat) H1
def qap (K:W.Frag) (t:TA):TI:=fun σ H R=>t σ H fun vs H1=>ar2 vs fun x y=>isRef x fun a=>isRef y fun b=>(∃xs,aX K H1 a xs)∧(∃ys,aX K H1 b ys)∧R (RK K a b) H1
def UL (K:W.Frag) (t:TA):TI:=fun σ H R=>t σ H fun vs H1=>ar1 vs fun x=>isRef x fun a=>(∃xs,aX K H1 a xs)∧R (Ite K a) H1
@[simp ↓] theorem qeB K tl σ H R:Uz K tl σ H R=(tl σ H fun x H1=>isRef x fun a=>(∃xs,aX K H1 a xs)∧R (Ks K a) H1):=rfl
@[simp ↓] theorem qiU K tl σ H R:qan K tl σ H R=(tl σ H fun x H1=>isRef x fun p=>∃b,(∃xs,Ib b K H1 p xs)∧R (Itq b K p) H1):=rfl
@[simp ↓] theorem qiV tl σ H R:qao tl σ H R=(tl σ H fun x H1=>isStr x fun z=>R (Its z) H1):=rfl
@[simp ↓] theorem qeC ta σ H R:UG ta σ H R=(ta σ H fun vs H1=>ar1 vs fun v=>isInt v fun j=>-(2 ^ 62)≤j∧j<2 ^ 62∧R (Kp 0 j.toNat) H1):=rfl
@[simp ↓] theorem qeD ta σ H R:UJ ta σ H R=(ta σ H fun vs H1=>ar2 vs fun v w=>isInt v fun i=>isInt w fun j=>(-(2 ^ 62)≤i∧i<2 ^ 62∧-(2 ^ 62)≤j∧j<2 ^ 62)∧R (Kp i (j - i).toNat) H1):=rfl
@[simp ↓] theorem qiW K t σ H R:qap K t σ H R=(t σ H fun vs H1=>ar2 vs fun x y=>isRef x fun a=>isRef y fun b=>(∃xs,aX K H1 a xs)∧(∃ys,aX K H1 b ys)∧R (RK K a b) H1):=rfl
@[simp ↓] theorem qeE K t σ H R:UL K t σ H R=(t σ H fun vs H1=>ar1 vs fun x=>isRef x fun a=>(∃xs,aX K H1 a xs)∧R (Ite K a) H1):=rfl
theorem bZ (K:W.Frag) (tl:TE):Uz K tl=Nr K tl:=by
  funext σ H R
  exact congrArg (tl σ H) (funext fun x=>funext fun H1=>Iz _ _)
theorem mD (K:W.Frag) (tl:TE):qan K tl=qbx K tl:=by
  funext σ H R
  refine congrArg (tl σ H) (funext fun x=>funext fun H1=>propext ⟨fun h=>?_,fun⟨b,p,e,h⟩=>by subst e;exact⟨b,h⟩⟩);obtain⟨p,rfl,b,h1⟩:=isRef.out h;exact⟨b,p,rfl,h1⟩
theorem UW (tl:TE):qao tl=qbo tl:=by
  funext σ H R
  exact congrArg (tl σ H) (funext fun x=>funext fun H1=>Ul _ _)
theorem jK (ta:TA):UG ta=R5 ta:=by
  funext σ H R
  refine congrArg (ta σ H) (funext fun x=>funext fun H1=>propext ⟨fun h=>?_,fun⟨b,e,h⟩=>by subst e;exact h⟩);obtain⟨v,rfl,h1⟩:=ar1.out h;obtain⟨i,rfl,h2⟩:=isInt.out h1;exact⟨i,rfl,h2⟩
theorem QM (ta:TA):UJ ta=R6 ta:=by
  funext σ H R
  refine congrArg (ta σ H) (funext fun x=>funext fun H1=>propext ⟨fun h=>?_,fun⟨b,c,e,h⟩=>by subst e;exact h⟩);obtain⟨v,w,rfl,h1⟩:=ar2.out h;obtain⟨i,rfl,h2⟩:=isInt.out h1;obtain⟨j,rfl,h3⟩:=isInt.out h2;exact⟨i,j,rfl,h3⟩
theorem IV (K:W.Frag) (t:TA):qap K t=X7 K t:=by
  funext σ H R
  refine congrArg (t σ H) (funext fun x=>funext fun H1=>propext ⟨fun h=>?_,fun⟨a,b,xs,ys,e,h1,h2,h3⟩=>by subst e;exact⟨⟨xs,h1⟩,⟨ys,h2⟩,h3⟩⟩);obtain⟨v,w,rfl,h1⟩:=ar2.out h;obtain⟨i,rfl,h2⟩:=isRef.out h1;obtain⟨j,rfl,⟨xs,h3⟩,⟨ys,h4⟩,h5⟩:=isRef.out h2;exact⟨i,j,xs,ys,rfl,h3,h4,h5⟩
theorem wU (K:W.Frag) (t:TA):UL K t=T8 K t:=by
  funext σ H R
  refine congrArg (t σ H) (funext fun x=>funext fun H1=>propext ⟨fun h=>?_,fun⟨a,xs,e,h1,h3⟩=>by subst e;exact⟨⟨xs,h1⟩,h3⟩⟩);obtain⟨v,rfl,h1⟩:=ar1.out h;obtain⟨i,rfl,⟨xs,h3⟩,h5⟩:=isRef.out h1;exact⟨i,xs,rfl,h3,h5⟩
def U0 (sp:Sp) (E:XK) (t:TA):TE:=fun σ H Q=>t σ H fun vs H1=>K_ sp vs H1 Q ⟨0⟩ E
@[simp ↓] theorem qiX sp E t σ H Q:U0 sp E t σ H Q=(t σ H fun vs H1=>K_ sp vs H1 Q ⟨0⟩ E):=rfl
theorem aJ (sp:Sp) (E:XK) (t:TA):U0 sp E t=Sx sp [] E t:=by
  funext σ H Q
  exact congrArg (t σ H) (funext fun vs=>funext fun H1=>by rw[List.append_nil];rfl)
def qaq (C:Addr) (m:Str) (sp:Sp) (E:XK) (ta:TE) (t:TA):TE:=fun σ H Q=>ta σ H fun x H1=>isRef x fun a=>∃dx fs,H1 a=some (.ins C dx fs)∧fs.lookup m=none∧t σ H1 fun vs H2=>K_ sp (.ref a::vs) H2 Q ⟨0⟩ E
@[simp ↓] theorem qiY C m sp E ta t σ H Q:qaq C m sp E ta t σ H Q=(ta σ H fun x H1=>isRef x fun a=>∃dx fs,H1 a=some (.ins C dx fs)∧fs.lookup m=none∧t σ H1 fun vs H2=>K_ sp (.ref a::vs) H2 Q ⟨0⟩ E):=rfl
theorem kj (C:Addr) (m:Str) (sp:Sp) (E:XK) (ta:TE) (t:TA):qaq C m sp E ta t=Sy C m sp [] E ta t:=by
  funext σ H Q
  refine congrArg (ta σ H) (funext fun x=>funext fun H1=>propext ⟨fun h=>?_,fun⟨a,dx,fs,e,h1,h2,h3⟩=>?_⟩)
  ·obtain⟨a,rfl,dx,fs,h1,h2,h3⟩:=isRef.out h;refine⟨a,dx,fs,rfl,h1,h2,?_⟩;simp only[List.append_nil];exact h3
  ·subst e;refine⟨dx,fs,h1,h2,?_⟩;simp only[List.append_nil] at h3;exact h3
def qar (C:Addr) (sp:Sp) (E:XK) (t:TA):TE:=fun σ H Q=>t σ H fun vs H1=>∀x dx,H1 x=none→H1 dx=none→dx≠x→
  K_ sp (.ref x::vs) (upd (upd H1 dx (.own x)) x (.ins C dx [])) (fun v H2=>v = .non∧Q (.ref x) H2) ⟨0⟩ E
@[simp ↓] theorem qiZ C sp E t σ H Q:qar C sp E t σ H Q=(t σ H fun vs H1=>∀x dx,H1 x=none→H1 dx=none→dx≠x→
  K_ sp (.ref x::vs) (upd (upd H1 dx (.own x)) x (.ins C dx [])) (fun v H2=>v = .non∧Q (.ref x) H2) ⟨0⟩ E):=rfl
theorem U3 (C:Addr) (sp:Sp) (E:XK) (t:TA):qar C sp E t=SJ C sp [] E t:=by
  funext σ H Q
  refine congrArg (t σ H) (funext fun vs=>funext fun H1=>?_);simp only[List.append_nil];rfl
def qeF (K:W.Frag) (ta:TE) (f:Str):TE:=fun σ H Q=>ta σ H fun x H1=>isRef x fun a=>∃C dx fs,H1 a=some (.ins C dx fs)∧Cls K C∧kO K C f∧∃v,fs.lookup f=some v∧Q v H1
@[simp ↓] theorem qjZ K ta f σ H Q:qeF K ta f σ H Q=(ta σ H fun x H1=>isRef x fun a=>∃C dx fs,H1 a=some (.ins C dx fs)∧Cls K C∧kO K C f∧∃v,fs.lookup f=some v∧Q v H1):=rfl
theorem Gn (K:W.Frag) (ta:TE) (f:Str):qeF K ta f=XQ K ta f:=by
  funext σ H Q
  refine congrArg (ta σ H) (funext fun x=>funext fun H1=>propext ⟨fun h=>?_,fun⟨a,C,dx,fs,v,e,h1,h2,h3,h4⟩=>by subst e;exact⟨C,dx,fs,h1,h2,h3,v,h4⟩⟩);obtain⟨a,rfl,C,dx,fs,h1,h2,h3,v,h4⟩:=isRef.out h;exact⟨a,C,dx,fs,v,rfl,h1,h2,h3,h4⟩
def qas (td ty:TE):TE:=fun σ H Q=>td σ H fun x H1=>ty σ H1 fun y H2=>isRef x fun a=>∃v,iZ H2 a y (some v)∧Q v H2
def qeG (ty td:TE):TE:=fun σ H Q=>ty σ H fun y H1=>td σ H1 fun x H2=>isRef x fun a=>∃o,iZ H2 a y o∧Q (.bl o.isSome) H2
def Og (ty td:TE):TE:=fun σ H Q=>ty σ H fun y H1=>td σ H1 fun x H2=>isRef x fun a=>∃o,iZ H2 a y o∧Q (.bl o.isNone) H2
def qat (td ty tv:TE):TS:=fun D σ H=>tv σ H fun v H1=>td σ H1 fun x H2=>ty σ H2 fun y H3=>isRef x fun a=>∃H4,FJ H3 a y v H4∧D.nx σ H4
def U4 (td ty tx:TE):TE:=fun σ H Q=>td σ H fun x H1=>isRef x fun a=>IsD H1 a∧ty σ H1 fun y H2=>tx σ H2 fun z H3=>∃o,iZ H3 a y o∧Q (o.getD z) H3
@[simp ↓] theorem qi0 td ty σ H Q:qas td ty σ H Q=(td σ H fun x H1=>ty σ H1 fun y H2=>isRef x fun a=>∃v,iZ H2 a y (some v)∧Q v H2):=rfl
@[simp ↓] theorem qj0 ty td σ H Q:qeG ty td σ H Q=(ty σ H fun y H1=>td σ H1 fun x H2=>isRef x fun a=>∃o,iZ H2 a y o∧Q (.bl o.isSome) H2):=rfl
@[simp ↓] theorem qdC ty td σ H Q:Og ty td σ H Q=(ty σ H fun y H1=>td σ H1 fun x H2=>isRef x fun a=>∃o,iZ H2 a y o∧Q (.bl o.isNone) H2):=rfl
@[simp ↓] theorem qi1 td ty tv D σ H:qat td ty tv D σ H=(tv σ H fun v H1=>td σ H1 fun x H2=>ty σ H2 fun y H3=>isRef x fun a=>∃H4,FJ H3 a y v H4∧D.nx σ H4):=rfl
@[simp ↓] theorem qeH td ty tx σ H Q:U4 td ty tx σ H Q=(td σ H fun x H1=>isRef x fun a=>IsD H1 a∧ty σ H1 fun y H2=>tx σ H2 fun z H3=>∃o,iZ H3 a y o∧Q (o.getD z) H3):=rfl
theorem Gp {x:V} {β:Type} {R:Addr→β→Prop}:(isRef x fun a=>∃b,R a b)=(∃a b,x = .ref a∧R a b):=propext ⟨fun h=>by obtain⟨a,rfl,b,h1⟩:=isRef.out h;exact⟨a,b,rfl,h1⟩,fun⟨a,b,e,h⟩=>by subst e;exact⟨b,h⟩⟩
theorem IW (td ty:TE):qas td ty=TX td ty:=by
  funext σ H Q
  exact congrArg (td σ H) (funext fun x=>funext fun H1=>congrArg (ty σ H1) (funext fun y=>funext fun H2=>Gp))
theorem YK (ty td:TE):qeG ty td=qbA ty td:=by
  funext σ H Q
  exact congrArg (ty σ H) (funext fun x=>funext fun H1=>congrArg (td σ H1) (funext fun y=>funext fun H2=>Gp))
theorem Lg (ty td:TE):Og ty td=FP ty td:=by
  funext σ H Q
  refine congrArg (ty σ H) (funext fun x=>funext fun H1=>congrArg (td σ H1) (funext fun y=>funext fun H2=>?_));rw[Gp];simp only[Option.not_isSome]
theorem U5 (td ty tv:TE):qat td ty tv=TY td ty tv:=by
  funext D σ H
  exact congrArg (tv σ H) (funext fun v=>funext fun H1=>congrArg (td σ H1) (funext fun x=>funext fun H2=>congrArg (ty σ H2) (funext fun y=>funext fun H3=>Gp)))
theorem DY (td ty tx:TE):U4 td ty tx=K8 td ty tx:=by
  funext σ H Q
  exact congrArg (td σ H) (funext fun x=>funext fun H1=>Iz _ _)
section
variable {X:Cx} {K:W.Frag}
theorem PE.eqv {e:Expr} {t t':TE} (o:PE X e t) (h:t'=t):PE X e t':=h▸o
theorem PC.eqv {op:CmpOp} {a b:Expr} {t t':TE} (o:PC X op a b t) (h:t'=t):PC X op a b t':=h▸o
theorem PS.eqv {e:Stmt} {t t':TS} (o:PS X e t) (h:t'=t):PS X e t':=h▸o
theorem PG.eqv {e:Expr} {t t':TG} (o:PG X e t) (h:t'=t):PG X e t':=h▸o
theorem g_.eqv {e:List Expr} {t t':Di} (o:g_ X e t) (h:t'=t):g_ X e t':=h▸o
theorem PI.eqv {tg e:Expr} {t t':TI} (o:PI X tg e t) (h:t'=t):PI X tg e t':=h▸o
theorem yx:fY X (binaryOp .Mult) (fI XF fun i j=>.int (i * j)):=qa7.mono QG
theorem I_:fY X (binaryOp .FloorDiv) (fI qdN fun i j=>.int (i / j)):=XH.mono QG
theorem sy:fY X (binaryOp .Mod) (fI (fun _ j=>0<j) fun i j=>.int (i % j)):=qa8.mono QG
theorem Oh:fY X (binaryOp .Pow) (fI XD fun i j=>.int (i ^ j.toNat)):=qa9.mono QG
theorem YL:fY X (binaryOp .LShift) (fI XD fun i j=>.int (i * 2 ^ j.toNat)):=qa_.mono QG
theorem Oi:fY X (binaryOp .RShift) (fI (fun _ j=>0≤j) fun i j=>.int (i / 2 ^ j.toNat)):=qba.mono QG
theorem bT (hK:X.K=K):SQ X (qbP K):=(qjf hK).mono qbQ
theorem Oj:SQ X qbR:=qbi.mono qbS
theorem yq (hK:X.K=K):fY X (compareOp .In) (fIn K):=(inK hK).mono qew
theorem qj1 (hK:X.K=K):fY X (compareOp .In) (qbT K):=(inK hK).mono qbU
theorem YM (hK:X.K=K):fY X (compareOp .NotIn) (Ld K):=(qbw hK).mono Ut
theorem Lh (hK:X.K=K) (hu:X.A.units+64<cLine):fY X (compareOp .Eq) (qbZ K):=(qbG hK hu).mono qb0
theorem U6 (hK:X.K=K) (hu:X.A.units+64<cLine):fY X (compareOp .NotEq) (qbX K):=(qbH hK hu).mono qbY
theorem bV (hK:X.K=K):cC X (.builtin "len") (u9 K):=(qd6 hK).mono Yx
theorem qb8:cC X (.builtin "len") Uq:=qd7.mono Yy
theorem pB (hK:X.K=K):cC X (.type "list") (Gi K):=(Yd hK).mono QH
theorem wV:cC X (.type "tuple") Gj:=Tz.mono QJ
theorem wW (hK:X.K=K):cC X (.builtin "isinstance") (Ur K):=(qd8 hK).mono Yz
theorem U7 (hK:X.K=K):cC X (.builtin "isinstance") (Us K):=(qd9 hK).mono YB
theorem jL (hc:X.calm=true):cC X (.builtin "all") qb3:=(Qu hc).mono qb4
theorem zM:cC X (.type "int") Oe:=Qi.mono YG
theorem D_:cC X (.builtin "abs") qb1:=Sh.mono qb2
theorem zN (hc:X.calm=true):cC X (.builtin "max") Uw:=(Qg hc).mono YD
theorem Li (hc:X.calm=true):cC X (.builtin "min") Ux:=(Qh hc).mono YF
theorem Ea (hK:X.K=K) (hc:X.calm=true):cC X (.builtin "sum") (qbV K):=(QC hK hc).mono qbW
theorem iM:Qk X "list.append" Gk:=Qk.mono (r:=Fo) wG QK
theorem Lj:Qk X "list.insert" Gm:=Qk.mono (r:=Ft) Qt QL
theorem U8:Qk X "str.join" Uu:=Yt.mono YC
theorem QS (hK:X.K=K):Qk X "list.count" (Le K):=(Ue hK).mono Uv
theorem sE:Qa X Uy:=set_list.mono YH
theorem YQ:PIp X .Add (qb5 fun i j=>i+j):=qa2.mono qb6
end
theorem getSt.imp {σ:St} {i:Nat} {R R':V→Prop} (f:∀v,R v→R' v):getSt σ i R→getSt σ i R':=by
  induction σ generalizing i with
  | nil=>exact fun h=>h.elim
  | cons o σ ih=>
    cases i with
    | zero=>cases o with
      | none=>exact fun h=>h.elim
      | some v=>exact f v
    | succ n=>exact ih
theorem isInt.imp {x:V} {R R':Int→Prop} (f:∀v,R v→R' v):isInt x R→isInt x R':=by cases x <;> first | exact f _ | exact fun h=>h.elim
theorem isRef.imp {x:V} {R R':Addr→Prop} (f:∀v,R v→R' v):isRef x R→isRef x R':=by cases x <;> first | exact f _ | exact fun h=>h.elim
theorem pI.imp {x:V} {R R':Bool→Prop} (f:∀v,R v→R' v):pI x R→pI x R':=by cases x <;> first | exact f _ | exact fun h=>h.elim
theorem Ja {K:W.Frag} {g:Int→Int→V} {i j:Nat}:∀(σ:St) (H:Hp) (Q Q':Bool→Hp→Prop),(∀(b:Bool) (H1:Hp),Q b H1→Q' b H1)→pA (RG (Lb g) (fVar i) (XS (u9 K) (tu (fVar j) Cj))) σ H Q→pA (RG (Lb g) (fVar i) (XS (u9 K) (tu (fVar j) Cj))) σ H Q':=
  fun _ _ _ _ f h=>getSt.imp (fun _ h=>getSt.imp (fun _ h=>isRef.imp (fun _ ⟨ys,h1,h2⟩=>⟨ys,h1,isInt.imp (fun _ h=>isInt.imp (fun _ h=>pI.imp (fun _ h=>f _ _ h) h) h) h2⟩) h) h) h
theorem iY.oO {P:Program} {w:World} {K:W.Frag} {mg:Str→Option Value} {base:Heap} {x qual:Str} {st:Stmt} {f:Addr} {fd:FuncData} {N ps:List Str} {k:Nat} {sp:Sp} (F:iY K x qual st f fd) (S:aU N ps (ak st)) (len:∀vs H Q E,sp vs H Q E→vs.length=ps.length)
    (hbody:∀(cdv:Value) (A:Around) (outer:List Env) (s:Shared) (H:Hp) (vs:List V) (Q:VK) (E:XK),h_ k (A.deeper (envOfC qual (ak st) s.heap.objs.size f cdv))→sp vs H Q E→
      ∃t,Dg (dw jA P w K mg base N qual (ak st) f cdv A outer s H E).RB (aC st) t∧t {nx:=fun _ H'=>Q .non H',rt:=Q} (jJ N vs) H):cF P w K mg base jA (k+1) f fd ps sp:=by
  refine F.ok S len fun cdv A outer s H vs Q E hr h=>?_;obtain⟨t,h1,h2⟩:=hbody cdv A outer s H vs Q E hr h;refine⟨t,h1,?_⟩;have hl:=len _ _ _ _ h;have hp:ps.length≤N.length:=by have:=congrArg List.length S.pre;rw[List.length_take] at this;omega
  rw[pq N vs (by omega)] at h2;exact h2
end L2
namespace L2
open PySem
def u_ (T:List nC) (h:Str) (wh:List Nat) (R:BR):BR:=T.foldl (fun R s=>if s.2.1=h∧¬s.2.2∈R.map (·.1) then R++[(s.2.2,wh++[s.1])] else R) R
def wX (S:List nC) (a:Str):Nat→BR
  | 0=>[(a,[])]
  | n+1=>match (wX S a n)[n]? with
    | some x=>u_ S x.1 x.2 (wX S a n)
    | none=>wX S a n
theorem Lk (T:List nC) (s:nC) (h:Str) (wh:List Nat) (R:BR):u_ (T++[s]) h wh R=if s.2.1=h∧¬s.2.2∈(u_ T h wh R).map (·.1) then u_ T h wh R++[(s.2.2,wh++[s.1])] else u_ T h wh R:=by
  unfold u_;rw[List.foldl_append];rfl
theorem QT {S:List nC} {a:Str} {n:Nat} {h:Str} {wh:List Nat} (e:(wX S a n)[n]? = some (h,wh)):wX S a (n+1)=u_ S h wh (wX S a n):=by
  show(match (wX S a n)[n]? with | some x=>u_ S x.1 x.2 (wX S a n) | none=>wX S a n)=_
  rw[e]
def qj2 (S:List nC) (a:Str) (R:BR):Prop:=wX S a R.length=R
def lG (H:Hp) (kvs:List (Key×V)):Prop:=∀kv∈kvs,∀p,kv.2 = .ref p→H p=none
theorem lG.at {H:Hp} {kvs:List (Key×V)} (h:lG H kvs) {k:Key} {p:Addr} (e:j_ kvs k=some (.ref p)):H p=none:=by
  unfold j_ at e;cases hf:kvs.find? fun kv=>decide (kv.1=k) with
  | none=>rw[hf] at e;cases e
  | some kv=>
    rw[hf] at e;exact h kv (List.mem_of_find?_eq_some hf) p (Option.some.inj e)
theorem lG.snoc {H:Hp} {kvs:List (Key×V)} (h:lG H kvs) {k:Key} {p:Addr} (hp:H p=none):lG H (kvs++[(k,.ref p)]):=by
  intro kv hkv q hq
  rcases List.mem_append.mp hkv with z | z
  ·exact h kv z q hq
  ·simp at z;subst z;cases hq;exact hp
theorem Gq:∀(ns:List Int) (ps:List (Str×Str)) (k j:Nat) (s:nC),(mC ns ps k)[j]? = some s↔∃n e,ns[j]? = some n∧ps[j]? = some e∧s=(k+j,u5 n e,k_ n e)
  | [],ps,k,j,s=>by simp[mC]
  | n::ns,[],k,j,s=>by simp[mC]
  | n::ns,e::ps,k,0,s=>by simp[mC,eq_comm]
  | n::ns,e::ps,k,j+1,s=>by
    rw[mC,List.getElem?_cons_succ,Gq ns ps (k+1) j s];simp only[List.getElem?_cons_succ,show k+1+j=k+(j+1) by omega]
theorem rF {ns:List Int} {ps:List (Str×Str)} {s:nC}:s∈mC ns ps 0↔∃j n e,ns[j]? = some n∧ps[j]? = some e∧s=(j,u5 n e,k_ n e):=by
  rw[List.mem_iff_getElem?];constructor
  ·rintro⟨j,h⟩;obtain⟨n,e,h1,h2,h3⟩:=(Gq ns ps 0 j s).mp h;exact⟨j,n,e,h1,h2,by rw[h3,Nat.zero_add]⟩
  ·rintro⟨j,n,e,h1,h2,h3⟩;exact⟨j,(Gq ns ps 0 j s).mpr ⟨n,e,h1,h2,by rw[h3,Nat.zero_add]⟩⟩
def YS (S:List nC) (f:List Str):Prop:=∀s∈S,s.2.1∈f→s.2.2∈f
structure Rch (S:List nC) (x:Str) (f:List Str):Prop where
  st:x∈f
  nd:f.Nodup
  rt:∀y∈f,RT (iy S) x y
structure qj3 (S T:List nC) (x:Str) (f0 f:List Str):Prop where
  r0:f0.Nodup
  r:Rch S x f
  sub:∀y∈f0,y∈f
  le:f0.length≤f.length
  md:∀s∈T,s.2.1∈f0→s.2.2∈f
  cl:YS S f0→f=f0
theorem qj4 {m:Nat} (h:1≤m):(0:Int)<m:=by omega
theorem zlt {m b:Nat} {c:Int} (h:m≤b) (hb:(b:Int)<c):(m:Int)<c:=by omega
theorem zlo {f:Int} (h:0≤f) : -4611686018427387904≤f:=by omega
theorem zhi {f c:Int} (h:f<c) (hc:c≤4611686018427387904):f<4611686018427387904:=Int.lt_of_lt_of_le h hc
theorem qj5 {f:Nat} : -4611686018427387904≤(f:Int):=by omega
theorem ztn {d:Int} {m b:Nat} (h0:0≤d) (h:d<m) (hb:m≤b):d.toNat+1≤b:=by omega
theorem qj6 {d:Int} (h:0≤d) (c:Int):c+d=max d 0+c:=by omega
theorem zsz {a b:Nat} (h:a<b) (hb:b≤20):a<sizeLine:=Nat.lt_of_lt_of_le h (Nat.le_trans hb (of_eq_true yp))
theorem qj7 {a b:Nat} (h:a≤b) (hb:b≤20):a≤sizeLine:=Nat.le_trans h (Nat.le_trans hb (of_eq_true yp))
theorem z01 {d:Int} (h:0≤d) (h2:d<2):d=0∨d=1:=by omega
theorem z2 {n:Nat} (h:(1:Int)<n):2≤n:=by omega
theorem zk1 {k t:Nat} (h:t≤k):(0:Int)<k - t+1:=by omega
theorem zk2 {k t:Nat} {c:Int} (h:k≤20) (hc:21<c):(k:Int) - t+1<c:=by omega
theorem zk3 {f:Int} {k t p:Nat} (h0:0≤f) (h:f<k - t+1) (e:t=p):p+f.toNat≤k+0:=by omega
theorem zk4 {t p f k i:Nat} (e:t=p) (h:p+f≤k+i) (hi:i<f) (hk:k≤20):t<sizeLine:=by
  have:=of_eq_true yp;omega
theorem zk5 {p f k i:Nat} (h:p+f≤k+i) (hi:i<f) (hk:k≤20):p≤19:=by omega
theorem zk6 {p f k i:Nat} (h:p+f≤k+i):p+1+f≤k+(i+1):=by omega
theorem zk7 {p f k:Nat} (h:p+f≤k+f):p≤k:=Nat.le_of_add_le_add_right h
theorem qj8 {lo i n:Nat} (h:i<n - lo):lo+i<n:=by omega
theorem zn1 {b i:Nat}:0≤((b:Int)+5 * i) % 26:=by omega
theorem zn2 {b i:Nat}:((b:Int)+5 * i) % 26<26:=by omega
theorem zn3 {b i c:Nat} (h:((b:Int)+5 * i) % 26=c):c=(b+5 * i) % 26:=by omega
theorem zn4 {j y:Nat} {e:Int} (h:j<e.toNat) (he:e<4) (hy:y=j):y<sizeLine:=by
  have:=of_eq_true yp;omega
theorem zn5 {y:Nat} {e:Int} (h:y=e.toNat) (he:e<4):y+y * 0≤16777216:=by omega
theorem zn6 {y:Nat} {e:Int} (h:y=e.toNat) (he:e<4):1+y≤4:=by omega
theorem zn7 {i j w b:Nat} (hi:i<w) (hj:j<w) (hij:i<j) (hw:w≤9) (z:(b+5 * j) % 26=(b+5 * i) % 26):False:=by omega
theorem zn8 {j w:Nat} (h:¬j<w) (h2:j - w=0):j=w:=by omega
theorem zpa (c:Int):0≤if 1000000000000000000<c then c - 1000000000000000000 else 0:=by split <;> omega
theorem zpb (c:Int) (k:Nat):0≤c % 2147483629+977 * (k:Int)+1:=by omega
theorem zpc (c:Int) {k:Nat} (h:k<100):c % 2147483629+977 * (k:Int)+1<4294967296:=by omega
theorem zs1 {s i t p:Nat} (h:s≤2 * i+1) (hi:i<t) (e:t=p) (hp:p≤20):s<sizeLine:=by
  have:60<sizeLine:=by decide
  omega
theorem zs2 {s i:Nat} (h:s≤2 * i+1):s+1≤2 * (i+1):=by omega
theorem zs3 {s t p:Nat} (h:s≤2 * t) (e:t=p) (hp:p≤20):s≤40:=by omega
end L2
namespace L2
open PySem PySem.Spec PyProof.Rows
mutual
def lW (H:Hp):PyData→V→Prop
  | .none,v=>v = .non
  | .bool b,v=>v = .bl b
  | .int i,v=>v = .int i
  | .str x,v=>v = .str x
  | .list ds,v=>∃a xs,v = .ref a∧H a=some (.lst xs)∧bR H ds xs
  | .tuple ds,v=>∃a xs,v = .ref a∧H a=some (.tup xs)∧bR H ds xs
  | .dict kvs,v=>kvs=[]∧∃a,v = .ref a∧H a=some (.dK [])
def bR (H:Hp):List PyData→List V→Prop
  | [],vs=>vs=[]
  | d::ds,vs=>∃v r,vs=v::r∧lW H d v∧bR H ds r
end
mutual
theorem lW.same {H H':Hp} (s:Same H H'):∀(d:PyData) (v:V),lW H d v→lW H' d v
  | .none,v,h=>by simp only[lW] at h ⊢;exact h
  | .bool b,v,h=>by simp only[lW] at h ⊢;exact h
  | .int i,v,h=>by simp only[lW] at h ⊢;exact h
  | .str x,v,h=>by simp only[lW] at h ⊢;exact h
  | .list ds,v,h=>by
    simp only[lW] at h ⊢;obtain⟨a,xs,e,h1,h2⟩:=h;exact⟨a,xs,e,s _ _ h1,bR.same s ds xs h2⟩
  | .tuple ds,v,h=>by
    simp only[lW] at h ⊢;obtain⟨a,xs,e,h1,h2⟩:=h;exact⟨a,xs,e,s _ _ h1,bR.same s ds xs h2⟩
  | .dict kvs,v,h=>by
    simp only[lW] at h ⊢;obtain⟨e0,a,e,h1⟩:=h;exact⟨e0,a,e,s _ _ h1⟩
theorem bR.same {H H':Hp} (s:Same H H'):∀(ds:List PyData) (vs:List V),bR H ds vs→bR H' ds vs
  | [],vs,h=>by simp only[bR] at h ⊢;exact h
  | d::ds,vs,h=>by
    simp only[bR] at h ⊢;obtain⟨v,r,e,h1,h2⟩:=h;exact⟨v,r,e,lW.same s d v h1,bR.same s ds r h2⟩
end
theorem bR.ints (H:Hp):∀ns:List Int,bR H (ns.map PyData.int) (ns.map V.int)
  | []=>by simp[bR]
  | n::ns=>by simp only[List.map_cons,bR];exact⟨_,_,rfl,by simp[lW],bR.ints H ns⟩
theorem bR.length {H:Hp}:∀{ds:List PyData} {xs:List V},bR H ds xs→ds.length=xs.length
  | [],_,h=>by simp only[bR] at h;subst h;rfl
  | d::ds,_,h=>by
    simp only[bR] at h;obtain⟨v,r,rfl,h1,h2⟩:=h;simp[bR.length h2]
theorem bR.at {H:Hp}:∀{ds:List PyData} {xs:List V} {i:Nat} {v:V},bR H ds xs→xs[i]? = some v→∃d,ds[i]? = some d∧lW H d v
  | [],_,i,v,h,e=>by simp only[bR] at h;subst h;simp at e
  | d::ds,_,0,v,h,e=>by
    simp only[bR] at h;obtain⟨w,r,rfl,h1,h2⟩:=h;simp at e;subst e;exact⟨d,rfl,h1⟩
  | d::ds,_,i+1,v,h,e=>by
    simp only[bR] at h;obtain⟨w,r,rfl,h1,h2⟩:=h;exact bR.at (i:=i) h2 (by simpa using e)
def hid (p:Addr) (H:Hp):Hp:=fun b=>if b=p then none else H b
theorem uz {p b:Addr} {H:Hp} {o:HO} (h:b≠p) (e:H b=some o):hid p H b=some o:=by
  unfold hid;rw[if_neg h];exact e
section
variable {X:Cx} {p_:List (Addr×Obj)} {σ:St} {H:Hp} {s:Shared} {K:W.Frag}
theorem Ln {P:Program} {w:World} {h:Heap} {a:Addr} (ok:qT P w H h) (e:H a=some (.dK [])):Reads h (.ref a) (.dict []) [a]∧(a == sysModules)=false:=by
  obtain⟨_,hd,vs,kv,o,es,ep,h1,h2,h3,_,h5,_⟩:=TQ ok e;refine⟨?_,hd⟩;have ev:vs=[]:=by cases kv;rfl
  subst ev;have el:es.toList=[]:=by
    generalize es.toList=l at h5;cases h5;rfl
  have:=Reads.dict (kvs:=[]) (as:=[]) (bs:=[]) h1 h2.1 h3 (by rw[el];exact .nil) (by rw[el];exact .nil);exact this
mutual
theorem lW.reads (I:Inv X p_ σ H s):∀(d:PyData) (v:V) (u:Value),lW H d v→RelV v u→∃as,Reads s.heap u d as
  | .none,v,u,h,r=>by
    simp only[lW] at h;subst h;cases r;exact⟨_,.none⟩
  | .bool b,v,u,h,r=>by
    simp only[lW] at h;subst h;cases r;exact⟨_,.bool b⟩
  | .int i,v,u,h,r=>by
    simp only[lW] at h;subst h;obtain⟨t,rfl⟩:=r;exact⟨_,.int i t⟩
  | .str x,v,u,h,r=>by
    simp only[lW] at h;subst h;obtain⟨t,rfl⟩:=r;exact⟨_,.str x t⟩
  | .list ds,v,u,h,r=>by
    simp only[lW] at h;obtain⟨a,xs,rfl,hq,hs⟩:=h;cases r;obtain⟨its,rv,pl,hz⟩:=I.list (aX.of hq);obtain⟨o,e,c,n,dt⟩:=pl.isList;obtain⟨as,ra⟩:=bR.reads I ds xs its hs rv;exact⟨_,.list e c dt (by simpa using ra)⟩
  | .tuple ds,v,u,h,r=>by
    simp only[lW] at h;obtain⟨a,xs,rfl,hq,hs⟩:=h;cases r;obtain⟨its,rv,pl,hz⟩:=I.tuple (d9.of hq);obtain⟨o,e,c,n,dt⟩:=pl;obtain⟨as,ra⟩:=bR.reads I ds xs its hs rv;exact⟨_,.tuple e c dt (by simpa using ra)⟩
  | .dict kvs,v,u,h,r=>by
    simp only[lW] at h;obtain⟨rfl,a,rfl,h1⟩:=h;cases r;exact⟨_,(Ln I.hok h1).1⟩
theorem bR.reads (I:Inv X p_ σ H s):∀(ds:List PyData) (vs:List V) (us:List Value),bR H ds vs→Vals vs us→∃as,ReadsAll s.heap us ds as
  | [],vs,us,h,r=>by
    simp only[bR] at h;subst h;cases r;exact⟨_,.nil⟩
  | d::ds,vs,us,h,r=>by
    simp only[bR] at h;obtain⟨v,vr,rfl,h1,h2⟩:=h;cases r with
    | cons r1 r2=>
      obtain⟨as,ra⟩:=lW.reads I d v _ h1 r1;obtain⟨bs,rb⟩:=bR.reads I ds vr _ h2 r2;exact⟨_,.cons ra rb⟩
end
end
section
variable {prog:Program} {w:World} {A:Around} {E:Value→Shared→Prop} {s:Shared}
theorem zO {e it:Addr} {i:Int} {Q:Value→Shared→Prop} (he:iI s.heap e it i) (h:Q (.ref e) s):wpAny (model prog w) A (pyIter (.ref e)) Q E s:=by
  obtain⟨f0,f1,old,he,_⟩:=he;have hT:s.TypeIs (.ref e) "enumerate" :=⟨_,he,rfl⟩;refine wpAny_pyIter_slot hT F.slot_enumerate_iter (wpAny_call_entry F.slot_enumerate_iter hT F.entry_enumerate_iter (?_:wpAny _ _ (ret (.ref e)) _ _ s) (F.args_enumerate_iter_1 _));exact wpAny_pure ⟨_,rfl, "enumerate",_,hT,F.slot_enumerate_next.lookup,h⟩
theorem U9 {elts:List Expr} {x1} {pos:Pos} {e it a:Addr} {i:Int} {Q:Unit→Shared→Prop} (he:iI s.heap e it i)
    (hQ:∀h',iI h' e it i→Heap.SameBut e s.heap h'→Q () {s with heap:=h'}):wpAny (model prog w) A (letOwnedTupleGo (.Tuple elts x1 pos) (.ref e) (.ref a)) Q E s:=by
  obtain⟨f0,f1,old,he,hf⟩:=he;unfold letOwnedTupleGo;refine wpAny_bind (wpAny_load he ?_);dsimp only;split
  ·refine wpAny_bind (wpAny_rule ?_);exact wpAny_setField_rec (a:=e) he (by simp) fun h' z hs'=>hQ h' ⟨.none,f1,old,z,.inl rfl⟩ hs'
  ·exact wpAny_pure (hQ s.heap ⟨f0,f1,old,he,hf⟩ ⟨rfl,fun _ _=>rfl⟩)
end
def YT (b:Bool) (K:W.Frag) (a:Addr):It:=
  ⟨fun i H=>∃xs x,Ib b K H a xs∧xs[i]? = some x,
   fun i H v H'=>∃t x,v = .ref t∧H t=none∧H'=upd H t (.tup [.int i,x])∧∀xs,Ib b K H a xs→xs[i]? = some x,
   fun i H=>∃xs,Ib b K H a xs∧xs.length≤i⟩
def LtB (b:Bool) (h:Heap) (a:Addr) (items:Array Value):Prop:=match b with
  | true=>h.IsList a items
  | false=>h.IsTuple a items
theorem Inv.qb9 {X:Cx} {p_:List (Addr×Obj)} {σ:St} {H:Hp} {s:Shared} (I:Inv X p_ σ H s) {b:Bool} {a:Addr} {xs:List V} (h:Ib b X.K H a xs) :
    ∃its:List Value,Vals xs its∧its.length≤sizeLine∧LtB b s.heap a its.toArray:=by
  cases b with
  | true=>
    obtain⟨its,rv,pl,hz⟩:=I.list h;exact⟨its,rv,by rw[← rv.length];exact hz,pl.isList⟩
  | false=>
    obtain⟨its,rv,pl,hz⟩:=I.tuple h;exact⟨its,rv,by rw[← rv.length];exact hz,pl⟩
theorem Inv.U_ {X:Cx} {p_:List (Addr×Obj)} {σ:St} {H:Hp} {s:Shared} (I:Inv X p_ σ H s) {b:Bool} {a:Addr} {xs ys:List V} (h:Ib b X.K H a xs) (q:Ib b X.K H a ys):xs=ys:=by
  cases b with
  | true=>exact I.j8 h q
  | false=>exact I.Dh h q
def RM (b:Bool) (it a:Addr) (i:Nat) (h:Heap):Prop:=match b with
  | true=>h.IsListIter it a i
  | false=>h.IsTupleIter it a i
theorem RM.src {b:Bool} {it a:Addr} {items:Array Value} {i:Nat} {h:Heap} (st:RM b it a i h) (q:LtB b h a items):kh b it a items i h:=by
  cases b with
  | true=>exact⟨st,q⟩
  | false=>exact⟨st,q⟩
theorem RM.of {b:Bool} {it a:Addr} {items:Array Value} {i:Nat} {h:Heap} (st:kh b it a items i h):RM b it a i h:=by
  cases b with
  | true=>exact st.1
  | false=>exact st.1
theorem RM.keep {b:Bool} {it a:Addr} {i:Nat} {h h':Heap} (st:RM b it a i h) (k:∀o,h.get? it=some o→h'.get? it=some o):RM b it a i h':=by
  cases b with
  | true=>obtain⟨o,e,c⟩:=st;exact⟨o,k _ e,c⟩
  | false=>obtain⟨o,e,c⟩:=st;exact⟨o,k _ e,c⟩
theorem RM.obj {b:Bool} {it a:Addr} {i:Nat} {h:Heap} (st:RM b it a i h):∃o,h.get? it=some o∧∀v,o.data≠.cell v:=by
  cases b with
  | true=>obtain⟨o,e,_,d⟩:=(show h.IsListIter it a i from st);exact⟨o,e,fun v y=>by rw[d] at y;cases y⟩
  | false=>obtain⟨o,e,_,d⟩:=(show h.IsTupleIter it a i from st);exact⟨o,e,fun v y=>by rw[d] at y;cases y⟩
structure qeI (b:Bool) (e it a:Addr) (i:Nat) (h:Heap):Prop where
  he:iI h e it i
  hi:RM b it a i h
theorem Lq {b:Bool} {P:Program} {w:World} {K:W.Frag} {es:List Expr} {k:Nat} {pos:Pos} {e it a:Addr} (nei:e≠it) :
    Turn P w K (.Tuple es k pos) (YT b K a) [e,it] e (qeI b e it a) where
  mem:=by simp
  obj:=fun i h st c hc=>by
    simp only[List.mem_cons,List.not_mem_nil,or_false] at hc
    rcases hc with rfl | rfl
    ·obtain⟨f0,f1,old,q,_⟩:=st.he;exact⟨_,q,fun v e=>nomatch e⟩
    ·exact st.hi.obj
  keep:=fun i h h' st kk=>by
    obtain⟨f0,f1,old,q,hf⟩:=st.he;exact⟨⟨f0,f1,old,kk e (by simp) _ q,hf⟩,st.hi.keep fun o z=>kk it (by simp) o z⟩
  item:=by
    intro X hP hw hK hc i p_ s σ H E I hf st hg;subst hP hw hK;obtain⟨xs,x,qa,hx⟩:=hg;obtain⟨its,rv,hz,pl⟩:=I.qb9 qa;obtain⟨u,hu,ru⟩:=rv.get hx;obtain⟨f0,f1,old,hE,_⟩:=id st.he;obtain⟨o1,e1,_⟩:=st.hi.obj;refine zE st.he (st.hi.src pl) (x:=u) (by simpa using hu) fun h' a1 a2 a3 kk=>?_;refine⟨_,rfl,U9 (s:={s with heap:=h',toks:=s.toks+1}) a1 fun h2 b1 sb=>?_⟩;have lt:∀{c o},s.heap.get? c=some o→s.heap.objs.size≠c:=fun e=>Nat.ne_of_gt (Heap.lt_size e);have hn:H s.heap.objs.size=none:=I.hok.fresh (Nat.le_refl _);have HX:∀c o,c∉[e,it]→s.heap.get? c=some o→h2.get? c=some o:=fun c o hc z=>by
      simp only[List.mem_cons,List.not_mem_nil,or_false,not_or] at hc;exact(sb.2 c hc.1).trans (kk c o hc.1 hc.2 z)
    have I1:Inv X p_ σ H {s with heap:=h2,toks:=s.toks+1}:=I.jT HX hf;have q_:=sb.extBut _ _ (lt hE) a3;have I2:Inv X p_ σ (upd H s.heap.objs.size (.tup [.int i,x])) {s with heap:=h2,toks:=s.toks+1}:=I.N7 I1 ⟨_,rfl⟩ ru q_;refine⟨.ref s.heap.objs.size,_,I2,rfl,⟨s.heap.objs.size,x,rfl,hn,rfl,fun xs' q'=>by rw[I.U_ q' qa];exact hx⟩,?_,fun c hcm=>?_⟩
    ·exact⟨b1,(RM.of a2).keep fun o z=>(sb.2 it nei.symm).trans z⟩
    · have hne:c≠s.heap.objs.size:=by
        simp only[List.mem_cons,List.not_mem_nil,or_false] at hcm
        rcases hcm with rfl | rfl
        ·exact(lt hE).symm
        ·exact(lt e1).symm
      rw[aB hne];exact(hf c hcm).1
  done:=by
    intro X hP hw hK hc i p_ s σ H E I hf st hg;subst hP hw hK;obtain⟨xs,qa,hl⟩:=hg;obtain⟨its,rv,hz,pl⟩:=I.qb9 qa;have l1:=rv.length;refine zF (I.ok.hd hc) st.he (st.hi.src pl) (by simp;omega) fun h' kk=>⟨rfl,I.jT (t':=s.toks) (fun c o hcm z=>?_) hf⟩;simp only[List.mem_cons,List.not_mem_nil,or_false,not_or] at hcm;exact kk c o hcm.2 z
  self:=fun _ _ _ _ _ st h=>zO st.he h
section
variable {X:Cx} {K:W.Frag}
def Ol (K:W.Frag) (t:TA):TI:=fun σ H R=>t σ H fun vs H1=>ar1 vs fun x=>isRef x fun a=>∃b,(∃xs,Ib b K H1 a xs)∧R (YT b K a) H1
@[simp ↓] theorem qdD K t σ H R:Ol K t σ H R=(t σ H fun vs H1=>ar1 vs fun x=>isRef x fun a=>∃b,(∃xs,Ib b K H1 a xs)∧R (YT b K a) H1):=rfl
theorem Va (hK:X.K=K) {es:List Expr} {k:Nat} {pos':Pos} {a:Expr} {ta:TA} {p pos:Pos} (hg:Gl X "enumerate") (hm:X.mg "enumerate" = none) (ha:PA X [a] ta)
    (hs:starEach [a] X.env=[(false,eval a X.env)]:=by rfl) :
    PI X (.Tuple es k pos') (.Call (.Name "enumerate" p) [a] [] pos) (Ol K ta):=by
  subst hK;intro p_ s σ H R I h;refine Call_ (jC I hg hm wM (PyProof.Rows.callWith_type1 (cB (ha pos p_ s σ H _ I h) fun us s1 zz=>?_) (by rw[hs];rfl) (by rfl)));obtain⟨vs,H1,I1,r1,q1⟩:=zz;obtain⟨v,rfl,q2⟩:=ar1.out q1;obtain⟨l1,rfl,b,⟨xs,qa⟩,q⟩:=isRef.out q2;obtain⟨u,rfl,r⟩:=vals1 r1;obtain rfl:u=Value.ref l1:=r;obtain⟨its,rv,hz,pl⟩:=I1.qb9 qa;refine mY (b:=b) (items:=its.toArray) (by cases b <;> exact pl) fun h' b1 b2 b3 kk=>?_;refine zO (s:={s1 with heap:=h'}) b1 ?_;have I2:Inv X p_ σ H1 {s1 with heap:=h'}:=I1.kept (t':=s1.toks) kk;refine⟨s1.heap.objs.size+1,[s1.heap.objs.size+1,s1.heap.objs.size],_,_,H1,rfl,I2,Lq (Nat.succ_ne_self _),⟨b1,RM.of b2⟩,fun c hc=>?_,q⟩;have hle:s1.heap.objs.size≤c:=by
    simp only[List.mem_cons,List.not_mem_nil,or_false] at hc
    rcases hc with rfl | rfl <;> first | exact Nat.le_add_right _ _ | exact Nat.le_refl _
  exact I1.wD hle (I1.hok.fresh hle)
end
section
variable {K:W.Frag} {own:List Str} {caps:List Nat} {g:TG} {tt:TT} {te:TE} {D l:Addr} {σ:St} {H:Hp} {Q:Hp→Prop} {d:QB g tt te Q}
theorem qj9 {b:Bool} (xs:List V) (Pv:Nat→St→Hp→Prop) (h0:Pv 0 (stC own caps σ) H) (hl:∀i σ H,i≤xs.length→Pv i σ H→Ib b K H l xs)
    (hs:∀i x t σ H,xs[i]? = some x→H t=none→Pv i σ H→tE g tt te D (Pv (i+1)) (.ref t) σ (upd H t (.tup [.int i,x]))) (hd:∀σ H,Pv xs.length σ H→Q H):Xl own caps (YT b K l) g tt te Q d D σ H:=by
  refine⟨fun i m σ H=>m=xs.length - i∧i≤xs.length∧Pv i σ H,⟨xs.length,by simp,Nat.zero_le _,h0⟩,?_⟩;rintro i m σ H ⟨rfl,hi,p⟩;have q:=hl i σ H hi p
  by_cases hlt:i<xs.length
  ·refine .inr ⟨⟨xs,xs[i],q,by simp[hlt]⟩,Pv (i+1),fun σ' H' p'=>⟨xs.length - (i+1),by omega,rfl,hlt,p'⟩,fun x H' y=>?_⟩;obtain⟨t,u,rfl,ht,rfl,e⟩:=y;exact hs i u t σ H (e xs q) ht p
  · have:i=xs.length:=by omega
    subst this;exact .inl ⟨⟨xs,q,Nat.le_refl _⟩,hd σ H p⟩
end
theorem zP (a b c:Value):checkTypeCall "zip" ⟨[a,b,c],[]⟩=pure ():=by kernel_rfl
theorem Cw (a b c:Value):checkBuiltinCall "zip.__new__" ⟨[.type "zip",a,b,c],[]⟩=pure ():=by kernel_rfl
theorem uD (a b c d:Value):argsOk "object.__init__" ⟨[a,b,c,d],[]⟩:=by
  unfold argsOk;rw[signature?_of (id:= "object.__init__") (n:=['_', '_', 't', 'i', 'n', 'i', '_', '_']) (o:=['t', 'c', 'e', 'j', 'b', 'o']) (by kernel_rfl) F.owner_object];kernel_rfl
theorem Lr:typeLookup (.type "zip") "__len__" = pure none:=by rw[typeLookup_type,builtinLookup_eq_fast];kernel_rfl
theorem Jb:typeLookup (.type "zip") "__length_hint__" = pure none:=by rw[typeLookup_type,builtinLookup_eq_fast];kernel_rfl
abbrev yC (h:Heap) (z TI TO:Addr) (f0:Value) (b:Bool):Prop:=
  h.get? z=some {cls:=.type "zip",dict:=none,data:=.fields #[f0,.bool b,.bool false,.ref TI,.ref TO],slots:=#[]}
abbrev bW (h:Heap) (T:Addr) (a b c:Value):Prop:=h.get? T=some {cls:=.type "tuple",data:=.seq #[a,b,c]}
def xW (b:Bool) (h:Heap) (it l:Addr) (i:Nat):Prop:=match b with
  | true=>h.IsListIter it l i
  | false=>h.IsTupleIter it l i
def Eb (b:Bool) (h:Heap) (l:Addr) (items:Array Value):Prop:=match b with
  | true=>h.IsList l items
  | false=>h.IsTuple l items
theorem xW.at {b:Bool} {h h':Heap} {it l:Addr} {i:Nat} (x:xW b h it l i) (k:∀o,h.get? it=some o→h'.get? it=some o):xW b h' it l i:=by
  cases b with
  | true=>obtain⟨o,e,c⟩:=x;exact⟨o,k _ e,c⟩
  | false=>obtain⟨o,e,c⟩:=x;exact⟨o,k _ e,c⟩
theorem Eb.at {b:Bool} {h h':Heap} {l:Addr} {items:Array Value} (x:Eb b h l items) (k:∀o,h.get? l=some o→h'.get? l=some o):Eb b h' l items:=by
  cases b with
  | true=>obtain⟨o,e,c⟩:=x;exact⟨o,k _ e,c⟩
  | false=>obtain⟨o,e,c⟩:=x;exact⟨o,k _ e,c⟩
theorem xW.extBut {b:Bool} {h h':Heap} {it l c:Addr} {i:Nat} (x:xW b h it l i) (k:Heap.ExtBut c h h') (n:it≠c):xW b h' it l i:=x.at fun o e=>k _ _ n e
theorem Eb.extBut {b:Bool} {h h':Heap} {l c:Addr} {items:Array Value} (x:Eb b h l items) (k:Heap.ExtBut c h h') (n:l≠c):Eb b h' l items:=x.at fun o e=>k _ _ n e
theorem xW.ob {b:Bool} {h:Heap} {it l:Addr} {i:Nat} (x:xW b h it l i):∃o,h.get? it=some o:=by
  cases b with
  | true=>obtain⟨o,e,c⟩:=x;exact⟨o,e⟩
  | false=>obtain⟨o,e,c⟩:=x;exact⟨o,e⟩
theorem Eb.ob {b:Bool} {h:Heap} {l:Addr} {items:Array Value} (x:Eb b h l items):∃o,h.get? l=some o:=by
  cases b with
  | true=>obtain⟨o,e,c⟩:=x;exact⟨o,e⟩
  | false=>obtain⟨o,e,c⟩:=x;exact⟨o,e⟩
theorem xW.ne {b:Bool} {h:Heap} {it l c:Addr} {i:Nat} {o:Obj} {T:String} (x:xW b h it l i) (e:h.get? c=some o) (k:o.cls = .type T) (n:T≠ "list_iterator" ∧T≠ "tuple_iterator"):c≠it:=by
  cases b with
  | true=>obtain⟨u,e',c',_⟩:=x;exact aL e e' k c' n.1
  | false=>obtain⟨u,e',c',_⟩:=x;exact aL e e' k c' n.2
theorem Eb.ne {b:Bool} {h:Heap} {l c:Addr} {items:Array Value} {o:Obj} {T:String} (x:Eb b h l items) (e:h.get? c=some o) (k:o.cls = .type T) (n:T≠ "list" ∧T≠ "tuple"):l≠c:=by
  cases b with
  | true=>obtain⟨u,e',c',_⟩:=x;exact aL e' e c' k n.1.symm
  | false=>obtain⟨u,e',c',_⟩:=x;exact aL e' e c' k n.2.symm
theorem xW.nel {b:Bool} {h:Heap} {it l l':Addr} {i:Nat} {items:Array Value} (x:xW b h it l i) (y:Eb b h l' items):l'≠it:=by
  cases b with
  | true=>obtain⟨u,e',c',_⟩:=x;obtain⟨o,e,c,_⟩:=y;exact aL e e' c c' (by decide)
  | false=>obtain⟨u,e',c',_⟩:=x;obtain⟨o,e,c,_⟩:=y;exact aL e e' c c' (by decide)
theorem Jc {prog:Program} {w:World} {A:Around} {E:Value→Shared→Prop} {s:Shared} {b:Bool} {it l:Addr} {items:Array Value} {i:Nat} {x:Value} {Q:Value→Shared→Prop} (h1:xW b s.heap it l i) (h2:Eb b s.heap l items) (hx:items[i]? = some x)
    (hQ:∀h',xW b h' it l (i+1)→Heap.SameBut it s.heap h'→Q x {s with heap:=h'}):wpAny (model prog w) A (Builtin.SmallTypes.nextOf (.ref it)) Q E s:=by
  cases b with
  | true=>exact zB (b:=true) ⟨h1,h2⟩ hx fun h' a1 a2=>hQ h' a1.1 a2
  | false=>exact zB (b:=false) ⟨h1,h2⟩ hx fun h' a1 a2=>hQ h' a1.1 a2
structure YW (z TI TO i1 i2 i3 l1 l2 l3:Addr):Prop where
  TIz:TI≠z
  TOz:TO≠z
  i1z:i1≠z
  i2z:i2≠z
  i3z:i3≠z
  TITO:TI≠TO
  TIi1:TI≠i1
  TIi2:TI≠i2
  qeJ:TI≠i3
  TOi1:TO≠i1
  TOi2:TO≠i2
  Vb:TO≠i3
  i12:i1≠i2
  i13:i1≠i3
  i23:i2≠i3
  l1:l1≠z∧l1≠TO∧l1≠i1∧l1≠i2∧l1≠i3
  l2:l2≠z∧l2≠TO∧l2≠i1∧l2≠i2∧l2≠i3
  l3:l3≠z∧l3≠TO∧l3≠i1∧l3≠i2∧l3≠i3
section
variable {prog:Program} {w:World} {A:Around} {E:Value→Shared→Prop} {s:Shared}
theorem qb_ {T:Addr} {a b c x:Value} {k:Nat} {Q:Unit→Shared→Prop} (hT:bW s.heap T a b c)
    (h:∀h',h'.get? T=some {cls:=.type "tuple",data:=.seq ((#[a,b,c]:Array Value).setIfInBounds k x)}→Heap.SameBut T s.heap h'→Q () {s with heap:=h'}) :
    wpAny (model prog w) A (updateSeq T (·.setIfInBounds k x)) Q E s:=by
  refine wpAny_updateSeq hT rfl (h _ ?_ (Heap.SameBut.update ..));rw[Heap.get?_update_self _ hT rfl];simp[Obj.mapSeq]
theorem Jd {a:Addr} {Q:Option Obj→Shared→Prop} (h:Q (s.heap.get? a) s):wpAny (model prog w) A (loadIfAlive a) Q E s:=fun Γ p _=>by
  unfold loadIfAlive;rw[Sem.wp_loadIfAlive];exact h
theorem Vc {b3:Bool} {z TI TO i1 i2 i3 l1 l2 l3:Addr} {xs ys zs:Array Value} {x y v a b c:Value} {Q:Value→Shared→Prop} (D:YW z TI TO i1 i2 i3 l1 l2 l3)
    (hz:yC s.heap z TI TO .none false) (hTI:bW s.heap TI (.ref i1) (.ref i2) (.ref i3)) (hTO:bW s.heap TO a b c)
    (h1:s.heap.IsListIter i1 l1 0) (h2:s.heap.IsListIter i2 l2 0) (h3:xW b3 s.heap i3 l3 0) (hl1:s.heap.IsList l1 xs) (hl2:s.heap.IsList l2 ys) (hl3:Eb b3 s.heap l3 zs) (hx:xs[0]? = some x) (hy:ys[0]? = some y) (hv:zs[0]? = some v)
    (hQ:∀h',yC h' z TI TO (rawInt s.heap.objs.size) false→bW h' TO x y v→h'.IsListIter i1 l1 1→h'.IsListIter i2 l2 1→xW b3 h' i3 l3 1→bW h' s.heap.objs.size x y v→h'.objs.size=s.heap.objs.size+1→
      (∀d o,d≠z→d≠TO→d≠i1→d≠i2→d≠i3→s.heap.get? d=some o→h'.get? d=some o)→Q (.ref s.heap.objs.size) {s with heap:=h'}) :
    wpAny (model prog w) A (Builtin.«zip.__next__» ⟨[.ref z],[]⟩) (fun fin s'=>∃v,fin = .done (.ret v)∧Q v s') E s:=by
  show wpAny _ _ (field (.ref z) 2 >>= _) _ _ _;refine wpAny_bind (wpAny_field hz rfl (x:=.bool false) rfl ?_);show wpAny _ _ (field (.ref z) 3 >>= _) _ _ _;refine wpAny_bind (wpAny_field hz rfl (x:=.ref TI) rfl ?_);refine wpAny_bind (wpAny_seqItems hTI rfl ?_);show wpAny _ _ (Builtin.SmallTypes.ownedTupleIsFree (.ref z) >>= _) _ _ _;refine wpAny_bind ?_;unfold Builtin.SmallTypes.ownedTupleIsFree;refine wpAny_bind (wpAny_field hz rfl (x:=.none) rfl (wpAny_pure ?_));simp only[if_true];refine wpAny_bind (wpAny_rule ?_);refine wpAny_bind (wpAny_field hz rfl (x:=.ref TO) rfl ?_);refine wpAny_bind (wpAny_setField_rec hz (by simp) fun h₁ hz₁ hs₁=>?_);replace hz₁:yC h₁ z TI TO .ellipsis false:=hz₁;refine wpAny_bind ?_;simp only[List.zipIdx_cons,List.zipIdx_nil,List.forIn_cons,List.forIn_nil];have qj_:bW h₁ TO a b c:=hs₁.extBut _ _ D.TOz hTO;refine wpAny_bind (wpAny_bind (wpAny_onRaise ?_));show wpAny _ _ (Builtin.SmallTypes.nextOf (.ref i1) >>= _) _ _ _;refine wpAny_bind (wpAny_nextOf_list_item (h1.extBut hs₁.extBut D.i1z) (hl1.extBut hs₁.extBut D.l1.1) hx fun h₂ h1₂ hs₂=>wpAny_pure ?_);have k₂:∀d o,d≠z→d≠TO→d≠i1→d≠i2→d≠i3→s.heap.get? d=some o→h₂.get? d=some o:=fun d o d1 d2 d3 d4 d5 e=>hs₂.extBut _ _ d3 (hs₁.extBut _ _ d1 e);have hTO₂:bW h₂ TO a b c:=hs₂.extBut _ _ D.TOi1 qj_;refine wpAny_bind (wpAny_seqItems hTO₂ rfl ?_);refine wpAny_bind (qb_ hTO₂ fun h₃ hTO₃ hs₃=>?_);replace hTO₃:bW h₃ TO x b c:=hTO₃;refine wpAny_bind (wpAny_letGo (wpAny_pure ?_));refine wpAny_bind (wpAny_bind (wpAny_onRaise ?_));show wpAny _ _ (Builtin.SmallTypes.nextOf (.ref i2) >>= _) _ _ _;refine wpAny_bind (wpAny_nextOf_list_item (((h2.extBut hs₁.extBut D.i2z).extBut hs₂.extBut D.i12.symm).extBut hs₃.extBut D.TOi2.symm)
    (((hl2.extBut hs₁.extBut D.l2.1).extBut hs₂.extBut D.l2.2.2.1).extBut hs₃.extBut D.l2.2.1) hy fun h₄ h2₄ hs₄=>wpAny_pure ?_)
  have hTO₄:bW h₄ TO x b c:=hs₄.extBut _ _ D.TOi2 hTO₃;refine wpAny_bind (wpAny_seqItems hTO₄ rfl ?_);refine wpAny_bind (qb_ hTO₄ fun h₅ hTO₅ hs₅=>?_);replace hTO₅:bW h₅ TO x y c:=hTO₅;refine wpAny_bind (wpAny_letGo (wpAny_pure ?_));refine wpAny_bind (wpAny_bind (wpAny_onRaise ?_));show wpAny _ _ (Builtin.SmallTypes.nextOf (.ref i3) >>= _) _ _ _;refine wpAny_bind (Jc (((((h3.extBut hs₁.extBut D.i3z).extBut hs₂.extBut D.i13.symm).extBut hs₃.extBut D.Vb.symm).extBut hs₄.extBut D.i23.symm).extBut hs₅.extBut D.Vb.symm)
    (((((hl3.extBut hs₁.extBut D.l3.1).extBut hs₂.extBut D.l3.2.2.1).extBut hs₃.extBut D.l3.2.1).extBut hs₄.extBut D.l3.2.2.2.1).extBut hs₅.extBut D.l3.2.1) hv fun h₆ h3₆ hs₆=>wpAny_pure ?_)
  have qeK:bW h₆ TO x y c:=hs₆.extBut _ _ D.Vb hTO₅;refine wpAny_bind (wpAny_seqItems qeK rfl ?_);refine wpAny_bind (qb_ qeK fun h₇ YX hs₇=>?_);replace YX:bW h₇ TO x y v:=YX;refine wpAny_bind (wpAny_letGo (wpAny_pure (wpAny_pure ?_)));refine wpAny_bind (wpAny_seqItems YX rfl ?_);refine wpAny_bind (wpAny_newTuple ?_);have hsz:h₇.objs.size=s.heap.objs.size:=by rw[hs₇.1,hs₆.1,hs₅.1,hs₄.1,hs₃.1,hs₂.1,hs₁.1]
  have hz₇:yC h₇ z TI TO .ellipsis false:=hs₇.extBut _ _ D.TOz.symm (hs₆.extBut _ _ D.i3z.symm (hs₅.extBut _ _ D.TOz.symm (hs₄.extBut _ _ D.i2z.symm (hs₃.extBut _ _ D.TOz.symm (hs₂.extBut _ _ D.i1z.symm hz₁)))));have hk₇:∀d o,d≠z→d≠TO→d≠i1→d≠i2→d≠i3→s.heap.get? d=some o→h₇.get? d=some o:=fun d o d1 d2 d3 d4 d5 e=>
    hs₇.extBut _ _ d2 (hs₆.extBut _ _ d5 (hs₅.extBut _ _ d2 (hs₄.extBut _ _ d4 (hs₃.extBut _ _ d2 (hs₂.extBut _ _ d3 (hs₁.extBut _ _ d1 e))))))
  have h1₇:h₇.IsListIter i1 l1 1:=((((h1₂.extBut hs₃.extBut D.TOi1.symm).extBut hs₄.extBut D.i12).extBut hs₅.extBut D.TOi1.symm).extBut hs₆.extBut D.i13).extBut hs₇.extBut D.TOi1.symm;have h2₇:h₇.IsListIter i2 l2 1:=((h2₄.extBut hs₅.extBut D.TOi2.symm).extBut hs₆.extBut D.i23).extBut hs₇.extBut D.TOi2.symm;have h3₇:xW b3 h₇ i3 l3 1:=h3₆.extBut hs₇.extBut D.Vb.symm;have hzlt:z<h₇.objs.size:=Heap.lt_size hz₇;show wpAny _ _ (Builtin.SmallTypes.ownedTupleHandOut (.ref z) (.ref h₇.objs.size) >>= _) _ _ _;refine wpAny_bind ?_;unfold Builtin.SmallTypes.ownedTupleHandOut;have hz₈:yC (h₇.push {cls:=.type "tuple",data:=.seq #[x,y,v]}) z TI TO .ellipsis false:=Heap.get?_push_of_some _ hz₇;refine wpAny_bind (wpAny_setField_rec hz₈ (by simp) fun h₉ hz₉ hs₉=>?_);replace hz₉:yC h₉ z TI TO (rawInt h₇.objs.size) false:=hz₉;refine wpAny_setField_rec hz₉ (by simp) fun h₁₀ YZ qca=>?_;replace YZ:yC h₁₀ z TI TO (rawInt h₇.objs.size) false:=YZ;have up:∀d o,d≠z→h₇.get? d=some o→h₁₀.get? d=some o:=fun d o d1 e=>qca.extBut _ _ d1 (hs₉.extBut _ _ d1 (Heap.get?_push_of_some _ e));have hT:bW h₁₀ h₇.objs.size x y v:=qca.extBut _ _ (Nat.ne_of_gt hzlt) (hs₉.extBut _ _ (Nat.ne_of_gt hzlt) (Heap.get?_push_size _ rfl));have hz8:h₁₀.objs.size=h₇.objs.size+1:=by rw[qca.1,hs₉.1,Heap.size_push]
  rw[hsz] at YZ hT hz8;refine wpAny_pure ⟨_,rfl,?_⟩;show Q (.ref h₇.objs.size) _;rw[hsz];exact hQ h₁₀ YZ (up _ _ D.TOz YX) (h1₇.at fun o e=>up _ o D.i1z e) (h2₇.at fun o e=>up _ o D.i2z e) (h3₇.at fun o e=>up _ o D.i3z e) hT hz8 fun d o d1 d2 d3 d4 d5 e=>up d o d1 (hk₇ d o d1 d2 d3 d4 d5 e)
theorem Om {z TI TO T:Addr} {bo:Bool} {B:Bool→Shared→Prop} (hz:yC s.heap z TI TO (rawInt T) bo)
    (h:∀h₁,yC h₁ z TI TO (rawInt T) true→Heap.ExtBut z s.heap h₁→h₁.objs.size=s.heap.objs.size→B false {s with heap:=h₁}) :
    wpAny (model prog w) A (if (Value.bool bo != Value.bool true)=true then do
      setField (Value.ref z) 1 (Value.bool true)
      pure false
    else pure false) B E s:=by
  cases bo with
  | true=>
    rw[if_neg (by decide)];exact wpAny_pure (h s.heap hz (fun _ _ _ e=>e) rfl)
  | false=>
    rw[if_pos (by decide)];exact wpAny_bind (wpAny_setField_rec hz (by simp) fun h₁ hz₁ hs₁=>wpAny_pure (h h₁ hz₁ hs₁.extBut hs₁.1))
theorem Y0 {b3:Bool} {z TI TO T i1 i2 i3 l1 l2 l3:Addr} {k:Nat} {bo:Bool} {oT:Obj} {xs ys zs:Array Value} {x y v:Value} {Q:Value→Shared→Prop} (D:YW z TI TO i1 i2 i3 l1 l2 l3)
    (hz:yC s.heap z TI TO (rawInt T) bo) (hT:s.heap.get? T=some oT) (hTI:bW s.heap TI (.ref i1) (.ref i2) (.ref i3))
    (h1:s.heap.IsListIter i1 l1 k) (h2:s.heap.IsListIter i2 l2 k) (h3:xW b3 s.heap i3 l3 k) (hl1:s.heap.IsList l1 xs) (hl2:s.heap.IsList l2 ys) (hl3:Eb b3 s.heap l3 zs) (hx:xs[k]? = some x) (hy:ys[k]? = some y) (hv:zs[k]? = some v)
    (hQ:∀h',yC h' z TI TO (rawInt T) true→h'.IsListIter i1 l1 (k+1)→h'.IsListIter i2 l2 (k+1)→xW b3 h' i3 l3 (k+1)→bW h' s.heap.objs.size x y v→h'.objs.size=s.heap.objs.size+1→
      (∀d o,d≠z→d≠i1→d≠i2→d≠i3→s.heap.get? d=some o→h'.get? d=some o)→Q (.ref s.heap.objs.size) {s with heap:=h'}) :
    wpAny (model prog w) A (Builtin.«zip.__next__» ⟨[.ref z],[]⟩) (fun fin s'=>∃v,fin = .done (.ret v)∧Q v s') E s:=by
  show wpAny _ _ (field (.ref z) 2 >>= _) _ _ _;refine wpAny_bind (wpAny_field hz rfl (x:=.bool false) rfl ?_);show wpAny _ _ (field (.ref z) 3 >>= _) _ _ _;refine wpAny_bind (wpAny_field hz rfl (x:=.ref TI) rfl ?_);refine wpAny_bind (wpAny_seqItems hTI rfl ?_);show wpAny _ _ (Builtin.SmallTypes.ownedTupleIsFree (.ref z) >>= _) _ _ _;refine wpAny_bind ?_;unfold Builtin.SmallTypes.ownedTupleIsFree;refine wpAny_bind (wpAny_field hz rfl (x:=rawInt T) rfl ?_);show wpAny _ _ (loadIfAlive T >>= _) _ _ _;refine wpAny_bind (Jd ?_);rw[hT];simp only[Option.isNone_some,Bool.false_eq_true,if_false];refine wpAny_bind (wpAny_field hz rfl (x:=.bool bo) rfl ?_);refine Om hz fun h₁ hz₁ hs₁ hn₁=>?_;simp only[Bool.false_eq_true,if_false];refine wpAny_bind ?_;simp only[← Array.forIn_toList,List.forIn_cons,List.forIn_nil];refine wpAny_bind (wpAny_bind (wpAny_holding ?_));show wpAny _ _ (Builtin.SmallTypes.nextOf (.ref i1) >>= _) _ _ _;refine wpAny_bind (wpAny_nextOf_list_item (h1.extBut hs₁ D.i1z) (hl1.extBut hs₁ D.l1.1) hx fun h₂ h1₂ hs₂=>wpAny_pure ?_);refine wpAny_pure ?_;refine wpAny_bind (wpAny_bind (wpAny_holding ?_));show wpAny _ _ (Builtin.SmallTypes.nextOf (.ref i2) >>= _) _ _ _;refine wpAny_bind (wpAny_nextOf_list_item ((h2.extBut hs₁ D.i2z).extBut hs₂.extBut D.i12.symm) ((hl2.extBut hs₁ D.l2.1).extBut hs₂.extBut D.l2.2.2.1) hy fun h₃ h2₃ hs₃=>wpAny_pure ?_);refine wpAny_pure ?_;refine wpAny_bind (wpAny_bind (wpAny_holding ?_));show wpAny _ _ (Builtin.SmallTypes.nextOf (.ref i3) >>= _) _ _ _;refine wpAny_bind (Jc (((h3.extBut hs₁ D.i3z).extBut hs₂.extBut D.i13.symm).extBut hs₃.extBut D.i23.symm) (((hl3.extBut hs₁ D.l3.1).extBut hs₂.extBut D.l3.2.2.1).extBut hs₃.extBut D.l3.2.2.2.1) hv fun h₄ h3₄ hs₄=>wpAny_pure ?_);refine wpAny_pure (wpAny_pure ?_);refine wpAny_bind (wpAny_newTuple ?_ (by show 3≤sizeLine;decide));have hsz:h₄.objs.size=s.heap.objs.size:=by rw[hs₄.1,hs₃.1,hs₂.1];exact hn₁
  have kk:∀d o,d≠z→d≠i1→d≠i2→d≠i3→s.heap.get? d=some o→h₄.get? d=some o:=fun d o d1 d2 d3 d4 e=>hs₄.extBut _ _ d4 (hs₃.extBut _ _ d3 (hs₂.extBut _ _ d2 (hs₁ _ _ d1 e)));have hz₄:yC h₄ z TI TO (rawInt T) true:=hs₄.extBut _ _ D.i3z.symm (hs₃.extBut _ _ D.i2z.symm (hs₂.extBut _ _ D.i1z.symm hz₁));have h1₄:h₄.IsListIter i1 l1 (k+1):=(h1₂.extBut hs₃.extBut D.i12).extBut hs₄.extBut D.i13;have h2₄:h₄.IsListIter i2 l2 (k+1):=h2₃.extBut hs₄.extBut D.i23;refine wpAny_pure ⟨_,rfl,?_⟩;show Q (.ref h₄.objs.size) _;rw[hsz];refine hQ (h₄.push {cls:=.type "tuple",data:=.seq #[x,y,v]}) (Heap.get?_push_of_some _ hz₄) (h1₄.at fun o e=>Heap.get?_push_of_some _ e) (h2₄.at fun o e=>Heap.get?_push_of_some _ e) (h3₄.at fun o e=>Heap.get?_push_of_some _ e) (by rw[← hsz];exact Heap.get?_push_size _ rfl) (by rw[Heap.size_push,hsz]) fun d o d1 d2 d3 d4 e=>Heap.get?_push_of_some _ (kk d o d1 d2 d3 d4 e)
theorem qcb {z TI TO T i1 i2 i3 l1 l2 l3:Addr} {k:Nat} {bo:Bool} {oT:Obj} {xs:Array Value} {Q:Fin→Shared→Prop} (hh:A.handled=none) (D:YW z TI TO i1 i2 i3 l1 l2 l3)
    (hz:yC s.heap z TI TO (rawInt T) bo) (hT:s.heap.get? T=some oT) (hTI:bW s.heap TI (.ref i1) (.ref i2) (.ref i3))
    (h1:s.heap.IsListIter i1 l1 k) (hl1:s.heap.IsList l1 xs) (hx:xs[k]? = none)
    (hE:∀h' e,(∀d o,d≠z→d≠i1→s.heap.get? d=some o→h'.get? d=some o)→(∃o,h'.get? e=some o∧o.cls = .type "StopIteration")→E (.ref e) {s with heap:=h'}) :
    wpAny (model prog w) A (Builtin.«zip.__next__» ⟨[.ref z],[]⟩) Q E s:=by
  show wpAny _ _ (field (.ref z) 2 >>= _) _ _ _;refine wpAny_bind (wpAny_field hz rfl (x:=.bool false) rfl ?_);show wpAny _ _ (field (.ref z) 3 >>= _) _ _ _;refine wpAny_bind (wpAny_field hz rfl (x:=.ref TI) rfl ?_);refine wpAny_bind (wpAny_seqItems hTI rfl ?_);show wpAny _ _ (Builtin.SmallTypes.ownedTupleIsFree (.ref z) >>= _) _ _ _;refine wpAny_bind ?_;unfold Builtin.SmallTypes.ownedTupleIsFree;refine wpAny_bind (wpAny_field hz rfl (x:=rawInt T) rfl ?_);show wpAny _ _ (loadIfAlive T >>= _) _ _ _;refine wpAny_bind (Jd ?_);rw[hT];simp only[Option.isNone_some,Bool.false_eq_true,if_false];refine wpAny_bind (wpAny_field hz rfl (x:=.bool bo) rfl ?_);refine Om hz fun h₁ hz₁ hs₁ hn₁=>?_;simp only[Bool.false_eq_true,if_false];refine wpAny_bind ?_;simp only[← Array.forIn_toList,List.forIn_cons,List.forIn_nil];refine wpAny_bind (wpAny_bind (wpAny_holding ?_));show wpAny _ _ (Builtin.SmallTypes.nextOf (.ref i1) >>= _) _ _ _;exact wpAny_bind (wpAny_nextOf_list_end hh (h1.extBut hs₁ D.i1z) (hl1.extBut hs₁ D.l1.1) hx fun h₂ e hs₂ he=>hE h₂ e (fun d o d1 d2 x=>hs₂ _ _ d2 (hs₁ _ _ d1 x)) he)
theorem Ls {b3:Bool} {z TI TO i1 i2 i3 l1 l2 l3:Addr} {xs ys zs:Array Value} {x y v a b c:Value} {Q:Option Value→Shared→Prop} (D:YW z TI TO i1 i2 i3 l1 l2 l3)
    (hz:yC s.heap z TI TO .none false) (hTI:bW s.heap TI (.ref i1) (.ref i2) (.ref i3)) (hTO:bW s.heap TO a b c)
    (h1:s.heap.IsListIter i1 l1 0) (h2:s.heap.IsListIter i2 l2 0) (h3:xW b3 s.heap i3 l3 0) (hl1:s.heap.IsList l1 xs) (hl2:s.heap.IsList l2 ys) (hl3:Eb b3 s.heap l3 zs) (hx:xs[0]? = some x) (hy:ys[0]? = some y) (hv:zs[0]? = some v)
    (hQ:∀h',yC h' z TI TO (rawInt s.heap.objs.size) false→bW h' TO x y v→h'.IsListIter i1 l1 1→h'.IsListIter i2 l2 1→xW b3 h' i3 l3 1→bW h' s.heap.objs.size x y v→h'.objs.size=s.heap.objs.size+1→
      (∀d o,d≠z→d≠TO→d≠i1→d≠i2→d≠i3→s.heap.get? d=some o→h'.get? d=some o)→Q (some (.ref s.heap.objs.size)) {s with heap:=h'}) :
    wpAny (model prog w) A (pyNext (.ref z)) Q E s:=by
  have hT:s.TypeIs (.ref z) "zip" :=⟨_,hz,rfl⟩;unfold pyNext;exact wpAny_bind (wpAny_attempt (wpAny_callSpecial?_slot (name:=Str.ofString "__next__") hT F.slot_zip_next
    (wpAny_call_entry F.slot_zip_next hT F.entry_zip_next
      (Vc D hz hTI hTO h1 h2 h3 hl1 hl2 hl3 hx hy hv fun h' a1 a2 a3 a4 a5 a6 a7 a8=>wpAny_pure (hQ h' a1 a2 a3 a4 a5 a6 a7 a8)) (F.args_zip_next_1 _))))
theorem QV {b3:Bool} {z TI TO T i1 i2 i3 l1 l2 l3:Addr} {k:Nat} {bo:Bool} {oT:Obj} {xs ys zs:Array Value} {x y v:Value} {Q:Option Value→Shared→Prop} (D:YW z TI TO i1 i2 i3 l1 l2 l3)
    (hz:yC s.heap z TI TO (rawInt T) bo) (hT:s.heap.get? T=some oT) (hTI:bW s.heap TI (.ref i1) (.ref i2) (.ref i3))
    (h1:s.heap.IsListIter i1 l1 k) (h2:s.heap.IsListIter i2 l2 k) (h3:xW b3 s.heap i3 l3 k) (hl1:s.heap.IsList l1 xs) (hl2:s.heap.IsList l2 ys) (hl3:Eb b3 s.heap l3 zs) (hx:xs[k]? = some x) (hy:ys[k]? = some y) (hv:zs[k]? = some v)
    (hQ:∀h',yC h' z TI TO (rawInt T) true→h'.IsListIter i1 l1 (k+1)→h'.IsListIter i2 l2 (k+1)→xW b3 h' i3 l3 (k+1)→bW h' s.heap.objs.size x y v→h'.objs.size=s.heap.objs.size+1→
      (∀d o,d≠z→d≠i1→d≠i2→d≠i3→s.heap.get? d=some o→h'.get? d=some o)→Q (some (.ref s.heap.objs.size)) {s with heap:=h'}) :
    wpAny (model prog w) A (pyNext (.ref z)) Q E s:=by
  have hTy:s.TypeIs (.ref z) "zip" :=⟨_,hz,rfl⟩;unfold pyNext;exact wpAny_bind (wpAny_attempt (wpAny_callSpecial?_slot (name:=Str.ofString "__next__") hTy F.slot_zip_next
    (wpAny_call_entry F.slot_zip_next hTy F.entry_zip_next
      (Y0 D hz hT hTI h1 h2 h3 hl1 hl2 hl3 hx hy hv fun h' a1 a3 a4 a5 a6 a7 a8=>wpAny_pure (hQ h' a1 a3 a4 a5 a6 a7 a8)) (F.args_zip_next_1 _))))
theorem next_end {z TI TO T i1 i2 i3 l1 l2 l3:Addr} {k:Nat} {bo:Bool} {oT:Obj} {xs:Array Value} {Q:Option Value→Shared→Prop} (hh:A.handled=none) (D:YW z TI TO i1 i2 i3 l1 l2 l3)
    (hz:yC s.heap z TI TO (rawInt T) bo) (hT:s.heap.get? T=some oT) (hTI:bW s.heap TI (.ref i1) (.ref i2) (.ref i3))
    (h1:s.heap.IsListIter i1 l1 k) (hl1:s.heap.IsList l1 xs) (hx:xs[k]? = none)
    (hQ:∀h',(∀d o,d≠z→d≠i1→s.heap.get? d=some o→h'.get? d=some o)→Q none {s with heap:=h'}):wpAny (model prog w) A (pyNext (.ref z)) Q E s:=by
  have hTy:s.TypeIs (.ref z) "zip" :=⟨_,hz,rfl⟩;unfold pyNext;refine wpAny_bind (wpAny_attempt (wpAny_callSpecial?_slot (name:=Str.ofString "__next__") hTy F.slot_zip_next
    (wpAny_call_entry F.slot_zip_next hTy F.entry_zip_next (qcb hh D hz hT hTI h1 hl1 hx fun h' e hk he=>?_) (F.args_zip_next_1 _))))
  obtain⟨o,ho,hc⟩:=he;refine wpAny_bind (wpAny_isInstance (T:= "StopIteration") (b:=true) ⟨o,ho,hc⟩ isSubtype_stop ?_);exact wpAny_pure (hQ _ hk)
theorem Cy {z TI TO:Addr} {f0:Value} {bo:Bool} {Q:Value→Shared→Prop} (hz:yC s.heap z TI TO f0 bo)
    (h:∀h₂ c,(∀b o,s.heap.get? b=some o→h₂.get? b=some o)→h₂.objs.size=s.heap.objs.size+1→h₂.get? s.heap.objs.size=some {cls:=.type "list",data:=.seq #[] c}→
      codeAny (model prog w) A.in1 (.builtin "list.extend.loop" ⟨[.ref s.heap.objs.size,.ref z,.none],[]⟩) (wants (fun r s₂=>r = .none∧Q (.ref s.heap.objs.size) s₂) E) {s with heap:=h₂}) :
    wpAny (model prog w) A (call (.type "list") [.ref z]) Q E s:=by
  refine callType_codes (Q₁:=fun obj s₁=>obj = .ref s.heap.objs.size∧s₁={s with heap:=s.heap.push {cls:=.type "list",data:=.seq #[]}}) F.called_list (F.typeCall_list_1 _) F.entry_list_init
    (code_list_new _ ⟨rfl,rfl⟩) fun obj s₁ h₁=>?_
  obtain⟨rfl,rfl⟩:=h₁;have hS:(s.heap.push {cls:=.type "list",data:=.seq #[]}).get? s.heap.objs.size=some {cls:=.type "list",data:=.seq #[]}:=Heap.get?_push_size _ rfl;refine⟨⟨_,hS,rfl⟩,F.args_list_init_2 _ _,?_⟩;have hz1:yC (s.heap.push {cls:=.type "list",data:=.seq #[]}) z TI TO f0 bo:=Heap.get?_push_of_some _ hz;have Xm:s.heap.objs.size≠z:=Nat.ne_of_gt (Heap.lt_size hz);have hn:(s.heap.push {cls:=.type "list",data:=.seq #[]}).objs.size=s.heap.objs.size+1:=Heap.size_push ..;have kk:∀b o,s.heap.get? b=some o→b≠s.heap.objs.size∧(s.heap.push {cls:=.type "list",data:=.seq #[]}).get? b=some o:=fun b o e=>⟨Nat.ne_of_lt (Heap.lt_size e),Heap.get?_push_of_some _ e⟩;generalize hg:s.heap.push {cls:=.type "list",data:=.seq #[]}=g at hS hz1 hn kk ⊢;clear hg;show wpAny _ _ (do let old ← Builtin.List.listItems (.ref s.heap.objs.size);Builtin.List.listUpdate (.ref s.heap.objs.size) (fun _=>#[]);letGo old.toList.reverse;Builtin.List.listExtendWith (.ref s.heap.objs.size) (.ref z) .none) _ _ _
  refine wpAny_bind ?_;unfold Builtin.List.listItems;refine wpAny_bind (wpAny_seqItems hS rfl (wpAny_pure ?_));show wpAny _ _ (updateSeq s.heap.objs.size (fun _=>#[]) >>= fun _=>letGo (#[]:Array Value).toList.reverse >>= fun _=>Builtin.List.listExtendWith (.ref s.heap.objs.size) (.ref z) .none) _ _ _;refine wpAny_bind (wpAny_updateSeq hS rfl ?_);have hS₂:=Heap.get?_update_self (Obj.mapSeq (fun _=>(#[]:Array Value))) hS rfl;have b2:=Heap.SameBut.update g s.heap.objs.size (Obj.mapSeq (fun _=>(#[]:Array Value)));refine wpAny_bind (wpAny_letGo ?_);have hz2:yC (g.update s.heap.objs.size (Obj.mapSeq (fun _=>(#[]:Array Value)))) z TI TO f0 bo:=b2.extBut _ _ Xm.symm hz1;have hT2:Shared.TypeIs {s with heap:=g.update s.heap.objs.size (Obj.mapSeq (fun _=>(#[]:Array Value)))} (.ref z) "zip" :=⟨_,hz2,rfl⟩;unfold Builtin.List.listExtendWith;refine wpAny_bind (wpAny_typeOf hT2 ?_);have e1:Builtin.List.listSameRef (.ref s.heap.objs.size) (.ref z)=false:=by simp[Builtin.List.listSameRef,Xm]
  have e2:(Value.type "zip" == Value.type "list")=false:=by decide
  have e3:(Value.type "zip" == Value.type "tuple")=false:=by decide
  simp only[e1,e2,e3,Bool.or_false,Bool.false_eq_true,if_false];refine wpAny_bind ?_;refine wpAny_pyIter_slot hT2 F.slot_zip_iter (wpAny_call_entry F.slot_zip_iter hT2 F.entry_zip_iter ?_ (F.args_zip_iter_1 _));show wpAny _ _ (ret (.ref z)) _ _ _;refine wpAny_pure ⟨_,rfl, "zip",_,hT2,F.slot_zip_next.lookup,?_⟩;refine wpAny_bind (wpAny_holding ?_);unfold Builtin.List.listLengthHint;refine wpAny_bind (wpAny_specialOf hT2 Lr ?_);show wpAny _ _ (specialOf (Value.ref z) (Str.ofString "__length_hint__") >>= _) _ _ _;refine wpAny_bind (wpAny_specialOf hT2 Jb ?_);refine wpAny_pure ?_;show wpAny _ _ (rule "list.extend.makes-room" >>= fun _=>Builtin.List.listTouch (.ref s.heap.objs.size) >>= fun _=>
    again (.builtin "list.extend.loop" ⟨[.ref s.heap.objs.size,.ref z,.none],[]⟩)) _ _ _
  refine wpAny_bind (wpAny_rule ?_);refine wpAny_bind ?_;show wpAny _ _ (updateSeq s.heap.objs.size (·.push .none) >>= fun _=>updateSeq s.heap.objs.size (·.pop)) _ _ _;refine wpAny_bind (wpAny_updateSeq hS₂ rfl ?_);have hS₃:=Heap.get?_update_self (Obj.mapSeq (·.push Value.none)) hS₂ rfl;refine wpAny_updateSeq (hz:=by seq_fits) hS₃ rfl ?_;have hS₄:=Heap.get?_update_self (Obj.mapSeq (·.pop)) hS₃ rfl;have b3:=Heap.SameBut.update (g.update s.heap.objs.size (Obj.mapSeq (fun _=>(#[]:Array Value)))) s.heap.objs.size (Obj.mapSeq (·.push Value.none));have b4:=Heap.SameBut.update ((g.update s.heap.objs.size (Obj.mapSeq (fun _=>(#[]:Array Value)))).update s.heap.objs.size (Obj.mapSeq (·.push Value.none))) s.heap.objs.size (Obj.mapSeq (·.pop));refine wpAny_pure ⟨plainId_quiet F.plain_extend_loop _,h _ _ (fun b o e=>?_) ?_ hS₄⟩
  ·obtain⟨n1,e'⟩:=kk b o e;exact b4.extBut _ _ n1 (b3.extBut _ _ n1 (b2.extBut _ _ n1 e'))
  ·rw[b4.1,b3.1,b2.1];exact hn
end
abbrev Y4 (h:Heap) (l1:Addr):Heap:=h.push {cls:=.type "list_iterator",data:=.fields #[.ref l1,.int 0 0]}
abbrev Y5 (h:Heap) (l1 l2:Addr):Heap:=(Y4 h l1).push {cls:=.type "list_iterator",data:=.fields #[.ref l2,.int 0 0]}
abbrev Y6 (b:Bool) (h:Heap) (l1 l2 l3:Addr):Heap:=(Y5 h l1 l2).push {cls:=.type (if b then "list_iterator" else "tuple_iterator"),data:=.fields #[.ref l3,.int 0 0]}
abbrev Y7 (b:Bool) (h:Heap) (l1 l2 l3:Addr):Heap:=(Y6 b h l1 l2 l3).push {cls:=.type "tuple",data:=.seq #[.ref h.objs.size,.ref (Y4 h l1).objs.size,.ref (Y5 h l1 l2).objs.size]}
abbrev Y8 (b:Bool) (h:Heap) (l1 l2 l3:Addr):Heap:=(Y7 b h l1 l2 l3).push {cls:=.type "tuple",data:=.seq #[.none,.none,.none]}
abbrev Je (b:Bool) (h:Heap) (l1 l2 l3:Addr):Heap:=(Y8 b h l1 l2 l3).push {cls:=.type "zip",data:=.fields #[.none,.bool false,.bool false,.ref (Y6 b h l1 l2 l3).objs.size,.ref (Y7 b h l1 l2 l3).objs.size]}
theorem Vd (b3:Bool) (l1 l2 l3:Addr) (xs ys zs:Array Value) :
    Meets (Builtin.«zip.__new__» ⟨[.type "zip",.ref l1,.ref l2,.ref l3],[]⟩) (fun _ R s=>s.heap.IsList l1 xs∧s.heap.IsList l2 ys∧Eb b3 s.heap l3 zs∧
      R (.ok (.ret (.ref (Y8 b3 s.heap l1 l2 l3).objs.size))) {s with heap:=Je b3 s.heap l1 l2 l3}):=
  .of_wp fun prog w A R s h=>by
    obtain⟨hp,g,d,tk,os⟩:=s;obtain⟨hl1,hl2,hl3,h⟩:=h;have hsub:=sub_zip;have hL1:Heap.IsList (Shared.heap ⟨hp,g,d,tk,os⟩) l1 xs:=hl1;have hL2:Heap.IsList (Shared.heap ⟨hp.push {cls:=.type "list_iterator",data:=.fields #[.ref l1,.int 0 0]},g,d,tk,os⟩) l2 ys:=Heap.IsList.push hl2 _;cases b3 with
    | true=>
      have Ve:Heap.IsList (Shared.heap ⟨(hp.push {cls:=.type "list_iterator",data:=.fields #[.ref l1,.int 0 0]}).push {cls:=.type "list_iterator",data:=.fields #[.ref l2,.int 0 0]},g,d,tk,os⟩) l3 zs:=Heap.IsList.push (Heap.IsList.push hl3 _) _
      wp_walk using wpAny_pyIter_list hL1,wpAny_pyIter_list hL2,wpAny_pyIter_list Ve
      exact⟨_,rfl,h⟩
    | false=>
      have Ve:Heap.IsTuple (Shared.heap ⟨(hp.push {cls:=.type "list_iterator",data:=.fields #[.ref l1,.int 0 0]}).push {cls:=.type "list_iterator",data:=.fields #[.ref l2,.int 0 0]},g,d,tk,os⟩) l3 zs:=Eb.at (b:=false) hl3 fun o e=>Heap.get?_push_of_some _ (Heap.get?_push_of_some _ e)
      wp_walk using wpAny_pyIter_list hL1,wpAny_pyIter_list hL2,wpAny_pyIter_tuple Ve
      exact⟨_,rfl,h⟩
section
variable {prog:Program} {w:World} {A:Around} {E:Value→Shared→Prop} {s:Shared}
theorem Lw {b3:Bool} {l1 l2 l3:Addr} {xs ys zs:Array Value} {Q:Value→Shared→Prop} (hl1:s.heap.IsList l1 xs) (hl2:s.heap.IsList l2 ys) (hl3:Eb b3 s.heap l3 zs)
    (h:∀h',yC h' (s.heap.objs.size+5) (s.heap.objs.size+3) (s.heap.objs.size+4) .none false→bW h' (s.heap.objs.size+3) (.ref s.heap.objs.size) (.ref (s.heap.objs.size+1)) (.ref (s.heap.objs.size+2))→
      bW h' (s.heap.objs.size+4) .none .none .none→h'.IsListIter s.heap.objs.size l1 0→h'.IsListIter (s.heap.objs.size+1) l2 0→xW b3 h' (s.heap.objs.size+2) l3 0→h'.objs.size=s.heap.objs.size+6→
      (∀c o,s.heap.get? c=some o→h'.get? c=some o)→Q (.ref (s.heap.objs.size+5)) {s with heap:=h'}) :
    wpAny (model prog w) A (call (.type "zip") [.ref l1,.ref l2,.ref l3]) Q E s:=by
  refine callType_new F.called_zip (by decide) (zP _ _ _) (Cw _ _ _) (fun obj=>uD obj _ _ _) F.entry_zip_new
    (Vd b3 l1 l2 l3 xs ys zs) ⟨hl1,hl2,hl3,?_⟩
  have z1:(Y4 s.heap l1).objs.size=s.heap.objs.size+1:=Heap.size_push ..;have z2:(Y5 s.heap l1 l2).objs.size=s.heap.objs.size+2:=by rw[Heap.size_push,z1]
  have z3:(Y6 b3 s.heap l1 l2 l3).objs.size=s.heap.objs.size+3:=by rw[Heap.size_push,z2]
  have z4:(Y7 b3 s.heap l1 l2 l3).objs.size=s.heap.objs.size+4:=by rw[Heap.size_push,z3]
  have z5:(Y8 b3 s.heap l1 l2 l3).objs.size=s.heap.objs.size+5:=by rw[Heap.size_push,z4]
  have z6:(Je b3 s.heap l1 l2 l3).objs.size=s.heap.objs.size+6:=by rw[Heap.size_push,z5]
  have up:∀{g:Heap} {o:Obj} {c:Addr} {u:Obj},g.get? c=some u→(g.push o).get? c=some u:=fun e=>Heap.get?_push_of_some _ e;have g6:(Je b3 s.heap l1 l2 l3).get? (Y8 b3 s.heap l1 l2 l3).objs.size=some _:=Heap.get?_push_size _ rfl;have g5:(Je b3 s.heap l1 l2 l3).get? (Y7 b3 s.heap l1 l2 l3).objs.size=some _:=up (Heap.get?_push_size _ rfl);have g4:(Je b3 s.heap l1 l2 l3).get? (Y6 b3 s.heap l1 l2 l3).objs.size=some _:=up (up (Heap.get?_push_size _ rfl));have g3:(Je b3 s.heap l1 l2 l3).get? (Y5 s.heap l1 l2).objs.size=some _:=up (up (up (Heap.get?_push_size _ rfl)));have g2:(Je b3 s.heap l1 l2 l3).get? (Y4 s.heap l1).objs.size=some _:=up (up (up (up (Heap.get?_push_size _ rfl))));have g1:(Je b3 s.heap l1 l2 l3).get? s.heap.objs.size=some _:=up (up (up (up (up (Heap.get?_push_size _ rfl)))));show _∧_;rw[z3,z4,z5] at g6;rw[z4] at g5;rw[z1,z2,z3] at g4;rw[z2] at g3;rw[z1] at g2;rw[z5];exact⟨⟨_,g6,rfl⟩,h _ g6 g4 g5 ⟨_,g1,rfl,rfl⟩ ⟨_,g2,rfl,rfl⟩ (by cases b3 <;> exact⟨_,g3,rfl,rfl⟩) z6 fun c o x=>up (up (up (up (up (up x)))))⟩
end
theorem Inv.qcc {X:Cx} {p_:List (Addr×Obj)} {σ:St} {H:Hp} {s:Shared} {h2:Heap} {t':Nat} {xs:List V} {us:List Value} (I:Inv X p_ σ H s) (I1:Inv X p_ σ H {s with heap:=h2,toks:=t'}) (ru:Vals xs us) (hl:xs.length≤sizeLine)
    (q_:h2.get? s.heap.objs.size=some {cls:=.type "tuple",data:=.seq us.toArray}):Inv X p_ σ (upd H s.heap.objs.size (.tup xs)) {s with heap:=h2,toks:=t'}:=by
  have hfr:H s.heap.objs.size=none:=I.hok.fresh (Nat.le_refl _);refine⟨I1.ok,I1.os,I1.bare,⟨I1.base.keep,I1.base.slot,fun c o e n hx=>?_,I1.base.there,fun c zs e=>?_,fun c o v e=>?_,fun c qs e=>?_⟩,I1.loc,I1.cell,?_,fun v c e=>?_,fun v hv=>?_,?_,I1.len⟩
  · rw[aB (fun e'=>?_)]
    ·exact I1.base.free c o e n hx
    ·exact absurd (Nat.lt_of_lt_of_le (Heap.lt_size e) I.sz) (by rw[e'];exact Nat.lt_irrefl _)
  ·have e':=I1.base.tups c zs e;rw[aB (aH e' hfr)];exact e'
  ·have e':=I1.base.oU c o v e;rw[aB (aH e' hfr)];exact e'
  ·obtain⟨m,e'⟩:=I1.base.pF c qs e;exact⟨m,by rw[aB (aH e' hfr)];exact e'⟩
  ·rw[aB (Nat.ne_of_lt I.lt)];exact I1.free
  ·obtain⟨w',qc⟩:=I.cell v c e;rw[aB (Nat.ne_of_lt qc.lt)];exact I1.gq v c e
  ·obtain⟨f1,f2,f3⟩:=I1.pin v hv;refine⟨f1,?_,f3⟩;rw[aB (Nat.ne_of_lt (Heap.lt_size (I.pin v hv).1))];exact f2
  · intro c v e
    by_cases hcs:c=s.heap.objs.size
    ·subst hcs;rw[ao] at e;cases e;exact⟨hl,us,ru,⟨_,q_,rfl,0,rfl⟩⟩
    · rw[aB hcs] at e;refine(I1.hok c v e).stay (fun _ _ _ qq=>qq) (fun d qd=>?_) fun d zs qd=>?_
      ·rw[aB (aH qd hfr)];exact qd
      ·rw[aB (aH qd hfr)];exact qd
def Y9 (b:Bool) (K:W.Frag) (H:Hp) (l:Addr) (xs:List V):Prop:=match b with
  | true=>aX K H l xs
  | false=>d9 K H l xs
theorem Inv.Y_ {X:Cx} {p_:List (Addr×Obj)} {σ:St} {H:Hp} {s:Shared} {b:Bool} {l:Addr} {xs:List V} (I:Inv X p_ σ H s) (h:Y9 b X.K H l xs):∃its:List Value,Vals xs its∧Eb b s.heap l its.toArray∧xs.length≤sizeLine:=by
  cases b with
  | true=>obtain⟨its,r,p,z⟩:=I.list h;exact⟨its,r,p.isList,z⟩
  | false=>obtain⟨its,r,p,z⟩:=I.tuple h;exact⟨its,r,p,z⟩
def jM (H:Hp) (tv xs ys zs:List V) (k:Nat):Prop:=tv.length=k∧∀(i:Nat) (v:V),tv[i]? = some v→∃t x y z,v = .ref t∧xs[i]? = some x∧ys[i]? = some y∧zs[i]? = some z∧H t=some (.tup [x,y,z])
theorem Y9.same {b:Bool} {K:W.Frag} {H H':Hp} {l:Addr} {xs:List V} (h:Y9 b K H l xs) (e:Same H H'):Y9 b K H' l xs:=by
  cases b with
  | true=>exact e.seq h
  | false=>
    rcases h with(h | ⟨o,h⟩) | h
    ·exact .inl (.inl (e _ _ h))
    ·exact .inl (.inr ⟨o,e _ _ h⟩)
    ·exact .inr h
theorem jM.same {H H':Hp} {tv xs ys zs:List V} {k:Nat} (h:jM H tv xs ys zs k) (s:Same H H'):jM H' tv xs ys zs k:=⟨h.1,fun i v e=>by
  obtain⟨t,x,y,z,a,b,c,d,f⟩:=h.2 i v e;exact⟨t,x,y,z,a,b,c,d,s _ _ f⟩⟩
theorem jM.snoc {H:Hp} {tv xs ys zs:List V} {k:Nat} {t:Addr} {x y z:V} (h:jM H tv xs ys zs k) (hx:xs[k]? = some x) (hy:ys[k]? = some y) (hz:zs[k]? = some z) (ht:H t=some (.tup [x,y,z])):jM H (tv++[.ref t]) xs ys zs (k+1):=by
  refine⟨by simp[h.1],fun i v e=>?_⟩
  by_cases hi:i<tv.length
  ·rw[List.getElem?_append_left hi] at e;exact h.2 i v e
  · rw[List.getElem?_append_right (by omega)] at e;have h0:i - tv.length=0:=by
      have:=(List.getElem?_eq_some_iff.mp e).1;simp at this;omega
    rw[h0] at e;simp at e;subst e;have:i=k:=by have:=h.1;omega
    subst this;exact⟨t,x,y,z,rfl,hx,hy,hz,ht⟩
section
variable {X:Cx} {p_:List (Addr×Obj)} {σ:St} {b3:Bool} {z TI TO i1 i2 i3 l1 l2 l3 S:Addr} {xs ys zs:List V} {R:Result→Shared→Prop}
theorem Vf {X:Cx} {p_:List (Addr×Obj)} {H H':Hp} {b:Addr} (h:iu X p_ H b) (n:H' b=none):iu X p_ H' b:=⟨n,h.2⟩
theorem Oo {H:Hp} {s:Shared} {h':Heap} {t':Nat} {x y v:V} {a b c:Value} (I:Inv X p_ σ H s) (hf:∀d∈[z,TI,TO,i1,i2,i3,S],iu X p_ H d) (hlt:∀d∈[z,TI,TO,i1,i2,i3,S],d<s.heap.objs.size)
    (kk:∀d o,d∉[z,TI,TO,i1,i2,i3,S]→s.heap.get? d=some o→h'.get? d=some o) (rx:RelV x a) (ry:RelV y b) (rv:RelV v c) (ht:bW h' s.heap.objs.size a b c) :
    Inv X p_ σ (upd H s.heap.objs.size (.tup [x,y,v])) {s with heap:=h',toks:=t'}∧(∀d∈[z,TI,TO,i1,i2,i3,S],iu X p_ (upd H s.heap.objs.size (.tup [x,y,v])) d)∧Same H (upd H s.heap.objs.size (.tup [x,y,v]))∧H s.heap.objs.size=none:=by
  have hn:H s.heap.objs.size=none:=I.hok.fresh (Nat.le_refl _);have I1:Inv X p_ σ H {s with heap:=h',toks:=t'}:=I.jT kk hf;refine⟨I.qcc I1 (.cons rx (.cons ry (.cons rv .nil))) (by show 3≤sizeLine;decide) ht,fun d hd=>Vf (hf d hd) ?_,au hn,hn⟩;rw[aB (Nat.ne_of_lt (hlt d hd))];exact(hf d hd).1
theorem Za (hc:X.calm=true) {A:Around} (hh:A.handled=none) (n12:i1≠i2) (n13:i1≠i3) (n23:i2≠i3) (nT:TI≠TO) (n3:l3≠TO) (he:ys.length=xs.length) (he2:zs.length=xs.length) (hL:xs.length≤sizeLine) :
    ∀(r k:Nat) (H:Hp) (s:Shared) (tv:List V) (acc:Array Value) (cn:Nat) (T:Addr) (bo:Bool),xs.length - k=r→1≤k→k≤xs.length→Inv X p_ σ H s→(∀d∈[z,TI,TO,i1,i2,i3,S],iu X p_ H d)→aX X.K H l1 xs→aX X.K H l2 ys→Y9 b3 X.K H l3 zs→
      yC s.heap z TI TO (rawInt T) bo→(∃o,s.heap.get? T=some o)→T∉[z,TI,TO,i1,i2,i3,S]→bW s.heap TI (.ref i1) (.ref i2) (.ref i3)→(∃a b c,bW s.heap TO a b c)→s.heap.IsListIter i1 l1 k→s.heap.IsListIter i2 l2 k→xW b3 s.heap i3 l3 k→
      s.heap.get? S=some {cls:=.type "list",data:=.seq acc cn}→Vals tv acc.toList→jM H tv xs ys zs k→
      (∀H' s' RN acc' cn',Inv X p_ σ H' s'→iu X p_ H' S→s'.heap.get? S=some {cls:=.type "list",data:=.seq acc' cn'}→Vals RN acc'.toList→jM H' RN xs ys zs xs.length→Same H H'→R (.ok (.ret .none)) s')→
      codeAny (model X.prog X.w) A (.builtin "list.extend.loop" ⟨[.ref S,.ref z,.none],[]⟩) R s:=by
  intro r
  induction r with
  | zero=>
    intro k H s tv acc cn T bo hr h1k hk I hf q1 q2 q3 hz hT hTn hTI hTO w1 w2 w3 hS rv htr hR;obtain⟨oT,hT⟩:=hT;obtain⟨a,b,c,hTO⟩:=hTO;obtain⟨its,rv1,Xn,_⟩:=I.list q1;obtain⟨its2,rv2,Zb,_⟩:=I.list q2;obtain⟨qcd,rv3,Gs,_⟩:=I.Y_ q3;obtain⟨oa,ea,ca,_⟩:=id Xn.isList;obtain⟨ob,eb,cb,_⟩:=id Zb.isList;obtain⟨o1,e1,c1,_⟩:=id w1;obtain⟨o2,e2,c2,_⟩:=id w2;obtain⟨o3,e3⟩:=w3.ob;have D:YW z TI TO i1 i2 i3 l1 l2 l3:=
      ⟨aL hTI hz rfl rfl (by decide),aL hTO hz rfl rfl (by decide),aL e1 hz c1 rfl (by decide),aL e2 hz c2 rfl (by decide),(w3.ne hz rfl (by decide)).symm,nT,aL hTI e1 rfl c1 (by decide),aL hTI e2 rfl c2 (by decide),w3.ne hTI rfl (by decide),
        aL hTO e1 rfl c1 (by decide),aL hTO e2 rfl c2 (by decide),w3.ne hTO rfl (by decide),n12,n13,n23,
        ⟨aL ea hz ca rfl (by decide),aL ea hTO ca rfl (by decide),aL ea e1 ca c1 (by decide),aL ea e2 ca c2 (by decide),w3.ne ea ca (by decide)⟩,
        ⟨aL eb hz cb rfl (by decide),aL eb hTO cb rfl (by decide),aL eb e1 cb c1 (by decide),aL eb e2 cb c2 (by decide),w3.ne eb cb (by decide)⟩,
        ⟨Gs.ne hz rfl (by decide),n3,Gs.ne e1 c1 (by decide),Gs.ne e2 c2 (by decide),w3.nel Gs⟩⟩
    have hin:k=xs.length:=by omega
    subst hin;have Xm:S≠z:=aL hS hz rfl rfl (by decide);have hSi:S≠i1:=aL hS e1 rfl c1 (by decide);have l1':=rv1.length;refine codeAny_builtin F.entry_extend_loop ?_;rw[Around.under_plainId F.plain_extend_loop _];show wpAny _ _ (pyNext (.ref z) >>= _) _ _ s;refine wpAny_bind (next_end (A:=A.in1) hh D hz hT hTI w1 Xn.isList (by simp;omega) fun h' kk=>?_);have I1:Inv X p_ σ H {s with heap:=h',toks:=s.toks}:=I.jT (ch:=[z,TI,TO,i1,i2,i3,S]) (fun d o hd e=>kk d o (fun x=>hd (by simp[x])) (fun x=>hd (by simp[x])) e) hf;exact wpAny_pure (hR H _ tv acc cn I1 (hf S (by simp)) (kk _ _ Xm hSi hS) rv htr (Same.refl _))
  | succ r ih=>
    intro k H s tv acc cn T bo hr h1k hk I hf q1 q2 q3 hz hT hTn hTI hTO w1 w2 w3 hS rv htr hR;obtain⟨oT,hT⟩:=hT;obtain⟨a,b,c,hTO⟩:=hTO;obtain⟨its,rv1,Xn,_⟩:=I.list q1;obtain⟨its2,rv2,Zb,_⟩:=I.list q2;obtain⟨qcd,rv3,Gs,_⟩:=I.Y_ q3;obtain⟨oa,ea,ca,_⟩:=id Xn.isList;obtain⟨ob,eb,cb,_⟩:=id Zb.isList;obtain⟨o1,e1,c1,_⟩:=id w1;obtain⟨o2,e2,c2,_⟩:=id w2;obtain⟨o3,e3⟩:=w3.ob;have D:YW z TI TO i1 i2 i3 l1 l2 l3:=
      ⟨aL hTI hz rfl rfl (by decide),aL hTO hz rfl rfl (by decide),aL e1 hz c1 rfl (by decide),aL e2 hz c2 rfl (by decide),(w3.ne hz rfl (by decide)).symm,nT,aL hTI e1 rfl c1 (by decide),aL hTI e2 rfl c2 (by decide),w3.ne hTI rfl (by decide),
        aL hTO e1 rfl c1 (by decide),aL hTO e2 rfl c2 (by decide),w3.ne hTO rfl (by decide),n12,n13,n23,
        ⟨aL ea hz ca rfl (by decide),aL ea hTO ca rfl (by decide),aL ea e1 ca c1 (by decide),aL ea e2 ca c2 (by decide),w3.ne ea ca (by decide)⟩,
        ⟨aL eb hz cb rfl (by decide),aL eb hTO cb rfl (by decide),aL eb e1 cb c1 (by decide),aL eb e2 cb c2 (by decide),w3.ne eb cb (by decide)⟩,
        ⟨Gs.ne hz rfl (by decide),n3,Gs.ne e1 c1 (by decide),Gs.ne e2 c2 (by decide),w3.nel Gs⟩⟩
    have hlt:k<xs.length:=by omega
    have Xm:S≠z:=aL hS hz rfl rfl (by decide);have hS1:S≠i1:=aL hS e1 rfl c1 (by decide);have hS2:S≠i2:=aL hS e2 rfl c2 (by decide);have hS3:S≠i3:=w3.ne hS rfl (by decide);have hSI:TI≠S:=aL hTI hS rfl rfl (by decide);have hSO:TO≠S:=aL hTO hS rfl rfl (by decide);have hx:xs[k]? = some (xs[k]'hlt):=List.getElem?_eq_getElem hlt;have hy:ys[k]? = some (ys[k]'(by omega)):=List.getElem?_eq_getElem (by omega);have hv:zs[k]? = some (zs[k]'(by omega)):=List.getElem?_eq_getElem (by omega);obtain⟨u1,hu1,ru1⟩:=rv1.get hx;obtain⟨u2,hu2,ru2⟩:=rv2.get hy;obtain⟨u3,hu3,ru3⟩:=rv3.get hv;generalize xs[k]'hlt=x at hx ru1;generalize ys[k]'(by omega)=y at hy ru2;generalize zs[k]'(by omega)=v at hv ru3;have hsz:=rv.length;have htl:=htr.1;refine codeAny_builtin F.entry_extend_loop ?_;rw[Around.under_plainId F.plain_extend_loop _];show wpAny _ _ (pyNext (.ref z) >>= _) _ _ s;refine wpAny_bind (QV (A:=A.in1) D hz hT hTI w1 w2 w3 Xn.isList Zb.isList Gs (by simpa using hu1) (by simpa using hu2) (by simpa using hu3) fun h' a1 a3 a4 a5 a6 a7 kk=>?_);have hS':=kk _ _ Xm hS1 hS2 hS3 hS;show wpAny _ _ (updateSeq S (·.push (.ref s.heap.objs.size)) >>= _) _ _ _;refine wpAny_bind ?_;have hnew:S≠s.heap.objs.size:=Nat.ne_of_lt (Heap.lt_size hS);have sb:=Heap.SameBut.update h' S (Obj.mapSeq (·.push (Value.ref s.heap.objs.size)));have hacc:acc.size=k:=by rw[← Array.length_toList];omega
    refine wpAny_updateSeq hS' rfl (wpAny_pure ⟨plainId_quiet F.plain_extend_loop _,?_⟩) (by rw[hacc];omega) (by show(acc.push _).size≤sizeLine+1;rw[Array.size_push,hacc];omega);have qce:bW h' TI (.ref i1) (.ref i2) (.ref i3):=kk _ _ D.TIz D.TIi1 D.TIi2 D.qeJ hTI;have qcf:bW h' TO a b c:=kk _ _ D.TOz D.TOi1 D.TOi2 D.Vb hTO;simp only[List.mem_cons,List.not_mem_nil,or_false,not_or] at hTn;obtain⟨J1,J2,J3,J4⟩:=Oo (t':=s.toks) (h':=h'.update S (Obj.mapSeq (·.push (Value.ref s.heap.objs.size)))) I hf (fun d hd=>by
      simp only[List.mem_cons,List.not_mem_nil,or_false] at hd
      rcases hd with rfl | rfl | rfl | rfl | rfl | rfl | rfl
      ·exact Heap.lt_size hz
      ·exact Heap.lt_size hTI
      ·exact Heap.lt_size hTO
      ·exact Heap.lt_size e1
      ·exact Heap.lt_size e2
      ·exact Heap.lt_size e3
      · exact Heap.lt_size hS) (fun d o hd e=>by
        simp only[List.mem_cons,List.not_mem_nil,or_false,not_or] at hd;exact sb.extBut _ _ hd.2.2.2.2.2.2 (kk d o hd.1 hd.2.2.2.1 hd.2.2.2.2.1 hd.2.2.2.2.2.1 e)) ru1 ru2 ru3 (sb.extBut _ _ hnew.symm a6)
    refine ih (k+1) _ _ (tv++[.ref s.heap.objs.size]) (acc.push (.ref s.heap.objs.size)) _ T true (by omega) (by omega) (by omega) J1 J2 (J3.seq q1) (J3.seq q2) (q3.same J3) (sb.extBut _ _ Xm.symm a1) ⟨oT,sb.extBut _ _ hTn.2.2.2.2.2.2 (kk _ _ hTn.1 hTn.2.2.2.1 hTn.2.2.2.2.1 hTn.2.2.2.2.2.1 hT)⟩
      (by simp only[List.mem_cons,List.not_mem_nil,or_false,not_or];exact hTn) (sb.extBut _ _ hSI qce) ⟨a,b,c,sb.extBut _ _ hSO qcf⟩ (a3.extBut sb.extBut hS1.symm) (a4.extBut sb.extBut hS2.symm) (a5.extBut sb.extBut hS3.symm) (Heap.get?_update_self _ hS' rfl) (by rw[Array.toList_push];exact rv.append (.cons rfl .nil)) ((htr.same J3).snoc hx hy hv ao) ?_
    intro H' s' RN acc' cn' b1 b2 b3 b4 b5 b6;exact hR H' s' RN acc' cn' b1 b2 b3 b4 b5 (J3.trans b6)
end
section
variable {X:Cx} {p_:List (Addr×Obj)} {σ:St} {b3:Bool} {z TI TO i1 i2 i3 l1 l2 l3 S:Addr} {xs ys zs:List V} {R:Result→Shared→Prop}
theorem Vg (hc:X.calm=true) {A:Around} (hh:A.handled=none) (n12:i1≠i2) (n13:i1≠i3) (n23:i2≠i3) (nT:TI≠TO) (n3:l3≠TO) (he:ys.length=xs.length) (he2:zs.length=xs.length) (hL:xs.length≤sizeLine) (h0:0<xs.length)
    {H:Hp} {s:Shared} {cn:Nat} (I:Inv X p_ σ H s) (hf:∀d∈[z,TI,TO,i1,i2,i3,S],iu X p_ H d) (q1:aX X.K H l1 xs) (q2:aX X.K H l2 ys) (q3:Y9 b3 X.K H l3 zs)
      (hz:yC s.heap z TI TO .none false) (hTI:bW s.heap TI (.ref i1) (.ref i2) (.ref i3)) (hTO:bW s.heap TO .none .none .none) (w1:s.heap.IsListIter i1 l1 0) (w2:s.heap.IsListIter i2 l2 0) (w3:xW b3 s.heap i3 l3 0)
      (hS:s.heap.get? S=some {cls:=.type "list",data:=.seq #[] cn})
      (hR:∀H' s' RN acc' cn',Inv X p_ σ H' s'→iu X p_ H' S→s'.heap.get? S=some {cls:=.type "list",data:=.seq acc' cn'}→Vals RN acc'.toList→jM H' RN xs ys zs xs.length→Same H H'→R (.ok (.ret .none)) s') :
      codeAny (model X.prog X.w) A (.builtin "list.extend.loop" ⟨[.ref S,.ref z,.none],[]⟩) R s:=by
  obtain⟨its,rv1,Xn,_⟩:=I.list q1;obtain⟨its2,rv2,Zb,_⟩:=I.list q2;obtain⟨qcd,rv3,Gs,_⟩:=I.Y_ q3;obtain⟨oa,ea,ca,_⟩:=id Xn.isList;obtain⟨ob,eb,cb,_⟩:=id Zb.isList;obtain⟨o1,e1,c1,_⟩:=id w1;obtain⟨o2,e2,c2,_⟩:=id w2;obtain⟨o3,e3⟩:=w3.ob;have D:YW z TI TO i1 i2 i3 l1 l2 l3:=
    ⟨aL hTI hz rfl rfl (by decide),aL hTO hz rfl rfl (by decide),aL e1 hz c1 rfl (by decide),aL e2 hz c2 rfl (by decide),(w3.ne hz rfl (by decide)).symm,nT,aL hTI e1 rfl c1 (by decide),aL hTI e2 rfl c2 (by decide),w3.ne hTI rfl (by decide),
      aL hTO e1 rfl c1 (by decide),aL hTO e2 rfl c2 (by decide),w3.ne hTO rfl (by decide),n12,n13,n23,
      ⟨aL ea hz ca rfl (by decide),aL ea hTO ca rfl (by decide),aL ea e1 ca c1 (by decide),aL ea e2 ca c2 (by decide),w3.ne ea ca (by decide)⟩,
      ⟨aL eb hz cb rfl (by decide),aL eb hTO cb rfl (by decide),aL eb e1 cb c1 (by decide),aL eb e2 cb c2 (by decide),w3.ne eb cb (by decide)⟩,
      ⟨Gs.ne hz rfl (by decide),n3,Gs.ne e1 c1 (by decide),Gs.ne e2 c2 (by decide),w3.nel Gs⟩⟩
  have Xm:S≠z:=aL hS hz rfl rfl (by decide);have hS1:S≠i1:=aL hS e1 rfl c1 (by decide);have hS2:S≠i2:=aL hS e2 rfl c2 (by decide);have hS3:S≠i3:=w3.ne hS rfl (by decide);have hSI:TI≠S:=aL hTI hS rfl rfl (by decide);have hSO:TO≠S:=aL hTO hS rfl rfl (by decide);have hx:xs[0]? = some (xs[0]'h0):=List.getElem?_eq_getElem h0;have hy:ys[0]? = some (ys[0]'(by omega)):=List.getElem?_eq_getElem (by omega);have hv:zs[0]? = some (zs[0]'(by omega)):=List.getElem?_eq_getElem (by omega);obtain⟨u1,hu1,ru1⟩:=rv1.get hx;obtain⟨u2,hu2,ru2⟩:=rv2.get hy;obtain⟨u3,hu3,ru3⟩:=rv3.get hv;generalize xs[0]'h0=x at hx ru1;generalize ys[0]'(by omega)=y at hy ru2;generalize zs[0]'(by omega)=v at hv ru3;refine codeAny_builtin F.entry_extend_loop ?_;rw[Around.under_plainId F.plain_extend_loop _];show wpAny _ _ (pyNext (.ref z) >>= _) _ _ s;refine wpAny_bind (Ls (A:=A.in1) D hz hTI hTO w1 w2 w3 Xn.isList Zb.isList Gs (by simpa using hu1) (by simpa using hu2) (by simpa using hu3) fun h' a1 a2 a3 a4 a5 a6 a7 kk=>?_);have hS':=kk _ _ Xm hSO.symm hS1 hS2 hS3 hS;show wpAny _ _ (updateSeq S (·.push (.ref s.heap.objs.size)) >>= _) _ _ _;refine wpAny_bind ?_;have hnew:S≠s.heap.objs.size:=Nat.ne_of_lt (Heap.lt_size hS);have sb:=Heap.SameBut.update h' S (Obj.mapSeq (·.push (Value.ref s.heap.objs.size)));refine wpAny_updateSeq hS' rfl (wpAny_pure ⟨plainId_quiet F.plain_extend_loop _,?_⟩);have qce:bW h' TI (.ref i1) (.ref i2) (.ref i3):=kk _ _ D.TIz D.TITO D.TIi1 D.TIi2 D.qeJ hTI;have hlt:∀d∈[z,TI,TO,i1,i2,i3,S],d<s.heap.objs.size:=fun d hd=>by
    simp only[List.mem_cons,List.not_mem_nil,or_false] at hd
    rcases hd with rfl | rfl | rfl | rfl | rfl | rfl | rfl
    ·exact Heap.lt_size hz
    ·exact Heap.lt_size hTI
    ·exact Heap.lt_size hTO
    ·exact Heap.lt_size e1
    ·exact Heap.lt_size e2
    ·exact Heap.lt_size e3
    ·exact Heap.lt_size hS
  obtain⟨J1,J2,J3,J4⟩:=Oo (t':=s.toks) (h':=h'.update S (Obj.mapSeq (·.push (Value.ref s.heap.objs.size)))) I hf hlt (fun d o hd e=>by
      simp only[List.mem_cons,List.not_mem_nil,or_false,not_or] at hd;exact sb.extBut _ _ hd.2.2.2.2.2.2 (kk d o hd.1 hd.2.2.1 hd.2.2.2.1 hd.2.2.2.2.1 hd.2.2.2.2.2.1 e)) ru1 ru2 ru3 (sb.extBut _ _ hnew.symm a6)
  have qcf:∃a b c,bW h' TO a b c:=⟨_,_,_,a2⟩;refine Za hc hh n12 n13 n23 nT n3 he he2 hL _ 1 _ _ [.ref s.heap.objs.size] #[.ref s.heap.objs.size] _ s.heap.objs.size false rfl (Nat.le_refl _) (by omega) J1 J2 (J3.seq q1) (J3.seq q2) (q3.same J3) (sb.extBut _ _ Xm.symm a1) ⟨_,sb.extBut _ _ hnew.symm a6⟩
    (fun hm=>Nat.lt_irrefl _ (hlt _ hm)) (sb.extBut _ _ hSI qce) (by obtain⟨a,b,c,e⟩:=qcf;exact⟨a,b,c,sb.extBut _ _ hSO e⟩) (a3.extBut sb.extBut hS1.symm) (a4.extBut sb.extBut hS2.symm) (a5.extBut sb.extBut hS3.symm) (Heap.get?_update_self _ hS' rfl) (.cons rfl .nil)
    (jM.snoc (tv:=[]) (k:=0) ⟨rfl,fun i v e=>by simp at e⟩ hx hy hv ao) ?_
  intro H' s' RN acc' cn' b1 b2 b3 b4 b5 b6;exact hR H' s' RN acc' cn' b1 b2 b3 b4 b5 (J3.trans b6)
end
theorem Inv.qcg {X:Cx} {p_:List (Addr×Obj)} {σ:St} {H:Hp} {s:Shared} {a:Addr} {ob:HO} (I:Inv X p_ σ H s) (new:X.s₀.heap.objs.size≤a) (fp:iu X p_ H a) (ok:cj X.prog X.w (upd H a ob) s.heap a ob):Inv X p_ σ (upd H a ob) s:=by
  obtain⟨un,f1,f2,f3,f4,f5⟩:=fp;have old:∀{b o},X.s₀.heap.get? b=some o→b≠a:=fun {b o} eb z=>by
    have:=Heap.lt_size eb;rw[z] at this;exact absurd (Nat.lt_of_lt_of_le this new) (Nat.lt_irrefl _)
  have ne:∀{b:Addr} {u:HO},H b=some u→b≠a:=fun {b u} q z=>by
    rw[z,un] at q;cases q
  refine⟨I.ok,I.os,I.bare,⟨fun b o eb n hb hx=>I.base.keep b o eb n hb hx,I.base.slot,fun b o eb n hx=>?_,I.base.there,fun b xs q=>?_,fun b o u q=>?_,fun b ps q=>?_⟩,I.loc,I.cell,?_,fun x c q=>?_,fun p hpp=>?_,fun b u q=>?_,I.len⟩
  ·rw[aB (old eb)];exact I.base.free b o eb n hx
  ·have z:=I.base.tups b xs q;rw[aB (ne z)];exact z
  ·have z:=I.base.oU b o u q;rw[aB (ne z)];exact z
  ·obtain⟨m,z⟩:=I.base.pF b ps q;exact⟨m,by rw[aB (ne z)];exact z⟩
  ·rw[aB f1.symm];exact I.free
  ·rw[aB (f4 x c q)];exact I.gq x c q
  ·obtain⟨g1,g2,g3⟩:=I.pin p hpp;refine⟨g1,?_,g3⟩;rw[aB (f5 p hpp)];exact g2
  · by_cases hb:b=a
    ·subst hb;rw[ao] at q;cases q;exact ok
    · rw[aB hb] at q;refine(I.hok b u q).stay (fun _ _ _ qq=>qq) (fun d qd=>?_) fun d zs qd=>?_
      ·rw[aB (ne qd)];exact qd
      ·rw[aB (ne qd)];exact qd
def arT (xs:List V) (R:V→V→V→Prop):Prop:=match xs with | [x,y,z]=>R x y z | _=>False
@[simp ↓] theorem qmu x y z R:arT [x,y,z] R=R x y z:=rfl
theorem arT.out {xs:List V} {R} (h:arT xs R):∃x y z,xs=[x,y,z]∧R x y z:=by
  match xs,h with
  | [x,y,z],h=>exact⟨x,y,z,rfl,h⟩
def tLZ (K:W.Frag) (ta:TA):TE:=fun σ H Q=>ta σ H fun vs H1=>arT vs fun x y z=>isRef x fun a=>isRef y fun b=>isRef z fun c=>∃(b3:Bool) (xs ys zs:List V),aX K H1 a xs∧aX K H1 b ys∧Y9 b3 K H1 c zs∧0<xs.length∧ys.length=xs.length∧zs.length=xs.length∧
  ∀p tv H',H1 p=none→H' p=some (.lst tv)→jM H' tv xs ys zs xs.length→Same H1 H'→Q (.ref p) H'
@[simp ↓] theorem qmv K ta σ H Q:tLZ K ta σ H Q=(ta σ H fun vs H1=>arT vs fun x y z=>isRef x fun a=>isRef y fun b=>isRef z fun c=>∃(b3:Bool) (xs ys zs:List V),aX K H1 a xs∧aX K H1 b ys∧Y9 b3 K H1 c zs∧0<xs.length∧ys.length=xs.length∧zs.length=xs.length∧
  ∀p tv H',H1 p=none→H' p=some (.lst tv)→jM H' tv xs ys zs xs.length→Same H1 H'→Q (.ref p) H'):=rfl
theorem Lx {X:Cx} {K:W.Frag} (hK:X.K=K) (hc:X.calm=true) {a b c:Expr} {ta:TA} {p p2 pos pos2:Pos} (hg1:Gl X "list") (hm1:X.mg "list" = none) (hg2:Gl X "zip") (hm2:X.mg "zip" = none) (ha:PA X [a,b,c] ta)
    (hs:starEach [a,b,c] X.env=[(false,eval a X.env),(false,eval b X.env),(false,eval c X.env)]:=by rfl) (hs2:starEach [b,c] X.env=[(false,eval b X.env),(false,eval c X.env)]:=by rfl)
    (hs1:starEach [.Call (.Name "zip" p2) [a,b,c] [] pos2] X.env=[(false,eval (.Call (.Name "zip" p2) [a,b,c] [] pos2) X.env)]:=by rfl) :
    PE X (.Call (.Name "list" p) [.Call (.Name "zip" p2) [a,b,c] [] pos2] [] pos) (tLZ K ta):=by
  subst hK;intro p_ s σ H Q I h;refine wpAny_Call_Name_kw (jC I hg1 hm1 boot_list ?_ (by decide) (by decide));refine PyProof.Rows.callWith_type1 ?_ (by rw[hs1];rfl) (by rfl);rw[hs1];show wpAny _ _ (spliced ((false,eval (.Call (.Name "zip" p2) [a,b,c] [] pos2) X.env)::[])) _ _ s;refine Calls.spliced_cons ?_;refine wpAny_Call_Name_kw (jC I hg2 hm2 boot_zip ?_ (by decide) (by decide));refine PyProof.Rows.callWith_type1 (cB (ha pos2 p_ s σ H _ I h) fun us s1 z=>?_) (by rw[hs,hs2]) (by rw[hs2];rfl);obtain⟨vs,H1,I1,r1,q1⟩:=z;obtain⟨x,y,z,rfl,q2⟩:=arT.out q1;obtain⟨l1,rfl,q3⟩:=isRef.out q2;obtain⟨l2,rfl,q4⟩:=isRef.out q3;obtain⟨l3,rfl,bk,xs,ys,zs,k1,k2,k3,h0,e2,e3,q⟩:=isRef.out q4;obtain⟨u1,u2,u3,rfl,g1,g2,g3⟩:∃u1 u2 u3,us=[u1,u2,u3]∧RelV (.ref l1) u1∧RelV (.ref l2) u2∧RelV (.ref l3) u3:=by
    cases r1 with
    | cons ra r1=>
      cases r1 with
      | cons rb r1=>
        cases r1 with
        | cons rc r1=>
          cases r1;exact⟨_,_,_,rfl,ra,rb,rc⟩
  obtain rfl:u1=Value.ref l1:=g1;obtain rfl:u2=Value.ref l2:=g2;obtain rfl:u3=Value.ref l3:=g3;obtain⟨qmO,rv1,Xn,hz1⟩:=I1.list k1;obtain⟨its2,rv2,Zb,hz2⟩:=I1.list k2;obtain⟨qcd,rv3,Gs,hz3⟩:=I1.Y_ k3;refine Lw Xn.isList Zb.isList Gs fun h' b1 b2 b3 b4 b5 b6 b7 kk=>Calls.spliced_nil ?_;have I2:Inv X p_ σ H1 {s1 with heap:=h'}:=I1.kept (t':=s1.toks) kk;refine Cy b1 fun h₂ cn HX hn2 hS=>?_;have hSn:({s1 with heap:=h'}:Shared).heap.objs.size=s1.heap.objs.size+6:=b7;generalize ({s1 with heap:=h'}:Shared).heap.objs.size=S at hSn hS hn2 ⊢;subst hSn;have I3:Inv X p_ σ H1 {s1 with heap:=h₂}:=I2.kept (t':=s1.toks) HX;have fresh:∀d,s1.heap.objs.size≤d→iu X p_ H1 d:=fun d hd=>I1.wD hd (I1.hok.fresh hd);refine Vg (z:=s1.heap.objs.size+5) (TI:=s1.heap.objs.size+3) (TO:=s1.heap.objs.size+4) (i1:=s1.heap.objs.size) (i2:=s1.heap.objs.size+1) (i3:=s1.heap.objs.size+2) hc (A:=X.A.in1) (I1.ok.hd hc) (Nat.ne_of_lt (Nat.lt_add_of_pos_right (by decide))) (Nat.ne_of_lt (Nat.lt_add_of_pos_right (by decide))) (Nat.ne_of_lt (Nat.lt_succ_self (s1.heap.objs.size+1))) (Nat.ne_of_lt (Nat.lt_succ_self (s1.heap.objs.size+3))) (by obtain⟨o,e⟩:=Gs.ob;exact Nat.ne_of_lt (Nat.lt_of_lt_of_le (Heap.lt_size e) (Nat.le_add_right _ _))) e2 e3 hz1 h0 I3 (fun d hd=>fresh d ?_) k1 k2 k3 (HX _ _ b1) (HX _ _ b2) (HX _ _ b3) (b4.at fun o e=>HX _ _ e) (b5.at fun o e=>HX _ _ e) (b6.at fun o e=>HX _ _ e) hS ?_
  · simp only[List.mem_cons,List.not_mem_nil,or_false] at hd
    rcases hd with rfl | rfl | rfl | rfl | rfl | rfl | rfl <;> first | exact Nat.le_add_right _ _ | exact Nat.le_refl _
  intro H' s' RN acc' cn' J1 J2 J3 J4 J5 J6;have hl:=J4.length;have J7:=J5.1;refine⟨rfl,.ref _,upd H' (s1.heap.objs.size+6) (.lst RN),J1.qcg (Nat.le_trans I1.sz (Nat.le_add_right _ _)) J2 ⟨by omega,acc'.toList,cn',J4,by simpa using J3⟩,rfl,q _ RN _ (I1.hok.fresh (Nat.le_add_right _ _)) ao (J5.same (au J2.1)) (J6.trans (au J2.1))⟩
theorem zQ {f:Array Value→Array Value} {o:Obj}:(Obj.mapFields f o).dict=o.dict:=by
  obtain⟨c,d,dat,sl⟩:=o;cases dat <;> rfl
def Trc (base h:Heap) (e:Addr) (cls:Value×Option Addr) (fl:Value) (T:Addr):Prop:=
  ∃oe vs oT ts,h.get? e=some oe∧(oe.cls,oe.dict)=cls∧oe.data = .fields vs∧vs[2]? = some .none∧vs[1]? = some (.ref T)∧base.get? T=none∧T≠e∧h.get? T=some oT∧oT.data = .fields ts∧ts[3]? = some fl
structure Stn (base:Heap) (l:List Env) (e:Addr) (cls:Value×Option Addr) (fl:Value) (h h':Heap):Prop where
  stays:base.StaysIn h'
  frames:h'.FunFrames base l
  trc:∃T,Trc base h' e cls fl T
  slots:h.UpToSlots h'
section
variable {M:Model} {A:Around} {E:Value→Shared→Prop} {s:Shared} {base:Heap} {env:Env} {outer l:List Env} {L e:Addr} {Q:Unit→Shared→Prop}
theorem Oq {oe:Obj} {vs:Array Value} {head:Value} {had:Bool} (fr:A.frames=some (env::outer)) (ff:s.heap.FunFrames base (env::outer)) (lf:env.frame=some L) (ee:s.heap.get? e=some oe)
    (st:base.StaysIn s.heap) (nb:base.get? e=none) (de:oe.data = .fields vs) (v2:vs[2]? = some .none) (hq:∀h',Stn base (env::outer) e (oe.cls,oe.dict) (rawInt L) s.heap h'→Q () {s with heap:=h'}) :
    wpAny M A (do let a ← frameOf env;let pl ← entryPlaceOf L had;let b ← EntryCells.newEntry head a .none (rawInt L) .none pl;setField (.ref e) 1 b) Q E s:=by
  have sz2:2<vs.size:=(Array.getElem?_eq_some_iff.mp v2).1;have ne:e∉frs (env::outer):=fun z=>by
    obtain⟨_,o,y,d⟩:=ff.mem z;rw[ee] at y;cases y;exact d vs de
  refine wpAny_bind (wpAny_frameOf_fun fr ff lf fun g1 x1=>?_);refine wpAny_bind (wpAny_entryPlaceOf fun pl okp=>?_);unfold EntryCells.newEntry newFields;refine wpAny_bind (wpAny_newObj_type ?_ (okp.sizeOk5 _ _ _ _ _));have e1:g1.get? e=some oe:=(x1.2.1 e ne).trans ee;have st1:base.StaysIn g1:=fun b o z=>(x1.2.1 b fun y=>by rw[(ff.mem y).1] at z;cases z).trans (st b o z);generalize hR:({cls:=.type "traceback",dict:=none,data:=.fields ([head,.ref L,.none,rawInt L,.none]++(if pl.isEmpty then List.replicate 6 Value.none else pl)).toArray}:Obj)=R
  have dR:∃ts,R.data = .fields ts∧ts[3]? = some (rawInt L)∧R.isFreed=false:=by
    subst hR;exact⟨_,rfl,by simp,rfl⟩
  obtain⟨ts,dR,tR,fR⟩:=dR;have e2:=Heap.get?_push_of_some (h:=g1) R e1;refine wpAny_setField e2 de (Nat.lt_of_succ_lt sz2) (hq _ ?_);have Te:g1.objs.size≠e:=Nat.ne_of_gt (Heap.lt_size e1);have keep:∀{b o},b≠e→g1.get? b=some o→((g1.push R).update e (Obj.mapFields (·.setIfInBounds 1 (Value.ref g1.objs.size)))).get? b=some o:=fun {b o} nb z=>by
    rw[Heap.get?_update_other _ _ (Ne.symm nb)];exact Heap.get?_push_of_some _ z
  have nr:∀{b o},s.heap.get? b=some o→(∀us,o.data≠.fields us)→b≠e:=fun {b o} z d y=>by
    rw[y,ee] at z;cases z;exact d vs de
  have d3:=Obj.data_mapFields de (·.setIfInBounds 1 (Value.ref g1.objs.size));refine⟨fun b o z=>keep (fun y=>by rw[y,nb] at z;cases z) (st1 b o z),ff.of_keeps fun b o z d=>?_,⟨g1.objs.size,?_⟩,fun b o z d=>?_⟩
  ·obtain⟨sl,y⟩:=x1.2.2 b o z;exact⟨_,keep (nr z d) y,rfl⟩
  · refine⟨_,_,R,ts,Heap.get?_update_self _ e2 (Obj.isFreed_of_fields d3),by rw[Obj.cls_mapFields,zQ],d3,?_,?_,st1.fresh,Te,?_,dR,tR⟩
    ·rw[Array.getElem?_setIfInBounds_ne (by decide)];exact v2
    ·simp[Nat.lt_of_succ_lt sz2]
    ·rw[Heap.get?_update_other _ _ (Ne.symm Te)];exact Heap.get?_push_size g1 fR
  ·obtain⟨sl,y⟩:=x1.2.2 b o z;exact⟨sl,keep (nr z d) y⟩
theorem Ly {oe:Obj} {vs:Array Value} (fr:A.frames=some (env::outer)) (ff:s.heap.FunFrames base (env::outer)) (lf:env.frame=some L) (ee:s.heap.get? e=some oe)
    (st:base.StaysIn s.heap) (nb:base.get? e=none) (de:oe.data = .fields vs) (v1:vs[1]? = some .none) (v2:vs[2]? = some .none) (hq:∀h',Stn base (env::outer) e (oe.cls,oe.dict) (rawInt L) s.heap h'→Q () {s with heap:=h'}) :
    wpAny M A (noteFrame (.ref e) env) Q E s:=by
  unfold noteFrame;simp only[lf];refine wpAny_bind (wpAny_field ee de v1 ?_);rw[if_neg (by decide)];exact Oq fr ff lf ee st nb de v2 hq
theorem Ec {cls:Value×Option Addr} {T:Addr} (fr:A.frames=some (env::outer)) (ff:s.heap.FunFrames base (env::outer)) (lf:env.frame=some L) (tr:Trc base s.heap e cls .none T)
    (st:base.StaysIn s.heap) (nb:base.get? e=none) (hq:∀h',Stn base (env::outer) e cls (rawInt L) s.heap h'→Q () {s with heap:=h'}) :
    wpAny M A (noteFrame (.ref e) env) Q E s:=by
  obtain⟨oe,vs,oT,ts,ee,rfl,de,v2,v1,nT,Te,eT,dT,t3⟩:=tr;unfold noteFrame;simp only[lf];refine wpAny_bind (wpAny_field ee de v1 ?_);rw[if_pos (by simp)];refine wpAny_bind (wpAny_field eT dT t3 ?_);rw[if_neg (by simp[rawInt])];refine wpAny_bind (wpAny_setField eT dT (Array.getElem?_eq_some_iff.mp t3).1 ?_);have oth:∀{b},b≠T→(s.heap.update T (Obj.mapFields (·.setIfInBounds 3 Value.none))).get? b=s.heap.get? b:=fun n=>Heap.get?_update_other _ _ (Ne.symm n);have nr:∀{b o},s.heap.get? b=some o→(∀us,o.data≠.fields us)→b≠T:=fun {b o} z d y=>by
    rw[y,eT] at z;cases z;exact d ts dT
  refine Oq (s:={s with heap:=s.heap.update T (Obj.mapFields (·.setIfInBounds 3 Value.none))}) fr (ff.of_keeps fun b o z d=>⟨o,(oth (nr z d)).trans z,rfl⟩) lf ((oth (Ne.symm Te)).trans ee) (fun b o z=>(oth fun y=>by rw[y,nT] at z;cases z).trans (st b o z)) nb de v2 fun h' x=>hq h' ⟨x.stays,x.frames,x.trc,fun b o z d=>x.slots b o ((oth (nr z d)).trans z) d⟩
theorem zR {cls:Value×Option Addr} {fl:Value} {T:Addr} (ff:s.heap.FunFrames base l) (tr:Trc base s.heap e cls fl T) (st:base.StaysIn s.heap) (hq:∀h',Stn base l e cls .none s.heap h'→Q () {s with heap:=h'}) :
    wpAny M A (setFlight (.ref e) none) Q E s:=by
  obtain⟨oe,vs,oT,ts,ee,rfl,de,v2,v1,nT,Te,eT,dT,t3⟩:=tr;have z3:3<ts.size:=(Array.getElem?_eq_some_iff.mp t3).1;unfold setFlight;refine wpAny_bind (wpAny_field ee de v1 ?_);rw[if_pos (by simp)];refine wpAny_setField eT dT z3 (hq _ ?_);have oth:∀{b} (f:Obj→Obj),b≠T→(s.heap.update T f).get? b=s.heap.get? b:=fun f n=>Heap.get?_update_other _ _ (Ne.symm n);have nr:∀{b o},s.heap.get? b=some o→(∀us,o.data≠.fields us)→b≠T:=fun {b o} z d y=>by
    rw[y,eT] at z;cases z;exact d ts dT
  refine⟨fun b o z=>(oth _ fun y=>by rw[y,nT] at z;cases z).trans (st b o z),ff.of_keeps fun b o z d=>⟨o,(oth _ (nr z d)).trans z,rfl⟩,⟨T,oe,vs,_,_,(oth _ (Ne.symm Te)).trans ee,rfl,de,v2,v1,nT,Te,Heap.get?_update_self _ eT (Obj.isFreed_of_fields (Obj.data_mapFields dT _)),Obj.data_mapFields dT _,?_⟩,fun b o z d=>⟨o.slots,(oth _ (nr z d)).trans z⟩⟩;simp[z3]
theorem Ot {cls:Value×Option Addr} (note:∀Q':Unit→Shared→Prop,(∀h',Stn base (env::outer) e cls (rawInt L) s.heap h'→Q' () {s with heap:=h'})→wpAny M A (noteFrame (.ref e) env) Q' E s)
    (hq:∀h',Stn base (env::outer) e cls .none s.heap h'→Q () {s with heap:=h'}):wpAny M A (leaving env (.ref e)) Q E s:=by
  unfold leaving;refine wpAny_bind (note _ fun h1 x1=>?_);obtain⟨T,tr⟩:=x1.trc;exact zR (s:={s with heap:=h1}) x1.frames tr x1.stays fun h2 x2=>hq h2 ⟨x2.stays,x2.frames,x2.trc,x1.slots.trans x2.slots⟩
end
structure Ed (h0 h:Heap) (H:Hp) (a C:Addr) (od:Option Addr):Prop where
  new:h0.get? a=none
  un:H a=none
  ob:∃oe vs,h.get? a=some oe∧(oe.cls,oe.dict)=(Value.ref C,od)∧oe.data = .fields vs∧vs[2]? = some .none∧(vs[1]? = some .none∨
    ∃T oT ts,vs[1]? = some (.ref T)∧T≠a∧h0.get? T=none∧H T=none∧h.get? T=some oT∧oT.data = .fields ts∧ts[3]? = some .none)
structure Vh (h0 h:Heap) (H:Hp) (a C:Addr) (od:Option Addr) (T:Addr):Prop where
  new:h0.get? a=none
  newT:h0.get? T=none
  un:H a=none
  unT:H T=none
  ob:∃oe vs oT ts,h.get? a=some oe∧(oe.cls,oe.dict)=(Value.ref C,od)∧oe.data = .fields vs∧vs[2]? = some .none∧vs[1]? = some (.ref T)∧T≠a∧h.get? T=some oT∧oT.data = .fields ts∧ts[3]? = some .none
theorem Vh.in {h0 h:Heap} {H:Hp} {a C T:Addr} {od:Option Addr} (x:Vh h0 h H a C od T):Ed h0 h H a C od:=by
  obtain⟨h1,h2,h3,h4,oe,vs,oT,ts,t1,t2,t3,t4,t5,t6,t7⟩:=x;exact⟨h1,h3,oe,vs,t1,t2,t3,t4,.inr ⟨T,oT,ts,t5,t6,h2,h4,t7⟩⟩
def Vi (P:Program) (w:World):Sw:=fun outer H s E e s'=>∃(a C:Addr) (od:Option Addr) (H':Hp),e = .ref a∧s'.os=s.os∧AllBare s'.gens∧Un (frs outer) [] H H' s.heap s'.heap∧qT P w H' s'.heap∧(∃T,Vh s.heap s'.heap H' a C od T)∧E (.ref C) od H'
theorem Vj {P:Program} {w:World} {H:Hp} {h:Heap} (x:qT P w H h) {b:Addr} (e:h.get? b=none):H b=none:=by
  cases q:H b with
  | none=>rfl
  | some u=>
    obtain⟨o,eo⟩:∃o,h.get? b=some o:=by
      have:=x b u q;cases u with
      | lst xs=>obtain⟨_,_,_,_,e⟩:=this;exact⟨_,e⟩
      | tup xs=>obtain⟨_,_,_,o,e,_⟩:=this;exact⟨_,e⟩
      | dK kvs=>obtain⟨_,_,_,_,o,_,_,e,_⟩:=this;exact⟨_,e⟩
      | dT kvs=>obtain⟨_,_,_,_,o,_,_,e,_⟩:=this;exact⟨_,e⟩
      | set S n=>obtain⟨o,_,_,_,e,_⟩:=this;exact⟨_,e⟩
      | ins C dx fs=>obtain⟨_,_,_,e,_⟩:=this;exact⟨_,e⟩
      | own y=>obtain⟨_,e⟩:=this;exact⟨_,e⟩
      | xd fs=>obtain⟨_,⟨_,_,_,e,_⟩,_⟩:=this;exact⟨_,e⟩
      | rng lo hi=>obtain⟨_,_,_,e⟩:=this;exact⟨_,e⟩
      | Hv ob u=>obtain⟨e,_⟩:=this;exact⟨_,e⟩
      | Z_ ps=>exact⟨_,(show h.get? b=some _ from this)⟩
      | met f y=>exact⟨_,(show h.get? b=some _ from this)⟩
      | ext φ=>obtain⟨_,⟨o,e⟩,_⟩:=this;exact⟨_,e⟩
    rw[e] at eo;cases eo
section
variable {X:Cx} {p_:List (Addr×Obj)} {σ:St} {H:Hp} {s:Shared}
theorem Inv.old (I:Inv X p_ σ H s) (hex:X.ex=[]) {b:Addr} (e:s.heap.get? b=none):X.s₀.heap.get? b=none:=by
  cases q:X.s₀.heap.get? b with
  | none=>rfl
  | some o=>
    obtain⟨o',eo⟩:=I.base.there b o q (by rw[hex];simp);rw[e] at eo;cases eo
theorem Ou (I:Inv X p_ σ H s) (hex:X.ex=[]) {a C:Addr} {od:Option Addr} {l:List Addr} (hl:∀b∈l,b∈frs X.stack∨(X.s₀.heap.get? b=none∧H b=none)) (ha:X.s₀.heap.get? a=none) (hH:H a=none) (hs:∀b∈frs X.stack,b∈l)
    {E:XK} (hE:E (.ref C) od H) {h':Heap} (x:Stn (W.hideAll s.heap l) X.stack a (.ref C,od) .none s.heap h'):Vi X.prog X.w X.outer X.H₀ X.s₀ E (.ref a) {s with heap:=h'}:=by
  obtain⟨k1,k2,⟨T,oe,vs,oT,ts,t1,t2,t3,t4,tt,t5,t6,t7,t8,t9⟩,k4⟩:=x;have nl:∀{b:Addr} {o:Obj},b∉l→s.heap.get? b=some o→h'.get? b=some o:=fun hb e=>k1 _ _ (W.hideAll_get _ e hb);have qeL:∀{b:Addr} {o:Obj},X.s₀.heap.get? b=some o→b∉X.fs→b∉l:=fun {b o} e hb hm=>by
    rcases hl b hm with z | ⟨z,_⟩
    · rcases List.mem_cons.mp (I.um b z) with z | z
      ·rw[z] at e;exact absurd (Heap.lt_size e) (Nat.not_lt.mpr I.ok.above)
      ·exact hb z
    ·rw[z] at e;cases e
  have trL:∀{b:Addr} {u:HO},H b=some u→b∉l:=fun {b u} e hm=>by
    rcases hl b hm with z | ⟨_,z⟩
    ·rw[I.yr b z] at e;cases e
    ·rw[z] at e;cases e
  have fsl:∀{b:Addr} {o:Obj},b∈X.fs→s.heap.get? b=some o→∃sl,h'.get? b=some {o with slots:=sl}:=fun {b o} hb e=>by
    obtain⟨_,o2,e2,hd⟩:=I.qU.mem hb;rw[e] at e2;cases e2;exact k4 b o e hd
  have RB:∀b:Addr,b∉X.ex:=fun b=>by rw[hex];simp
  refine⟨a,C,od,H,rfl,I.os,I.bare,⟨fun b o e n hb _=>?_,fun b o e n hb _=>?_,fun b o e n _=>I.base.free b o e n (RB b),fun b o e _=>?_,I.base.tups,I.base.oU,I.base.pF⟩,fun b u e=>?_,⟨T,ha,?_,hH,?_,oe,vs,oT,ts,t1,t2,t3,t4,tt,t6,t7,t8,t9⟩,hE⟩
  ·exact nl (qeL e hb) (I.base.keep b o e n hb (RB b))
  ·obtain⟨sl,e2⟩:=I.base.slot b o e n hb (RB b);obtain⟨sl',e3⟩:=fsl hb e2;exact⟨sl',e3⟩
  · obtain⟨o',e2⟩:=I.base.there b o e (RB b)
    by_cases hb:b∈X.fs
    ·obtain⟨sl,e3⟩:=fsl hb e2;exact⟨_,e3⟩
    ·exact⟨o',nl (qeL e hb) e2⟩
  · refine(I.hok b u e).stay (fun c v hc q=>?_) (fun c q=>q) fun c xs q=>q
    rcases hc with rfl | hc
    ·exact nl (trL e) q
    ·exact nl (trL hc) q
  all_goals
    have hT:T∉frs X.stack:=fun hm=>by
      obtain⟨_,o2,e2,hd⟩:=k2.mem hm;rw[t7] at e2;cases e2;exact hd _ t8
    have cs:s.heap.get? T=none∨(X.s₀.heap.get? T=none∧H T=none):=by
      cases q:s.heap.get? T with
      | none=>exact .inl rfl
      | some o=>
        by_cases hm:T∈l
        ·exact .inr ((hl T hm).resolve_left hT)
        ·rw[W.hideAll_get _ q hm] at t5;cases t5
  ·exact cs.elim (fun z=>I.old hex z) fun z=>z.1
  ·exact cs.elim (fun z=>Vj I.hok z) fun z=>z.2
theorem Vk (I:Inv X p_ σ H s) (hst:X.stack=X.env::X.outer) (hfr:X.env.frame=some X.env.locals) (hex:X.ex=[]) {a C:Addr} {od:Option Addr} (x:Ed X.s₀.heap s.heap H a C od) {E:XK} (hE:E (.ref C) od H) {E':Value→Shared→Prop} :
    wpAny (model X.prog X.w) X.A (leaving X.env (.ref a)) (fun _ s''=>Vi X.prog X.w X.outer X.H₀ X.s₀ E (.ref a) s'') E' s:=by
  obtain⟨new,un,oe,vs,he,hc,hd,h0,hT⟩:=x;have fr:=I.ok.frames;rw[hst] at fr;have qau:∀l:List Addr,s.heap.FunFrames (W.hideAll s.heap (frs X.stack++l)) (X.env::X.outer):=fun l=>by
    rw[← hst];exact W.funFrames_hide I.stack fun env he b hb=>List.mem_append_left _ (List.mem_filterMap.mpr ⟨env,he,hb⟩)
  rcases hT with h1 | ⟨T,oT,ts,h1,h2,h3,h4,h5,h6,h7⟩
  · refine Ot (base:=W.hideAll s.heap (frs X.stack++[a])) (fun Q' q=>Ly fr (qau _) hfr he (fun b o e=>W.of_hideAll _ e) (W.hideAll_none _ (by simp)) hd h1 h0 q) fun h' hL=>?_;rw[hc,← hst] at hL;refine Ou I hex (fun b hb=>?_) new un (fun b hb=>List.mem_append_left _ hb) hE hL
    rcases List.mem_append.mp hb with z | z
    ·exact .inl z
    ·rw[List.mem_singleton.mp z];exact .inr ⟨new,un⟩
  · refine Ot (base:=W.hideAll s.heap (frs X.stack++[a,T])) (cls:=(.ref C,od)) (fun Q' q=>Ec fr (qau _) hfr (T:=T) ⟨oe,vs,oT,ts,he,hc,hd,h0,h1,W.hideAll_none _ (by simp),h2,h5,h6,h7⟩ (fun b o e=>W.of_hideAll _ e) (W.hideAll_none _ (by simp)) q) fun h' hL=>?_;rw[← hst] at hL;refine Ou I hex (fun b hb=>?_) new un (fun b hb=>List.mem_append_left _ hb) hE hL
    rcases List.mem_append.mp hb with z | z
    ·exact .inl z
    · simp only[List.mem_cons,List.not_mem_nil,or_false] at z
      rcases z with rfl | rfl
      ·exact .inr ⟨new,un⟩
      ·exact .inr ⟨h3,h4⟩
theorem Ed.back {h0 h1 h:Heap} {H:Hp} {a C:Addr} {od:Option Addr} (x:Ed h1 h H a C od) (k:∀b,h1.get? b=none→h0.get? b=none):Ed h0 h H a C od:=by
  obtain⟨new,un,oe,vs,he,hc,hd,h2,hT⟩:=x;refine⟨k _ new,un,oe,vs,he,hc,hd,h2,?_⟩
  rcases hT with h1 | ⟨T,oT,ts,h1,h2,h3,h4,h5⟩
  ·exact .inl h1
  ·exact .inr ⟨T,oT,ts,h1,h2,k _ h3,h4,h5⟩
def Lets (X:Cx) (E:XK):Prop:=∀(p_:List (Addr×Obj)) (σ:St) (H:Hp) (s:Shared) (a C:Addr) (od:Option Addr),Inv X p_ σ H s→Ed X.s₀.heap s.heap H a C od→E (.ref C) od H→X.xe (.ref a) s
theorem Gu {P:Program} {w:World} {K:W.Frag} {mg:Str→Option Value} {base:Heap} {N:List Str} {qual:Str} {scope:Scope} {f:Addr} {cd:Value} {A:Around} {outer:List Env} {s:Shared} {H:Hp} {E:XK} :
    Lets (dw (Vi P w) P w K mg base N qual scope f cd A outer s H E) E:=fun p_ σ H1 s1 a C od I x hE=>Vk I rfl rfl rfl x hE
theorem Lets.passes {X:Cx} {E:XK} (h:Lets X E) (hex:X.ex=[]):Passes (Vi X.prog X.w) X E:=fun p_ σ H s e s' I hx=>by
  obtain⟨a,C,od,H',rfl,ho,hg,un,hok,⟨T,ex⟩,hE⟩:=hx;have I':Inv X p_ σ H' s':=I.call' (ch:=[]) ho un hok hg fun b z=>(nomatch z);exact h p_ σ H' s' a C od I' (ex.in.back fun b e=>I.old hex e) hE
theorem Ov {K:W.Frag} {h:Heap} {C:Addr} {bmB:List Value} {newId:String} (X:K.In h) (q:W.excIn K C bmB newId=true) :
    ∃bm N nm q bs hdct sn sub ab col dd k0 k1 k2 k3 k5 mN,h.get? C=some (excClassObj nm q C N bs bm hdct sn sub ab col dd k0 k1 k2 k3 k5 newId)∧h.Ns N mN∧mN "__init__" = none∧OwnTail h bmB bm∧∀v b,W.mroIn K C v=some b→(Value.ref C::bm).contains v=b:=by
  unfold W.excIn at q;split at q
  · rename_i dd cd sl ho;split at q
    · rename_i C' bm k0 k1 k2 k3 n k5 hm hs;simp only[Bool.and_eq_true,beq_iff_eq,Bool.not_eq_true'] at q;obtain⟨⟨⟨⟨⟨rfl,rfl⟩,hdel⟩,ht⟩,hok⟩,hni⟩:=q;obtain⟨nm,bs,mro,ns,qn,hd,sn,sub,ab,col,del⟩:=cd;dsimp only at hm hdel hok hni;subst hm hdel;obtain rfl:sl = #[k0,k1,k2,k3,some (.builtin n),k5]:=by
        obtain⟨l⟩:=sl;simp only at hs;rw[hs]
      exact⟨bm,ns,nm,qn,bs,hd,sn,sub,ab,col,dd,k0,k1,k2,k3,k5,_,X _ _ ho,.of_isNs (W.isNs_of_in X hok),W.nsMap_none_of_in X hok hni,W.tail_of_in X ht,fun v b e=>by
        unfold W.mroIn W.clsIn at e;rw[ho] at e;simpa using e⟩
    ·cases q
  ·cases q
abbrev kE:List Value:=[.type "ValueError",.type "Exception",.type "BaseException",.type "object"]
def wY (K:W.Frag) (C:Addr):Prop:=W.excIn K C kE "ValueError.__new__" = true
theorem iY.okE {P:Program} {w:World} {K:W.Frag} {mg:Str→Option Value} {base:Heap} {x qual:Str} {st:Stmt} {f:Addr} {fd:FuncData} {N ps:List Str} {k:Nat} {sp:Sp} (F:iY K x qual st f fd) (S:aU N ps (ak st)) (len:∀vs H Q E,sp vs H Q E→vs.length=ps.length)
    (hbody:∀(cdv:Value) (A:Around) (outer:List Env) (s:Shared) (H:Hp) (vs:List V) (Q:VK) (E:XK),h_ k (A.deeper (envOfC qual (ak st) s.heap.objs.size f cdv))→sp vs H Q E→
      ∃t,Dg (dw (Vi P w) P w K mg base N qual (ak st) f cdv A outer s H E) (aC st) t∧t {nx:=fun _ H'=>Q .non H',rt:=Q} (start N vs) H):cF P w K mg base (Vi P w) (k+1) f fd ps sp:=by
  obtain⟨oc,od,kV,doc,pm,an,cdv,ct,osl,rfl,lk,hcd⟩:=F.ex;exact qac lk hcd S len fun A outer s H vs Q E hr hsp=>hbody cdv A outer s H vs Q E hr hsp
theorem Inv.gone {X:Cx} {p_:List (Addr×Obj)} {σ:St} {H:Hp} {s:Shared} {h':Heap} {t':Nat} {ch:List Addr} (I:Inv X p_ σ H s) (hex:X.ex=[])
    (hch:∀b∈ch,X.s₀.heap.get? b=none∧H b=none∧(∀vs o,s.heap.get? b=some o→o.data = .fields vs→True)∧(∃o vs,s.heap.get? b=some o∧o.data = .fields vs)∧∀p∈X.pn++p_,p.1≠b)
    (k1:∀b o,b∉frs X.stack→b∉ch→s.heap.get? b=some o→h'.get? b=some o) (k2:∀b o,s.heap.get? b=some o→(∀vs,o.data≠.fields vs)→∃sl,h'.get? b=some {o with slots:=sl}) :
    Inv X p_ σ H {s with heap:=h',toks:=t'}:=by
  have nf:∀{b o},s.heap.get? b=some o→(∀vs,o.data≠.fields vs)→b∉ch:=fun {b o} e hd hb=>by
    obtain⟨_,_,_,⟨o2,vs,e2,d2⟩,_⟩:=hch b hb;rw[e] at e2;cases e2;exact hd vs d2
  have fsl:∀{b:Addr} {o:Obj},b∈frs X.stack→s.heap.get? b=some o→∃sl,h'.get? b=some {o with slots:=sl}:=fun {b o} hb e=>by
    obtain⟨_,o2,e2,hd⟩:=I.stack.mem hb;rw[e] at e2;cases e2;exact k2 b o e hd
  have ex1:∀{b:Addr} {o:Obj},b∉ch→s.heap.get? b=some o→∃o',h'.get? b=some o':=fun {b o} hb e=>by
    by_cases hf:b∈frs X.stack
    ·obtain⟨sl,z⟩:=fsl hf e;exact⟨_,z⟩
    ·exact⟨o,k1 b o hf hb e⟩
  have old:∀{b:Addr} {o:Obj},X.s₀.heap.get? b=some o→b∉ch:=fun e hb=>by
    rw[(hch _ hb).1] at e;cases e
  have qka:∀{b:Addr} {o:Obj},X.s₀.heap.get? b=some o→b∉X.fs→b∉frs X.stack:=fun {b o} e hb hm=>by
    rcases List.mem_cons.mp (I.um b hm) with z | z
    ·rw[z] at e;exact absurd (Heap.lt_size e) (Nat.not_lt.mpr I.ok.above)
    ·exact hb z
  have RB:∀b:Addr,b∉X.ex:=fun b=>by rw[hex];simp
  have cells:∀{c:Addr} {v:Option Value},s.heap.IsCell c v→h'.IsCell c v:=fun {c v} ⟨o,e,d⟩=>by
    obtain⟨sl,z⟩:=k2 c o e (fun vs q=>by rw[d] at q;cases q);exact⟨_,z,d⟩
  have subs:∀{b:Addr},b∈X.fs→b∈frs X.stack:=fun {b} hb=>by
    rcases I.ok.stk with e | ⟨e,hf⟩
    ·rw[e];exact hb
    ·rw[e];show b∈List.filterMap _ (X.env::X.outer);rw[List.filterMap_cons,hf];exact List.mem_cons_of_mem _ hb
  refine⟨I.ok,I.os,I.bare,⟨fun b o e n hb hx=>?_,fun b o e n hb hx=>?_,I.base.free,fun b o e hx=>?_,I.base.tups,I.base.oU,I.base.pF⟩,?_,fun x c e=>?_,I.free,I.gq,fun p hp=>?_,fun b u e=>?_,I.len⟩
  ·exact k1 b o (qka e hb) (old e) (I.base.keep b o e n hb hx)
  ·obtain⟨sl,z⟩:=I.base.slot b o e n hb hx;obtain⟨sl',z'⟩:=fsl (subs hb) z;exact⟨sl',z'⟩
  ·obtain⟨o',z⟩:=I.base.there b o e hx;exact ex1 (old e) z
  · obtain⟨m,⟨o,es,ep,e,d,r⟩,q⟩:=I.loc;obtain⟨sl,z⟩:=k2 _ o e (fun vs y=>by rw[d] at y;cases y);refine⟨m,⟨_,es,ep,z,d,r⟩,fun i x v e1 e2 e3=>?_⟩;obtain⟨u,rv,l⟩:=q i x v e1 e2 e3;refine⟨u,rv,?_⟩
    rcases l with l | ⟨kd,c,ec,y⟩
    ·exact .inl l
    ·exact .inr ⟨kd,c,ec,cells y⟩
  ·obtain⟨v,z⟩:=I.cell x c e;exact⟨v,cells z⟩
  · obtain⟨e,n,ne,nfs,d⟩:=I.pin p hp;refine⟨k1 _ _ (fun hm=>?_) (fun hm=>(hch _ hm).2.2.2.2 p hp rfl) e,n,ne,nfs,d⟩
    rcases List.mem_cons.mp (I.um _ hm) with z | z
    ·exact ne z
    ·exact nfs z
  · have no:∀{c:Addr} {u:HO},H c=some u→c∉frs X.stack∧c∉ch:=fun {c u} q=>⟨fun hm=>(by rw[I.yr _ hm] at q;cases q),fun hm=>(by rw[(hch _ hm).2.1] at q;cases q)⟩;refine(I.hok b u e).stay (fun c v hc q=>?_) (fun c q=>q) fun c xs q=>q
    rcases hc with rfl | hc
    ·exact k1 _ _ (no e).1 (no e).2 q
    ·exact k1 _ _ (no hc).1 (no hc).2 q
end
end L2
namespace L2
open PySem PySem.Spec PySem.W PyProof.Rows
section
variable {prog:Program} {w:World} {A:Around} {E:Value→Shared→Prop} {K:W.Frag} {h:Heap} {g:Array GenState} {d:Drawn} {t:Nat} {os:OsState} {x C:Addr}
structure pO (K:W.Frag) (C:Addr):Prop where
  ga:findIn K (.ref C) "__getattribute__" = some (some (.builtin "BaseException.__getattribute__"))
  gn:findIn K (.ref C) "__getattr__" = some none
  cl:findIn K (.ref C) "__class__" = some (some (.builtin "object.__class__"))
  sp:specialIn K (.builtin "object.__class__") "__get__" = some (some (.builtin "getset_descriptor.__get__"))
  tk:takesIn K (.builtin "object.__class__")=some true
  mo:mroIn K C (.type "object")=some true
  mb:mroIn K C (.type "BaseException")=some true
def jN (x C:Addr) (h:Heap):Prop:=∃ox vs,h.get? x=some ox∧ox.cls = .ref C∧ox.data = .fields vs∧vs[2]? = some .none
theorem jN.type {M:Model} (e:jN x C h):Looks M h (typeOf (.ref x)) (.ref C):=by
  obtain⟨ox,vs,h1,h2,_⟩:=e;exact h2▸(Looks.ld h1).andThen .now
theorem Zc {R:Result→Shared→Prop} {tp:Value} (X:K.In h) (I:jN x C h) (L:pO K C) (hq:R (.ok (.ret (.ref C))) ⟨h,g,d,t,os⟩) :
    codeAny (model prog w) A (.call (.builtin "getset_descriptor.__get__") ⟨[.builtin "object.__class__",.ref x,tp],[]⟩) R ⟨h,g,d,t,os⟩:=by
  have L0:=I.type (M:=model prog w);have L1:=looks_mroIn (M:=model prog w) X L.mo;have hT5:(⟨h,g,d,t,os⟩:Shared).TypeIs (.builtin "object.__class__") "getset_descriptor" :=F.typeOf_object_class;refine codeAny_call_builtin F.slot_gs_get.plain F.entry_gs_get (F.slot_gs_get.check _ _ _ _ _ _ _ _ hT5 (F.args_gs_get _ _ _) ?_)
  repeat (any_goals (first | assumption | with_reducible refine L0.at ?_ | with_reducible refine L1.at ?_ | wp_step))
  rw[show(".".intercalate ("object.__class__".cutAt '.').dropLast) = "object" by decide+kernel];refine L1.at ?_
  repeat (any_goals (first | assumption | with_reducible refine L0.at ?_ | wp_step))
  refine⟨Code.quiet_builtin _ (by decide+kernel),codeAny_builtin KF.entry_class ?_⟩;unfold Builtin.«object.__class__»
  repeat (any_goals (first | assumption | with_reducible refine L0.at ?_ | wp_step))
theorem QW {tk:Tok} {Q:PySem.Fin→Shared→Prop} (X:K.In h) (I:jN x C h) (L:pO K C) (hq:Q (.done (.ret (.ref C))) ⟨h,g,d,t,os⟩) :
    wpAny (model prog w) A (Builtin.«object.__getattribute__» ⟨[.ref x,.str "__class__" tk],[]⟩) Q E ⟨h,g,d,t,os⟩:=by
  have L0:=I.type (M:=model prog w);have L1:=looks_findIn (M:=model prog w) X L.cl;have hT5:(⟨h,g,d,t,os⟩:Shared).TypeIs (.builtin "object.__class__") "getset_descriptor" :=F.typeOf_object_class;have f5:=F.typeOf_object_class;have f6:=F.slot_gs_get.lookup;have f7:=F.slot_gs_set.lookup
  repeat (any_goals (first | assumption | with_reducible refine L0.at ?_ | with_reducible refine L1.at ?_ | wp_step))
  refine Zc X I L ?_
  repeat (any_goals (first | assumption | wp_step))
theorem QX {M:Model} {nameV:Value} {Q:Unit→Shared→Prop} (X:K.In h) (I:jN x C h) (L:pO K C) (hq:Q () ⟨h,g,d,t,os⟩) :
    wpAny M A (checkBuiltinCall "BaseException.__getattribute__" ⟨[.ref x,nameV],[]⟩) Q E ⟨h,g,d,t,os⟩:=by
  have hk:builtinKind "BaseException.__getattribute__" = some .slot:=by decide+kernel
  have hs:splitId "BaseException.__getattribute__" = some ("BaseException", "__getattribute__"):=by decide+kernel
  have L0:=I.type (M:=M);have L1:=looks_mroIn (M:=M) X L.mb;have ha:=F.args_bexc_ga (.ref x) nameV;simp only[checkBuiltinCall,hk,hs];refine wpAny_bind ?_;unfold isInstance
  repeat (first | with_reducible refine L0.at ?_ | with_reducible refine L1.at ?_ | wp_step)
  exact hq
theorem qch {tk:Tok} {fill:Bool} {Q:Value→Shared→Prop} (X:K.In h) (I:jN x C h) (L:pO K C) (hq:Q (.ref C) ⟨h,g,d,t,os⟩) :
    wpAny (model prog w) A (getAttrBy (.ref x) (.str "__class__" tk) fill) Q E ⟨h,g,d,t,os⟩:=by
  have L0:=I.type (M:=model prog w);have L1:=looks_findIn (M:=model prog w) X L.ga;have L2:=looks_findIn (M:=model prog w) X L.gn;have f3:=(F.attrBase_ValueError.ga).bind (.ref x);have hx2:(Value.builtin "BaseException.__getattribute__" == Value.builtin "object.__getattribute__")=false:=by decide+kernel
  have hx1:(onTheHeap (Value.ref C) && Value.builtin "BaseException.__getattribute__" == Value.builtin "object.__getattribute__")=false:=by rw[hx2];rfl
  repeat (any_goals (first | assumption | with_reducible refine L0.at ?_ | with_reducible refine L1.at ?_ | with_reducible refine L2.at ?_ | wp_step))
  refine codeAny_call_builtin F.attrBase_ValueError.ga.plain F.entry_bexc_ga (QX X I L (QW X I L ?_))
  repeat (any_goals (first | assumption | wp_step))
theorem QZ {s:Shared} {Q:Option Value→Shared→Prop} (X:K.In s.heap) (I:jN x C s.heap) (L:pO K C) (hq:Q (some (.ref C)) {s with toks:=s.toks+1}) :
    wpAny (model prog w) A (getAttr? (.ref x) "__class__") Q E s:=by
  obtain⟨h,g,d,t,os⟩:=s;unfold getAttr? getAttrBy?
  repeat (any_goals (first | assumption | with_reducible apply qch X I L | wp_step))
end
theorem Vl {K:W.Frag} {x C:Addr} {cd:ClassData} (hcd:clsIn K C=some cd) (L:pO K C):KitX K (.ref x) (.ref C) (jN x C) where
  ty:=fun M h _ e=>e.type
  it:=fun _ _ X _=>by
    unfold clsIn at hcd;split at hcd
    ·rename_i c' d' cd' sl' ho;intro A' Q' E' s' k q;unfold isType loadHead;exact wpAny_bind (wpAny_loadPart (k _ _ (X _ _ ho)) (wpAny_pure q))
    ·cases hcd
  ne:=fun h tp dd its n sl X htp=>by
    refine Bool.eq_false_iff.mpr fun q=>?_;have e:C=tp:=Value.ref.inj (beq_iff_eq.mp q);subst e;unfold clsIn at hcd;split at hcd
    ·rename_i c' d' cd' sl' ho;have z:=(X _ _ ho).symm.trans htp;cases z
    ·cases hcd
  ca:=fun X e k=>QZ X e L k
end L2
namespace L2
open PySem PySem.Spec PyProof.Rows
def Cx.caught (X:Cx) (a:Addr):Cx:={X with A:=X.A.mark (some (.ref a)),calm:=false,xe:=fun _ _=>False}
def Cx.tried (X:Cx) (pn:List (Addr×Obj)) (xe:Value→Shared→Prop):Cx:={X with pn:=pn,xe:=xe}
section
variable {X:Cx} {p_:List (Addr×Obj)} {σ:St} {H:Hp} {s:Shared}
theorem Inv.caught (I:Inv X p_ σ H s) (a:Addr):Inv (X.caught a) p_ σ H s:=
  ⟨⟨I.ok.mod,I.ok.kind,I.ok.glob,I.ok.blt,I.ok.above,I.ok.inj,I.ok.has,I.ok.cab,fun z=>(nomatch z),I.ok.frames,I.ok.stk,I.ok.Xv,I.ok.bs,I.ok.P0,I.ok.Hw,I.ok.Ez,I.ok.qU,I.ok.RV⟩,I.os,I.bare,I.base,I.loc,I.cell,I.free,I.gq,I.pin,I.hok,I.len⟩
theorem Inv.uncaught {a:Addr} {s':Shared} (I:Inv X p_ σ H s) {σ':St} {H':Hp} (J:Inv (X.caught a) p_ σ' H' s'):Inv X p_ σ' H' s':=
  ⟨I.ok,J.os,J.bare,J.base,J.loc,J.cell,J.free,J.gq,J.pin,J.hok,J.len⟩
theorem Inv.tried (I:Inv X p_ σ H s) (xe:Value→Shared→Prop):Inv (X.tried (X.pn++p_) xe) [] σ H s:=
  ⟨⟨I.ok.mod,I.ok.kind,I.ok.glob,I.ok.blt,I.ok.above,I.ok.inj,I.ok.has,I.ok.cab,I.ok.hd,I.ok.frames,I.ok.stk,I.ok.Xv,I.ok.bs,I.ok.P0,I.ok.Hw,I.ok.Ez,I.ok.qU,I.ok.RV⟩,I.os,I.bare,I.base,I.loc,I.cell,I.free,I.gq,fun p hp=>I.pin p (by rw[List.append_nil] at hp;exact hp),I.hok,I.len⟩
theorem Inv.vd {xe:Value→Shared→Prop} {yQ:List (Addr×Obj)} {s':Shared} (I:Inv X p_ σ H s) {σ':St} {H':Hp} (J:Inv (X.tried (X.pn++p_) xe) yQ σ' H' s'):Inv X p_ σ' H' s':=
  ⟨I.ok,J.os,J.bare,J.base,J.loc,J.cell,J.free,J.gq,fun p hp=>J.pin p (List.mem_append_left _ hp),J.hok,J.len⟩
def Takes (X:Cx) (pn:List (Addr×Obj)) (xe:Value→Shared→Prop) (R:St→Addr→Option Addr→Hp→Prop):Prop:=
  ∀(p_:List (Addr×Obj)) (σ:St) (H:Hp) (s:Shared) (a C:Addr) (od:Option Addr) (T:Addr),Inv (X.tried pn xe) p_ σ H s→Vh X.s₀.heap s.heap H a C od T→(∀p∈pn,p.1≠a∧p.1≠T)→R σ C od H→xe (.ref a) s
def Vm (sp:Sp) (R:St→Addr→Option Addr→Hp→Prop) (t:TA):TE:=fun σ H Q=>t σ H fun vs H1=>K_ sp vs H1 Q ⟨0⟩ (fun v od H'=>∃C,v = .ref C∧R σ C od H')
@[simp ↓] theorem qeM sp R t σ H Q:Vm sp R t σ H Q=t σ H fun vs H1=>K_ sp vs H1 Q ⟨0⟩ (fun v od H'=>∃C,v = .ref C∧R σ C od H'):=rfl
theorem Vn {k:Nat} {f:Addr} {fd:FuncData} {ps:List Str} {sp:Sp} {x:Str} {p pos:Pos} {e:Expr} {es:List Expr} {t:TA} {pn:List (Addr×Obj)} {xe:Value→Shared→Prop} {R:St→Addr→Option Addr→Hp→Prop}
    (hx:Takes X pn xe R) (hex:X.ex=[]) (F:cF X.prog X.w X.K X.mg X.base (Vi X.prog X.w) k f fd ps sp) (hr:h_ k X.A) (hg:Gl X x) (hm:X.mg x=some (.ref f)) (hk:W.keepIn X.K (.ref f)=true) (hb:Binds X.K fd ps [])
    (ha:PA (X.tried pn xe) (e::es) t) (hdb:(x == ("__debug__" : Str))=false:=by decide) (he:starEach (e::es) X.env=(false,eval e X.env)::starEach es X.env:=by rfl) (hpl:(backTo pos (starEach es X.env)).any (·.1)=false:=by rfl) :
    PE (X.tried pn xe) (.Call (.Name x p) (e::es) [] pos) (Vm sp R t):=by
  intro p_ s σ H Q I h;refine wpAny_Call_Name_kw (mU I hg hm ?_ hdb);refine W.callWith_K (h₀:=X.base) I.ok.mod.Ko hk (cB (ha pos p_ s σ H _ I h) fun us s1 zz=>?_) he hpl;obtain⟨vs,H1,I1,r,q⟩:=zz;refine⟨I1.mR,?_⟩;have hl:us.length=ps.length:=by rw[← r.length];exact F.len _ _ _ _ q
  have hbd:=hb s1 us I1.mR (by rw[List.append_nil];exact hl);rw[List.append_nil] at hbd;refine wpAny_call (codeAny_mono (F.run X.A X.stack s1 H1 ⟨us,[]⟩ us vs Q _ hr I1.env0 hbd r q) fun rr s' hq=>?_);cases rr with
  | error e=>
    obtain⟨a,C,od,H',rfl,ho,hgn,un,hok,⟨T,ex⟩,C',e2,hR⟩:=hq;cases e2;have I':Inv (X.tried pn xe) p_ σ H' s':=I1.call' (ch:=[]) ho un hok hgn fun b z=>(nomatch z);have old:∀b,s1.heap.get? b=none→X.s₀.heap.get? b=none:=fun b z=>I1.old hex z;refine hx p_ σ H' s' a C od T I' ⟨old _ ex.new,old _ ex.newT,ex.un,ex.unT,ex.ob⟩ (fun p hp=>?_) hR;have e1:=(I1.pin p (List.mem_append_left _ hp)).1;exact⟨fun z=>(by rw[z,ex.new] at e1;cases e1),fun z=>(by rw[z,ex.newT] at e1;cases e1)⟩
  | ok fl=>
    cases fl with
    | ret u=>exact I1.after hq
    | next=>exact False.elim hq
    | brk=>exact False.elim hq
    | cont=>exact False.elim hq
def uE (x C:Addr) (od:Option Addr) (h:Heap):Prop:=∃ox vs,h.get? x=some ox∧(ox.cls,ox.dict)=(Value.ref C,od)∧ox.data = .fields vs∧vs[2]? = some .none
theorem uE.at {x C:Addr} {od:Option Addr} {h:Heap} (e:uE x C od h):jN x C h:=by
  obtain⟨ox,vs,h1,h2,h3,h4⟩:=e;exact⟨ox,vs,h1,congrArg Prod.fst h2,h3,h4⟩
def vf (a C:Addr) (od:Option Addr):HO:=.ext fun h=>uE a C od h
def Ow (K:W.Frag) (C:Addr):Prop:=∀h,K.In h→∃bm N nm q bs hdct sn sub ab col dd k0 k1 k2 k3 k5,h.get? C=some (excClassObj nm q C N bs bm hdct sn sub ab col dd k0 k1 k2 k3 k5 "ValueError.__new__")∧∀v b,W.mroIn K C v=some b→(Value.ref C::bm).contains v=b
theorem Inv.track {a C:Addr} {od:Option Addr} (I:Inv X p_ σ H s) (hex:X.ex=[]) (new:X.s₀.heap.get? a=none) (un:H a=none) (e:uE a C od s.heap) (hp:∀p∈X.pn++p_,p.1≠a):Inv X p_ σ (upd H a (vf a C od)) s:=by
  have nf:∀{b o},s.heap.get? b=some o→(∀vs,o.data≠.fields vs)→b≠a:=fun {b o} eb hd z=>by
    subst z;obtain⟨ox,vs,h1,_,h3,_⟩:=e;rw[eb] at h1;cases h1;exact hd vs h3
  have RB:∀b:Addr,b∉X.ex:=fun b=>by rw[hex];simp
  have old:∀{b o},X.s₀.heap.get? b=some o→b≠a:=fun {b o} eb z=>by
    rw[z,new] at eb;cases eb
  have ne:∀{b:Addr} {u:HO},H b=some u→b≠a:=fun {b u} q z=>by
    rw[z,un] at q;cases q
  refine⟨I.ok,I.os,I.bare,⟨fun b o eb n hb hx=>I.base.keep b o eb n hb hx,I.base.slot,fun b o eb n hx=>?_,I.base.there,fun b xs q=>?_,fun b o u q=>?_,fun b ps q=>?_⟩,I.loc,I.cell,?_,fun x c q=>?_,fun p hpp=>?_,fun b u q=>?_,I.len⟩
  ·rw[aB (old eb)];exact I.base.free b o eb n hx
  ·have z:=I.base.tups b xs q;rw[aB (ne z)];exact z
  ·have z:=I.base.oU b o u q;rw[aB (ne z)];exact z
  ·obtain⟨m,z⟩:=I.base.pF b ps q;exact⟨m,by rw[aB (ne z)];exact z⟩
  ·obtain⟨m,⟨o,es,ep,eo,d,r⟩,_⟩:=I.loc;rw[aB (nf eo fun vs y=>by rw[d] at y;cases y)];exact I.free
  ·obtain⟨v,o,eo,d⟩:=I.cell x c q;rw[aB (nf eo fun vs y=>by rw[d] at y;cases y)];exact I.gq x c q
  ·obtain⟨f1,f2,f3⟩:=I.pin p hpp;refine⟨f1,?_,f3⟩;rw[aB (hp p hpp)];exact f2
  · by_cases hb:b=a
    ·subst hb;rw[ao] at q;cases q;obtain⟨ox,vs,h1,h2,h3,_⟩:=id e;exact⟨e,⟨ox,h1⟩,fun h1 h2 ⟨ox,vs,a1,a2,a3⟩ k=>⟨ox,vs,k _ a1,a2,a3⟩⟩
    · rw[aB hb] at q;refine(I.hok b u q).stay (fun c v _ z=>z) (fun c z=>?_) fun c xs z=>?_
      ·rw[aB (ne z)];exact z
      ·rw[aB (ne z)];exact z
theorem Q0 {M:Model} {A:Around} {E:Value→Shared→Prop} {i:Nat} {n:Str} {v:V} {Q:Unit→Shared→Prop} (I:Inv X p_ σ H s) (hN:X.N.Nodup) (hi:X.N[i]? = some n) (hl:X.env.scope.names.lookup n=some .local) (hv:σ[i]? = some (some v))
    (h:∀s',Inv X p_ (σ.set i none) H s'→Q () s'):wpAny M A (unbindName X.env n) Q E s:=by
  obtain⟨m,hn,q⟩:=id I.loc;obtain⟨u,rv,l⟩:=q i n v hi hv (.inl hl);have hm:m n=some u:=by
    rcases l with⟨_,l⟩ | ⟨k,c,_⟩
    ·exact l
    · rcases k with k | k
      ·have:X.env.kindOf n=some .local:=hl;rw[k] at this;cases this
      ·have:X.env.kindOf n=some .local:=hl;rw[k] at this;cases this
  have hcls:(X.env.scope.kind == .class || (X.env.scope.kind == .module && X.env.locals != X.env.globals))=false:=by rw[I.ok.kind];rfl
  have hiσ:i<σ.length:=by rw[I.len];exact(List.getElem?_eq_some_iff.mp hi).1
  refine wpAny_unbindName_local hl hn hm hcls fun h' u' hn' hs=>?_;obtain⟨oL,_,_,hoL,_⟩:=id hn;have loc:∀b o,X.s₀.heap.get? b=some o→b≠X.env.locals:=fun b o e=>Nat.ne_of_lt (Nat.lt_of_lt_of_le (Heap.lt_size e) I.ok.above);refine h _ ⟨I.ok,I.os,I.bare,⟨fun b o e n hb hx=>?_,fun b o e n hb hx=>?_,I.base.free,fun b o e hx=>?_,I.base.tups,I.base.oU,I.base.pF⟩,⟨_,hn',fun j y v' e1 e2 e3=>?_⟩,fun y c e=>?_,I.free,I.gq,fun p hp=>?_,fun b ob e=>?_,by simpa using I.len⟩
  ·exact(hs.2 b (loc b o e)).trans (I.base.keep b o e n hb hx)
  ·obtain⟨sl,z⟩:=I.base.slot b o e n hb hx;exact⟨sl,(hs.2 b (loc b o e)).trans z⟩
  ·obtain⟨o',z⟩:=I.base.there b o e hx;exact⟨o',(hs.2 b (loc b o e)).trans z⟩
  · have hj:j≠i:=fun z=>by
      subst z;rw[List.getElem?_set_self hiσ] at e2;cases e2
    rw[List.getElem?_set_ne (Ne.symm hj)] at e2;obtain⟨u2,r2,l2⟩:=q j y v' e1 e2 e3;refine⟨u2,r2,?_⟩
    rcases l2 with⟨k,e⟩ | ⟨k,c,e,z⟩
    ·have:y≠n:=fun e=>hj (yR hN e1 (e▸hi));exact .inl ⟨k,by simp[this,e]⟩
    ·exact .inr ⟨k,c,e,z.sameBut hs (I.RW y c e)⟩
  ·obtain⟨w',z⟩:=I.cell y c e;exact⟨w',z.sameBut hs (I.RW y c e)⟩
  ·obtain⟨e,n,ne,nf,d⟩:=I.pin p hp;exact⟨(hs.2 p.1 ne).trans e,n,ne,nf,d⟩
  · have no:∀{c:Addr} {u:HO},H c=some u→c≠X.env.locals:=fun {c u} q z=>by
      rw[z,I.free] at q;cases q
    refine(I.hok b ob e).stay (fun c w' hc q=>(hs.2 c ?_).trans q) (fun _ q=>q) fun _ _ q=>q
    rcases hc with rfl | hc
    ·exact no e
    ·exact no hc
end
section
variable {M:Model} {A:Around} {E:Value→Shared→Prop} {h:Heap} {g:Array GenState} {d:Drawn} {t:Nat} {os:OsState}
variable {nm q:Str} {C N:Addr} {bs bm:List Value} {hdct:Bool} {sn:List Str} {sub:List Value} {ab:Bool} {col:Option Bool} {dd:Option Addr} {k0 k1 k2 k3 k5:Option Value} {newId:String}
variable {nm' q':Str} {D N':Addr} {bs' bm':List Value} {qav:Bool} {sn':List Str} {sub':List Value} {ab':Bool} {col':Option Bool} {Xk:Option Addr} {j0 j1 j2 j3 j5:Option Value} {newId':String}
theorem Q5 {e:Addr} {oe:Obj} {Q:Bool→Shared→Prop} (hC:h.get? C=some (excClassObj nm q C N bs bm hdct sn sub ab col dd k0 k1 k2 k3 k5 newId))
    (hD:h.get? D=some (excClassObj nm' q' D N' bs' bm' qav sn' sub' ab' col' Xk j0 j1 j2 j3 j5 newId')) (he:h.get? e=some oe) (hcls:oe.cls = .ref C) (hbase:bm'.contains (.type "BaseException")=true) (hin:bm.contains (.ref D)=true)
    (hq:Q true ⟨h,g,d,t,os⟩):wpAny M A (excMatches (.ref e) (.ref D)) Q E ⟨h,g,d,t,os⟩:=by
  have hDB:(Value.ref D::bm').contains (.type "BaseException")=true:=by rw[List.contains_cons,hbase,Bool.or_true]
  have hCD:(Value.ref C::bm).contains (.ref D)=true:=by rw[List.contains_cons,hin,Bool.or_true]
  have f:=tc_notTuple;unfold excMatches
  repeat (first | (with_reducible refine wpAny_loadPart_at he ?_;rw[hcls]) | with_reducible refine wpAny_loadPart_at hD ?_ | (with_reducible refine wpAny_isSubtype_exc hD ?_;rw[hDB]) | (with_reducible refine wpAny_isSubtype_exc hC ?_;rw[hCD]) | wp_step)
  exact hq
end
def Vo (i:Nat) (K:W.Frag) (D:Addr) (ts:Addr→TS) (Dn:Ends):St→Addr→Option Addr→Hp→Prop:=fun σ1 C od H1=>(Ow K C∧W.mroIn K C (.ref D)=some true∧C≠D)∧∀a,H1 a=none→
    ts a {nx:=fun σ2 H2=>Dn.nx (σ2.set i none) H2,rt:=Dn.rt,bk:=fun σ2 H2=>Dn.bk (σ2.set i none) H2,ct:=fun σ2 H2=>Dn.ct (σ2.set i none) H2} (σ1.set i (some (.ref a))) (upd H1 a (vf a C od))
def qeN (i:Nat) (K:W.Frag) (D:Addr) (ts:Addr→TS) (tb:(St→Addr→Option Addr→Hp→Prop)→TS):TS:=fun Dn σ H=>tb (Vo i K D ts Dn) Dn σ H
section
variable {X:Cx} {body suite:List Stmt} {b₀:Stmt} {i:Nat} {n cls:Str} {np hpos pos:Pos} {D:Addr} {ts:Addr→TS} {tb:(St→Addr→Option Addr→Hp→Prop)→TS}
theorem qci (hst:X.stack=X.env::X.outer) (hfr:X.env.frame=some X.env.locals) (hex:X.ex=[]) (hN:X.N.Nodup) (hi:X.N[i]? = some n) (hl:X.env.scope.names.lookup n=some .local)
    (hb:∀R pn xe,Takes X pn xe R→Dg (X.tried pn xe) body (tb R)) (hg:Gl X cls) (hm:X.mg cls=some (.ref D)) (clD:wY X.K D) (hsu:∀a,Dg (X.caught a) (b₀::suite) (ts a))
    (hdb:(cls == ("__debug__" : Str))=false:=by decide) :
    PS X (.Try body [.ExceptHandler (some (.Name cls np)) (some n) (b₀::suite) hpos] [] [] pos) (qeN i X.K D ts tb):=by
  intro p_ s σ H Dn I h;have hiσ:∀{σ':St} {H':Hp} {s':Shared},Inv X p_ σ' H' s'→i<σ'.length:=fun J=>by rw[J.len];exact(List.getElem?_eq_some_iff.mp hi).1
  refine wpAny_Try_except (wpAny_mono (hb (Vo i X.K D ts Dn) (X.pn++p_) (fun e s1=>∃a C od T σ1 H1,e = .ref a∧Inv X p_ σ1 H1 s1∧Vh X.s₀.heap s1.heap H1 a C od T∧(∀p∈X.pn++p_,p.1≠a∧p.1≠T)∧Vo i X.K D ts Dn σ1 C od H1) ?_ [] s σ H Dn (I.tried _) h) (fun f s1 hf=>?_) fun e s1 hx=>?_)
  ·intro yQ σ1 H1 s1 a C od T J ex hp hR;exact⟨a,C,od,T,σ1,H1,rfl,I.vd J,ex,hp,hR⟩
  · cases f with
    | next=>obtain⟨σ',H',J,q⟩:=hf;exact wpAny_execs_nil ⟨σ',H',I.vd J,q⟩
    | brk=>obtain⟨σ',H',J,q⟩:=hf;exact⟨σ',H',I.vd J,q⟩
    | cont=>obtain⟨σ',H',J,q⟩:=hf;exact⟨σ',H',I.vd J,q⟩
    | ret u=>obtain⟨v,σ',H',J,r,q⟩:=hf;exact⟨v,σ',H',I.vd J,r,q⟩
  · obtain⟨a,C,od,T,σ1,H1,rfl,J,ex,hp,⟨clC,hCD,hne⟩,hR⟩:=hx;obtain⟨new,newT,un,unT,oe,vs,oT,tts,t1,t2,t3,t4,t5,t6,t7,t8,t9⟩:=ex;have fr:=J.ok.frames;rw[hst] at fr;have st0:(W.hideAll s1.heap (frs X.stack++[a,T])).StaysIn s1.heap:=fun b o e=>W.of_hideAll _ e;have na:(W.hideAll s1.heap (frs X.stack++[a,T])).get? a=none:=W.hideAll_none _ (by simp);have ff:s1.heap.FunFrames (W.hideAll s1.heap (frs X.stack++[a,T])) (X.env::X.outer):=by
      rw[← hst];exact W.funFrames_hide J.stack fun env he b hb=>List.mem_append_left _ (List.mem_filterMap.mpr ⟨env,he,hb⟩)
    have tr0:Trc (W.hideAll s1.heap (frs X.stack++[a,T])) s1.heap a (.ref C,od) .none T:=⟨oe,vs,oT,tts,t1,t2,t3,t4,t5,W.hideAll_none _ (by simp),t6,t7,t8,t9⟩;have gone:∀(h':Heap),(W.hideAll s1.heap (frs X.stack++[a,T])).StaysIn h'→s1.heap.UpToSlots h'→Inv X p_ σ1 H1 {s1 with heap:=h'}:=fun h' k1 k2=>by
      refine J.gone (t':=s1.toks) (ch:=[a,T]) hex (fun b hb=>?_) (fun b o hf hc e=>k1 b o (W.hideAll_get _ e (by rw[List.mem_append];exact fun z=>z.elim hf hc))) fun b o e hd=>k2 b o e hd;simp only[List.mem_cons,List.not_mem_nil,or_false] at hb
      rcases hb with rfl | rfl
      ·exact⟨new,un,fun _ _ _ _=>trivial,⟨oe,vs,t1,t3⟩,fun p q=>(hp p q).1⟩
      ·exact⟨newT,unT,fun _ _ _ _=>trivial,⟨oT,tts,t7,t8⟩,fun p q=>(hp p q).2⟩
    refine Ec fr ff hfr tr0 st0 na fun h4 x4=>?_;obtain⟨T4,tr4⟩:=x4.trc;refine zR (s:={s1 with heap:=h4}) x4.frames tr4 x4.stays fun h5 x5=>?_;obtain⟨T5,tr5⟩:=x5.trc;have J5:=gone h5 x5.stays (x4.slots.trans x5.slots);refine wpAny_handleBy_cons (codeAny_handlers_test (mU (J5.caught a) hg hm ?_ hdb)) (by intro q;cases q);obtain⟨oe5,vs5,oT5,ts5,u1,u2,u3,_⟩:=id tr5;obtain⟨bm,N,nm,q,bs,hdct,sn,sub,ab,col,dd,k0,k1,k2,k3,k5,hC,hmro⟩:=clC _ J5.mR;obtain⟨bm',N',nm',q',bs',qav,sn',sub',ab',col',Xk,j0,j1,j2,j3,j5,mN',hD,qmP,qmQ,T0',_⟩:=Ov J5.mR clD;have hin:bm.contains (.ref D)=true:=by
      have z:=hmro _ _ hCD;rw[List.contains_cons] at z
      rcases Bool.or_eq_true_iff.mp z with z | z
      ·exact absurd (Value.ref.inj (beq_iff_eq.mp z)).symm hne
      ·exact z
    refine Q5 hC hD u1 (congrArg Prod.fst u2) (T0'.hasType (by decide)) hin ?_;refine codeAny_handlers_suite_as ?_;refine zR (s:={s1 with heap:=h5}) x5.frames tr5 x5.stays fun h6 x6=>?_;have J6:=gone h6 x6.stays ((x4.slots.trans x5.slots).trans x6.slots);obtain⟨T6,oe6,vs6,oT6,ts6,v1,v2,v3,v4,_⟩:=x6.trc;have J7:=J6.track hex new un ⟨oe6,vs6,v1,v2,v3,v4⟩ fun p q=>(hp p q).1;refine rZ J7 hN hi (.inl hl) (v:=.ref a) rfl (fun s8 J8 _=>?_) (.inr hl);refine wpAny_mono (hsu a p_ s8 _ _ _ (J8.caught a) (hR a un)) (fun f s9 hf=>?_) fun _ _ z=>False.elim z;show wpAny (model X.prog X.w) X.A (do bindName X.env n .none;unbindBehindTheSuite X.env n hpos) (fun _ s₃=>SP X p_ Dn f s₃) X.xe s9
    have go:∀{σ':St} {H':Hp} (Q':Shared→Prop),Inv X p_ σ' H' s9→(∀s',Inv X p_ (σ'.set i none) H' s'→Q' s')→wpAny (model X.prog X.w) X.A (do bindName X.env n .none;unbindBehindTheSuite X.env n hpos) (fun _ s₃=>Q' s₃) X.xe s9:=fun {σ' H'} Q' J9 hq=>by
      refine wpAny_bind ?_;unfold bindName;refine wpAny_bind (wpAny_holding (wpAny_point (wpAny_bind (rZ J9 hN hi (.inl hl) (v:=.non) rfl (fun s10 J10 _=>wpAny_point ?_) (.inr hl)))));unfold unbindBehindTheSuite;refine wpAny_onRaise (Q0 (v:=.non) J10 hN hi hl (List.getElem?_set_self (hiσ J9)) fun s11 J11=>?_);rw[List.set_set] at J11;exact hq s11 J11
    cases f with
    | next=>obtain⟨σ',H',J9,q⟩:=hf;exact go _ (I.uncaught J9) fun s' J'=>⟨_,H',J',q⟩
    | brk=>obtain⟨σ',H',J9,q⟩:=hf;exact go _ (I.uncaught J9) fun s' J'=>⟨_,H',J',q⟩
    | cont=>obtain⟨σ',H',J9,q⟩:=hf;exact go _ (I.uncaught J9) fun s' J'=>⟨_,H',J',q⟩
    | ret u=>obtain⟨v,σ',H',J9,r,q⟩:=hf;exact go _ (I.uncaught J9) fun s' J'=>⟨v,_,H',J',r,q⟩
end
theorem wZ:entryFor table "proto.unchain" = some Builtin.«proto.unchain»:=entryFor_of_tree (by kernel_rfl)
def w5 (a:Addr) (h:Heap):Prop:=∃oa us,h.get? a=some oa∧oa.data = .fields us∧us[2]? = some .none
theorem w5.to {a:Addr} {h h':Heap} (x:w5 a h) (k:∀o,h.get? a=some o→h'.get? a=some o):w5 a h':=by
  obtain⟨oa,us,e,d,u⟩:=x;exact⟨oa,us,k _ e,d,u⟩
section
variable {prog:Program} {w:World} {A:Around} {E:Value→Shared→Prop} {s:Shared} {a:Addr}
theorem Zd {α:Type} {e:Addr} {ox:Obj} {vs:Array Value} {Q:α→Shared→Prop} (hh:A.handled=some (.ref a)) (la:w5 a s.heap)
    (ex:s.heap.get? e=some ox) (dx:ox.data = .fields vs) (sz:2<vs.size) (ne:e≠a) (hE:∀h',Heap.SameBut e s.heap h'→(∃o',h'.get? e=some o'∧o'.cls=ox.cls)→E (.ref e) {s with heap:=h'}) :
    wpAny (model prog w) A (raiseNew (.ref e):Sem α) Q E s:=by
  obtain⟨oa,us,ha,da,ua⟩:=la;unfold raiseNew;refine wpAny_bind (wpAny_handled ?_);rw[hh];dsimp only;rw[if_pos (by simpa using Ne.symm ne)];refine wpAny_bind (wpAny_holding (wpAny_runValue (codeAny_builtin wZ ?_)));unfold Builtin.«proto.unchain»;refine wpAny_bind (wpAny_field ha da ua ?_);rw[if_pos (by rfl)];refine wpAny_bind (wpAny_pure (wpAny_pure ?_));show wpAny (model prog w) A (do updateField e 2 (.ref a);throw (.ref e)) Q E s
  refine wpAny_bind ?_;unfold updateField;refine wpAny_bind (wpAny_load ex ?_);rw[dx];dsimp only;rw[if_pos sz];refine wpAny_update ex ?_;refine wpAny_throw (hE _ (Heap.SameBut.update ..) ⟨_,Heap.get?_update_self _ ex (Obj.isFreed_of_fields (Obj.data_mapFields dx _)),?_⟩);obtain⟨c,d,dt,sl⟩:=ox;cases dt <;> rfl
theorem Lz {α:Type} {Q:α→Shared→Prop} (hh:A.handled=some (.ref a)) (la:w5 a s.heap)
    (hE:∀h' e,(∀b o,s.heap.get? b=some o→h'.get? b=some o)→(∃o,h'.get? e=some o∧o.cls = .type "StopIteration")→E (.ref e) {s with heap:=h'}) :
    wpAny (model prog w) A (newExc (.type "StopIteration") [] >>= fun e=>(raiseNew e:Sem α)) Q E s:=by
  refine wpAny_bind ?_;unfold newExc newTuple;refine wpAny_bind (wpAny_newObj_type ?_ (by size_fits));refine wpAny_bind (m:=firstArgMember _ _) (wpAny_of_eq (a:=Value.none) (by first | rfl | (unfold firstArgMember;rfl)) ?_)
  refine wpAny_newObj_type ?_ (by size_fits);have lt:∀{b:Addr} {o:Obj} (o1:Obj),s.heap.get? b=some o→(s.heap.push o1).objs.size≠b:=fun {b o} o1 z=>by
    have q:=Heap.lt_size z;rw[Heap.size_push];exact Nat.ne_of_gt (Nat.lt_succ_of_lt q)
  have kk:∀(o1 o2:Obj) {b:Addr} {o:Obj},s.heap.get? b=some o→((s.heap.push o1).push o2).get? b=some o:=fun o1 o2 {b o} z=>Heap.get?_push_of_some _ (Heap.get?_push_of_some _ z);obtain⟨oa,us,ha,da,ua⟩:=la;refine Zd hh ⟨oa,us,kk _ _ ha,da,ua⟩ (Heap.get?_push_size _ rfl) rfl (Nat.lt_of_lt_of_le (by decide) (Nat.le_trans (Nat.le_refl 6) ?_)) (lt _ ha) fun h' sb eo=>hE h' _ (fun b o z=>(sb.2 b (Ne.symm (lt _ z))).trans (kk _ _ z)) eo;simp
theorem Jf {it l:Addr} {items:Array Value} {i:Nat} {Q:Value→Shared→Prop} (hh:A.handled=some (.ref a)) (la:w5 a s.heap) (nit:a≠it)
    (hit:s.heap.IsListIter it l i) (hl:s.heap.IsList l items) (hx:items[i]? = none) (hE:∀h' e,Heap.ExtBut it s.heap h'→(∃o,h'.get? e=some o∧o.cls = .type "StopIteration")→E (.ref e) {s with heap:=h'}) :
    wpAny (model prog w) A (Builtin.SmallTypes.nextOf (.ref it)) Q E s:=by
  obtain⟨oi,ei,ci,di⟩:=id hit;obtain⟨ol,el,_,nl,dl⟩:=hl;unfold Builtin.SmallTypes.nextOf;refine wpAny_bind (wpAny_callSpecial?_slot (name:=Str.ofString "__next__") hit.typeIs slot_listiter_next (wpAny_call_entry slot_listiter_next hit.typeIs entry_listiter_next ?_ (args_listiter_next _)));show wpAny (model prog w) _ (field (.ref it) 0 >>= _) _ _ s;refine wpAny_bind (wpAny_field ei di (x:=.ref l) rfl ?_);show wpAny (model prog w) _ (if (Value.ref l == Value.none)=true then _ else _) _ _ s
  rw[if_neg (fun z=>by cases z)];show wpAny (model prog w) _ (field (.ref it) 1 >>= _) _ _ s;refine wpAny_bind (wpAny_field ei di (x:=.int i 0) rfl ?_);show wpAny (model prog w) _ (seqItems? (.ref l) >>= _) _ _ s;refine wpAny_bind (wpAny_seqItems el dl ?_);simp only[Int.toNat_natCast,hx];refine wpAny_bind (wpAny_rule (wpAny_bind (wpAny_setField ei di (by simp) ?_)));have eb:=(Heap.SameBut.update s.heap it (Obj.mapFields (·.setIfInBounds 0 Value.none))).extBut;exact Lz (A:=A.in1) hh (la.to fun o z=>eb _ _ nit z) fun h' e k eo=>hE h' e (fun b o nb z=>k _ _ (eb b o nb z)) eo
theorem Vp {it t:Addr} {i:Nat} {items} {Q:Option Value→Shared→Prop} (hh:A.handled=some (.ref a)) (la:w5 a s.heap) (nit:a≠it)
    (hit:IsTupIter s.heap it t i) (ht:IsTup s.heap t items) (hx:items[i]? = none)
    (hQ:∀h',Heap.ExtBut it s.heap h'→Q none {s with heap:=h'}):wpAny (model prog w) A (pyNext (.ref it)) Q E s:=by
  obtain⟨oi,ei,ci,di⟩:=id hit;obtain⟨ol,el,_,nl,dl⟩:=ht;unfold pyNext;refine wpAny_bind (wpAny_attempt (wpAny_callSpecial?_slot (name:=Str.ofString "__next__") hit.typeIs slot_tupleiter_next (wpAny_call_entry slot_tupleiter_next hit.typeIs entry_tupleiter_next ?_ (args_tupleiter_next _))));show wpAny (model prog w) _ (field (.ref it) 0 >>= _) _ _ s;refine wpAny_bind (wpAny_field ei di (x:=.ref t) rfl ?_);show wpAny (model prog w) _ (if (Value.ref t == Value.none)=true then _ else _) _ _ s
  rw[if_neg (fun z=>by cases z)];show wpAny (model prog w) _ (field (.ref it) 1 >>= _) _ _ s;refine wpAny_bind (wpAny_field ei di (x:=.int i 0) rfl ?_);show wpAny (model prog w) _ (seqItems? (.ref t) >>= _) _ _ s;refine wpAny_bind (wpAny_seqItems el dl ?_);simp only[Int.toNat_natCast,hx];refine wpAny_bind (wpAny_rule (wpAny_bind (wpAny_setField ei di (by simp) ?_)));have eb:=(Heap.SameBut.update s.heap it (Obj.mapFields (·.setIfInBounds 0 Value.none))).extBut;refine Lz (A:=A.in1) hh (la.to fun o z=>eb _ _ nit z) fun h' e k eo=>?_;obtain⟨o,eo,co⟩:=eo;refine wpAny_bind (wpAny_isInstance (b:=true) ⟨o,eo,co⟩ isSubtype_stop (wpAny_pure ?_));exact hQ _ fun b o nb z=>k _ _ (eb b o nb z)
theorem Vq {env:Env} {es:List Expr} {k1} {pos:Pos} {t:Addr} {items:Array Value} {Q:Unit→Shared→Prop} (hh:A.handled=some (.ref a)) (la:w5 a s.heap) (ht:IsTup s.heap t items)
    (hn:(assignEach es env).length=items.size) (hst:(assignEach es env).findIdx? (·.1)=none)
    (h:∀h',Heap.ExtBut s.heap.objs.size s.heap h'→wpAny (model prog w) A (assignInOrder ((assignEach es env).map (·.2)) items.toList) Q E {s with heap:=h'}) :
    wpAny (model prog w) A (assign (.Tuple es k1 pos) env (.ref t)) Q E s:=by
  rw[PyProof.Rows.assign_Tuple];refine wpAny_bind (wpAny_standAt ?_);unfold unpack;rw[hn,hst];refine wpAny_bind (wpAny_holding ?_);obtain⟨oa,us,ha,da,ua⟩:=id la;have tl:t≠s.heap.objs.size:=by
    obtain⟨o,z,_⟩:=ht;exact Nat.ne_of_lt (Heap.lt_size z)
  have al:a≠s.heap.objs.size:=Nat.ne_of_lt (Heap.lt_size ha);unfold unpackItems notIterableAtAll;refine wpAny_bind (wpAny_bind (wpAny_specialOf ht.typeIs slot_tuple_iter.lookup (wpAny_pure ?_)));simp only[Bool.false_eq_true,if_false];refine wpAny_bind (wpAny_holding (iter_tuple ht ?_));refine wpAny_bind (wpAny_holding (draw_tuple tl items.size 0 _ _ ⟨_,Heap.get?_push_size _ rfl,rfl,rfl⟩ (ht.push _) (by omega) fun h1 it1 sb1=>?_));have all:(items.toList.drop 0).take items.size=items.toList:=by
    rw[List.drop_zero];exact List.take_of_length_le (by simp)
  rw[all,if_neg (by simp)];refine wpAny_bind (wpAny_holding (Vp hh (la.to fun o z=>sb1.extBut a o al (Heap.get?_push_of_some _ z)) al it1 ((ht.push _).extBut sb1.extBut tl) (by simp) fun h2 eb2=>?_));simp only[Option.isSome_none,Bool.false_eq_true,if_false];exact wpAny_pure (h h2 fun b o hb z=>eb2 b o hb (sb1.extBut b o hb (Heap.get?_push_of_some _ z)))
theorem Vr {z TI TO i1 i2 l1 l2:Addr} {k1 k2:Nat} {xs ys:Array Value} {p q:Value} {Q:Option Value→Shared→Prop} (hh:A.handled=some (.ref a)) (la:w5 a s.heap) (D:ZipApart z TI TO i1 i2 l1 l2)
    (nz:a≠z) (nTO:a≠TO) (n1:a≠i1) (n2:a≠i2) (hz:IsZip s.heap z TI TO .none) (hTI:IsPair s.heap TI (.ref i1) (.ref i2)) (hTO:IsPair s.heap TO p q)
    (h1:s.heap.IsListIter i1 l1 k1) (h2:s.heap.IsListIter i2 l2 k2) (hl1:s.heap.IsList l1 xs) (hl2:s.heap.IsList l2 ys) (hend:xs[k1]? = none∨ys[k2]? = none)
    (hQ:∀h',(∀c o,c≠z→c≠TO→c≠i1→c≠i2→s.heap.get? c=some o→h'.get? c=some o)→Q none {s with heap:=h'}):wpAny (model prog w) A (pyNext (.ref z)) Q E s:=by
  have hT:s.TypeIs (.ref z) "zip" :=⟨_,hz,rfl⟩;unfold pyNext;refine wpAny_bind (wpAny_attempt (wpAny_callSpecial?_slot (name:=Str.ofString "__next__") hT F.slot_zip_next (wpAny_call_entry F.slot_zip_next hT F.entry_zip_next ?_ (F.args_zip_next_1 _))));show wpAny (model prog w) _ (field (.ref z) 2 >>= _) _ _ _;refine wpAny_bind (wpAny_field hz rfl (x:=.bool false) rfl ?_);show wpAny (model prog w) _ (field (.ref z) 3 >>= _) _ _ _;refine wpAny_bind (wpAny_field hz rfl (x:=.ref TI) rfl (wpAny_bind (wpAny_seqItems hTI rfl ?_)));show wpAny (model prog w) _ (Builtin.SmallTypes.ownedTupleIsFree (.ref z) >>= _) _ _ _;refine wpAny_bind ?_;unfold Builtin.SmallTypes.ownedTupleIsFree;refine wpAny_bind (wpAny_field hz rfl (x:=.none) rfl (wpAny_pure ?_));simp only[if_true];refine wpAny_bind (wpAny_rule (wpAny_bind (wpAny_field hz rfl (x:=.ref TO) rfl (wpAny_bind (wpAny_setField_rec hz (by simp) fun g1 z1 s1=>?_)))));replace z1:IsZip g1 z TI TO .ellipsis:=z1;have b1:=s1.extBut;refine wpAny_bind ?_;simp only[List.zipIdx_cons,List.zipIdx_nil,List.forIn_cons,List.forIn_nil];refine wpAny_bind (wpAny_bind (wpAny_onRaise ?_));show wpAny (model prog w) _ (Builtin.SmallTypes.nextOf (.ref i1) >>= _) _ _ _;cases hx:xs[k1]? with
  | none=>
    refine wpAny_bind (Jf (A:=A.in1) hh (la.to fun o y=>b1 a o nz y) n1 (h1.extBut b1 D.i1z) (hl1.extBut b1 D.l1z) hx fun g2 e b2 eo=>?_);obtain⟨oe,eo,co⟩:=eo;have z2:IsZip g2 z TI TO .ellipsis:=b2 _ _ D.i1z.symm z1;have ez:e≠z:=fun y=>by
      subst y;rw[z2] at eo;cases eo;simp at co
    refine wpAny_setField_rec z2 (by simp) fun g3 _ s3=>wpAny_bind (wpAny_isInstance (b:=true) ⟨oe,s3.extBut _ _ ez eo,co⟩ isSubtype_stop (wpAny_pure ?_));exact hQ g3 fun c o c1 _ c3 _ y=>s3.extBut _ _ c1 (b2 _ _ c3 (b1 _ _ c1 y))
  | some x=>
    have hy:ys[k2]? = none:=hend.resolve_left fun y=>by rw[hx] at y;cases y
    refine wpAny_bind (wpAny_nextOf_list_item (h1.extBut b1 D.i1z) (hl1.extBut b1 D.l1z) hx fun g2 it2 s2=>wpAny_pure ?_);have b2:=s2.extBut;have to2:IsPair g2 TO p q:=b2 _ _ D.TOi1 (b1 _ _ D.TOz hTO);refine wpAny_bind (wpAny_seqItems to2 rfl (wpAny_bind (wpAny_updateSeq_pair to2 fun g3 to3 s3=>?_)));have b3:=s3.extBut;refine wpAny_bind (wpAny_letGo (wpAny_pure (wpAny_bind (wpAny_bind (wpAny_onRaise ?_)))));show wpAny (model prog w) _ (Builtin.SmallTypes.nextOf (.ref i2) >>= _) _ _ _;refine wpAny_bind (Jf (A:=A.in1) hh (la.to fun o y=>b3 a o nTO (b2 a o n1 (b1 a o nz y))) n2 (((h2.extBut b1 D.i2z).extBut b2 D.i12.symm).extBut b3 D.TOi2.symm) (((hl2.extBut b1 D.l2z).extBut b2 D.l2i1).extBut b3 D.l2TO) hy fun g4 e b4 eo=>?_);obtain⟨oe,eo,co⟩:=eo;have z4:IsZip g4 z TI TO .ellipsis:=b4 _ _ D.i2z.symm (b3 _ _ D.TOz.symm (b2 _ _ D.i1z.symm z1));have ez:e≠z:=fun y=>by
      subst y;rw[z4] at eo;cases eo;simp at co
    refine wpAny_setField_rec z4 (by simp) fun g5 _ s5=>wpAny_bind (wpAny_isInstance (b:=true) ⟨oe,s5.extBut _ _ ez eo,co⟩ isSubtype_stop (wpAny_pure ?_));exact hQ g5 fun c o c1 c2 c3 c4 y=>s5.extBut _ _ c1 (b4 _ _ c4 (b3 _ _ c2 (b2 _ _ c3 (b1 _ _ c1 y))))
end
section
variable {X:Cx} {p_:List (Addr×Obj)} {σ:St} {H:Hp} {s:Shared} {a:Addr}
def LC (H:Hp) (a:Addr):Prop:=∃C od,H a=some (vf a C od)
theorem Inv.lone (I:Inv X p_ σ H s) (e:LC H a):w5 a s.heap:=by
  obtain⟨C,od,e⟩:=e;obtain⟨⟨ox,vs,h1,h2,h3,h4⟩,_⟩:=I.hok a _ e;exact⟨ox,vs,h1,h3,h4⟩
theorem LC.ne {b:Addr} (e:LC H a) (h:H b=none):a≠b:=fun z=>by
  obtain⟨C,od,e⟩:=e;rw[z,h] at e;cases e
def qaw (a:Addr) (K:W.Frag) (n:Nat) (t:Di):TG:=fun v σ H Q=>LC H a∧YJ K n t v σ H Q
@[simp ↓] theorem qi2 a K n t v σ H Q:qaw a K n t v σ H Q=(LC H a∧YJ K n t v σ H Q):=rfl
theorem Ox {K:W.Frag} (hK:X.K=K) (hh:X.A.handled=some (.ref a)) {es:List Expr} {k:Nat} {pos:Pos} {t:Di} {n:Nat} (h:g_ X es t)
    (hn:(assignEach es X.env).length=n:=by rfl) (hst:(assignEach es X.env).findIdx? (·.1)=none:=by rfl):PG X (.Tuple es k pos) (qaw a K n t):=by
  subst hK;intro p_ s σ H v u Q I r hw;obtain⟨ca,hw⟩:=hw;obtain⟨p,rfl,xs,hq,hl,hw⟩:=isRef.out hw;cases r;obtain⟨its,rv,ht,hz⟩:=I.tuple hq;refine Vq hh (I.lone ca) ht (by simp[hn,← hl,rv.length]) hst fun h' hx=>?_;have I1:Inv X p_ σ H {s with heap:=h'}:=I.kept (t':=s.toks) fun b o e=>hx b o (Nat.ne_of_lt (Heap.lt_size e)) e;exact h p_ _ σ H xs _ Q I1 (by simpa using rv) hw
end
structure Oz (c:Addr) (P:Program) (w:World) (K:W.Frag) (tg:Expr) (J:It) (fp:List Addr) (it:Addr) (tn:Nat→Heap→Prop):Prop where
  mem:it∈fp
  obj:∀i h,tn i h→∀b∈fp,∃o,h.get? b=some o∧∀v,o.data≠.cell v
  keep:∀i h h',tn i h→(∀b∈fp,∀o,h.get? b=some o→h'.get? b=some o)→tn i h'
  item:∀(X:Cx),X.prog=P→X.w=w→X.K=K→∀(i:Nat) (p_:List (Addr×Obj)) (s:Shared) (σ:St) (H:Hp) (E:Value→Shared→Prop),Inv X p_ σ H s→(∀b∈fp,iu X p_ H b)→tn i s.heap→J.go i H→
    wpAny (model P w) X.A (pyNext (.ref it)) (fun r s1=>∃u,r=some u∧
      wpAny (model P w) X.A (letOwnedTupleGo tg (.ref it) u) (fun _ s2=>∃x H',Inv X p_ σ H' s2∧RelV x u∧J.RD i H x H'∧tn (i+1) s2.heap∧∀b∈fp,H' b=none) E s1) E s
  done:∀(X:Cx),X.prog=P→X.w=w→X.K=K→X.A.handled=some (.ref c)→∀(i:Nat) (p_:List (Addr×Obj)) (s:Shared) (σ:St) (H:Hp) (E:Value→Shared→Prop),Inv X p_ σ H s→(∀b∈fp,iu X p_ H b)→tn i s.heap→J.stop i H→
    wpAny (model P w) X.A (pyNext (.ref it)) (fun r s1=>r=none∧Inv X p_ σ H s1) E s
  self:∀(A:Around) (i:Nat) (s:Shared) (Q:Value→Shared→Prop) (E:Value→Shared→Prop),tn i s.heap→Q (.ref it) s→wpAny (model P w) A (pyIter (.ref it)) Q E s
def PIH (c:Addr) (X:Cx) (tg iter:Expr) (wi:TI):Prop:=
  ∀(p_:List (Addr×Obj)) (s:Shared) (σ:St) (H:Hp) (R:It→Hp→Prop),Inv X p_ σ H s→wi σ H R→
    wpAny (model X.prog X.w) X.A (eval iter X.env) (fun v s1=>wpAny (model X.prog X.w) X.A (pyIter v) (fun itv s2=>∃(it:Addr) (fp:List Addr) (tn:Nat→Heap→Prop) (J:It) (H':Hp),itv = .ref it∧Inv X p_ σ H' s2∧Oz c X.prog X.w X.K tg J fp it tn∧tn 0 s2.heap∧(∀b∈fp,iu X p_ H' b)∧R J H') X.xe s1) X.xe s
theorem Vs {X:Cx} {es:List Expr} {k:Nat} {pos:Pos} {z TI TO i1 i2 a b:Addr} (n12:i1≠i2) (nT:TI≠TO) {i:Nat} {p_:List (Addr×Obj)} {s:Shared} {σ:St} {H:Hp} {E:Value→Shared→Prop} (I:Inv X p_ σ H s)
    (hf:∀c∈[z,TI,TO,i1,i2],iu X p_ H c) (st:NQ z TI TO i1 i2 a b i s.heap) (hg:(RK X.K a b).go i H) :
    wpAny (model X.prog X.w) X.A (pyNext (.ref z)) (fun r s1=>∃u,r=some u∧
      wpAny (model X.prog X.w) X.A (letOwnedTupleGo (.Tuple es k pos) (.ref z) u) (fun _ s2=>∃x H',Inv X p_ σ H' s2∧RelV x u∧(RK X.K a b).RD i H x H'∧NQ z TI TO i1 i2 a b (i+1) s2.heap∧∀c∈[z,TI,TO,i1,i2],H' c=none) E s1) E s:=by
  obtain⟨xs,ys,x,y,qa,qb,hx,hy⟩:=hg;obtain⟨its,rv,pl,hz1⟩:=I.list qa;obtain⟨its',rv',K1,hz2⟩:=I.list qb;obtain⟨u,hu,ru⟩:=rv.get hx;obtain⟨u',hu',ru'⟩:=rv'.get hy;obtain⟨p,q,hTO⟩:=st.hO;obtain⟨oa,ea,ca,_⟩:=id pl.isList;obtain⟨ob,eb,cb,_⟩:=id K1.isList;obtain⟨o1,e1,c1,_⟩:=id st.h1;obtain⟨o2,e2,c2,_⟩:=id st.h2;have D:ZipApart z TI TO i1 i2 a b:=
    ⟨aL st.hI st.hz rfl rfl (by decide),aL hTO st.hz rfl rfl (by decide),aL e1 st.hz c1 rfl (by decide),aL e2 st.hz c2 rfl (by decide),nT,aL st.hI e1 rfl c1 (by decide),aL st.hI e2 rfl c2 (by decide),
      aL hTO e1 rfl c1 (by decide),aL hTO e2 rfl c2 (by decide),n12,aL ea st.hz ca rfl (by decide),aL ea hTO ca rfl (by decide),aL ea e1 ca c1 (by decide),aL ea e2 ca c2 (by decide),
      aL eb st.hz cb rfl (by decide),aL eb hTO cb rfl (by decide),aL eb e1 cb c1 (by decide),aL eb e2 cb c2 (by decide)⟩
  refine wpAny_pyNext_zip_item D st.hz st.hI hTO st.h1 st.h2 pl.isList K1.isList (x:=u) (y:=u') (by simpa using hu) (by simpa using hu') fun h' a1 a2 a3 a4 a5 a6 kk=>?_;refine⟨_,rfl,wpAny_letOwnedTupleGo_zip a1 fun h2 b1 sb=>?_⟩;have lt:∀{c o},s.heap.get? c=some o→s.heap.objs.size≠c:=fun e=>Nat.ne_of_gt (Heap.lt_size e);have hn:H s.heap.objs.size=none:=I.hok.fresh (Nat.le_refl _);have HX:∀c o,c∉[z,TI,TO,i1,i2]→s.heap.get? c=some o→h2.get? c=some o:=fun c o hc e=>by
    simp only[List.mem_cons,List.not_mem_nil,or_false,not_or] at hc;exact(sb.2 c hc.1).trans (kk c o hc.1 hc.2.2.1 hc.2.2.2.1 hc.2.2.2.2 e)
  have I1:Inv X p_ σ H {s with heap:=h2,toks:=s.toks}:=I.jT HX hf;have q_:IsPair h2 s.heap.objs.size u u':=sb.extBut _ _ (lt st.hz) a5;have I2:Inv X p_ σ (upd H s.heap.objs.size (.tup [x,y])) {s with heap:=h2,toks:=s.toks}:=by
    have hfr:H s.heap.objs.size=none:=hn;refine⟨I1.ok,I1.os,I1.bare,⟨I1.base.keep,I1.base.slot,fun c o e n hx=>?_,I1.base.there,fun c zs e=>?_,fun c o v e=>?_,fun c qs e=>?_⟩,I1.loc,I1.cell,?_,fun v c e=>?_,fun v hv=>?_,?_,I1.len⟩
    · rw[aB (fun e'=>?_)]
      ·exact I1.base.free c o e n hx
      ·exact absurd (Nat.lt_of_lt_of_le (Heap.lt_size e) I.sz) (by rw[e'];exact Nat.lt_irrefl _)
    ·have e':=I1.base.tups c zs e;rw[aB (aH e' hfr)];exact e'
    ·have e':=I1.base.oU c o v e;rw[aB (aH e' hfr)];exact e'
    ·obtain⟨m,e'⟩:=I1.base.pF c qs e;exact⟨m,by rw[aB (aH e' hfr)];exact e'⟩
    ·rw[aB (Nat.ne_of_lt I.lt)];exact I1.free
    ·obtain⟨w',qc⟩:=I.cell v c e;rw[aB (Nat.ne_of_lt qc.lt)];exact I1.gq v c e
    ·obtain⟨f1,f2,f3⟩:=I1.pin v hv;refine⟨f1,?_,f3⟩;rw[aB (Nat.ne_of_lt (Heap.lt_size (I.pin v hv).1))];exact f2
    · intro c v e
      by_cases hcs:c=s.heap.objs.size
      ·subst hcs;rw[ao] at e;cases e;exact⟨by show 2≤sizeLine;rw[sizeLine_eq];decide,[u,u'],.cons ru (.cons ru' .nil),⟨_,q_,rfl,0,rfl⟩⟩
      · rw[aB hcs] at e;refine(I1.hok c v e).stay (fun _ _ _ qq=>qq) (fun d qd=>?_) fun d zs qd=>?_
        ·rw[aB (aH qd hfr)];exact qd
        ·rw[aB (aH qd hfr)];exact qd
  refine⟨.ref s.heap.objs.size,_,I2,rfl,⟨s.heap.objs.size,x,y,rfl,hn,rfl,fun xs' q'=>by rw[I.j8 q' qa];exact hx,fun ys' q'=>by rw[I.j8 q' qb];exact hy⟩,?_,fun c hcm=>?_⟩
  ·exact⟨b1,sb.extBut _ _ D.TIz (kk _ _ D.TIz D.TITO D.TIi1 D.TIi2 st.hI),⟨_,_,sb.extBut _ _ D.TOz a2⟩,a3.extBut sb.extBut D.i1z,a4.extBut sb.extBut D.i2z⟩
  · have hne:c≠s.heap.objs.size:=by
      simp only[List.mem_cons,List.not_mem_nil,or_false] at hcm
      rcases hcm with rfl | rfl | rfl | rfl | rfl
      ·exact(lt st.hz).symm
      ·exact(lt st.hI).symm
      ·exact(lt hTO).symm
      ·exact(lt e1).symm
      ·exact(lt e2).symm
    rw[aB hne];exact(hf c hcm).1
def Ze (c:Addr) (K:W.Frag) (a b:Addr):It:=⟨(RK K a b).go,(RK K a b).RD,fun i H=>(RK K a b).stop i H∧LC H c⟩
theorem Q6 {c:Addr} {P:Program} {w:World} {K:W.Frag} {es:List Expr} {k:Nat} {pos:Pos} {z TI TO i1 i2 a b:Addr} (n12:i1≠i2) (nT:TI≠TO) :
    Oz c P w K (.Tuple es k pos) (Ze c K a b) [z,TI,TO,i1,i2] z (NQ z TI TO i1 i2 a b) where
  mem:=by simp
  obj:=fun i h st c hc=>by
    simp only[List.mem_cons,List.not_mem_nil,or_false] at hc
    rcases hc with rfl | rfl | rfl | rfl | rfl
    ·exact⟨_,st.hz,fun v e=>nomatch e⟩
    ·exact⟨_,st.hI,fun v e=>nomatch e⟩
    ·obtain⟨p,q,e⟩:=st.hO;exact⟨_,e,fun v e=>nomatch e⟩
    ·obtain⟨o,e,_,d⟩:=st.h1;exact⟨o,e,fun v y=>by rw[d] at y;cases y⟩
    ·obtain⟨o,e,_,d⟩:=st.h2;exact⟨o,e,fun v y=>by rw[d] at y;cases y⟩
  keep:=fun i h h' st kk=>by
    obtain⟨p,q,e⟩:=st.hO;exact⟨kk z (by simp) _ st.hz,kk TI (by simp) _ st.hI,⟨p,q,kk TO (by simp) _ e⟩,st.h1.at fun o e=>kk i1 (by simp) o e,st.h2.at fun o e=>kk i2 (by simp) o e⟩
  item:=by
    intro X hP hw hK i p_ s σ H E I hf st hg;subst hP hw hK;exact Vs n12 nT I hf st hg
  done:=by
    intro X hP hw hK hh i p_ s σ H E I hf st hg;subst hP hw hK;obtain⟨⟨xs,ys,qa,qb,hl⟩,cau⟩:=hg;have fne:∀d∈[z,TI,TO,i1,i2],c≠d:=fun d hd=>cau.ne (hf d hd).1;obtain⟨its,rv,pl,hz1⟩:=I.list qa;obtain⟨its',rv',K1,hz2⟩:=I.list qb;obtain⟨p,q,hTO⟩:=st.hO;obtain⟨oa,ea,ca,_⟩:=id pl.isList;obtain⟨ob,eb,cb,_⟩:=id K1.isList;obtain⟨o1,e1,c1,_⟩:=id st.h1;obtain⟨o2,e2,c2,_⟩:=id st.h2;have D:ZipApart z TI TO i1 i2 a b:=
      ⟨aL st.hI st.hz rfl rfl (by decide),aL hTO st.hz rfl rfl (by decide),aL e1 st.hz c1 rfl (by decide),aL e2 st.hz c2 rfl (by decide),nT,aL st.hI e1 rfl c1 (by decide),aL st.hI e2 rfl c2 (by decide),
        aL hTO e1 rfl c1 (by decide),aL hTO e2 rfl c2 (by decide),n12,aL ea st.hz ca rfl (by decide),aL ea hTO ca rfl (by decide),aL ea e1 ca c1 (by decide),aL ea e2 ca c2 (by decide),
        aL eb st.hz cb rfl (by decide),aL eb hTO cb rfl (by decide),aL eb e1 cb c1 (by decide),aL eb e2 cb c2 (by decide)⟩
    have l1:=rv.length;have l2:=rv'.length;refine Vr hh (I.lone cau) D (fne _ (by simp)) (fne _ (by simp)) (fne _ (by simp)) (fne _ (by simp)) st.hz st.hI hTO st.h1 st.h2 pl.isList K1.isList ?_ fun h' kk=>⟨rfl,I.jT (t':=s.toks) (fun c o hcm e=>?_) hf⟩
    · rcases hl with hl | hl
      ·exact .inl (by simp;omega)
      ·exact .inr (by simp;omega)
    ·simp only[List.mem_cons,List.not_mem_nil,or_false,not_or] at hcm;exact kk c o hcm.1 hcm.2.2.1 hcm.2.2.2.1 hcm.2.2.2.2 e
  self:=fun _ _ _ _ _ st h=>wpAny_pyIter_zip st.hz h
section
variable {X:Cx} {c:Addr}
def Vt (c:Addr) (K:W.Frag) (t:TA):TI:=fun σ H R=>t σ H fun vs H1=>ar2 vs fun x y=>isRef x fun a=>isRef y fun b=>(∃xs,aX K H1 a xs)∧(∃ys,aX K H1 b ys)∧R (Ze c K a b) H1
@[simp ↓] theorem qeO c K t σ H R:Vt c K t σ H R=(t σ H fun vs H1=>ar2 vs fun x y=>isRef x fun a=>isRef y fun b=>(∃xs,aX K H1 a xs)∧(∃ys,aX K H1 b ys)∧R (Ze c K a b) H1):=rfl
theorem Zf {K:W.Frag} (hK:X.K=K) {es:List Expr} {k:Nat} {pos':Pos} {a b:Expr} {ta:TA} {p pos:Pos} (hg:Gl X "zip") (hm:X.mg "zip" = none) (ha:PA X [a,b] ta)
    (hs:starEach [a,b] X.env=[(false,eval a X.env),(false,eval b X.env)]:=by rfl) (hs2:starEach [b] X.env=[(false,eval b X.env)]:=by rfl) :
    PIH c X (.Tuple es k pos') (.Call (.Name "zip" p) [a,b] [] pos) (Vt c K ta):=by
  subst hK;intro p_ s σ H R I h;refine Call_ (jC I hg hm boot_zip (PyProof.Rows.callWith_type1 (cB (ha pos p_ s σ H _ I h) fun us s1 zz=>?_) (by rw[hs,hs2]) (by rw[hs2];rfl)));obtain⟨vs,H1,I1,r1,q1⟩:=zz;obtain⟨v1,v2,rfl,q1⟩:=ar2.out q1;obtain⟨l1,rfl,q1⟩:=isRef.out q1;obtain⟨l2,rfl,⟨xs,qa⟩,⟨ys,qb⟩,q⟩:=isRef.out q1;obtain⟨u,v,rfl,r,r'⟩:=r1.two;obtain rfl:u=Value.ref l1:=r;obtain rfl:v=Value.ref l2:=r';obtain⟨its,rv,pl,hz1⟩:=I1.list qa;obtain⟨its',rv',K1,hz2⟩:=I1.list qb;refine call_zip_2 pl.isList K1.isList fun h' b1 b2 b3 b4 b5 b6 kk=>?_;refine wpAny_pyIter_zip (s:={s1 with heap:=h'}) b1 ?_;have I2:Inv X p_ σ H1 {s1 with heap:=h'}:=I1.kept (t':=s1.toks) kk;refine⟨s1.heap.objs.size+4,[s1.heap.objs.size+4,s1.heap.objs.size+2,s1.heap.objs.size+3,s1.heap.objs.size,s1.heap.objs.size+1],_,_,H1,rfl,I2,Q6 (Nat.ne_of_lt (Nat.lt_succ_self _)) (Nat.ne_of_lt (Nat.lt_succ_self (s1.heap.objs.size+2))),⟨b1,b2,⟨_,_,b3⟩,b4,b5⟩,fun c hc=>?_,q⟩;have hle:s1.heap.objs.size≤c:=by
    simp only[List.mem_cons,List.not_mem_nil,or_false] at hc
    rcases hc with rfl | rfl | rfl | rfl | rfl <;> first | exact Nat.le_add_right _ _ | exact Nat.le_refl _
  exact I1.wD hle (I1.hok.fresh hle)
end
section
variable {X:Cx} {c:Addr} {ps sc:Scope} {own pN:List Str} {caps:List Nat} {N:List Str}
theorem Jg {p_:List (Addr×Obj)} {σ:St} {H:Hp} {s:Shared} {E:Value→Shared→Prop} {elt tg iter:Expr} {ifs:List Expr} {pos:Pos} {J:It} {fp:List Addr} {it D:Addr} {tn:Nat→Heap→Prop} {g:TG} {tt:TT} {te:TE} {Q:Hp→Prop}
    (I:Inv X p_ σ H s) (hps:X.env.scope=ps) (hpN:X.N=pN) (S:aQ ps sc pN own caps N) (T:Oz c X.prog X.w X.K tg J fp it tn) (st:tn 0 s.heap) (hf:∀b∈fp,iu X p_ H b) (hh:X.A.handled=some (.ref c))
    (hg:∀C s H fp pn,PG (bF X sc N C s H fp pn) tg g) (ht:∀C s H fp pn,PTs (bF X sc N C s H fp pn) ifs tt) (he:∀C s H fp pn,PE (bF X sc N C s H fp pn) elt te)
    (h:jR own caps J g tt te D σ H Q) :
    wpAny (model X.prog X.w) X.A (newFunctionEnv sc X.env.globals (Fp X.env sc.names) [] X.env.qual none .none (some X.env)) (fun cenv s4=>
      codeAny (model X.prog X.w) X.A (.compStart (.ListComp elt [⟨tg,iter,ifs,0⟩] sc pos) 0 (.ref it) (.ref D) {cenv with scope:=relabel sc X.env}) (uN X p_ σ Q cenv.locals) s4) E s:=by
  obtain⟨oW,⟨m0,w0⟩,turn⟩:=h;refine uM ?_;have ho:=T.obj 0 _ st;have I0:=HS I hps hpN S hf ho;have ok':=Fq I hps S hf ho;have hk:∀b o,s.heap.get? b=some o→(blockAt sc s).heap.get? b=some o:=fun b o e=>pushCells_keeps _ _ b o (Heap.get?_push_of_some _ e);have st0:tn 0 (blockAt sc s).heap:=T.keep 0 _ _ st fun b _ o e=>hk b o e;have stat:∀{H':Hp},(∀b∈fp,H' b=none)→∀b∈fp,iu (bF X sc N s.heap.objs.size s H fp (X.pn++p_)) [] H' b:=fun hn b hb=>
    ⟨hn b hb,(ok'.Xv b hb).1,ok'.Ez b hb,.inl hb,(ok'.Xv b hb).2,fun p hp=>(hf b hb).2.2.2.2.2 p (by rw[List.append_nil] at hp;exact hp)⟩
  have loop:codeAny (model X.prog X.w) X.A (.compLoop (.ListComp elt [⟨tg,iter,ifs,0⟩] sc pos) 0 (.ref it) (.ref D) (bF X sc N s.heap.objs.size s H fp (X.pn++p_)).env) (uN X p_ σ Q s.heap.objs.size) (blockAt sc s):=by
    refine xU (fun n s'=>∃i σ' H',Inv (bF X sc N s.heap.objs.size s H fp (X.pn++p_)) [] σ' H' s'∧tn i s'.heap∧(∀b∈fp,H' b=none)∧oW i n σ' H') ?_ m0 ⟨0,_,H,I0,st0,fun b hb=>(hf b hb).1,w0⟩;rintro n s3 ⟨i,σ3,H3,I3,st3,fr3,w3⟩
    rcases turn i n σ3 H3 w3 with⟨stop,qn⟩ | ⟨go,N',hN,step⟩
    ·refine cB (T.done (bF X sc N s.heap.objs.size s H fp (X.pn++p_)) rfl rfl rfl hh i [] s3 σ3 H3 Tf I3 (stat fr3) st3 stop) fun r s4 zz=>?_;obtain⟨hr,I4⟩:=zz;subst hr;obtain⟨m,hn,_⟩:=I4.loc;exact⟨H3,rfl,Du I hf I4,⟨m,hn⟩,I.wD (Nat.le_refl _) I4.free,qn⟩
    · refine cB (T.item (bF X sc N s.heap.objs.size s H fp (X.pn++p_)) rfl rfl rfl i [] s3 σ3 H3 Tf I3 (stat fr3) st3 go) fun r s4 zz=>?_;obtain⟨u,hr,h4⟩:=zz;subst hr;refine cB h4 fun _ s5 zz=>?_;obtain⟨x,H5,I5,r5,y5,R7,fr5⟩:=zz;have I5':=I5.pinned (stat fr5) (T.obj _ _ R7);refine cB (hg _ _ _ _ _ _ s5 σ3 H5 x u _ I5' r5 (step x H5 y5)) fun _ s6 zz=>?_;obtain⟨σ6,H6,I6,q6⟩:=zz;refine cB (ht _ _ _ _ _ _ s6 σ6 H6 _ I6 q6) fun b s7 zz=>?_;obtain⟨H7,I7,q7⟩:=zz;have again:∀{σ8:St} {H8:Hp} {s8:Shared},Inv (bF X sc N s.heap.objs.size s H fp (X.pn++p_)) ([]++wF fp s5.heap) σ8 H8 s8→N' σ8 H8→
          ∃m,m<n∧∃i σ' H',Inv (bF X sc N s.heap.objs.size s H fp (X.pn++p_)) [] σ' H' s8∧tn i s8.heap∧(∀b∈fp,H' b=none)∧oW i m σ' H':=fun {σ8 H8 s8} I8 n8=>by
        obtain⟨m',hm,w8⟩:=hN σ8 H8 n8;refine⟨m',hm,i+1,σ8,H8,I8.qX,T.keep _ _ _ R7 fun b hb o e=>(I8.pin (b,o) (List.mem_append_right _ (List.mem_append_right _ (jE hb e)))).1,fun b hb=>?_,w8⟩;obtain⟨o,e,d⟩:=T.obj _ _ R7 b hb;exact(I8.pin (b,o) (List.mem_append_right _ (List.mem_append_right _ (jE hb e)))).2.1
      cases b with
      | false=>
        rw[if_neg Bool.false_ne_true] at q7 ⊢;exact again I7 q7
      | true=>
        rw[if_pos rfl] at q7 ⊢;refine cB (he _ _ _ _ _ _ s7 σ6 H7 _ I7 q7) fun v s8 zz=>?_;obtain⟨y,H8,I8,r8,ys,hD,hz,n8⟩:=zz;refine cB (wG (X:=bF X sc N s.heap.objs.size s H fp (X.pn++p_)) _ s8 σ6 H8 (.ref D) [y] (.ref D) [v] (fun _ H9=>N' σ6 H9) I8 rfl (.cons r8 .nil) ⟨D,ys,y,rfl,rfl,hD,hz,n8⟩) fun _ s9 zz=>?_;obtain⟨_,H9,I9,_,n9⟩:=zz;exact again I9 n9
  exact codeAny_compStart_list loop (T.self X.A 0 _ _ _ st0 loop)
variable {elt tg iter:Expr} {ifs:List Expr} {pos:Pos} {wi:TI} {g:TG} {tt:TT} {te:TE}
theorem vg (hps:X.env.scope=ps) (hpN:X.N=pN) (S:aQ ps sc pN own caps N) (hh:X.A.handled=some (.ref c)) (hi:PIH c X tg iter wi)
    (hg:∀C s H fp pn,PG (bF X sc N C s H fp pn) tg g) (ht:∀C s H fp pn,PTs (bF X sc N C s H fp pn) ifs tt) (he:∀C s H fp pn,PE (bF X sc N C s H fp pn) elt te)
    (hs:∀x,foldedSetIterable iter X.env x=pure x:=by intro _;rfl):PE X (.ListComp elt [⟨tg,iter,ifs,0⟩] sc pos) (HW own caps wi g tt te):=by
  intro p_ s σ H Q I h;rw[eval_ListComp];refine wpAny_comprehension_free (use:=none) rfl hs (kY (S.cells hps I.ok)) S.kind S.locs (cB (hi p_ s σ H _ I h) fun v s1 h1=>cB h1 fun itv s2 h2=>?_);obtain⟨it,fp,tn,J,H2,e,I2,T,st2,f2,q⟩:=h2;subst e;have fr:H2 s2.heap.objs.size=none:=I2.fresh;refine wpAny_newObj_type ?_;have I3:Inv X p_ σ (upd H2 s2.heap.objs.size (.lst [])) {s2 with heap:=s2.heap.push {cls:=.type "list",data:=.seq ([]:List Value).toArray},toks:=s2.toks}:=I2.S_ (its:=[]) (ys:=[]) .nil (Nat.zero_le _);have f3:∀b∈fp,iu X p_ (upd H2 s2.heap.objs.size (.lst [])) b:=fun b hb=>by
    obtain⟨o,e,_⟩:=T.obj 0 _ st2 b hb;exact⟨by rw[aB (Nat.ne_of_lt (Heap.lt_size e))];exact(f2 b hb).1,(f2 b hb).2⟩
  refine cB (Jg (iter:=iter) (pos:=pos) I3 hps hpN S T (T.keep 0 _ _ st2 fun b _ o e=>Heap.get?_push_of_some _ e) f3 hh hg ht he (q _ fr)) fun cenv s4 h4=>?_;refine codeAny_mono h4 fun r s5 ⟨H5,hr,I5,⟨m,hn⟩,f5,q5⟩=>?_;subst hr;refine⟨m,hn,fun h' hs'=>?_⟩;have I6:Inv X p_ σ H5 {s5 with heap:=h',toks:=s5.toks}:=I5.turned (it:=cenv.locals) (fun b o hb e=>(hs'.2 b hb).trans e) f5.1 f5.2.1 f5.2.2.2.1 f5.2.2.2.2.1 f5.2.2.2.2.2;exact⟨.ref s2.heap.objs.size,H5,I6,rfl,q5⟩
end
structure Jh (P:Program) (w:World) (K:W.Frag) (mg:Str→Option Value) (base:Heap) (k:Nat) (f:Addr) (fd:FuncData) (ps:List Str) (sp:Addr→Sp):Prop where
  len:∀a vs H Q E,sp a vs H Q E→vs.length=ps.length
  run:∀(a:Addr) (A:Around) (outer:List Env) (s:Shared) (H:Hp) (args:Args) (us:List Value) (vs:List V) (Q:VK),h_ k A→HF P w K mg base A outer s H→BindsTo s fd args (ps.zip us)→Vals vs us→sp a vs H Q E0→
    codeAny (model P w) (A.mark (some (.ref a))) (.call (.ref f) args) (CR jA outer P w H s Q E0) s
theorem iY.okH {P:Program} {w:World} {K:W.Frag} {mg:Str→Option Value} {base:Heap} {x qual:Str} {st:Stmt} {f:Addr} {fd:FuncData} {N ps:List Str} {k:Nat} {sp:Addr→Sp} (F:iY K x qual st f fd) (S:aU N ps (ak st)) (len:∀a vs H Q E,sp a vs H Q E→vs.length=ps.length)
    (hbody:∀(a:Addr) (cdv:Value) (A:Around) (outer:List Env) (s:Shared) (H:Hp) (vs:List V) (Q:VK),h_ k (A.deeper (envOfC qual (ak st) s.heap.objs.size f cdv))→sp a vs H Q E0→
      ∃t,Dg ((dw jA P w K mg base N qual (ak st) f cdv A outer s H E0).caught a) (aC st) t∧t {nx:=fun _ H'=>Q .non H',rt:=Q} (start N vs) H):Jh P w K mg base (k+1) f fd ps sp:=by
  obtain⟨oc,od,kV,doc,pm,an,cdv,ct,osl,rfl,lk,hcd⟩:=F.ex;refine⟨len,fun a A outer s H args us vs Q hr e0 hb r hsp=>?_⟩;have hl:=len _ _ _ _ _ hsp;have KX:K.In s.heap:=e0.mod.Ko.keeps fun b o e=>(e0.bs b o e).1;have lim:s.heap.NoLimit:=e0.mod.nolimit.keeps fun b o e=>(e0.bs b o e).1;have hkind:∀y∈ps.zip us,(ak st).names.lookup y.1=some .local∨((ak st).names.lookup y.1=some .cell∧((cellsFrom (s.heap.objs.size+1) (ak st).names []).lookup y.1).isSome=true):=fun⟨n,v⟩ hy=>by
    rcases S.par n (List.of_mem_zip hy).1 with q | q
    ·exact .inl q
    ·exact .inr ⟨q,W.cellsFrom_some _ _ _ (.inl q)⟩
  refine codeAny_call_function (A:=A.mark (some (.ref a))) hr.depth (KX _ _ lk) rfl S.co S.gen rfl (W.codeRec_of KX hcd) (hb _ _ _ _ ?_);refine wpAny_newFunctionEnv_cells S.kind hkind fun env he s1 x=>?_;subst he;refine⟨lim.keeps x.toInCall.keep,codeAny_func ?_⟩;obtain⟨t,ht,hq⟩:=hbody a cdv A outer s H vs Q (hr.deeper _) hsp;have I:Inv (dw jA P w K mg base N qual (ak st) f cdv A outer s H E0) [] (start N vs) H s1:=Ds S hr.hd e0 hl r x;refine wpAny_mono (ht [] s1 (start N vs) H _ (I.caught a) hq) (fun fl s' hs=>?_) fun e s' hs=>hs.elim;have fin:∀{σ':St} {H':Hp} {v:V} {u:Value},Inv ((dw jA P w K mg base N qual (ak st) f cdv A outer s H E0).caught a) [] σ' H' s'→RelV v u→Q v H'→CE outer P w H s Q u s':=
    fun {σ' H' v u} J rv q=>⟨v,H',J.os,J.bare,J.base,J.hok,rv,q⟩
  cases fl with
  | ret u=>
    obtain⟨v,σ',H',J,rv,q⟩:=hs;exact fin J rv q
  | next=>
    obtain⟨σ',H',J,q⟩:=hs;exact fin (v:=V.non) (u:=Value.none) J rfl q
  | brk=>obtain⟨σ',H',J,q⟩:=hs;exact False.elim q
  | cont=>obtain⟨σ',H',J,q⟩:=hs;exact False.elim q
section
variable {X:Cx} {a:Addr}
def Vu (sp:Sp) (t:TA):TE:=fun σ H Q=>t σ H fun vs H1=>K_ sp vs H1 Q ⟨0⟩ E0
@[simp ↓] theorem qeP sp t σ H Q:Vu sp t σ H Q=t σ H fun vs H1=>K_ sp vs H1 Q ⟨0⟩ E0:=rfl
theorem Ji {k:Nat} {f:Addr} {fd:FuncData} {ps:List Str} {sp:Addr→Sp} {x:Str} {p pos:Pos} {e:Expr} {es:List Expr} {t:TA}
    (F:Jh X.prog X.w X.K X.mg X.base k f fd ps sp) (hr:h_ k X.A) (hg:Gl X x) (hm:X.mg x=some (.ref f)) (hk:W.keepIn X.K (.ref f)=true) (hb:Binds X.K fd ps [])
    (ha:PA (X.caught a) (e::es) t) (hdb:(x == ("__debug__" : Str))=false:=by decide) (he:starEach (e::es) X.env=(false,eval e X.env)::starEach es X.env:=by rfl) (hpl:(backTo pos (starEach es X.env)).any (·.1)=false:=by rfl) :
    PE (X.caught a) (.Call (.Name x p) (e::es) [] pos) (Vu (sp a) t):=by
  intro p_ s σ H Q I h;refine wpAny_Call_Name_kw (mU I hg hm ?_ hdb);refine W.callWith_K (h₀:=X.base) I.ok.mod.Ko hk (cB (ha pos p_ s σ H _ I h) fun us s1 zz=>?_) he hpl;obtain⟨vs,H1,I1,r,q⟩:=zz;refine⟨I1.mR,?_⟩;have hl:us.length=ps.length:=by rw[← r.length];exact F.len _ _ _ _ _ q
  have hbd:=hb s1 us I1.mR (by rw[List.append_nil];exact hl);rw[List.append_nil] at hbd;have e0:=I1.env0;refine wpAny_call (codeAny_mono (F.run a X.A X.stack s1 H1 ⟨us,[]⟩ us vs Q hr ⟨e0.frames,e0.mod,e0.bs,e0.P0,e0.qU,e0.RV,e0.hok,e0.bare⟩ hbd r q) fun rr s' hq=>?_);cases rr with
  | error e=>exact hq.elim
  | ok fl=>
    cases fl with
    | ret u=>exact I1.after hq
    | next=>exact False.elim hq
    | brk=>exact False.elim hq
    | cont=>exact False.elim hq
end
def LK (K:W.Frag) (C:Addr):Prop:=pO K C∧∃cd,W.clsIn K C=some cd
def Zg (K:W.Frag) (C:Addr):V→Option Bool
  | .ref D=>W.kitOne K (.ref C) (.ref D)
  | .ty n=>W.kitOne K (.ref C) (.type n)
  | _=>none
theorem iY.qeQ {P:Program} {w:World} {K:W.Frag} {mg:Str→Option Value} {base:Heap} {x qual:Str} {st:Stmt} {f:Addr} {fd:FuncData} {N ps:List Str} {k:Nat} {sp:Sp} (F:iY K x qual st f fd) (S:aU N ps (ak st)) (len:∀vs H Q E,sp vs H Q E→vs.length=ps.length)
    (hbody:∀(cdv:Value) (A:Around) (outer:List Env) (s:Shared) (H:Hp) (vs:List V) (Q:VK) (E:XK),h_ k (A.deeper (envOfC qual (ak st) s.heap.objs.size f cdv))→sp vs H Q E→
      ∃t,Dg (dw (Vi P w) P w K mg base N qual (ak st) f cdv A outer s H E) (aC st) t∧t {nx:=fun _ H'=>Q .non H',rt:=Q} (jJ N vs) H):cF P w K mg base (Vi P w) (k+1) f fd ps sp:=by
  refine F.okE S len fun cdv A outer s H vs Q E hr h=>?_;obtain⟨t,h1,h2⟩:=hbody cdv A outer s H vs Q E hr h;refine⟨t,h1,?_⟩;have hl:=len _ _ _ _ h;have hp:ps.length≤N.length:=by have:=congrArg List.length S.pre;rw[List.length_take] at this;omega
  rw[pq N vs (by omega)] at h2;exact h2
theorem iY.qeR {P:Program} {w:World} {K:W.Frag} {mg:Str→Option Value} {base:Heap} {x qual:Str} {st:Stmt} {f:Addr} {fd:FuncData} {N ps:List Str} {k:Nat} {sp:Addr→Sp} (F:iY K x qual st f fd) (S:aU N ps (ak st)) (len:∀a vs H Q E,sp a vs H Q E→vs.length=ps.length)
    (hbody:∀(a:Addr) (cdv:Value) (A:Around) (outer:List Env) (s:Shared) (H:Hp) (vs:List V) (Q:VK),h_ k (A.deeper (envOfC qual (ak st) s.heap.objs.size f cdv))→sp a vs H Q E0→
      ∃t,Dg ((dw jA P w K mg base N qual (ak st) f cdv A outer s H E0).caught a) (aC st) t∧t {nx:=fun _ H'=>Q .non H',rt:=Q} (jJ N vs) H):Jh P w K mg base (k+1) f fd ps sp:=by
  refine F.okH S len fun a cdv A outer s H vs Q hr h=>?_;obtain⟨t,h1,h2⟩:=hbody a cdv A outer s H vs Q hr h;refine⟨t,h1,?_⟩;have hl:=len _ _ _ _ _ h;have hp:ps.length≤N.length:=by have:=congrArg List.length S.pre;rw[List.length_take] at this;omega
  rw[pq N vs (by omega)] at h2;exact h2
@[simp ↓] theorem qkb i K D ts tb Dn σ H:qeN i K D ts tb Dn σ H=tb (Vo i K D ts Dn) Dn σ H:=rfl
theorem Zh:bootBuiltins "ValueError" = some (.type "ValueError"):=by decide+kernel
section
variable {K:W.Frag} {own:List Str} {caps:List Nat} {g:TG} {tt:TT} {te:TE} {D l1 l2 c:Addr} {σ:St} {H:Hp} {Q:Hp→Prop}
theorem qkc {d:QB g tt te Q} (xs ys:List V) (Pv:Nat→St→Hp→Prop) (h0:Pv 0 (stC own caps σ) H) (he:xs.length=ys.length) (hl:∀i σ H,i≤xs.length→Pv i σ H→(aX K H l1 xs∧aX K H l2 ys)∧LC H c)
    (hs:∀i x y t σ H,xs[i]? = some x→ys[i]? = some y→H t=none→Pv i σ H→tE g tt te D (Pv (i+1)) (.ref t) σ (upd H t (.tup [x,y]))) (hd:∀σ H,Pv xs.length σ H→Q H):Xl own caps (Ze c K l1 l2) g tt te Q d D σ H:=by
  refine⟨fun i m σ H=>m=xs.length - i∧i≤xs.length∧Pv i σ H,⟨xs.length,by simp,Nat.zero_le _,h0⟩,?_⟩;rintro i m σ H ⟨rfl,hi,p⟩;obtain⟨⟨q1,q2⟩,ca⟩:=hl i σ H hi p
  by_cases hlt:i<xs.length
  ·have hlt2:i<ys.length:=he▸hlt;refine .inr ⟨⟨xs,ys,xs[i],ys[i],q1,q2,by simp[hlt],by simp[hlt2]⟩,Pv (i+1),fun σ' H' p'=>⟨xs.length - (i+1),by omega,rfl,hlt,p'⟩,fun x H' y=>?_⟩;obtain⟨t,u,v,rfl,ht,rfl,e1,e2⟩:=y;exact hs i u v t σ H (e1 xs q1) (e2 ys q2) ht p
  · have e:i=xs.length:=by omega
    subst e;exact .inl ⟨⟨⟨xs,ys,q1,q2,.inl (Nat.le_refl _)⟩,ca⟩,hd σ H p⟩
end
end L2
namespace L2
open PySem PySem.Spec PySem.W PyProof.Rows
section
variable {prog:Program} {w:World} {A:Around} {E:Value→Shared→Prop} {K:W.Frag} {h:Heap} {g:Array GenState} {d:Drawn} {t:Nat} {os:OsState}
variable {nm q:Str} {C N:Addr} {bs bm:List Value} {hdct:Bool} {sn:List Str} {sub:List Value} {ab:Bool} {col:Option Bool} {dd:Option Addr} {k0 k1 k2 k3 k5:Option Value}
theorem Gv {rest:List Value} {f:Addr} {Q:PySem.Fin→Shared→Prop} (X:K.In h) (T:OwnTail h kE bm) (hi:findIn K (.ref C) "__init__" = some (some (.ref f))) (hf:typeIn K (.ref f)=some (.type "function"))
    (hC:h.get? C=some (excClassObj nm q C N bs bm hdct sn sub ab col dd k0 k1 k2 k3 k5 "ValueError.__new__"))
    (hq:∀h' e,Heap.MadeExcOf h h' e (.ref C) rest→wpAny (model prog w) A (call (.ref f) (.ref e::rest)) (fun r s'=>r = .none∧Q (.done (.ret (.ref e))) s') E ⟨h',g,d,t,os⟩) (hz:rest.length≤sizeLine) :
    wpAny (model prog w) A (Builtin.«type.__call__» ⟨.ref C::rest,[]⟩) Q E ⟨h,g,d,t,os⟩:=by
  have F:=PySem.F.excBase_ValueError
  repeat (first | with_reducible refine wpAny_loadPart_at hC ?_ | with_reducible refine wpAny_madeBy_exc hC ?_ | wp_step)
  refine codeAny_call_builtin_code (Code.quiet_builtin _ F.quiet) (wpAny_check_new_subT F T hC (codeAny_exc_new_subT F T hC ?_ hz));show wpAny _ _ _ _ _ _;generalize hG:(h.push {cls:=.type "tuple",data:=.seq rest.toArray}).push {cls:=.ref C,data:=.fields #[.ref h.objs.size,.none,.none,.none,.bool false,.none]}=G;have kp:∀b o,h.get? b=some o→G.get? b=some o:=fun b o e=>by
    rw[← hG];exact Heap.get?_push_of_some _ (Heap.get?_push_of_some _ e)
  have hget:G.get? (h.objs.size+1)=some {cls:=.ref C,data:=.fields #[.ref h.objs.size,.none,.none,.none,.bool false,.none]}:=by
    rw[← hG]
    heap_get
  have hT:G.get? h.objs.size=some {cls:=.type "tuple",data:=.seq rest.toArray}:=by
    rw[← hG];exact Heap.get?_push_of_some _ (Heap.get?_push_at rfl rfl)
  have X1:K.In G:=fun b o e=>kp b o (X b o e);have hC1:=kp _ _ hC;have hcC:(Value.ref C::bm).contains (.ref C)=true:=by simp
  unfold isInstance
  repeat (first | with_reducible refine wpAny_loadPart_at hget ?_ | (with_reducible refine wpAny_isSubtype_exc hC1 ?_;rw[hcC]) | wp_step)
  show wpAny _ _ (typeLookup (.ref C) _) _ _ _;refine(looks_findIn (M:=model prog w) X1 hi).at ?_;refine wpAny_holding (wpAny_bind ?_);unfold bindSpecial;refine wpAny_bind ((looks_typeIn (M:=model prog w) X1 hf).at ?_);rw[if_pos (by decide)];refine wpAny_pure (wpAny_bind (wpAny_mono (hq G (h.objs.size+1) ⟨kp,Heap.get?_none_of_le (Nat.le_succ _),h.objs.size,hget,Heap.get?_none_of_le (Nat.le_refl _),hT⟩) (fun r s' hr=>?_) fun _ _ x=>x));obtain⟨rfl,hQ⟩:=hr
  wp_walk
  exact hQ
theorem Zi {rest:List Value} {f:Addr} {Q:Value→Shared→Prop} (X:K.In h) (T:OwnTail h kE bm) (hi:findIn K (.ref C) "__init__" = some (some (.ref f))) (hf:typeIn K (.ref f)=some (.type "function"))
    (hC:h.get? C=some (excClassObj nm q C N bs bm hdct sn sub ab col dd k0 k1 k2 k3 k5 "ValueError.__new__"))
    (hq:∀h' e,Heap.MadeExcOf h h' e (.ref C) rest→wpAny (model prog w) (A.under (.builtin "type.__call__" ⟨.ref C::rest,[]⟩)) (call (.ref f) (.ref e::rest)) (fun r s'=>r = .none∧Q (.ref e) s') E ⟨h',g,d,t,os⟩) (hz:rest.length≤sizeLine) :
    wpAny (model prog w) A (call (.ref C) rest) Q E ⟨h,g,d,t,os⟩:=by
  have f1:=tc_lookup;have f2:=tc_bind (.ref C);have hT:(⟨h,g,d,t,os⟩:Shared).TypeIs (.ref C) "type" :=⟨_,hC,rfl⟩;refine wpAny_call (codeAny_of_tree ?_);show wpAny _ _ (callAny (.ref C) _) _ _ _
  repeat (any_goals (first | assumption | with_reducible refine wpAny_loadPart_at hC ?_ | wp_step))
  refine⟨rfl,codeAny_call_builtin_at (Code.quiet_builtin _ (by decide+kernel)) entry_typeCall (wpAny_check_type_call_sub hC (Gv X T hi hf hC (fun h' e hm=>?_) hz))⟩;exact hq h' e hm
theorem Zj {rest:List Value} {e t0:Addr} {oe:Obj} {vs:Array Value} {Q:Value→Shared→Prop} (T:OwnTail h kE bm)
    (hC:h.get? C=some (excClassObj nm q C N bs bm hdct sn sub ab col dd k0 k1 k2 k3 k5 "ValueError.__new__")) (he:h.get? e=some oe) (hc:oe.cls = .ref C) (hd:oe.data = .fields vs) (h0:vs[0]? = some (.ref t0))
    (hq:∀h' t1,(∀b o,b≠e→h.get? b=some o→h'.get? b=some o)→h'.get? e=some {oe with data:=.fields (vs.setIfInBounds 0 (.ref t1))}→Q .none ⟨h',g,d,t,os⟩) (hz:rest.length≤sizeLine) :
    wpAny (model prog w) A (call (.builtin "ValueError.__init__") (.ref e::rest)) Q E ⟨h,g,d,t,os⟩:=by
  have F:=PySem.F.excBase_ValueError;refine wpAny_call (codeAny_call_builtin F.init.plain F.initEntry (wpAny_check_init_subT F T hC he hc ?_));have Cv:(h.push {cls:=.type "tuple",data:=.seq rest.toArray}).get? e=some oe:=Heap.get?_push_of_some _ he;unfold Builtin.«BaseException.__init__» Builtin.BaseException.bexcPut
  repeat (first | with_reducible refine wpAny_field Cv hd h0 ?_ | with_reducible refine wpAny_setField Cv hd (Array.getElem?_eq_some_iff.mp h0).1 ?_ | wp_step)
  have d3:=Obj.data_mapFields hd (·.setIfInBounds 0 (Value.ref h.objs.size));refine hq _ h.objs.size (fun b o hb z=>?_) ?_
  ·rw[Heap.get?_update_other _ _ (Ne.symm hb)];exact Heap.get?_push_of_some _ z
  ·refine(Heap.get?_update_self _ Cv (Obj.isFreed_of_fields d3)).trans (congrArg some ?_);obtain⟨c,dct,dat,sl⟩:=oe;cases hd;rfl
def Gw (x C:Addr) (od:Option Addr) (h:Heap):Prop:=∃ox vs t0,h.get? x=some ox∧ox.cls = .ref C∧ox.data = .fields vs∧vs[0]? = some (.ref t0)∧vs[1]? = some .none∧vs[2]? = some .none∧ox.dict=od
theorem Gw.at {x C:Addr} {od:Option Addr} {h:Heap} (e:Gw x C od h):jN x C h:=by
  obtain⟨ox,vs,t0,h1,h2,h3,_,_,h5,_⟩:=e;exact⟨ox,vs,h1,h2,h3,h5⟩
structure LQ (K:W.Frag) (C:Addr):Prop where
  ga:findIn K (.ref C) "__getattribute__" = some (some (.builtin "BaseException.__getattribute__"))
  gn:findIn K (.ref C) "__getattr__" = some none
  mb:mroIn K C (.type "BaseException")=some true
  hd:hasDictIn K C=true
theorem Vv {M:Model} {x:Addr} {nameV:Value} {Q:Unit→Shared→Prop} (X:K.In h) (I:jN x C h) (hb:mroIn K C (.type "BaseException")=some true) (hq:Q () ⟨h,g,d,t,os⟩) :
    wpAny M A (checkBuiltinCall "BaseException.__getattribute__" ⟨[.ref x,nameV],[]⟩) Q E ⟨h,g,d,t,os⟩:=by
  have hk:builtinKind "BaseException.__getattribute__" = some .slot:=by decide+kernel
  have hs:splitId "BaseException.__getattribute__" = some ("BaseException", "__getattribute__"):=by decide+kernel
  have L0:=I.type (M:=M);have L1:=looks_mroIn (M:=M) X hb;have ha:=F.args_bexc_ga (.ref x) nameV;simp only[checkBuiltinCall,hk,hs];refine wpAny_bind ?_;unfold isInstance
  repeat (first | with_reducible refine L0.at ?_ | with_reducible refine L1.at ?_ | wp_step)
  exact hq
theorem Zk {x dx:Addr} {mA:Str→Option Value} (e:uE x C (some dx) h) (hn:h.Ns1 dx mA):∃ox od,W.InstAt h x ox C (some od)∧∀name,W.lookIn name od=some (mA name):=by
  obtain⟨ox,vs,h1,h26,h3,_⟩:=e;have h2:ox.cls = .ref C:=congrArg Prod.fst h26;have h6:ox.dict=some dx:=congrArg Prod.snd h26;obtain⟨od,ho,hl⟩:=Dj hn;refine⟨ox,od,⟨h1,h2,?_,?_⟩,hl⟩
  ·unfold W.notCls;rw[h3]
  ·rw[h6];exact ho
theorem qcj {x dx:Addr} {mA:Str→Option Value} {name:Str} {v:Value} {expr:Bool} {Q:Value→Shared→Prop} {s:Shared} (X:K.In s.heap) (e:uE x C (some dx) s.heap) (hn:s.heap.Ns1 dx mA) (G:LQ K C) (ha:findIn K (.ref C) name=some none)
    (hv:mA name=some v) (hv':handedIn v=true) (h:Q v {s with toks:=s.toks+1}):wpAny (model prog w) A (getAttr (.ref x) name expr) Q E s:=by
  obtain⟨ox,od,I,hl⟩:=Zk e hn;obtain⟨hp,g,d,t,os⟩:=s;dsimp only at X e hn h I;have hf:findObj K C (some od) name=some (.value v):=findObj_own G.hd ha rfl (by rw[hl,hv]);have L0:=I.type (M:=model prog w);have L1:=looks_findIn (M:=model prog w) X G.ga;have L2:=looks_findIn (M:=model prog w) X G.gn;have L3:=looks_find (M:=model prog w) X I hf;have f3:=(F.attrBase_ValueError.ga).bind (.ref x);have hx2:(Value.builtin "BaseException.__getattribute__" == Value.builtin "object.__getattribute__")=false:=by decide+kernel
  have hx1:(onTheHeap (Value.ref C) && Value.builtin "BaseException.__getattribute__" == Value.builtin "object.__getattribute__")=false:=by rw[hx2];rfl
  unfold getAttr getAttrBy
  repeat (any_goals (first | assumption | with_reducible refine L0.at ?_ | with_reducible refine L1.at ?_ | with_reducible refine L2.at ?_ | wp_step))
  rw[show(expr && onTheHeap (Value.builtin "BaseException.__getattribute__"))=false from Bool.and_false _,if_neg (by decide)];unfold boundAndCalled;rw[f3];refine wpAny_bind (wpAny_pure ?_);show wpAny _ _ (call (.builtin "BaseException.__getattribute__") [.ref x,.str name t]) _ _ _;refine wpAny_call (codeAny_call_builtin F.attrBase_ValueError.ga.plain F.entry_bexc_ga (Vv X e.at G.mb ?_))
  repeat (any_goals (first | assumption | with_reducible refine L0.at ?_ | with_reducible refine L3.at ?_ | wp_step))
  show wpAny _ _ (handedOut v) _ _ _;rw[handedOut_of hv'];exact wpAny_pure h
structure w6 (K:W.Frag) (C PE:Addr):Prop where
  sa:findIn K (.ref C) "__setattr__" = some (some (.builtin "object.__setattr__"))
  mo:mroIn K C (.type "object")=some true
  cl:∃cd,clsIn K C=some cd∧cd.mro = .ref C::.ref PE::kE∧cd.hasDict=true
theorem qck {x PE:Addr} {name:Str} {tk:Tok} {v:Value} {R:Result→Shared→Prop} (X:K.In h) (I:jN x C h) (S:w6 K C PE) (ha:findIn K (.ref C) name=some none)
    (hq:wpAny (model prog w) A.in1 (Builtin.ObjectAttr.storeInOwnDict (.ref x) (.ref C) (.str name tk) name v false)
      (fun fin s'=>match fin with | .done f=>R (.ok f) s' | .again c'=>c'.quiet=true∧codeAny (model prog w) A c' R s') (fun e s'=>R (.error e) s') ⟨h,g,d,t,os⟩) :
    codeAny (model prog w) A (.call (.builtin "object.__setattr__") ⟨[.ref x,.str name tk,v],[]⟩) R ⟨h,g,d,t,os⟩:=by
  have SF:=PySem.F.store_object;obtain⟨cd,hc,hm,_⟩:=S.cl;have L0:=I.type (M:=model prog w);have sub:Looks (model prog w) h (isInstance (.ref x) (.type "object")) true:=L0.andThen (looks_mroIn X S.mo);refine codeAny_call_builtin SF.slot.plain SF.entry (@check_slot (model prog w) _ _ ⟨h,g,d,t,os⟩ "object.__setattr__" "object" "__setattr__" (.ref x) [.str name tk,v] [] _ SF.kind SF.split sub (SF.args (.ref x) (.str name tk) v) ?_);have Lm:Looks (model prog w) h (mroOf (.ref C)) cd.mro:=(looks_clsIn X hc).andThen .now;rw[osa_eq,refuse_eq];refine wpAny_bind (wpAny_bind (Looks.here (s:=⟨h,g,d,t,os⟩) L0 (wpAny_bind (Looks.here (s:=⟨h,g,d,t,os⟩) Lm ?_))));rw[hm,refuseLoop_ref,refuseLoop_ref,PySem.F.store_ValueError.passes];exact wpAny_pure (wpAny_bind (Looks.here (s:=⟨h,g,d,t,os⟩) L0 (wpAny_bind (Looks.here (s:=⟨h,g,d,t,os⟩) (looks_findIn X ha) (wpAny_bind (wpAny_pure hq))))))
theorem Vw {x PE:Addr} {name:Str} {v:Value} {Q:Unit→Shared→Prop} {s:Shared} (X:K.In s.heap) (I:jN x C s.heap) (S:w6 K C PE) (ha:findIn K (.ref C) name=some none)
    (hq:∀A':Around,wpAny (model prog w) A' (Builtin.ObjectAttr.storeInOwnDict (.ref x) (.ref C) (.str name s.toks) name v false) (fun fin s'=>fin = .done (.ret .none)∧Q () s') (fun e s'=>False) {s with toks:=s.toks+1}) :
    wpAny (model prog w) A (setAttr (.ref x) name v) Q E s:=by
  have L0:=I.type (M:=model prog w);refine wpAny_bind (wpAny_mkText (wpAny_bind (wpAny_bind (wpAny_bind (L0 _ _ _ _ (fun _ _ e=>e) (looks_findIn X S.sa _ _ _ _ (fun _ _ e=>e) (wpAny_holding ?_)))))));rw[PySem.F.store_object.slot.bind];refine wpAny_bind (wpAny_pure (wpAny_bind (wpAny_call (codeAny_mono (qck (A:=A) (tk:=s.toks) (v:=v) (R:=fun r s'=>match r with | .ok (.ret _)=>Q () s' | .ok _=>False | .error e=>False) X I S ha (wpAny_mono (hq _) (fun fin s' z=>?_) fun e s' z=>z)) fun r s' z=>?_))))
  ·obtain⟨rfl,z⟩:=z;exact z
  ·rcases r with e | (v | _ | _ | _) <;> first | exact z.elim | exact wpAny_pure (wpAny_pure z)
theorem Zm {x dx:Addr} {ns:List Str} {mA:Str→Option Value} {name:Str} {tk:Tok} {v:Value} {Q:PySem.Fin→Shared→Prop} {cd:ClassData} (X:K.In h) (e:Gw x C (some dx) h) (hn:h.Ns1 dx mA) (hc:clsIn K C=some cd) (hd:cd.hasDict=true)
    (hw:PySem.Within mA ns) (hsz:ns.length≤sizeLine) (hq:∀h' t',h'.Ns1 dx (fun y=>if y=name then some v else mA y)→Heap.SameBut dx h h'→Q (.done (.ret .none)) ⟨h',g,d,t',os⟩) :
    wpAny (model prog w) A (Builtin.ObjectAttr.storeInOwnDict (.ref x) (.ref C) (.str name tk) name v false) Q E ⟨h,g,d,t,os⟩:=by
  obtain⟨ox,vs,t0,h1,h2,h3,_,_,_,h6⟩:=e;obtain⟨oc,odi,oda,osl⟩:=ox;cases h2;cases h3;cases h6;refine wpAny_bind (wpAny_pure (wpAny_bind (wpAny_bind (wpAny_loadPart h1 (wpAny_bind (Looks.here (s:=⟨h,g,d,t,os⟩) (looks_clsIn X hc) ?_))))));rw[hd];refine wpAny_pure (a:=some dx) (wpAny_bind (wpAny_pure (wpAny_bind ?_)));refine wpAny_nsSet1 (s:=⟨h,g,d,t,os⟩) hn fun h' hn2 hs2=>?_;obtain⟨oD,esD,epD,hoD,hdD,hcD⟩:=hn2.count (PySem.Within.cons name v hw);refine wpAny_bind (wpAny_lookBehind hoD (by rw[hdD];exact pastItsLine_dict (Nat.le_trans hcD (by rw[List.length_cons];omega))) ?_);exact wpAny_pure (hq _ _ hn2 hs2)
theorem Zn {x:Addr} {name:Str} {tk:Tok} {v:Value} {Q:PySem.Fin→Shared→Prop} {cd:ClassData} (X:K.In h) (e:Gw x C none h) (hc:clsIn K C=some cd) (hd:cd.hasDict=true)
    (hq:∀h' t',h'.Ns1 h.objs.size (fun y=>if y=name then some v else none)→(∀b o,b≠x→h.get? b=some o→h'.get? b=some o)→Gw x C (some h.objs.size) h'→Q (.done (.ret .none)) ⟨h',g,d,t',os⟩) :
    wpAny (model prog w) A (Builtin.ObjectAttr.storeInOwnDict (.ref x) (.ref C) (.str name tk) name v false) Q E ⟨h,g,d,t,os⟩:=by
  obtain⟨ox,vs,t0,h1,h2,h3,h40,h41,h42,h6⟩:=e;obtain⟨oc,odi,oda,osl⟩:=ox;cases h2;cases h3;cases h6;refine wpAny_bind (wpAny_pure (wpAny_bind (wpAny_bind (wpAny_loadPart h1 (wpAny_bind (Looks.here (s:=⟨h,g,d,t,os⟩) (looks_clsIn X hc) ?_))))));rw[hd,if_neg (by decide)];show wpAny _ _ (if (!true || !typeHasDict (Value.ref C))=true then pure none else _) _ _ _
  rw[if_neg (by simp[typeHasDict])];have hxs:x≠h.objs.size:=Nat.ne_of_lt (Heap.lt_size h1);have h1':(h.push {cls:=.type "dict",data:=.dict #[]}).get? x=some ⟨.ref C,none,.fields vs,osl⟩:=Heap.get?_push_of_some _ h1;refine wpAny_bind (wpAny_alloc' ?_);refine wpAny_bind (wpAny_update' h1' ?_);refine wpAny_pure ?_;generalize hG:((h.push {cls:=.type "dict",data:=.dict #[]}).update x fun o=>{cls:=o.cls,dict:=some h.objs.size,data:=o.data,slots:=o.slots})=G;have g1:G.get? h.objs.size=some {cls:=.type "dict",data:=.dict #[]}:=by
    rw[← hG];exact(Heap.get?_update_ne _ _ _ _ hxs.symm).trans (Heap.get?_push_at rfl rfl)
  have g2:G.get? x=some ⟨.ref C,some h.objs.size,.fields vs,osl⟩:=by
    rw[← hG];exact Heap.get?_update_self _ h1' rfl
  have g3:∀b o,b≠x→h.get? b=some o→G.get? b=some o:=fun b o hb z=>by
    rw[← hG];exact(Heap.get?_update_ne _ _ _ _ hb).trans (Heap.get?_push_of_some _ z)
  have hnd:G.Ns h.objs.size (fun _=>none):=⟨_,#[],_,g1,rfl,fun e he=>absurd he (by simp),fun _=>rfl⟩;show wpAny _ _ (Builtin.ObjectAttr.storeInDict h.objs.size (.str name tk) name v) _ _ _;unfold Builtin.ObjectAttr.storeInDict Builtin.ObjectAttr.newKeyGuard;refine wpAny_bind (wpAny_pure (wpAny_bind (wpAny_nsSet1 (Heap.Ns1.of_empty hnd) fun h' hn' hs=>?_)));obtain⟨oD,esD,epD,hoD,hdD,hcD⟩:=hn'.count (Within.cons name v Within.nil);refine wpAny_bind (wpAny_lookBehind hoD (by rw[hdD];exact pastItsLine_dict (Nat.le_trans hcD (by rw[List.length_cons,List.length_nil,sizeLine_eq];omega))) ?_);exact wpAny_pure (hq _ _ hn' (fun b o hb z=>(hs.2 b (Nat.ne_of_lt (Heap.lt_size z))).trans (g3 b o hb z)) ⟨_,vs,t0,(hs.2 x hxs).trans g2,rfl,rfl,h40,h41,h42,rfl⟩)
end
end L2
namespace L2
open PySem PySem.Spec PyProof.Rows
def eU (x C:Addr) (od:Option Addr):HO:=.ext fun h=>Gw x C od h
def iz (dx:Addr) (fs:List (Str×V)):HO:=.ext fun h=>fs.length≤1000∧∃mA,h.Ns1 dx mA∧(∀f,lE (fs.lookup f) (mA f))∧PySem.Within mA (fs.map (·.1))
section
variable {P:Program} {w:World} {H:Hp} {h:Heap} {x C dx:Addr} {od:Option Addr} {fs:List (Str×V)}
theorem Gx (e:Gw x C od h):cj P w H h x (eU x C od):=by
  obtain⟨ox,vs,t0,h1,h2⟩:=id e;exact⟨e,⟨ox,h1⟩,fun g1 g2 ⟨ox,vs,t0,a1,a2⟩ k=>⟨ox,vs,t0,k _ a1,a2⟩⟩
theorem yD (ok:qT P w H h) (e:H x=some (eU x C od)):Gw x C od h:=((show cj P w H h x (eU x C od) from ok _ _ e)).1
theorem OD {mA:Str→Option Value} (hl:fs.length≤1000) (hn:h.Ns1 dx mA) (hr:∀f,lE (fs.lookup f) (mA f)) (hw:PySem.Within mA (fs.map (·.1))):cj P w H h dx (iz dx fs):=by
  obtain⟨o,es,ep,h1,h2⟩:=id hn;exact⟨⟨hl,mA,hn,hr,hw⟩,⟨o,h1⟩,fun g1 g2 ⟨c,mB,⟨o,es,ep,a1,a2⟩,b⟩ k=>⟨c,mB,⟨o,es,ep,k _ a1,a2⟩,b⟩⟩
theorem OJ (ok:qT P w H h) (e:H dx=some (iz dx fs)):fs.length≤1000∧∃mA,h.Ns1 dx mA∧(∀f,lE (fs.lookup f) (mA f))∧PySem.Within mA (fs.map (·.1)):=((show cj P w H h dx (iz dx fs) from ok _ _ e)).1
theorem qcl {o:HO} (e:H x=some o):upd H x o=H:=funext fun b=>by
  by_cases hb:b=x
  ·subst hb;rw[ao,e]
  ·rw[aB hb]
end
section
variable {X:Cx} {p_:List (Addr×Obj)} {σ:St} {H:Hp} {s:Shared}
theorem Inv.qcm {a:Addr} {ob:HO} (I:Inv X p_ σ H s) (hex:X.ex=[]) (new:X.s₀.heap.get? a=none) (un:H a=none) (e:∃ox vs,s.heap.get? a=some ox∧ox.data = .fields vs) (ok:cj X.prog X.w (upd H a ob) s.heap a ob) (hp:∀p∈X.pn++p_,p.1≠a):Inv X p_ σ (upd H a ob) s:=by
  have nf:∀{b o},s.heap.get? b=some o→(∀vs,o.data≠.fields vs)→b≠a:=fun {b o} eb hd z=>by
    subst z;obtain⟨ox,vs,h1,h3⟩:=e;rw[eb] at h1;cases h1;exact hd vs h3
  have old:∀{b o},X.s₀.heap.get? b=some o→b≠a:=fun {b o} eb z=>by
    rw[z,new] at eb;cases eb
  have ne:∀{b:Addr} {u:HO},H b=some u→b≠a:=fun {b u} q z=>by
    rw[z,un] at q;cases q
  refine⟨I.ok,I.os,I.bare,⟨fun b o eb n hb hx=>I.base.keep b o eb n hb hx,I.base.slot,fun b o eb n hx=>?_,I.base.there,fun b xs q=>?_,fun b o u q=>?_,fun b ps q=>?_⟩,I.loc,I.cell,?_,fun x c q=>?_,fun p hpp=>?_,fun b u q=>?_,I.len⟩
  ·rw[aB (old eb)];exact I.base.free b o eb n hx
  ·have z:=I.base.tups b xs q;rw[aB (ne z)];exact z
  ·have z:=I.base.oU b o u q;rw[aB (ne z)];exact z
  ·obtain⟨m,z⟩:=I.base.pF b ps q;exact⟨m,by rw[aB (ne z)];exact z⟩
  ·obtain⟨m,⟨o,es,ep,eo,d,r⟩,_⟩:=I.loc;rw[aB (nf eo fun vs y=>by rw[d] at y;cases y)];exact I.free
  ·obtain⟨v,o,eo,d⟩:=I.cell x c q;rw[aB (nf eo fun vs y=>by rw[d] at y;cases y)];exact I.gq x c q
  ·obtain⟨f1,f2,f3⟩:=I.pin p hpp;refine⟨f1,?_,f3⟩;rw[aB (hp p hpp)];exact f2
  · by_cases hb:b=a
    ·subst hb;rw[ao] at q;cases q;exact ok
    · rw[aB hb] at q;refine(I.hok b u q).stay (fun c v _ z=>z) (fun c z=>?_) fun c xs z=>?_
      ·rw[aB (ne z)];exact z
      ·rw[aB (ne z)];exact z
theorem Inv.qeS {e C:Addr} {args:List Value} {h':Heap} (I:Inv X p_ σ H s) (hex:X.ex=[]) (mk:Heap.MadeExcOf s.heap h' e (.ref C) args):H e=none∧Inv X p_ σ (upd H e (eU e C none)) {s with heap:=h'}:=by
  have un:=Vj I.hok mk.new;obtain⟨t0,ht,_⟩:=mk.there;have I2:Inv X p_ σ H {s with heap:=h',toks:=s.toks}:=I.kept mk.keeps;refine⟨un,I2.qcm hex (I.old hex mk.new) un ⟨_,_,ht,rfl⟩ (Gx ⟨_,_,t0,ht,rfl,rfl,rfl,rfl,rfl,rfl⟩) fun p hp z=>?_⟩;have e1:=(I.pin p hp).1;rw[z,mk.new] at e1;cases e1
end
structure XMk (K:W.Frag) (C B f:Addr):Prop where
  ob:∃nm q N bs hdct sn sub ab col dd k0 k1 k2 k3 k5,K.lookup C=some (excClassObj nm q C N bs (.ref B::kE) hdct sn sub ab col dd k0 k1 k2 k3 k5 "ValueError.__new__")
  pe:wY K B
  pm:∃cd,W.clsIn K B=some cd∧cd.mro = .ref B::kE
  init:W.findIn K (.ref C) "__init__" = some (some (.ref f))
  fn:W.typeIn K (.ref f)=some (.type "function")
  kp:W.keepIn K (.ref C)=true
theorem XMk.tail {K:W.Frag} {C B f:Addr} {h:Heap} (M:XMk K C B f) (X:K.In h):OwnTail h kE (.ref B::kE):=by
  obtain⟨bm,N,nm,qn,bs,hdct,sn,sub,ab,col,dd,k0,k1,k2,k3,k5,mN,hC0,hN0,hni,T0,_⟩:=Ov X M.pe;obtain⟨cd,h1,h2⟩:=M.pm;have e:bm=kE:=by
    unfold W.clsIn at h1;split at h1
    ·rename_i c' d' cd' sl' ho;cases h1;have z:=X _ _ ho;rw[hC0] at z;cases z;simpa using h2
    ·cases h1
  subst e;exact .own hC0 hN0 hni .base
section
variable {X:Cx} {C B f:Addr} {x:Str} {np p pos apos:Pos} {e:Expr} {es:List Expr} {t:TA}
structure qeT (K:W.Frag) (B:Addr):Prop where
  sg:W.specialIn K (.ref B) "__getattribute__" = some (some (.builtin "type.__getattribute__"))
  rd:W.readsIn K B (.type "type")=true
  fc:W.findCls K (.ref B) (.type "type") "__init__" = some (.val (.builtin "ValueError.__init__"))
def qax (C:Addr) (t:TA):TE:=fun σ H Q=>t σ H fun vs H1=>ar2 vs fun v y=>isRef v fun a=>∃od,H1 a=some (eU a C od)∧Q .non H1
@[simp ↓] theorem qi3 C t σ H Q:qax C t σ H Q=t σ H fun vs H1=>ar2 vs fun v y=>isRef v fun a=>∃od,H1 a=some (eU a C od)∧Q .non H1:=rfl
theorem Zo {pl:Sem Bool} (M:XMk X.K C B f) (N:qeT X.K B) (hg:Gl X x) (hm:X.mg x=some (.ref B)) (ha:PA X (e::es) t) (hdb:(x == ("__debug__" : Str))=false:=by decide)
    (he:starEach (e::es) X.env=(false,eval e X.env)::starEach es X.env:=by rfl) (hpl:(backTo pos (starEach es X.env)).any (·.1)=false:=by rfl)
    (ht:eval (.Call (.Attribute (.Name x np) "__init__" apos) (e::es) [] pos) X.env=(do
      let ov ← eval (.Name x np) X.env
      standAt apos.atName
      let (f,first) ← holding [ov] (getMethod ov "__init__" pl)
      callWith pos f first (backTo pos (starEach (e::es) X.env)) (backToKw pos (keywordEach [] X.env))):=by rfl) :
    PE X (.Call (.Attribute (.Name x np) "__init__" apos) (e::es) [] pos) (qax C t):=by
  intro p_ s σ H Q I h;refine W.methodCall_KW (pl:=pl) (mU I hg hm ?_ hdb) ht;refine W.method_cls I.mR N.sg (W.cls_value I.mR N.rd N.fc rfl ?_);have I0:Inv X p_ σ H {s with toks:=s.toks+1}:=I.tok _;refine PyProof.Rows.callWith_builtin1 (cB (ha pos p_ _ σ H _ I0 h) fun us s1 zz=>?_) he hpl;obtain⟨vs,H1,I1,r,q⟩:=zz;obtain⟨v,y,rfl,q⟩:=ar2.out q;obtain⟨a,rfl,od,ea,q⟩:=isRef.out q;obtain⟨u1,u2,rfl,r1,r2⟩:=r.two;obtain rfl:u1=Value.ref a:=r1;obtain⟨nm,qn,N,bs,hdct,sn,sub,ab,col,dd,k0,k1,k2,k3,k5,hC⟩:=M.ob;have T:=M.tail I1.mR;have hC1:=I1.mR _ _ hC;obtain⟨ox,vs,t0,h1,h2,h3,h4,h5,h6,h7⟩:=yD I1.hok ea;obtain⟨hh,g,d,tk,os⟩:=s1;refine Zj T hC1 h1 h2 h3 h4 (fun h' t1 keep he'=>?_) (by show 1≤sizeLine;decide);have sz:0<vs.size:=(Array.getElem?_eq_some_iff.mp h4).1;have new:Gw a C od h':=⟨_,vs.setIfInBounds 0 (.ref t1),t1,he',h2,rfl,by simp[sz],by rw[Array.getElem?_setIfInBounds_ne (by decide)];exact h5,by rw[Array.getElem?_setIfInBounds_ne (by decide)];exact h6,h7⟩;have I2:Inv X p_ σ (upd H1 a (eU a C od)) {(⟨hh,g,d,tk,os⟩:Shared) with heap:=h',toks:=tk}:=I1.write (x:=a) (e:=a) (by rw[ea];exact True.intro) (.inl rfl) keep ⟨_,he'⟩ (Gx new);rw[qcl ea] at I2;exact⟨.non,H1,I2,rfl,q⟩
end
section
variable {X:Cx} {C B:Addr} {o value:Expr} {f:Str} {pos pos':Pos} {ta tv:TE}
def sX0 (C:Addr) (ta tv:TE) (f:Str):TS:=fun D σ H=>tv σ H fun y H1=>ta σ H1 fun x H2=>isRef x fun a=>H2 a=some (eU a C none)∧∀dx,H2 dx=none→D.nx σ (upd (upd H2 dx (iz dx [(f,y)])) a (eU a C (some dx)))
@[simp ↓] theorem qmw C ta tv f D σ H:sX0 C ta tv f D σ H=tv σ H fun y H1=>ta σ H1 fun x H2=>isRef x fun a=>H2 a=some (eU a C none)∧∀dx,H2 dx=none→D.nx σ (upd (upd H2 dx (iz dx [(f,y)])) a (eU a C (some dx))):=rfl
theorem qeU (S:w6 X.K C B) (hn:W.findIn X.K (.ref C) f=some none) (ha:PE X o ta) (hv:PE X value tv) (hs:swapsWith value (some (.Attribute o f pos')) pos.line X.env=pure false):PS X (.Assign [.Attribute o f pos'] value pos) (sX0 C ta tv f):=by
  intro p_ s σ H D I h;refine plainObj_wpAny_Assign_Attribute (cB (hv p_ s σ H _ I h) fun u s1 z1=>?_) hs;obtain⟨y,H1,I1,ry,q⟩:=z1;refine cB (ha p_ s1 σ H1 _ I1 q) fun ov s2 z2=>?_;obtain⟨x,H2,I2,rx,q2⟩:=z2;obtain⟨a,rfl,ea,q2⟩:=isRef.out q2;obtain rfl:ov=Value.ref a:=rx;have E0:=yD I2.hok ea;obtain⟨cd,hc,_,hd⟩:=S.cl;have Ko:=I2.mR;refine Vw Ko E0.at S hn fun A'=>?_;obtain⟨hh,g,d,tk,os⟩:=s2;refine Zn Ko E0 hc hd fun h' t' hns keep E1=>⟨rfl,?_⟩;have hf:H2 hh.objs.size=none:=I2.hok.fresh (Nat.le_refl _);obtain⟨oD,es,ep,eD,rest⟩:=id hns;obtain⟨ox,_,_,ex1,_⟩:=id E0;have axs:a≠hh.objs.size:=Nat.ne_of_lt (Heap.lt_size ex1);have nfr:oD.isFreed=false:=(Heap.get?_some_iff.mp eD).2;have hgD:(hh.push oD).get? hh.objs.size=some oD:=Heap.get?_push_size hh nfr;have hns':(hh.push oD).Ns1 hh.objs.size (fun y'=>if y'=f then some u else none):=⟨oD,es,ep,hgD,rest⟩
  have rel:∀f',lE ([(f,y)].lookup f') (if f'=f then some u else none):=fun f'=>by
    have e:=mV f f' y [];rw[show[(f,y)].lookup f'=(jF f y []).lookup f' from rfl,e]
    by_cases z:f'=f
    ·rw[if_pos z,if_pos z];exact ry
    ·rw[if_neg z,if_neg z];exact True.intro
  have wi:PySem.Within (fun y'=>if y'=f then some u else none) ([(f,y)].map (·.1)):=Within.cons f u Within.nil
  have I3:Inv X p_ σ (upd H2 hh.objs.size (iz hh.objs.size [(f,y)])) {(⟨hh,g,d,tk,os⟩:Shared) with heap:=hh.push oD,toks:=tk}:=I2.laid (fun b o z=>Heap.get?_push_of_some _ z) (Nat.le_refl _) (OD (by show(1:Nat)≤1000;decide) hns' rel wi);have I4:Inv X p_ σ (upd (upd H2 hh.objs.size (iz hh.objs.size [(f,y)])) a (eU a C (some hh.objs.size))) {(⟨hh.push oD,g,d,tk,os⟩:Shared) with heap:=h',toks:=t'}:=by
    refine I3.write (x:=a) (e:=a) (by rw[aB axs,ea];exact True.intro) (.inl rfl) (fun b o hb z=>?_) ?_ (Gx E1)
    · by_cases hbs:b=hh.objs.size
      ·subst hbs;rw[hgD] at z;cases z;exact eD
      ·rw[Heap.get?_push_ne _ _ _ hbs] at z;exact keep b o hb z
    ·obtain⟨ox',_,_,z,_⟩:=id E1;exact⟨_,z⟩
  exact⟨σ,_,I4,q2 _ hf⟩
def sX1 (C:Addr) (ta tv:TE) (f:Str):TS:=fun D σ H=>tv σ H fun y H1=>ta σ H1 fun x H2=>isRef x fun a=>∃dx fs,H2 a=some (eU a C (some dx))∧H2 dx=some (iz dx fs)∧fs.length<1000∧D.nx σ (upd H2 dx (iz dx (jF f y fs)))
@[simp ↓] theorem qmx C ta tv f D σ H:sX1 C ta tv f D σ H=tv σ H fun y H1=>ta σ H1 fun x H2=>isRef x fun a=>∃dx fs,H2 a=some (eU a C (some dx))∧H2 dx=some (iz dx fs)∧fs.length<1000∧D.nx σ (upd H2 dx (iz dx (jF f y fs))):=rfl
theorem qeV (S:w6 X.K C B) (hn:W.findIn X.K (.ref C) f=some none) (ha:PE X o ta) (hv:PE X value tv) (hs:swapsWith value (some (.Attribute o f pos')) pos.line X.env=pure false):PS X (.Assign [.Attribute o f pos'] value pos) (sX1 C ta tv f):=by
  intro p_ s σ H D I h;refine plainObj_wpAny_Assign_Attribute (cB (hv p_ s σ H _ I h) fun u s1 z1=>?_) hs;obtain⟨y,H1,I1,ry,q⟩:=z1;refine cB (ha p_ s1 σ H1 _ I1 q) fun ov s2 z2=>?_;obtain⟨x,H2,I2,rx,q2⟩:=z2;obtain⟨a,rfl,dx,fs,ea,ed,hl,q2⟩:=isRef.out q2;obtain rfl:ov=Value.ref a:=rx;have E0:=yD I2.hok ea;obtain⟨hl0,mA,hns,hr,hw⟩:=OJ I2.hok ed;obtain⟨cd,hc,_,hd⟩:=S.cl;have Ko:=I2.mR;refine Vw Ko E0.at S hn fun A'=>?_;obtain⟨hh,g,d,tk,os⟩:=s2;refine Zm Ko E0 hns hc hd hw (by rw[List.length_map,sizeLine_eq];omega) fun h' t' hns' sb=>⟨rfl,?_⟩;have he:∃o,h'.get? dx=some o:=let ⟨o,_,_,e',_⟩:=hns';⟨o,e'⟩;have I4:Inv X p_ σ (upd H2 dx (iz dx (jF f y fs))) {(⟨hh,g,d,tk,os⟩:Shared) with heap:=h',toks:=t'}:=by
    refine I2.write (x:=dx) (e:=dx) (by rw[ed];exact True.intro) (.inl rfl) (fun b o hb z=>(sb.2 b hb).trans z) he (OD ?_ hns' (fun g'=>?_) fun g' hg=>?_)
    ·have:=qY f y fs;omega
    · show lE ((jF f y fs).lookup g') (if g'=f then some u else mA g')
      rw[mV]
      by_cases z:g'=f
      ·rw[if_pos z,if_pos z];exact ry
      ·rw[if_neg z,if_neg z];exact hr g'
    · by_cases z:g'=f
      ·rw[z];exact(oY f y fs).1
      · refine(oY f y fs).2 g' (hw g' fun y'=>hg ?_);show(if g'=f then some u else mA g')=none
        rw[if_neg z];exact y'
  exact⟨σ,_,I4,q2⟩
end
inductive Lf:V→PyData→Prop
  | non:Lf .non .none
  | bl (b):Lf (.bl b) (.bool b)
  | int (i):Lf (.int i) (.int i)
  | str (x):Lf (.str x) (.str x)
inductive O1:List (Str×V)→List (PyData×PyData)→Prop
  | nil:O1 [] []
  | cons {x v d ks kvs}:Lf v d→O1 ks kvs→O1 ((x,v)::ks) ((.str x,d)::kvs)
section
variable {X:Cx} {p_:List (Addr×Obj)} {σ:St} {H:Hp} {s:Shared}
inductive Shw (H:Hp):PyData→V→Prop
  | thg {d v}:lW H d v→d.hasDict=false→Shw H d v
  | dic {a ks kvs}:O1 ks kvs→H a=some (.dK (ks.map fun e=>((Sum.inr e.1:Key),e.2)))→Shw H (.dict kvs) (.ref a)
end
structure Sml (k n:Nat) (d:PyData):Prop where
  sh:d.showable=true
  dp:d.depth≤k
  ln:d.shown.length≤n
end L2
namespace L2
open PySem PySem.Spec
section
variable {σ:St} {H:Hp} {p:Addr}
variable {φ:PyData→Prop}
structure big (t:TE) (σ:St) (H:Hp) (Q:VK):Prop where
  out:t σ H Q
end
end L2
namespace L2
open PySem
theorem Vx {K:W.Frag} {C:Addr}:W.kitOne K (.ref C) (.ref C)=some true:=by
  unfold W.kitOne;simp
theorem qcn:W.kitMeta "ValueError" = true:=by decide+kernel
theorem qco {K:W.Frag} {C:Addr} {T:String} {b:Bool} (m:W.kitMeta T=true) (s:W.subIn K (.ref C) (.type T)=some b):W.kitOne K (.ref C) (.type T)=some b:=by
  unfold W.kitOne W.kitCls;rw[if_neg (by simp)];show(if _ then _ else _)=_
  rw[if_pos m];exact s
end L2
namespace L2
open PySem PySem.Spec PyProof.Rows PySem.SeqAt
structure XC (K:W.Frag) (C B:Addr):Prop where
  cl:∃cd,W.clsIn K C=some cd∧cd.mro = .ref C::.ref B::kE∧cd.hasDict=true
  ty:W.typeIn K (.ref C)=some (.type "type")
  ga:W.findIn K (.ref C) "__getattribute__" = some (some (.builtin "BaseException.__getattribute__"))
  gn:W.findIn K (.ref C) "__getattr__" = some none
  gc:W.findIn K (.ref C) "__class__" = some (some (.builtin "object.__class__"))
  kp:W.keepIn K (.ref C)=true
section
variable {K:W.Frag} {C D B:Addr}
theorem XC.mro (c:XC K C B) (v:Value):W.mroIn K C v=some ((Value.ref C::Value.ref B::kE).contains v):=by
  obtain⟨cd,h1,h2,_⟩:=c.cl;unfold W.mroIn;rw[h1,Option.bind_some,h2];rfl
theorem XC.ask (c:XC K C B) (sp:W.specialIn K (.builtin "object.__class__") "__get__" = some (some (.builtin "getset_descriptor.__get__"))) (tk:W.takesIn K (.builtin "object.__class__")=some true):LK K C:=by
  obtain⟨cd,h1,_⟩:=c.cl;exact⟨⟨c.ga,c.gn,c.gc,sp,tk,by rw[c.mro];simp,by rw[c.mro];simp⟩,cd,h1⟩
theorem XC.get (c:XC K C B):LQ K C:=by
  obtain⟨cd,h1,_,h3⟩:=c.cl;refine⟨c.ga,c.gn,by rw[c.mro];simp,?_⟩;unfold W.hasDictIn;rw[h1];exact h3
theorem XC.set (c:XC K C B) (sa:W.findIn K (.ref C) "__setattr__" = some (some (.builtin "object.__setattr__"))):w6 K C B:=by
  obtain⟨cd,h1,h2,h3⟩:=c.cl;exact⟨sa,by rw[c.mro];simp,cd,h1,h2,h3⟩
theorem XC.qkd (c:XC K C B):Zg K C (.ty "ValueError")=some true:=by
  refine qco qcn ?_;show W.mroIn K C (.type "ValueError")=_;rw[c.mro];simp
end
def Gy:List Addr→Bool
  | []=>true
  | a::l=>!l.contains a && Gy l
theorem Ef:∀{l:List Addr},Gy l=true→l.Nodup
  | [],_=>List.Pairwise.nil
  | a::l,h=>by
    simp only[Gy,Bool.and_eq_true,Bool.not_eq_true',List.contains_eq_mem,decide_eq_false_iff_not] at h;exact List.nodup_cons.mpr ⟨h.1,Ef h.2⟩
def ar3 (vs:List V) (R:V→V→V→Prop):Prop:=match vs with
  | [u,v,w]=>R u v w
  | _=>False
@[simp ↓] theorem qmy u v w R:ar3 [u,v,w] R=R u v w:=rfl
end L2
namespace L2
open PySem PySem.Spec PyProof.Rows
section
variable {M:Model} {A:Around} {E:Value→Shared→Prop} {s:Shared} {env:Env}
variable {nm q:Str} {C N:Addr} {bs bm:List Value} {hdct:Bool} {sn:List Str} {sub:List Value} {ab:Bool} {col:Option Bool} {dd:Option Addr} {k0 k1 k2 k3 k5:Option Value} {newId:String}
theorem Zq {x:Sem Value} {Q:Flow→Shared→Prop} (hh:A.handled=none)
    (h:wpAny M A x (fun v s1=>∃(a C:Addr) (oe:Obj) (vs:Array Value) (nm q:Str) (N:Addr) (bs bm:List Value) (hdct:Bool) (sn:List Str) (sub:List Value) (ab:Bool) (col:Option Bool) (dd:Option Addr) (k0 k1 k2 k3 k5:Option Value) (newId:String),v = .ref a∧bm.contains (.type "BaseException")=true∧
      s1.heap.get? C=some (excClassObj nm q C N bs bm hdct sn sub ab col dd k0 k1 k2 k3 k5 newId)∧s1.heap.get? a=some oe∧oe.cls = .ref C∧oe.data = .fields vs∧vs[1]? = some .none∧E (.ref a) s1) E s) :
    wpAny M A (raiseStmt env (some x) none) Q E s:=by
  unfold raiseStmt;refine wpAny_bind (wpAny_mono h (fun v s1 z=>?_) fun _ _ x=>x);obtain⟨a,C,oe,vs,nm,q,N,bs,bm,hdct,sn,sub,ab,col,dd,k0,k1,k2,k3,k5,newId,rfl,hb,hC,he,hc,hd,h1,hE⟩:=z;have hcB:(Value.ref C::bm).contains (.type "BaseException")=true:=by rw[List.contains_cons,hb,Bool.or_true]
  obtain⟨hp,g,d,tk,os⟩:=s1;obtain⟨oc,odd,oda,osl⟩:=oe;cases hc;cases hd
  repeat (first | with_reducible refine wpAny_loadPart_at he ?_ | with_reducible refine wpAny_loadPart_at hC ?_ | (with_reducible refine wpAny_isSubtype_exc hC ?_;rw[hcB]) | wp_step)
  rw[h1];refine wpAny_pure ?_;rw[if_neg (by decide)];exact wpAny_pure (wpAny_raiseNew_none hh hE)
end
section
variable {X:Cx} {p_:List (Addr×Obj)} {σ:St} {H:Hp} {s:Shared}
theorem Inv.qke {a:Addr} {φ:Heap→Prop} (I:Inv X p_ σ H s) (ea:H a=some (.ext φ)):Inv X p_ σ (hid a H) s:=by
  have ne:∀{b:Addr} {u:HO},hid a H b=some u→b≠a∧H b=some u:=fun {b u} z=>by
    unfold hid at z;split at z
    ·cases z
    ·rename_i h;exact⟨h,z⟩
  have kp:∀{b:Addr} {u:HO},b≠a→H b=some u→hid a H b=some u:=fun h z=>uz h z;have nn:∀{b:Addr},H b=none→hid a H b=none:=fun {b} z=>by
    unfold hid;split
    ·rfl
    ·exact z
  refine⟨I.ok,I.os,I.bare,⟨I.base.keep,I.base.slot,fun b o eb n hx=>nn (I.base.free b o eb n hx),I.base.there,fun b xs q=>?_,fun b o u q=>?_,fun b ps q=>?_⟩,I.loc,I.cell,nn I.free,fun x c q=>nn (I.gq x c q),fun p hpp=>?_,fun b u q=>?_,I.len⟩
  ·have z:=I.base.tups b xs q;exact kp (fun y=>by rw[y,ea] at z;cases z) z
  ·have z:=I.base.oU b o u q;exact kp (fun y=>by rw[y,ea] at z;cases z) z
  ·obtain⟨m,z⟩:=I.base.pF b ps q;exact⟨m,kp (fun y=>by rw[y,ea] at z;cases z) z⟩
  ·obtain⟨f1,f2,f3⟩:=I.pin p hpp;exact⟨f1,nn f2,f3⟩
  · obtain⟨hb,q'⟩:=ne q;refine(I.hok b u q').stay (fun c v _ z=>z) (fun c z=>?_) fun c xs z=>?_
    ·exact kp (fun y=>by rw[y,ea] at z;cases z) z
    ·exact kp (fun y=>by rw[y,ea] at z;cases z) z
end
section
variable {X:Cx} {E:XK} {k:Nat} {C B f:Addr} {fd:FuncData} {ps:List Str} {sp:Sp} {x:Str} {np cpos pos:Pos} {e:Expr} {es:List Expr} {t:TA}
def O2 (C:Addr) (sp:Sp) (E:XK) (t:TA):TS:=fun _ σ H=>t σ H fun vs H1=>vs.length≤sizeLine∧∀a,H1 a=none→K_ sp (.ref a::vs) (upd H1 a (eU a C none)) (fun v H2=>v = .non∧∃od,H2 a=some (eU a C od)∧E (.ref C) od (hid a H2)) ⟨0⟩ E0
@[simp ↓] theorem qdE C sp E t D σ H:O2 C sp E t D σ H=t σ H fun vs H1=>vs.length≤sizeLine∧∀a,H1 a=none→K_ sp (.ref a::vs) (upd H1 a (eU a C none)) (fun v H2=>v = .non∧∃od,H2 a=some (eU a C od)∧E (.ref C) od (hid a H2)) ⟨0⟩ E0:=rfl
theorem Eh (hL:Lets X E) (hex:X.ex=[]) (hc:X.calm=true) (M:XMk X.K C B f) (F:cF X.prog X.w X.K X.mg X.base jA k f fd ps sp) (hr:h_ (k+1) X.A) (hg:Gl X x) (hm:X.mg x=some (.ref C)) (hb:Binds X.K fd ps [])
    (ha:PA X (e::es) t) (hdb:(x == ("__debug__" : Str))=false:=by decide) (he:starEach (e::es) X.env=(false,eval e X.env)::starEach es X.env:=by rfl) (hpl:(backTo cpos (starEach es X.env)).any (·.1)=false:=by rfl) :
    PS X (.Raise (some (.Call (.Name x np) (e::es) [] cpos)) none pos) (O2 C sp E t):=by
  intro p_ s σ H D I h;show wpAny _ _ (do standAt pos;raiseStmt X.env (some (do let v ← eval (.Call (.Name x np) (e::es) [] cpos) X.env;standAt pos;pure v)) none) _ _ s
  refine wpAny_bind (wpAny_standAt (Zq (I.ok.hd hc) (wpAny_bind ?_)));refine wpAny_mono (Q:=fun v s1=>∃(a C:Addr) (oe:Obj) (vs:Array Value) (nm q:Str) (N:Addr) (bs bm:List Value) (hdct:Bool) (sn:List Str) (sub:List Value) (ab:Bool) (col:Option Bool) (dd:Option Addr) (k0 k1 k2 k3 k5:Option Value) (newId:String),v = .ref a∧bm.contains (.type "BaseException")=true∧
      s1.heap.get? C=some (excClassObj nm q C N bs bm hdct sn sub ab col dd k0 k1 k2 k3 k5 newId)∧s1.heap.get? a=some oe∧oe.cls = .ref C∧oe.data = .fields vs∧vs[1]? = some .none∧X.xe (.ref a) s1) ?_ (fun v s1 z=>wpAny_bind (wpAny_standAt (wpAny_pure z))) fun _ _ z=>z
  refine wpAny_Call_Name_kw (mU I hg hm ?_ hdb);refine W.callWith_K (h₀:=X.base) I.ok.mod.Ko M.kp (cB (ha cpos p_ s σ H _ I h) fun us s1 zz=>?_) he hpl;obtain⟨vs,H1,I1,r,hz,q⟩:=zz;refine⟨I1.mR,?_⟩;obtain⟨nm,qn,N,bs,hdct,sn,sub,ab,col,dd,k0,k1,k2,k3,k5,hC⟩:=M.ob;have T:=M.tail I1.mR;have hC1:=I1.mR _ _ hC;have Ko:=I1.mR;obtain⟨hh,g,d,tk,os⟩:=s1;refine Zi Ko T M.init M.fn hC1 (fun h' a mk=>?_) (by show us.length≤_;rw[← r.length];exact hz);have new:X.s₀.heap.get? a=none:=I1.old hex mk.new;obtain⟨un,I2⟩:=I1.qeS hex mk;have hq:=q a un;have r2:Vals (V.ref a::vs) (Value.ref a::us):=.cons rfl r;have hl:(Value.ref a::us).length=ps.length:=by rw[← r2.length];exact F.len _ _ _ _ hq
  have hbd:=hb _ (Value.ref a::us) I2.mR (by rw[List.append_nil];exact hl);rw[List.append_nil] at hbd;refine wpAny_call (codeAny_mono (F.run _ X.stack _ _ ⟨Value.ref a::us,[]⟩ (Value.ref a::us) _ _ _ (hr.make C us []) (I2.env0.make C us []) hbd r2 hq) fun rr s' hq'=>?_);cases rr with
  | error z=>exact False.elim hq'
  | ok fl=>
    cases fl with
    | ret u=>
      obtain⟨v,H',I3,rv,ev,od,ea,hE⟩:=I2.after hq';subst ev;obtain⟨ox,ws,t0,g1,g2,g3,g4,g5,g6,g7⟩:=yD I3.hok ea;refine⟨rv,a,C,ox,ws,nm,qn,N,bs,_,hdct,sn,sub,ab,col,dd,k0,k1,k2,k3,k5,_,rfl,?_,I3.mR _ _ hC,g1,g2,g3,g5,?_⟩
      ·simp[kE]
      ·refine hL p_ σ (hid a H') s' a C od (I3.qke ea) ⟨new,?_,ox,ws,g1,by rw[g2,g7],g3,g6,.inl g5⟩ hE;unfold hid;rw[if_pos rfl]
    | next=>exact False.elim hq'
    | brk=>exact False.elim hq'
    | cont=>exact False.elim hq'
end
theorem Ow.ofX {K:W.Frag} {C B f:Addr} (M:XMk K C B f) (c:XC K C B):Ow K C:=fun h X=>by
  obtain⟨nm,qn,N,bs,hdct,sn,sub,ab,col,dd,k0,k1,k2,k3,k5,hC⟩:=M.ob;exact⟨_,N,nm,qn,bs,hdct,sn,sub,ab,col,dd,k0,k1,k2,k3,k5,X _ _ hC,fun v b e=>by rw[c.mro] at e;exact Option.some.inj e⟩
section
variable {prog:Program} {w:World} {A:Around} {E:Value→Shared→Prop} {s:Shared} {a:Addr}
theorem Ei {it t:Addr} {i:Nat} {items} {Q:Option Value→Shared→Prop} (hh:A.handled=some (.ref a)) (la:w5 a s.heap) (nit:a≠it)
    (hit:s.heap.IsListIter it t i) (ht:s.heap.IsList t items) (hx:items[i]? = none)
    (hQ:∀h',Heap.ExtBut it s.heap h'→Q none {s with heap:=h'}):wpAny (model prog w) A (pyNext (.ref it)) Q E s:=by
  obtain⟨oi,ei,ci,di⟩:=id hit;obtain⟨ol,el,_,nl,dl⟩:=ht;unfold pyNext;refine wpAny_bind (wpAny_attempt (wpAny_callSpecial?_slot (name:=Str.ofString "__next__") hit.typeIs slot_listiter_next (wpAny_call_entry slot_listiter_next hit.typeIs entry_listiter_next ?_ (args_listiter_next _))));show wpAny (model prog w) _ (field (.ref it) 0 >>= _) _ _ s;refine wpAny_bind (wpAny_field ei di (x:=.ref t) rfl ?_);show wpAny (model prog w) _ (if (Value.ref t == Value.none)=true then _ else _) _ _ s
  rw[if_neg (fun z=>by cases z)];show wpAny (model prog w) _ (field (.ref it) 1 >>= _) _ _ s;refine wpAny_bind (wpAny_field ei di (x:=.int i 0) rfl ?_);show wpAny (model prog w) _ (seqItems? (.ref t) >>= _) _ _ s;refine wpAny_bind (wpAny_seqItems el dl ?_);simp only[Int.toNat_natCast,hx];refine wpAny_bind (wpAny_rule (wpAny_bind (wpAny_setField ei di (by simp) ?_)));have eb:=(Heap.SameBut.update s.heap it (Obj.mapFields (·.setIfInBounds 0 Value.none))).extBut;refine Lz (A:=A.in1) hh (la.to fun o z=>eb _ _ nit z) fun h' e k eo=>?_;obtain⟨o,eo,co⟩:=eo;refine wpAny_bind (wpAny_isInstance (b:=true) ⟨o,eo,co⟩ isSubtype_stop (wpAny_pure ?_));exact hQ _ fun b o nb z=>k _ _ (eb b o nb z)
theorem Jj (hh:A.handled=some (.ref a)) (I ax:Addr) (hne:ax≠I) (hna:a≠I) (items:Array Value) :
    Walks prog w A I [I,ax,a] [I] items.size (fun i v=>items[i]? = some v) (fun i h=>(h.IsListIter I ax i∧h.IsList ax items)∧w5 a h) where
  sub:=fun b hb=>by simp at hb;simp[hb]
  frame:=fun _ _ _ st hk=>⟨⟨st.1.1.at fun o e=>hk I (by simp) o e,st.1.2.at fun o e=>hk ax (by simp) o e⟩,st.2.to fun o e=>hk a (by simp) o e⟩
  item:=fun i s Q E hi st hQ=>by
    refine wpAny_pyNext_list_item st.1.1 st.1.2 (x:=items[i]) (by simp[hi]) fun h' hit' hs'=>?_;exact hQ _ h' s.toks (by simp[hi]) ⟨⟨hit',st.1.2.extBut hs'.extBut hne⟩,st.2.to fun o e=>hs'.extBut _ _ hna e⟩ fun b o hb e=>hs'.extBut b o (fun h=>hb (by simp[h])) e
  done:=fun s Q E st hQ=>Ei hh st.2 hna st.1.1 st.1.2 (by simp) fun h' he'=>hQ h' s.toks fun b o hb e=>he' b o (fun h=>hb (by simp[h])) e
  self:=fun _ _ _ _ st hQ=>wpAny_pyIter_listiter st.1.1 hQ
theorem qeW {l:Addr} {xs:Array (Int×Tok)} {Q:Value→Shared→Prop} (hh:A.handled=some (.ref a)) (la:w5 a s.heap) (hl:s.heap.IsList l (intItems xs))
    (h:∀h' tk t',(∀b o,s.heap.get? b=some o→h'.get? b=some o)→Q (.int (preSum (numAt xs) xs.size) t') {s with heap:=h',toks:=tk}) :
    wpAny (model prog w) A (call (.builtin "sum") [.ref l]) Q E s:=by
  have al:a<s.heap.objs.size:=by obtain⟨o,us,e,_⟩:=la;exact Heap.lt_size e
  refine call_sum_walkG (iter_intList hl fun s₂ e st hfp hlI=>?_);subst e;refine⟨_,_,_,_,_,_,numAt xs,rfl,Jj (A:=A.in1) hh _ l hlI (Nat.ne_of_lt al) (intItems xs),⟨st,la.to fun o e=>Heap.get?_push_of_some _ e⟩,fun b hb=>?_,(fun _ _=>intItems_at),fun h' tk t' hk=>?_⟩
  · rcases List.mem_cons.mp hb with rfl | hb
    ·exact hfp _ (by simp)
    rcases List.mem_cons.mp hb with rfl | hb
    ·exact hfp _ (by simp)
    rw[List.mem_singleton] at hb;subst hb;show b<(s.heap.push _).objs.size;rw[Heap.size_push];exact Nat.lt_succ_of_lt al
  ·have:=h h' tk t' (old_kept hk);simpa [intItems] using this
end
section
variable {X:Cx} {K:W.Frag} {c:Addr}
def qay (c:Addr) (K:W.Frag):List V→Hp→VK→Prop:=fun xs H Q=>ar1 xs fun v=>isRef v fun l=>LC H c∧∃ns:List Int,aX K H l (ns.map V.int)∧Q (.int ns.sum) H
@[simp ↓] theorem qi4 c K xs H Q:qay c K xs H Q=(ar1 xs fun v=>isRef v fun l=>LC H c∧∃ns:List Int,aX K H l (ns.map V.int)∧Q (.int ns.sum) H):=rfl
theorem LR (hK:X.K=K) (hh:X.A.handled=some (.ref c)):cC X (.builtin "sum") (qay c K):=by
  subst hK;intro p_ s σ H xs us Q I r h;obtain⟨v,rfl,h⟩:=ar1.out h;obtain⟨l,rfl,ca,ns,hl,q⟩:=isRef.out h;obtain⟨u,rfl,ru⟩:=r.one;obtain rfl:u=Value.ref l:=ru;obtain⟨its,rv,pl,hz1⟩:=I.list hl;obtain⟨ls,e1,e2⟩:=zJ rv;have hL:=pl.isList;rw[e1] at hL;refine qeW hh (I.lone ca) hL fun h' tk t' kk=>⟨.int _,H,I.kept (t':=tk) kk,⟨t',rfl⟩,?_⟩;rw[preSum_eq,List.take_of_length_le (by simp)];rw[show(ls.toArray.toList.map (·.1))=ns from e2];exact q
def Zr (c:Addr) (K:W.Frag) (a:Addr):It:=⟨(Ks K a).go,(Ks K a).RD,fun i H=>(Ks K a).stop i H∧LC H c⟩
theorem L_ {P:Program} {w:World} {K:W.Frag} {tg:Expr} (c a it:Addr):Oz c P w K tg (Zr c K a) [it] it (fun i h=>h.IsListIter it a i) where
  mem:=by simp
  obj:=(oX (P:=P) (w:=w) (K:=K) (tg:=tg) a it).obj
  keep:=(oX (P:=P) (w:=w) (K:=K) (tg:=tg) a it).keep
  item:=by
    intro X hP hw hK i p_ s σ H E I hf st hg;subst hP hw hK;obtain⟨xs,x,hq,hx⟩:=hg;obtain⟨its,rv,p,hz⟩:=I.list hq;obtain⟨u,hu,ru⟩:=rv.get hx;obtain⟨f0,f1,f2,f3,f4,f5⟩:=hf it (by simp);refine wpAny_pyNext_list_item st p.isList (x:=u) (by simpa using hu) fun h' st' sb=>?_;have I1:Inv X p_ σ H {s with heap:=h'}:=I.turned (t':=s.toks) (fun b o hb e=>(sb.2 b hb).trans e) f0 f1 f3 f4 f5;refine⟨u,rfl,?_⟩;obtain⟨o,ho,hc,hd⟩:=id st';refine Nq ho hc hd (by decide) ⟨x,H,I1,ru,⟨rfl,fun ys hy=>?_⟩,st',fun b hb=>?_⟩
    ·rw[← I.j8 hq hy];exact hx
    ·rw[List.mem_singleton] at hb;subst hb;exact f0
  done:=by
    intro X hP hw hK hh i p_ s σ H E I hf st hg;subst hP hw hK;obtain⟨⟨xs,hq,hl⟩,cau⟩:=hg;obtain⟨its,rv,p,hz⟩:=I.list hq;obtain⟨f0,f1,f2,f3,f4,f5⟩:=hf it (by simp);have l1:=rv.length;refine Ei hh (I.lone cau) (cau.ne f0) st p.isList (by simp;omega) fun h' kk=>⟨rfl,I.turned (t':=s.toks) (fun b o hb e=>kk b o hb e) f0 f1 f3 f4 f5⟩
  self:=(oX (P:=P) (w:=w) (K:=K) (tg:=tg) a it).self
def O4 (c:Addr) (K:W.Frag) (tl:TE):TI:=fun σ H R=>tl σ H fun x H1=>isRef x fun a=>(∃xs,aX K H1 a xs)∧R (Zr c K a) H1
@[simp ↓] theorem qdF c K tl σ H R:O4 c K tl σ H R=(tl σ H fun x H1=>isRef x fun a=>(∃xs,aX K H1 a xs)∧R (Zr c K a) H1):=rfl
theorem zT {tg l:Expr} {tl:TE} (hK:X.K=K) (hl:PE X l tl):PIH c X tg l (O4 c K tl):=by
  subst hK;intro p_ s σ H R I h;refine cB (hl p_ s σ H _ I h) fun v s1 zz=>?_;obtain⟨x,H1,I1,r1,q1⟩:=zz;obtain⟨a,rfl,⟨xs,hq⟩,q⟩:=isRef.out q1;cases r1;obtain⟨its,rv,p,hz⟩:=I1.list hq;refine wpAny_pyIter_list p.isList ?_;refine⟨s1.heap.objs.size,[s1.heap.objs.size],_,_,H1,rfl,I1.kept (t':=s1.toks) fun b o e=>Heap.get?_push_of_some _ e,L_ c a _,⟨_,Heap.get?_push_size _ rfl,rfl,rfl⟩,fun b hb=>?_,q⟩;have e:b=s1.heap.objs.size:=by simpa using hb
  subst e;exact I1.wD (Nat.le_refl _) (I1.hok.fresh (Nat.le_refl _))
end
section
variable {K:W.Frag} {own:List Str} {caps:List Nat} {g:TG} {tt:TT} {te:TE} {D l c:Addr} {σ:St} {H:Hp} {Q:Hp→Prop}
theorem qcp {d:QB g tt te Q} (xs:List V) (Pv:Nat→St→Hp→Prop) (h0:Pv 0 (stC own caps σ) H) (hl:∀i σ H,i≤xs.length→Pv i σ H→aX K H l xs∧LC H c)
    (hs:∀i x σ H,xs[i]? = some x→Pv i σ H→tE g tt te D (Pv (i+1)) x σ H) (hd:∀σ H,Pv xs.length σ H→Q H):Xl own caps (Zr c K l) g tt te Q d D σ H:=by
  refine⟨fun i m σ H=>m=xs.length - i∧i≤xs.length∧Pv i σ H,⟨xs.length,by simp,Nat.zero_le _,h0⟩,?_⟩;rintro i m σ H ⟨rfl,hi,p⟩;obtain⟨q1,ca⟩:=hl i σ H hi p
  by_cases hlt:i<xs.length
  ·refine .inr ⟨⟨xs,xs[i],q1,by simp[hlt]⟩,Pv (i+1),fun σ' H' p'=>⟨xs.length - (i+1),by omega,rfl,hlt,p'⟩,fun x H' y=>?_⟩;obtain⟨rfl,e1⟩:=y;exact hs i x σ _ (e1 xs q1) p
  · have e:i=xs.length:=by omega
    subst e;exact .inl ⟨⟨⟨xs,q1,Nat.le_refl _⟩,ca⟩,hd σ H p⟩
end
section
variable {X:Cx} {K:W.Frag} {C D:Addr} {b:Bool}
def qaz (i:Nat) (C:Addr) (b:Bool):TE:=fun σ H Q=>getSt σ i fun x=>isRef x fun p=>∃od,H p=some (vf p C od)∧Q (.bl b) H
@[simp ↓] theorem qi5 i C b σ H Q:qaz i C b σ H Q=getSt σ i fun x=>isRef x fun p=>∃od,H p=some (vf p C od)∧Q (.bl b) H:=rfl
def qeX (K:W.Frag):List V→Hp→VK→Prop:=fun xs H Q=>ar2 xs fun x y=>isRef x fun a=>∃C od b,H a=some (vf a C od)∧LK K C∧Zg K C y=some b∧Q (.bl b) H
theorem qeY (hK:X.K=K):cC X (.builtin "isinstance") (qeX K):=by
  subst hK;intro p_ s σ H xs us Q I r h;obtain⟨v1,v2,rfl,h⟩:=ar2.out h;obtain⟨a,rfl,C,od,b,e,⟨L,cd,hcd⟩,hk,q⟩:=isRef.out h;obtain⟨u,v,rfl,r1,r2⟩:=r.two;obtain rfl:u=Value.ref a:=r1;obtain⟨ex,_⟩:=I.hok a _ e;have go:∀{c:Value},W.kitOne X.K (.ref C) c=some b→wpAny (model X.prog X.w) X.A (call (.builtin "isinstance") [.ref a,c]) (EP X p_ σ Q) X.xe s:=fun {c} hc=>
    W.kia_one (Vl hcd L) I.mR ex.at hc (fun z=>by cases z) fun tk=>⟨.bl b,H,I.kept (fun _ _ e=>e),rfl,q⟩
  cases v2 with
  | ref D=>obtain rfl:v=Value.ref D:=r2;exact go hk
  | ty n=>obtain rfl:v=Value.type n:=r2;exact go hk
  | _=>cases hk
theorem O5 {i:Nat} {v:V} {e c:Expr} {p pos:Pos} (hK:X.K=K) (hg:Gl X "isinstance") (hm:X.mg "isinstance" = none) (L:LK K C) (hk:Zg K C v=some b) (ha:PA X [e,c] (tu (fVar i) (tu (tC v) Cj)))
    (hs:starEach [e,c] X.env=(false,eval e X.env)::starEach [c] X.env:=by rfl) (hpl:(backTo pos (starEach [c] X.env)).any (·.1)=false:=by rfl) :
    PE X (.Call (.Name "isinstance" p) [e,c] [] pos) (qaz i C b):=
  PE.mono (aM (qeY hK) hg hm boot_isinstance ha (by decide) (by decide) hs hpl) fun {σ H Q} h=>getSt.imp (fun x h1=>by
    obtain⟨q,rfl,od,h2,h3⟩:=isRef.out h1;exact⟨C,od,b,h2,L,hk,h3⟩) h
end
section
variable {X:Cx} {C B:Addr} {o:Expr} {f:Str} {pos:Pos} {ta:TE}
theorem Zt {P:Program} {w:World} {H:Hp} {h:Heap} {x C:Addr} {od:Option Addr} (hok:∀b u,H b=some u→cj P w H h b u) (e:H x=some (vf x C od)):uE x C od h:=(hok x _ e).1
def Vy (C:Addr) (ta:TE) (f:Str):TE:=fun σ H Q=>ta σ H fun x H1=>isRef x fun a=>∃dx fs,H1 a=some (vf a C (some dx))∧H1 dx=some (iz dx fs)∧∃v,fs.lookup f=some v∧Q v H1
@[simp ↓] theorem qeZ C ta f σ H Q:Vy C ta f σ H Q=ta σ H fun x H1=>isRef x fun a=>∃dx fs,H1 a=some (vf a C (some dx))∧H1 dx=some (iz dx fs)∧∃v,fs.lookup f=some v∧Q v H1:=rfl
theorem vh (G:LQ X.K C) (hn:W.findIn X.K (.ref C) f=some none) (he:PE X o ta) (hb:attributeBase o f X.env (eval o X.env)=eval o X.env):PE X (.Attribute o f pos) (Vy C ta f):=by
  intro p_ s σ H Q I h;refine Nz hb (cB (he p_ s σ H _ I h) fun u s1 z1=>?_);obtain⟨x,H1,I1,rx,q⟩:=z1;obtain⟨a,rfl,dx,fs,ea,ed,v,hv,q⟩:=isRef.out q;obtain rfl:u=Value.ref a:=rx;obtain⟨hl0,mA,hns,hr,hw⟩:=OJ I1.hok ed;obtain⟨u',hu,ru⟩:=lE.some_of (v:=v) (o:=mA f) (by rw[← hv];exact hr f);exact qcj I1.mR (Zt I1.hok ea) hns G hn hu (Dk ru) ⟨v,H1,I1.tok _,ru,q⟩
end
theorem Jk {x y:Int} (h:y.natAbs<18446744073709551616):Builtin.divisionGoesByPylong x y=false:=by
  refine PyProof.noPylong_of_log2 ?_
  by_cases h0:y.natAbs=0
  ·rw[h0];decide+kernel
  ·have h64:y.natAbs.log2<64:=(Nat.log2_lt h0).mpr h;omega
def Jl:List V→Hp→VK→Prop:=fun xs H Q=>ar2 xs fun x y=>isInt x fun i=>isInt y fun j=>(0<j∧j<18446744073709551616)∧∀p,H p=none→Q (.ref p) (upd H p (.tup [.int (i / j),.int (i % j)]))
@[simp ↓] theorem qcq xs H Q:Jl xs H Q=(ar2 xs fun x y=>isInt x fun i=>isInt y fun j=>(0<j∧j<18446744073709551616)∧∀p,H p=none→Q (.ref p) (upd H p (.tup [.int (i / j),.int (i % j)]))):=rfl
theorem Cz {X:Cx}:cC X (.builtin "divmod") Jl:=by
  intro p_ s σ H xs us Q I r h;obtain⟨v1,v2,rfl,h⟩:=ar2.out h;obtain⟨i,rfl,h⟩:=isInt.out h;obtain⟨j,rfl,⟨h1,h2⟩,q⟩:=isInt.out h;obtain⟨u,w',rfl,⟨t,rfl⟩,⟨t',rfl⟩⟩:=vals2 r;refine divmod_int (by omega) ?_ (.inl (Jk (by omega)));rw[Int.fdiv_eq_ediv_of_nonneg i (by omega),Int.fmod_eq_emod_of_nonneg i (by omega)];have hn:H s.heap.objs.size=none:=I.hok.fresh (Nat.le_refl _);refine⟨.ref s.heap.objs.size,_,?_,rfl,q _ hn⟩;refine I.laid (fun b o e=>Heap.get?_push_of_some _ e) (Nat.le_refl _) ⟨by simp only[List.length_cons,List.length_nil];rw[sizeLine_eq];decide,[.int (i / j) s.toks,.int (i % j) (s.toks+1)],.cons ⟨_,rfl⟩ (.cons ⟨_,rfl⟩ .nil),?_⟩;exact⟨_,Heap.get?_push_size s.heap rfl,rfl,0,rfl⟩
end L2
namespace Zu
open PySem L2
def top (i:Nat):Stmt:=PySem.Challenge.pw_pointways_k62_whole_pointings_by_ins.main.body.getD i (.Pass ⟨0,0,0,0⟩)
abbrev cP:Stmt:=top 1
abbrev dF:Stmt:=top 2
abbrev dG:Stmt:=inClass (top 8) 0
abbrev gM:Stmt:=top 14
abbrev fL:Stmt:=top 15
abbrev f9:Stmt:=top 16
abbrev cQ:Stmt:=top 17
abbrev iB:Stmt:=top 18
abbrev eV:Stmt:=top 19
abbrev eX:Stmt:=inClass (top 20) 0
abbrev dH:Stmt:=inClass (top 20) 1
abbrev fM:Stmt:=inClass (top 20) 2
abbrev fO:Stmt:=inClass (top 20) 3
abbrev eF:Stmt:=top 21
abbrev cG:Stmt:=top 22
abbrev gO:Stmt:=top 24
abbrev cH:Stmt:=top 25
abbrev bL:Stmt:=top 26
abbrev jc:Stmt:=top 27
abbrev iC:Stmt:=top 28
abbrev gF:Stmt:=top 30
abbrev mF:Stmt:=top 31
abbrev cI:Stmt:=top 33
abbrev cR:Stmt:=top 34
abbrev b_:Stmt:=top 35
abbrev cL:Stmt:=top 36
abbrev cT:Stmt:=top 37
abbrev vm:Stmt:=top 39
abbrev pP:Stmt:=top 40
abbrev jU:Stmt:=top 41
abbrev lH:Stmt:=top 42
abbrev vo:Stmt:=top 43
abbrev qO:Stmt:=top 44
abbrev rG:Stmt:=top 45
abbrev jV:Stmt:=top 46
abbrev jd:Stmt:=top 47
abbrev lJ:Stmt:=top 48
abbrev gb:Stmt:=top 49
abbrev dY:Stmt:=top 50
abbrev gG:Stmt:=top 51
abbrev je:Stmt:=top 52
abbrev nG:Stmt:=top 53
abbrev lK:Stmt:=top 54
abbrev vp:Stmt:=top 55
theorem gH:aU ["web", "fixed", "steps", "number", "first", "second"] ["web", "fixed"] (ak cP):=⟨rfl,rfl,rfl,by decide+kernel,rfl,by decide+kernel,by decide+kernel⟩
theorem cU:aU ["start", "steps", "ways", "row", "at", "here", "number", "origin", "goal"] ["start", "steps"] (ak dF):=⟨rfl,rfl,rfl,by decide+kernel,rfl,by decide+kernel,by decide+kernel⟩
theorem CG:aU ["self", "word", "part"] ["self", "word", "part"] (ak dG):=⟨rfl,rfl,rfl,by decide+kernel,rfl,by decide+kernel,by decide+kernel⟩
theorem zU:aU ["thing"] ["thing"] (ak gM):=⟨rfl,rfl,rfl,by decide+kernel,rfl,by decide+kernel,by decide+kernel⟩
theorem Jm:aU ["thing"] ["thing"] (ak fL):=⟨rfl,rfl,rfl,by decide+kernel,rfl,by decide+kernel,by decide+kernel⟩
theorem Ma:aU ["thing"] ["thing"] (ak f9):=⟨rfl,rfl,rfl,by decide+kernel,rfl,by decide+kernel,by decide+kernel⟩
theorem CJ:aU ["thing"] ["thing"] (ak cQ):=⟨rfl,rfl,rfl,by decide+kernel,rfl,by decide+kernel,by decide+kernel⟩
theorem Q7:aU ["thing", "points"] ["thing", "points"] (ak iB):=⟨rfl,rfl,rfl,by decide+kernel,rfl,by decide+kernel,by decide+kernel⟩
theorem Jo:aU ["thing", "points"] ["thing", "points"] (ak eV):=⟨rfl,rfl,rfl,by decide+kernel,rfl,by decide+kernel,by decide+kernel⟩
theorem Jp:aU ["self", "points", "ties"] ["self", "points", "ties"] (ak eX):=⟨rfl,rfl,rfl,by decide+kernel,rfl,by decide+kernel,by decide+kernel⟩
theorem CK:aU ["self"] ["self"] (ak dH):=⟨rfl,rfl,rfl,by decide+kernel,rfl,by decide+kernel,by decide+kernel⟩
theorem Jq:aU ["self"] ["self"] (ak fM):=⟨rfl,rfl,rfl,by decide+kernel,rfl,by decide+kernel,by decide+kernel⟩
theorem Jr:aU ["self"] ["self"] (ak fO):=⟨rfl,rfl,rfl,by decide+kernel,rfl,by decide+kernel,by decide+kernel⟩
theorem Gz:aU ["web", "thing"] ["web", "thing"] (ak eF):=⟨rfl,rfl,rfl,by decide+kernel,rfl,by decide+kernel,by decide+kernel⟩
theorem zV:aU ["web", "thing"] ["web", "thing"] (ak cG):=⟨rfl,rfl,rfl,by decide+kernel,rfl,by decide+kernel,by decide+kernel⟩
theorem Mf:aU ["thing"] ["thing"] (ak gO):=⟨rfl,rfl,rfl,by decide+kernel,rfl,by decide+kernel,by decide+kernel⟩
theorem zW:aU ["web", "thing"] ["web", "thing"] (ak cH):=⟨rfl,rfl,rfl,by decide+kernel,rfl,by decide+kernel,by decide+kernel⟩
theorem sY:aU ["web", "thing"] ["web", "thing"] (ak bL):=⟨rfl,rfl,rfl,by decide+kernel,rfl,by decide+kernel,by decide+kernel⟩
theorem Q8:aU ["web", "pointing"] ["web", "pointing"] (ak jc):=⟨rfl,rfl,rfl,by decide+kernel,rfl,by decide+kernel,by decide+kernel⟩
theorem Q9:aU ["web", "pointing", "numbers"] ["web", "pointing", "numbers"] (ak iC):=⟨rfl,rfl,rfl,by decide+kernel,rfl,by decide+kernel,by decide+kernel⟩
theorem Ej:aU ["web", "pointing", "goals"] ["web", "pointing"] (ak gF):=⟨rfl,rfl,rfl,by decide+kernel,rfl,by decide+kernel,by decide+kernel⟩
theorem yE:aU ["web", "ins", "wanted", "rows", "lacking", "spare"] ["web", "ins", "wanted"] (ak mF):=⟨rfl,rfl,rfl,by decide+kernel,rfl,by decide+kernel,by decide+kernel⟩
theorem zX:aU ["web", "thing"] ["web", "thing"] (ak cI):=⟨rfl,rfl,rfl,by decide+kernel,rfl,by decide+kernel,by decide+kernel⟩
theorem jf:aU ["steps", "starts", "ends", "start", "ways", "end"] ["steps", "starts", "ends"] (ak cR):=⟨rfl,rfl,rfl,by decide+kernel,rfl,by decide+kernel,by decide+kernel⟩
theorem xg:aU ["steps", "starts", "ends"] ["steps", "starts", "ends"] (ak b_):=⟨rfl,rfl,rfl,by decide+kernel,rfl,by decide+kernel,by decide+kernel⟩
theorem tK:aU ["web", "steps", "lacking", "spare", "points"] ["web", "steps", "lacking", "spare"] (ak cL):=⟨rfl,rfl,rfl,by decide+kernel,rfl,by decide+kernel,by decide+kernel⟩
theorem cM:aU ["web", "ins", "pointing", "lacking", "spare", "steps", "numbers"] ["web", "ins"] (ak cT):=⟨rfl,rfl,rfl,by decide+kernel,rfl,by decide+kernel,by decide+kernel⟩
theorem Vz:aU ["_law_script", "_law_k", "_law_cell"] ["_law_script", "_law_k"] (ak vm):=⟨rfl,rfl,rfl,by decide+kernel,rfl,by decide+kernel,by decide+kernel⟩
theorem O6:aU ["_law_pot_here", "_law_many", "_law_digit"] ["_law_pot_here", "_law_many"] (ak pP):=⟨rfl,rfl,rfl,by decide+kernel,rfl,by decide+kernel,by decide+kernel⟩
theorem mG:aU ["_law_pot_here", "_law_many", "_law_letters", "_law_begin", "_law_found", "_law_k", "_law_size", "_law_more"] ["_law_pot_here", "_law_many"] (ak jU):=⟨rfl,rfl,rfl,by decide+kernel,rfl,by decide+kernel,by decide+kernel⟩
theorem zY:aU ["_law_pot_here", "_law_things", "_law_found", "_law_thing"] ["_law_pot_here", "_law_things"] (ak lH):=⟨rfl,rfl,rfl,by decide+kernel,rfl,by decide+kernel,by decide+kernel⟩
theorem Mg:aU ["_law_pot_here", "_law_names_here", "_law_a", "_law_b"] ["_law_pot_here", "_law_names_here"] (ak vo):=⟨rfl,rfl,rfl,by decide+kernel,rfl,by decide+kernel,by decide+kernel⟩
theorem pQ:aU ["_law_pot_here", "_law_points", "_law_most", "_law_names_here", "_law_kind", "_law_ties", "_law_row", "_law_k", "_law_turns"] ["_law_pot_here", "_law_points", "_law_most"] (ak qO):=⟨rfl,rfl,rfl,by decide+kernel,rfl,by decide+kernel,by decide+kernel⟩
theorem VB:aU ["_law_web_here", "_law_pointing", "_law_goals"] ["_law_web_here", "_law_pointing"] (ak rG):=⟨rfl,rfl,rfl,by decide+kernel,rfl,by decide+kernel,by decide+kernel⟩
theorem VD:aU ["_law_pot_here", "_law_web_here"] ["_law_pot_here", "_law_web_here"] (ak jV):=⟨rfl,rfl,rfl,by decide+kernel,rfl,by decide+kernel,by decide+kernel⟩
theorem Q_:aU ["_law_pot_here", "_law_row"] ["_law_pot_here", "_law_row"] (ak jd):=⟨rfl,rfl,rfl,by decide+kernel,rfl,by decide+kernel,by decide+kernel⟩
theorem rH:aU ["_law_pot_here", "_law_ins_here", "_law_found", "_law_k", "_law_at", "_law_goal"] ["_law_pot_here", "_law_ins_here"] (ak lJ):=⟨rfl,rfl,rfl,by decide+kernel,rfl,by decide+kernel,by decide+kernel⟩
theorem pR:aU ["_law_pot_here", "_law_web_here", "_law_kind", "_law_ins_here", "_law_most"] ["_law_pot_here", "_law_web_here"] (ak gb):=⟨rfl,rfl,rfl,by decide+kernel,rfl,by decide+kernel,by decide+kernel⟩
theorem pU:aU ["_law_web_here", "_law_part", "_law_inner"] ["_law_web_here", "_law_part"] (ak dY):=⟨rfl,rfl,rfl,by decide+kernel,rfl,by decide+kernel,by decide+kernel⟩
theorem xq:aU ["_law_web_here", "_law_ins_here", "_law_mask", "_law_part"] ["_law_web_here", "_law_ins_here"] (ak gG):=⟨rfl,rfl,rfl,by decide+kernel,rfl,by decide+kernel,by decide+kernel⟩
theorem rJ:aU ["_law_web_here", "_law_ins_here", "_law_e", "_law_part", "_law_wanted", "_law_inner", "_law_touched_here"] ["_law_web_here", "_law_ins_here", "_law_e"] (ak je):=⟨rfl,rfl,rfl,by decide+kernel,rfl,by decide+kernel,by decide+kernel⟩
theorem mZ:aU ["_law_web_here", "_law_told_here", "_law_ins_here", "_law_handed_here", "_law_word", "_law_made", "_law_plain", "_law_e"] ["_law_web_here", "_law_told_here", "_law_ins_here", "_law_handed_here"] (ak nG):=⟨rfl,rfl,rfl,by decide+kernel,rfl,by decide+kernel,by decide+kernel⟩
theorem mH:aU ["_law_pot_here", "_law_web_here", "_law_told_here", "_law_ins_here", "_law_handed_here", "_law_due", "_law_k"] ["_law_pot_here"] (ak lK):=⟨rfl,rfl,rfl,by decide+kernel,rfl,by decide+kernel,by decide+kernel⟩
theorem VF:aU ["_law_script", "_law_k"] ["_law_script"] (ak vp):=⟨rfl,rfl,rfl,by decide+kernel,rfl,by decide+kernel,by decide+kernel⟩
set_option genInjectivity false in
structure Adr where
  cV:Addr
  jg:FuncData
  dI:Addr
  jW:FuncData
  cW:Addr
  jX:FuncData
  gj:Addr
  mJ:FuncData
  fP:Addr
  m5:FuncData
  gP:Addr
  pW:FuncData
  dJ:Addr
  jY:FuncData
  jh:Addr
  sG:FuncData
  fQ:Addr
  m6:FuncData
  eY:Addr
  m7:FuncData
  cX:Addr
  jZ:FuncData
  eZ:Addr
  m8:FuncData
  fj:Addr
  m9:FuncData
  eG:Addr
  lM:FuncData
  cY:Addr
  ji:FuncData
  gQ:Addr
  pX:FuncData
  cZ:Addr
  jj:FuncData
  bM:Addr
  fC:FuncData
  jk:Addr
  sI:FuncData
  jl:Addr
  sJ:FuncData
  jm:Addr
  sO:FuncData
  pY:Addr
  yF:FuncData
  dg:Addr
  jo:FuncData
  dh:Addr
  jq:FuncData
  cg:Addr
  gR:FuncData
  dM:Addr
  j4:FuncData
  dj:Addr
  jr:FuncData
  vq:Addr
  GC:FuncData
  pZ:Addr
  yG:FuncData
  lN:Addr
  vA:FuncData
  lO:Addr
  vB:FuncData
  vC:Addr
  GD:FuncData
  vD:Addr
  GF:FuncData
  vG:Addr
  GJ:FuncData
  lQ:Addr
  vH:FuncData
  jt:Addr
  sS:FuncData
  lR:Addr
  vI:FuncData
  gU:Addr
  p7:FuncData
  gk:Addr
  mK:FuncData
  ju:Addr
  sU:FuncData
  lU:Addr
  vJ:FuncData
  p8:Addr
  yH:FuncData
  lV:Addr
  vK:FuncData
  xX:Addr
  GK:FuncData
  jO:Value
  dZ:Value
  fu:Value
  gJ:Value
  bU:Addr
  aP:Addr
  eN:Addr
  bK:Addr
  bG:Addr
  aZ:Addr
def qe0 (a:Adr):List Addr:=[a.eN,a.bK,a.bG,a.aZ]
structure Txt (K:W.Frag) (mg:Str→Option Value) (a:Adr):Prop where
  nH:iY K "steps_along" "steps_along" cP a.cV a.jg
  tM:Binds K a.jg ["web", "fixed"] []
  tO:mg "steps_along" = some (.ref a.cV)
  qe:iY K "ways_along" "ways_along" dF a.dI a.jW
  vL:Binds K a.jW ["start", "steps"] []
  vM:mg "ways_along" = some (.ref a.dI)
  vN:iY K "__init__" "NoIns.__init__" dG a.cW a.jX
  qg:Binds K a.jX ["self", "word", "part"] []
  gV:iY K "is_list" "is_list" gM a.gj a.mJ
  jP:Binds K a.mJ ["thing"] []
  jQ:mg "is_list" = some (.ref a.gj)
  mL:iY K "is_whole" "is_whole" fL a.fP a.m5
  qj:Binds K a.m5 ["thing"] []
  ql:mg "is_whole" = some (.ref a.fP)
  sV:iY K "is_name" "is_name" f9 a.gP a.pW
  xr:Binds K a.pW ["thing"] []
  xu:mg "is_name" = some (.ref a.gP)
  qm:iY K "are_points" "are_points" cQ a.dJ a.jY
  vO:Binds K a.jY ["thing"] []
  vP:mg "are_points" = some (.ref a.dJ)
  zZ:iY K "is_tie" "is_tie" iB a.jh a.sG
  Js:Binds K a.sG ["thing", "points"] []
  Jt:mg "is_tie" = some (.ref a.jh)
  uF:iY K "are_ties" "are_ties" eV a.fQ a.m6
  z7:Binds K a.m6 ["thing", "points"] []
  z8:mg "are_ties" = some (.ref a.fQ)
  z_:iY K "__init__" "Web.__init__" eX a.eY a.m7
  Aa:Binds K a.m7 ["self", "points", "ties"] []
  vQ:iY K "points" "Web.points" dH a.cX a.jZ
  jw:Binds K a.jZ ["self"] []
  Ab:iY K "ties" "Web.ties" fM a.eZ a.m8
  Ac:Binds K a.m8 ["self"] []
  Ad:iY K "many" "Web.many" fO a.fj a.m9
  qp:Binds K a.m9 ["self"] []
  rK:iY K "is_number" "is_number" eF a.eG a.lM
  xY:Binds K a.lM ["web", "thing"] []
  xZ:mg "is_number" = some (.ref a.eG)
  nJ:iY K "are_numbers" "are_numbers" cG a.cY a.ji
  tQ:Binds K a.ji ["web", "thing"] []
  tU:mg "are_numbers" = some (.ref a.cY)
  xG:iY K "is_lead" "is_lead" gO a.gQ a.pX
  Ek:Binds K a.pX ["thing"] []
  El:mg "is_lead" = some (.ref a.gQ)
  nM:iY K "is_pointing" "is_pointing" cH a.cZ a.jj
  tV:Binds K a.jj ["web", "thing"] []
  tW:mg "is_pointing" = some (.ref a.cZ)
  fU:iY K "sure_of_pointing" "sure_of_pointing" bL a.bM a.fC
  iQ:Binds K a.fC ["web", "thing"] []
  iR:mg "sure_of_pointing" = some (.ref a.bM)
  vR:iY K "arrows" "arrows" jc a.jk a.sI
  Ae:Binds K a.sI ["web", "pointing"] []
  Af:mg "arrows" = some (.ref a.jk)
  Ag:iY K "turned" "turned" iC a.jl a.sJ
  Ju:Binds K a.sJ ["web", "pointing", "numbers"] []
  Jv:mg "turned" = some (.ref a.jl)
  vU:iY K "ins_of" "ins_of" gF a.jm a.sO
  Ah:Binds K a.sO ["web", "pointing"] []
  Ai:mg "ins_of" = some (.ref a.jm)
  GP:iY K "gaps" "gaps" mF a.pY a.yF
  Mh:Binds K a.yF ["web", "ins", "wanted"] []
  Mi:mg "gaps" = some (.ref a.pY)
  nO:iY K "sure_of_ins" "sure_of_ins" cI a.dg a.jo
  tX:Binds K a.jo ["web", "thing"] []
  tY:mg "sure_of_ins" = some (.ref a.dg)
  j6:iY K "way_between" "way_between" cR a.dh a.jq
  nP:Binds K a.jq ["steps", "starts", "ends"] []
  nQ:mg "way_between" = some (.ref a.dh)
  iJ:iY K "leads_between" "leads_between" b_ a.cg a.gR
  lq:Binds K a.gR ["steps", "starts", "ends"] []
  lu:mg "leads_between" = some (.ref a.cg)
  qt:iY K "refuse_ins" "refuse_ins" cL a.dM a.j4
  vV:Binds K a.j4 ["web", "steps", "lacking", "spare"] []
  vW:mg "refuse_ins" = some (.ref a.dM)
  nR:iY K "pointing_of" "pointing_of" cT a.dj a.jr
  tZ:Binds K a.jr ["web", "ins"] []
  t_:mg "pointing_of" = some (.ref a.dj)
  VG:iY K "_law_pot" "_law_pot" vm a.vq a.GC
  qaA:Binds K a.GC ["_law_script", "_law_k"] []
  qaB:mg "_law_pot" = some (.ref a.vq)
  fG:iY K "_law_take" "_law_take" pP a.pZ a.yG
  fV:Binds K a.yG ["_law_pot_here", "_law_many"] []
  fW:mg "_law_take" = some (.ref a.pZ)
  GQ:iY K "_law_names" "_law_names" jU a.lN a.vA
  O7:Binds K a.vA ["_law_pot_here", "_law_many"] []
  O8:mg "_law_names" = some (.ref a.lN)
  yI:iY K "_law_mixed" "_law_mixed" lH a.lO a.vB
  GR:Binds K a.vB ["_law_pot_here", "_law_things"] []
  GX:mg "_law_mixed" = some (.ref a.lO)
  VH:iY K "_law_tie" "_law_tie" vo a.vC a.GD
  qaC:Binds K a.GD ["_law_pot_here", "_law_names_here"] []
  qaD:mg "_law_tie" = some (.ref a.vC)
  VJ:iY K "_law_web" "_law_web" qO a.vD a.GF
  qaE:Binds K a.GF ["_law_pot_here", "_law_points", "_law_most"] []
  qaF:mg "_law_web" = some (.ref a.vD)
  O9:iY K "_law_ins" "_law_ins" rG a.vG a.GJ
  VL:Binds K a.GJ ["_law_web_here", "_law_pointing"] []
  VN:mg "_law_ins" = some (.ref a.vG)
  GZ:iY K "_law_drawn" "_law_drawn" jV a.lQ a.vH
  O_:Binds K a.vH ["_law_pot_here", "_law_web_here"] []
  Pa:mg "_law_drawn" = some (.ref a.lQ)
  Aj:iY K "_law_handed" "_law_handed" jd a.jt a.sS
  Jw:Binds K a.sS ["_law_pot_here", "_law_row"] []
  Jx:mg "_law_handed" = some (.ref a.jt)
  G3:iY K "_law_moved" "_law_moved" lJ a.lR a.vI
  Pb:Binds K a.vI ["_law_pot_here", "_law_ins_here"] []
  Pg:mg "_law_moved" = some (.ref a.lR)
  xH:iY K "_law_numbers" "_law_numbers" gb a.gU a.p7
  Em:Binds K a.p7 ["_law_pot_here", "_law_web_here"] []
  En:mg "_law_numbers" = some (.ref a.gU)
  pC:iY K "_law_touched" "_law_touched" dY a.gk a.mK
  xJ:Binds K a.mK ["_law_web_here", "_law_part"] []
  xK:mg "_law_touched" = some (.ref a.gk)
  Ak:iY K "_law_can_be" "_law_can_be" gG a.ju a.sU
  Jy:Binds K a.sU ["_law_web_here", "_law_ins_here"] []
  Jz:mg "_law_can_be" = some (.ref a.ju)
  G4:iY K "_law_shows" "_law_shows" je a.lU a.vJ
  Ph:Binds K a.vJ ["_law_web_here", "_law_ins_here", "_law_e"] []
  Pj:mg "_law_shows" = some (.ref a.lU)
  Mj:iY K "_law_told" "_law_told" nG a.p8 a.yH
  VP:Binds K a.yH ["_law_web_here", "_law_told_here", "_law_ins_here", "_law_handed_here"] []
  VR:mg "_law_told" = some (.ref a.p8)
  G5:iY K "_law_right" "_law_right" lK a.lV a.vK
  Pk:Binds K a.vK ["_law_pot_here"] []
  Pn:mg "_law_right" = some (.ref a.lV)
  qaG:iY K "law" "law" vp a.xX a.GK
  qe1:Binds K a.GK ["_law_script"] []
  qe2:mg "law" = some (.ref a.xX)
  Eo:mg "LETTERS" = some a.jO
  Ep:RelV (.str "abcdefghijklmnopqrstuvwxyz") a.jO
  rM:mg "MOST_LETTERS" = some a.dZ
  rN:RelV (.int 4) a.dZ
  uc:mg "MOST_POINTS" = some a.fu
  ud:RelV (.int 9) a.fu
  yc:mg "MOST_TIES" = some a.gJ
  yd:RelV (.int 20) a.gJ
  qaH:mg "Web" = some (.ref a.bU)
  m_:Cls K a.bU
  G6:kO K a.bU "names"
  yJ:kO K a.bU "pairs"
  qaI:Mk K a.bU a.eY
  jx:Meth K a.bU "points" a.cX
  Al:Meth K a.bU "ties" a.eZ
  qu:Meth K a.bU "many" a.fj
  qw:mg "PointError" = some (.ref a.aP)
  Zv:mg "NoWeb" = some (.ref a.eN)
  JB:mg "NoNumbers" = some (.ref a.bK)
  G7:mg "NoPointing" = some (.ref a.bG)
  yK:mg "NoIns" = some (.ref a.aZ)
  fX:wY K a.aP
  vX:wY K a.eN
  kI:wY K a.bK
  jy:wY K a.bG
  V0:XC K a.eN a.aP
  G8:XC K a.bK a.aP
  CN:XC K a.bG a.aP
  iD:XC K a.aZ a.aP
  ib:W.isClsIn K a.aP=true
  tb:W.typeIn K (.ref a.aP)=some (.type "type")
  ini:qeT K a.aP
  Am:W.specialIn K (.builtin "object.__class__") "__get__" = some (some (.builtin "getset_descriptor.__get__"))
  Ao:W.takesIn K (.builtin "object.__class__")=some true
  nd:(a.aP::qe0 a).Nodup
  gW:mg "ValueError" = none
  rO:XMk K a.aZ a.aP a.cW
  Aq:w6 K a.aZ a.aP
  dU:W.findIn K (.ref a.aZ) "word" = some none
  dW:W.findIn K (.ref a.aZ) "part" = some none
  nm:Nm mg
  Zw:Nm2 mg
  nm3:Nm3 mg
end Zu
namespace Zu
open PySem L2
variable {P:Program} {w:World} {K:W.Frag} {mg:Str→Option Value} {base:Heap} {a:Adr}
def ig (H:Hp) (p:Addr):Prop:=∃x y:Int,H p=some (.lst [.int x,.int y])∧0≤x∧0≤y∧y<4294967296
def qcr (K:W.Frag):Sp:=fun vs H Q _=>∃(l:Addr) (ns:List Int) (k:Nat),vs=[.ref l,.int k]∧aX K H l (ns.map V.int)∧k<100∧∀p H',H p=none→ig H' p→But p H H'→Q (.ref p) H'
def Zx:Sp:=fun vs H Q _=>∃(p:Addr) (m:Int),vs=[.ref p,.int m]∧ig H p∧0<m∧m<2000000000000000000∧∀(d:Int) H',0≤d→d<m→ig H' p→But p H H'→Q (.int d) H'
theorem qcs (T:Txt K mg a):cF P w K mg base jA 1 a.vq a.GC ["_law_script", "_law_k"] (qcr K):=by
  refine T.VG.oO Vz (fun vs H Q E h=>?_) (fun cdv A outer s H vs Q E hr h=>?_)
  ·obtain⟨l,ns,k,rfl,_⟩:=h;rfl
  · obtain⟨l,ns,k,rfl,hS,hk,q⟩:=h;refine⟨_,(aA (bA (i:=2) Vz.nd rfl (Or.inl rfl) (Hy (aR pK (aK 1) (aM (bV (K:=K) rfl) rfl T.nm.len PySem.boot_len (aj (aK 0) aq)) (bC _)) (bQ (bT (K:=K) rfl) (aK 0) (aK 1) (fun _ _=>rfl)) aG))
      (aD (aY (gA (aj (aM (zN rfl) rfl T.nm.max boot_max (aj aG (aj (cD pJ (aM D_ rfl T.nm.abs boot_abs (aj (aK 2) aq)) (cD Oh aG aG)) aq))) (aj (cD i_ (cD i_ (cD sy (aM D_ rfl T.nm.abs boot_abs (aj (aK 2) aq)) aG) (cD yx aG (aK 1))) aG) aq)))))),?_⟩
    have fin:∀(x y:Int),0≤x→0≤y→y<4294967296→∀p:Addr,H p=none→Q (.ref p) (upd H p (.lst [.int x,.int y])):=fun x y h1 h2 h3 p hp=>
      q p _ hp ⟨x,y,ao,h1,h2,h3⟩ fun b o hb e=>by rw[aB hb];exact e
    simp -dsimp;refine⟨_,.inl hS,fB.of (fun h=>?_) (fun h=>?_)⟩
    · have hlt:k<ns.length:=by simpa using h
      simp -dsimp;refine⟨_,.inl hS,.int (ns[k]'hlt),aV (by simp[hlt]),?_⟩;simp -dsimp;exact fin _ _ (zpa _) (zpb _ _) (zpc _ hk)
    ·simp -dsimp;exact fin _ _ (by first | omega | (split <;> omega)) (by omega) (by omega)
theorem d8 (T:Txt K mg a):cF P w K mg base jA 1 a.pZ a.yG ["_law_pot_here", "_law_many"] Zx:=by
  refine T.fG.oO O6 (fun vs H Q E h=>?_) (fun cdv A outer s H vs Q E hr h=>?_)
  ·obtain⟨p,m,rfl,_⟩:=h;rfl
  · obtain⟨p,m,rfl,⟨x,y,hp,hx,hy,hy2⟩,hm,hm2,q⟩:=h;refine⟨_,(aA (cO (aR nF (bQ (bT (K:=K) rfl) (aK 0) aG (fun _ _=>rfl)) aG (bC _)) (aA (uq (aM Cz rfl T.nm.divmod boot_divmod (aj (bQ (bT (K:=K) rfl) (aK 0) aG (fun _ _=>rfl)) (aj (aK 1) aq))) (PG.eqv (fH (K:=K) (n:=2) rfl rfl (g_.eqv (bh (EY (aK 0) aG sE) (g_.eqv (bh (aO (i:=2) O6.nd rfl (Or.inl rfl)) (g_.mono eE gD)) (bx _ _))) (bx _ _))) (fK _ _ _)))
      (aD (aY (aK 2)))) bB)
      (aA (uq (cD sy (cD i_ (cD yx (bQ (bT (K:=K) rfl) (aK 0) aG (fun _ _=>rfl)) aG) aG) aG) (EY (aK 0) aG sE))
      (aD (aY (cD sy (cD I_ (cD sy (cD yx (bQ (bT (K:=K) rfl) (aK 0) aG (fun _ _=>rfl)) (bQ (bT (K:=K) rfl) (aK 0) aG (fun _ _=>rfl))) aG) aG) (aK 1)))))),?_⟩
    have hl:aX K H p [.int x,.int y]:=aX.of hp;simp -dsimp;refine⟨_,.inl hl,_,aV (j:=0) rfl,?_⟩;simp -dsimp;refine fB.of (fun h=>?_) (fun h=>?_)
    ·simp -dsimp;refine⟨_,.inl hl,_,aV (j:=0) rfl,?_⟩;simp -dsimp;refine⟨⟨hm,by omega⟩,fun t ht=>?_⟩;have npt:p≠t:=aH hp ht;refine⟨_,d9.of ao,rfl,_,(by rw[aB npt];exact hp),0,rfl,?_⟩;refine q _ _ (Int.emod_nonneg _ (by omega)) (Int.emod_lt_of_pos _ hm) ⟨_,_,ao,Int.ediv_nonneg hx (by omega),hy,hy2⟩ fun b o hb e=>?_;rw[aB hb,aB (aH e ht)];exact e
    ·have z0:0≤(y * 48271+12345) % 2147483647:=Int.emod_nonneg _ (by decide);have z1:(y * 48271+12345) % 2147483647<2147483647:=Int.emod_lt_of_pos _ (by decide);simp -dsimp;refine⟨_,.inl hl,_,aV (j:=1) rfl,?_⟩;simp -dsimp;refine⟨_,hp,1,rfl,_,.inl (aX.of ao),_,aV (j:=1) rfl,_,.inl (aX.of ao),_,aV (j:=1) rfl,?_⟩;simp -dsimp;refine⟨⟨by omega,by omega⟩,hm,?_⟩;refine q _ _ (Int.emod_nonneg _ (by omega)) (Int.emod_lt_of_pos _ hm) ⟨_,_,ao,hx,z0,by omega⟩ fun b o hb e=>?_;rw[aB hb];exact e
def Ml:Sp:=fun vs H Q _=>∃p xs,vs=[.ref p]∧Sq H p xs∧∀H',Same H H'→Q (.bl true) H'
theorem mO (T:Txt K mg a):cF P w K mg base jA 1 a.gj a.mJ ["thing"] Ml:=by
  refine T.gV.oO zU (fun vs H Q E h=>?_) (fun cdv A outer s H vs Q E hr h=>?_)
  ·obtain⟨p,xs,rfl,_⟩:=h;rfl
  · obtain⟨p,xs,rfl,hp,q⟩:=h;refine⟨_,(aD (aY (aM (U7 (K:=K) rfl) rfl T.nm.isinstance boot_isinstance (aj (aK 0) (aj (iW (aj (iU (v:=.ty "list") rfl T.nm.list boot_list rfl) (aj (iU (v:=.ty "tuple") rfl T.nm.tuple boot_tuple rfl) aq))) aq))))),?_⟩;simp -dsimp[-Bool.exists_bool,-List.map_take];refine fun t ht=>⟨_,_,ao,?_⟩
    rcases(hp.same (au ht)).ty (K:=K) with ty | ty
    ·exact⟨_,ty,true,by simp[W.kitAny,W.kitOne],q _ (au ht)⟩
    ·exact⟨_,ty,true,by simp[W.kitAny,W.kitOne];rfl,q _ (au ht)⟩
def Mp:Sp:=fun vs H Q _=>∃x,vs=[.str x]∧x.length≤sizeLine∧∀H',Same H H'→Q (.bl (nameB x)) H'
theorem Ar (T:Txt K mg a):cF P w K mg base jA 1 a.gP a.pW ["thing"] Mp:=by
  refine T.sV.oO Ma (fun vs H Q E h=>?_) (fun cdv A outer s H vs Q E hr h=>?_)
  ·obtain⟨x,rfl,_⟩:=h;rfl
  · obtain⟨x,rfl,hx,q⟩:=h;refine⟨_,(aA (cO (PW.pt (lY (fD (cA (aM (wW (K:=K) rfl) rfl T.nm.isinstance boot_isinstance (aj (aK 0) (aj (iU (v:=.ty "str") rfl T.nm.str boot_str rfl) aq))))) (iV (fD (DX uy uy aG (aM qb8 rfl T.nm.len PySem.boot_len (aj (aK 0) aq)) (uH rfl T.rM T.rN)))))) (aD (aY lB)) bB)
      (aD (aY (aM (jL rfl) rfl T.nm.all jH (aj (cJ rfl rfl (show aQ (ak f9) _ ["thing"] ["sign"] [] ["sign"] from⟨rfl,by decide+kernel,by decide+kernel,rfl,by decide+kernel,by decide+kernel⟩) rfl (PI.eqv (qbp (aK 0)) (UW _)) (fun C s H fp pn=>(aO (i:=0) (show(["sign"]:List Str).Nodup by decide+kernel) rfl (Or.inl rfl))) (fun C s H fp pn=>dz) (fun C s H fp pn=>(iH (qj1 (K:=K) rfl) (aK 0) (uH rfl T.Eo T.Ep) rfl))) aq))))),?_⟩
    simp -dsimp[-Bool.exists_bool,-List.map_take];refine⟨_,.str x,_,Ih K,fB.neg rfl ?_⟩;simp -dsimp[-Bool.exists_bool,-List.map_take];refine⟨hx,fB.of (fun h1=>?_) (fun h1=>?_)⟩
    · have h1':1≤x.length:=by simp at h1;omega
      simp -dsimp[-Bool.exists_bool,-List.map_take];refine fB.of (fun h2=>?_) (fun h2=>?_)
      · have h2':¬x.length≤4:=by simp at h2;omega
        have e:nameB x=false:=by
          unfold nameB;rw[decide_eq_false h2'];simp
        rw[e] at q;simp -dsimp[-Bool.exists_bool,-List.map_take];exact q H (Same.refl H)
      · have h2':x.length≤4:=by simp at h2;omega
        simp -dsimp[-Bool.exists_bool,-List.map_take];refine fun D hD=>cmS (fun i σ' H'=>(∃o,σ'=[o])∧Same H H'∧H' D=some (.lst ((x.cps.toList.take i).map fun c=>.bl (Xj c)))) ⟨⟨none,rfl⟩,au hD,by simpa using ao⟩ ?_ ?_
        · rintro i c σ' H' hc ⟨⟨o,rfl⟩,sm,yL⟩;have h4:4<sizeLine:=by decide
          have hsz:x.cps.size=x.length:=rfl;simp -dsimp[-Bool.exists_bool,-List.map_take];refine⟨_,yL,by simp;omega,aW sm hD,?_⟩;rw[ao,take_one (l:=x.cps.toList) (x:=c) (by simpa using hc),List.map_append];rfl
        · rintro σ' H' ⟨⟨o,rfl⟩,sm,yL⟩;simp -dsimp[-Bool.exists_bool,-List.map_take];refine⟨_,yL,_,oZ Xj _,?_⟩;rw[K6];have e:nameB x=(x.cps.toList.take x.cps.size).all Xj:=by
            unfold nameB;rw[decide_eq_true h1',decide_eq_true h2',show x.cps.toList.take x.cps.size=x.cps.toList from List.take_of_length_le (by simp)];rfl
          rw[← e];exact q H' sm
    · have h1':¬1≤x.length:=by simp at h1;omega
      have e:nameB x=false:=by
        unfold nameB;rw[decide_eq_false h1'];simp
      rw[e] at q;simp -dsimp[-Bool.exists_bool,-List.map_take];exact q H (Same.refl H)
theorem V1 {xs:List Str} {i:Nat} {x:V} (h:(xs.map V.str)[i]? = some x):∃z,z∈xs∧x = .str z:=by
  rw[List.getElem?_map] at h;cases e:xs[i]? with
  | none=>rw[e] at h;cases h
  | some z=>
    rw[e] at h;exact⟨z,List.mem_of_getElem? e,(Option.some.inj h).symm⟩
theorem Av {x:Str} (h:nameB x=true):x.length≤sizeLine:=by
  unfold nameB at h;simp at h;have h4:4≤sizeLine:=by decide
  omega
theorem lX:∀n,rm (List.replicate n (.bl true)) (List.replicate n true)
  | 0=>rfl
  | n+1=>⟨true,_,rfl,rfl,lX n⟩
theorem Aw:∀xs:List Str,keysOf (xs.map V.str)=xs.map Sum.inr
  | []=>rfl
  | x::xs=>by
    show Sum.inr x::keysOf (xs.map V.str)=_;rw[Aw xs];rfl
theorem qct {xs:List Str} (h:xs.Nodup):(Cg (fun i=>(keysOf (xs.map V.str))[i]?.getD (Sum.inl 0)) (xs.map V.str).length).length=xs.length:=by
  rw[Aw,List.length_map];refine(K4 _ xs.length fun i j hi hj e=>?_).1;simp[hi,hj] at e;exact(List.getElem_inj h).mp e
structure Zy (xs:List Str):Prop where
  len:1≤xs.length∧xs.length≤9
  nm:∀x∈xs,nameB x=true
  nd:xs.Nodup
def CP:Sp:=fun vs H Q _=>∃p xs,vs=[.ref p]∧Sq H p (xs.map V.str)∧Zy xs∧∀H',Same H H'→Q (.bl true) H'
theorem CQ (T:Txt K mg a):cF P w K mg base jA 2 a.dJ a.jY ["thing"] CP:=by
  refine T.qm.oO CJ (fun vs H Q E h=>?_) (fun cdv A outer s H vs Q E hr h=>?_)
  ·obtain⟨p,xs,rfl,_⟩:=h;rfl
  · obtain⟨p,xs,rfl,hp,hx,q⟩:=h;refine⟨_,(aA (cO (PW.pt (lY (fD (cA (PE.eqv (aN (mO (K:=K) T) (hr.mono (by decide)) rfl T.jQ T.gV.kp T.jP .nil bw (aj (aK 0) aq)) (aJ _ _ _)))) (iV (fD (DX uy uy aG (aM (bV (K:=K) rfl) rfl T.nm.len PySem.boot_len (aj (aK 0) aq)) (uH rfl T.uc T.ud)))))) (aD (aY lB)) bB)
      (aD (aY (pL (aM (jL rfl) rfl T.nm.all jH (aj (cJ rfl rfl (show aQ (ak cQ) _ ["thing"] ["one"] [] ["one"] from⟨rfl,by decide+kernel,by decide+kernel,rfl,by decide+kernel,by decide+kernel⟩) rfl (PI.eqv (pG (K:=K) rfl (aK 0)) (mD _ _)) (fun C s H fp pn=>(aO (i:=0) (show(["one"]:List Str).Nodup by decide+kernel) rfl (Or.inl rfl))) (fun C s H fp pn=>dz) (fun C s H fp pn=>(PE.eqv (aN (Ar (K:=K) T) (hr.mono (by decide)) rfl T.xu T.sV.kp T.xr .nil bw (aj (aK 0) aq)) (aJ _ _ _)))) aq)) (uo (iH lg (aM Dz rfl T.nm.len PySem.boot_len (aj (dX (Dy rfl) rfl T.nm.set Dv (aj (aK 0) aq)) aq)) (aM (bV (K:=K) rfl) rfl T.nm.len PySem.boot_len (aj (aK 0) aq)) (bC _))))))),?_⟩
    have hl:=hx.len;have h60:60<sizeLine:=by decide
    simp -dsimp[-Bool.exists_bool,-List.map_take];refine⟨p,_,rfl,hp,fun H1 s1=>?_⟩;have hp1:=hp.same s1;simp -dsimp[-Bool.exists_bool,-List.map_take];refine⟨_,hp1.q,fB.pos (by simp;omega) ?_⟩;simp -dsimp[-Bool.exists_bool,-List.map_take];refine fB.neg (by simp;omega) ?_;obtain⟨b,hb⟩:=hp.b;simp -dsimp[-Bool.exists_bool,-List.map_take];refine⟨b,⟨_,hb K H1 s1⟩,fun D hD=>cmQ (xs.map V.str) (fun i σ' H'=>(∃o,σ'=[o])∧Same H1 H'∧H' D=some (.lst (List.replicate i (.bl true)))) ⟨⟨none,rfl⟩,au hD,ao⟩ (fun i σ' H' _ h=>hb K H' (s1.trans h.2.1)) ?_ ?_⟩
    · rintro i x σ' H' hi ⟨⟨o,rfl⟩,sm,yL⟩;obtain⟨z,hz,rfl⟩:=V1 hi;have hi2:i<xs.length:=by simpa using (List.getElem?_eq_some_iff.mp hi).1
      simp -dsimp[-Bool.exists_bool,-List.map_take];refine⟨z,rfl,Av (hx.nm z hz),fun H2 s2=>?_⟩;simp -dsimp[-Bool.exists_bool,-List.map_take];refine⟨_,s2 _ _ yL,by simp;omega,aW (sm.trans s2) hD,?_⟩;rw[ao,hx.nm z hz,← List.replicate_succ']
    ·rintro σ' H' ⟨⟨o,rfl⟩,sm,yL⟩;have hp2:=hp1.same sm;simp -dsimp[-Bool.exists_bool,-List.map_take];refine⟨_,yL,_,lX _,?_⟩;rw[show(List.replicate (xs.map V.str).length true).all id=true by simp];simp -dsimp[-Bool.exists_bool,-List.map_take];refine⟨_,hp2.q,by simp[isKey],by simp;unfold scanBound;omega,fun t ht=>⟨_,ao,_,(hp2.same (au ht)).q,?_⟩⟩;rw[decide_eq_true (by rw[qct hx.nd];simp)];exact q _ (s1.trans (sm.trans (au ht)))
theorem Zz {x:Str} {xs:List Str} (h:x∈xs):inV (.str x) (xs.map V.str)=true:=by
  unfold inV;rw[List.any_eq_true];exact⟨.str x,List.mem_map.mpr ⟨x,h,rfl⟩,by simp[Ql]⟩
theorem V2 (xs:List Str):(xs.map V.str).all gB=true:=by
  rw[List.all_eq_true];intro v hv;obtain⟨x,_,rfl⟩:=List.mem_map.mp hv;rfl
def Ra:Sp:=fun vs H Q _=>∃t p x y xs,vs=[.ref t,.ref p]∧Sq H t [.str x,.str y]∧Sq H p (xs.map V.str)∧Zy xs∧x∈xs∧y∈xs∧x≠y∧∀H',Same H H'→Q (.bl true) H'
theorem Rb (T:Txt K mg a):cF P w K mg base jA 2 a.jh a.sG ["thing", "points"] Ra:=by
  refine T.zZ.oO Q7 (fun vs H Q E h=>?_) (fun cdv A outer s H vs Q E hr h=>?_)
  ·obtain⟨t,p,x,y,xs,rfl,_⟩:=h;rfl
  · obtain⟨t,p,x,y,xs,rfl,ht,hp,hx,hxm,hym,hne,q⟩:=h;refine⟨_,(aA (cO (PW.pt (lY (fD (cA (PE.eqv (aN (mO (K:=K) T) (hr.mono (by decide)) rfl T.jQ T.gV.kp T.jP .nil bw (aj (aK 0) aq)) (aJ _ _ _)))) (iV (aR wR (aM (bV (K:=K) rfl) rfl T.nm.len PySem.boot_len (aj (aK 0) aq)) aG (bC _))))) (aD (aY lB)) bB)
      (aA (cO (fD (cA (aM (jL rfl) rfl T.nm.all jH (aj (cJ rfl rfl (show aQ (ak iB) _ ["thing", "points"] ["end"] [1] ["end", "points"] from⟨rfl,by decide+kernel,by decide+kernel,rfl,by decide+kernel,by decide+kernel⟩) rfl (PI.eqv (pG (K:=K) rfl (aK 0)) (mD _ _)) (fun C s H fp pn=>(aO (i:=0) (show(["end", "points"]:List Str).Nodup by decide+kernel) rfl (Or.inl rfl))) (fun C s H fp pn=>dz) (fun C s H fp pn=>(pL (PE.eqv (aN (Ar (K:=K) T) (hr.mono (by decide)) rfl T.xu T.sV.kp T.xr .nil bw (aj (aK 0) aq)) (aJ _ _ _)) (uo (iH (yq (K:=K) rfl) (aK 0) (aK 1) rfl))))) aq)))) (aD (aY lB)) bB)
      (aD (aY (iH wR (bQ (bT (K:=K) rfl) (aK 0) aG (fun _ _=>rfl)) (bQ (bT (K:=K) rfl) (aK 0) aG (fun _ _=>rfl)) (bC _)))))),?_⟩
    have h60:60<sizeLine:=by decide
    simp -dsimp[-Bool.exists_bool];refine⟨t,_,rfl,ht,fun H1 s1=>?_⟩;simp -dsimp[-Bool.exists_bool];refine⟨_,(ht.same s1).q,false,rfl,fB.neg rfl ?_⟩;obtain⟨b,hb⟩:=ht.b;simp -dsimp[-Bool.exists_bool];refine⟨b,⟨_,hb K H1 s1⟩,fun D hD=>cmQ [.str x,.str y] (fun i σ' H'=>(∃o,σ'=[o,some (.ref p)])∧Same H1 H'∧H' D=some (.lst (List.replicate i (.bl true)))) ⟨⟨none,rfl⟩,au hD,ao⟩ (fun i σ' H' _ h=>hb K H' (s1.trans h.2.1)) ?_ ?_⟩
    · rintro i v σ' H' hi ⟨⟨o,rfl⟩,sm,yL⟩;obtain⟨z,hz,rfl⟩:∃z,z∈xs∧v = .str z:=by
        match i,hi with
        | 0,hi=>exact⟨x,hxm,(Option.some.inj hi).symm⟩
        | 1,hi=>exact⟨y,hym,(Option.some.inj hi).symm⟩
      have hi2:i<2:=(List.getElem?_eq_some_iff.mp hi).1;simp -dsimp[-Bool.exists_bool];refine⟨z,rfl,Av (hx.nm z hz),fun H2 s2=>?_⟩;rw[hx.nm z hz];simp -dsimp[-Bool.exists_bool];refine⟨_,(hp.same (s1.trans (sm.trans s2))).q,rfl,List.all_eq_true.mp (V2 xs),_,s2 _ _ yL,by simp;omega,aW (sm.trans s2) hD,?_⟩;rw[ao,Zz hz,← List.replicate_succ']
    ·rintro σ' H' ⟨⟨o,rfl⟩,sm,yL⟩;have rP:=ht.same (s1.trans sm);simp -dsimp[-Bool.exists_bool];refine⟨_,yL,_,lX _,?_⟩;rw[show(List.replicate [V.str x,V.str y].length true).all id=true by simp];simp -dsimp[-Bool.exists_bool];refine⟨_,rP.q,_,aV (j:=0) rfl,_,rP.q,_,aV (j:=1) rfl,?_⟩;simp -dsimp[-Bool.exists_bool];refine⟨true,by simp[hne],?_⟩;exact q _ (s1.trans sm)
def Ax (H:Hp) (v:V) (e:Str×Str):Prop:=∃t,v = .ref t∧Sq H t [.str e.1,.str e.2]
theorem Ax.same {H H':Hp} {v:V} {e:Str×Str} (h:Ax H v e) (s:Same H H'):Ax H' v e:=by
  obtain⟨t,rfl,h⟩:=h;exact⟨t,rfl,h.same s⟩
def ni (H:Hp) (vs:List V) (ps:List (Str×Str)):Prop:=vs.length=ps.length∧∀(i:Nat) v e,vs[i]? = some v→ps[i]? = some e→Ax H v e
theorem ni.same {H H':Hp} {vs:List V} {ps:List (Str×Str)} (h:ni H vs ps) (s:Same H H'):ni H' vs ps:=⟨h.1,fun i v e h1 h2=>(h.2 i v e h1 h2).same s⟩
theorem ni.at {H:Hp} {vs:List V} {ps:List (Str×Str)} (h:ni H vs ps) {i:Nat} {v:V} (hv:vs[i]? = some v):∃e,ps[i]? = some e∧Ax H v e:=by
  have hi:i<ps.length:=by rw[← h.1];exact(List.getElem?_eq_some_iff.mp hv).1
  exact⟨ps[i],by simp[hi],h.2 i v _ hv (by simp[hi])⟩
structure JC (xs:List Str) (ps:List (Str×Str)):Prop where
  len:ps.length≤20
  ok:∀e∈ps,e.1∈xs∧e.2∈xs∧e.1≠e.2
def JD:Sp:=fun vs H Q _=>∃t p tv xs ps,vs=[.ref t,.ref p]∧Sq H t tv∧ni H tv ps∧Sq H p (xs.map V.str)∧Zy xs∧JC xs ps∧∀H',Same H H'→Q (.bl true) H'
theorem JF (T:Txt K mg a):cF P w K mg base jA 3 a.fQ a.m6 ["thing", "points"] JD:=by
  refine T.uF.oO Jo (fun vs H Q E h=>?_) (fun cdv A outer s H vs Q E hr h=>?_)
  ·obtain⟨t,p,tv,xs,ps,rfl,_⟩:=h;rfl
  · obtain⟨t,p,tv,xs,ps,rfl,ht,hpr,hp,hx,hts,q⟩:=h;refine⟨_,(aA (cO (PW.pt (lY (fD (cA (PE.eqv (aN (mO (K:=K) T) (hr.mono (by decide)) rfl T.jQ T.gV.kp T.jP .nil bw (aj (aK 0) aq)) (aJ _ _ _)))) (iV (aR nF (aM (bV (K:=K) rfl) rfl T.nm.len PySem.boot_len (aj (aK 0) aq)) (uH rfl T.yc T.yd) (bC _))))) (aD (aY lB)) bB)
      (aD (aY (aM (jL rfl) rfl T.nm.all jH (aj (cJ rfl rfl (show aQ (ak eV) _ ["thing", "points"] ["one"] [1] ["one", "points"] from⟨rfl,by decide+kernel,by decide+kernel,rfl,by decide+kernel,by decide+kernel⟩) rfl (PI.eqv (pG (K:=K) rfl (aK 0)) (mD _ _)) (fun C s H fp pn=>(aO (i:=0) (show(["one", "points"]:List Str).Nodup by decide+kernel) rfl (Or.inl rfl))) (fun C s H fp pn=>dz) (fun C s H fp pn=>(PE.eqv (aN (Rb (K:=K) T) (hr.mono (by decide)) rfl T.Jt T.zZ.kp T.Js .nil bw (aj (aK 0) (aj (aK 1) aq))) (aJ _ _ _)))) aq))))),?_⟩
    have hlen:=hpr.1;have CT:=hts.len;have h60:60<sizeLine:=by decide
    simp -dsimp[-Bool.exists_bool];refine⟨t,_,rfl,ht,fun H1 s1=>?_⟩;simp -dsimp[-Bool.exists_bool];refine⟨_,(ht.same s1).q,fB.neg (by simp;omega) ?_⟩;obtain⟨b,hb⟩:=ht.b;simp -dsimp[-Bool.exists_bool];refine⟨b,⟨_,hb K H1 s1⟩,fun D hD=>cmQ tv (fun i σ' H'=>(∃o,σ'=[o,some (.ref p)])∧Same H1 H'∧H' D=some (.lst (List.replicate i (.bl true)))) ⟨⟨none,rfl⟩,au hD,ao⟩ (fun i σ' H' _ h=>hb K H' (s1.trans h.2.1)) ?_ ?_⟩
    ·rintro i v σ' H' hi ⟨⟨o,rfl⟩,sm,yL⟩;obtain⟨e,he,t2,rfl,rP⟩:=hpr.at hi;have hi2:i<tv.length:=(List.getElem?_eq_some_iff.mp hi).1;obtain⟨h1,h2,h3⟩:=hts.ok e (List.mem_of_getElem? he);have s2:=s1.trans sm;simp -dsimp[-Bool.exists_bool];refine⟨t2,p,e.1,e.2,xs,rfl,rP.same s2,hp.same s2,hx,h1,h2,h3,fun H2 s3=>?_⟩;simp -dsimp[-Bool.exists_bool];refine⟨_,s3 _ _ yL,by simp;omega,aW (sm.trans s3) hD,?_⟩;rw[ao,← List.replicate_succ']
    ·rintro σ' H' ⟨⟨o,rfl⟩,sm,yL⟩;simp -dsimp[-Bool.exists_bool];refine⟨_,yL,_,lX _,?_⟩;rw[show(List.replicate tv.length true).all id=true by simp];exact q _ (s1.trans sm)
def bJ (H:Hp) (vs:List V) (ps:List (Str×Str)):Prop:=vs.length=ps.length∧∀(i:Nat) v e,vs[i]? = some v→ps[i]? = some e→∃t,v = .ref t∧H t=some (.tup [.str e.1,.str e.2])
def dD (H H':Hp):Prop:=∀b xs,H b=some (.tup xs)→H' b=some (.tup xs)
theorem bJ.keep {H H':Hp} {vs:List V} {ps:List (Str×Str)} (h:bJ H vs ps) (s:dD H H'):bJ H' vs ps:=⟨h.1,fun i v e h1 h2=>by
  obtain⟨t,rfl,e⟩:=h.2 i v e h1 h2;exact⟨t,rfl,s _ _ e⟩⟩
theorem bJ.snoc {H:Hp} {vs:List V} {ps:List (Str×Str)} {t:Addr} {e:Str×Str} (h:bJ H vs ps) (ht:H t=some (.tup [.str e.1,.str e.2])):bJ H (vs++[.ref t]) (ps++[e]):=by
  refine⟨by simp[h.1],fun i v d h1 h2=>?_⟩
  by_cases hi:i<vs.length
  ·rw[List.getElem?_append_left hi] at h1;rw[List.getElem?_append_left (by rw[← h.1];exact hi)] at h2;exact h.2 i v d h1 h2
  · rw[List.getElem?_append_right (by omega)] at h1;rw[List.getElem?_append_right (by rw[← h.1];omega),← h.1] at h2;cases hk:i - vs.length with
    | zero=>
      rw[hk] at h1 h2;cases h1;cases h2;exact⟨t,rfl,ht⟩
    | succ j=>
      rw[hk] at h1;simp at h1
structure g8 (C:Addr) (H:Hp) (o:Addr) (xs:List Str) (ps:List (Str×Str)):Prop where
  ex:∃dx n m tv,H o=some (.ins C dx [("names",V.ref n),("pairs",V.ref m)])∧H n=some (.tup (xs.map V.str))∧H m=some (.tup tv)∧bJ H tv ps∧ps.length≤20
def ZC (C:Addr):Sp:=fun vs H Q _=>∃o dx p t tv xs ps,vs=[.ref o,.ref p,.ref t]∧H o=some (.ins C dx [])∧Sq H t tv∧ni H tv ps∧Sq H p (xs.map V.str)∧Zy xs∧JC xs ps∧
  ∀H',g8 C H' o xs ps→But o H H'→Q .non H'
theorem JG (T:Txt K mg a):cF P w K mg base jA 4 a.eY a.m7 ["self", "points", "ties"] (ZC a.bU):=by
  refine T.z_.oO Jp (fun vs H Q E h=>?_) (fun cdv A outer s H vs Q E hr h=>?_)
  ·obtain⟨o,dx,p,t,tv,xs,ps,rfl,_⟩:=h;rfl
  · obtain⟨o,dx,p,t,tv,xs,ps,rfl,ho,ht,hpr,hp,hx,hts,q⟩:=h;refine⟨_,(aA (cO (fD (cA (PE.eqv (aN (CQ (K:=K) T) (hr.mono (by decide)) rfl T.vP T.qm.kp T.vO .nil bw (aj (aK 1) aq)) (aJ _ _ _)))) (aD oV) bB)
      (aA (cO (fD (cA (PE.eqv (aN (JF (K:=K) T) (hr.mono (by decide)) rfl T.z8 T.uF.kp T.z7 .nil bw (aj (aK 2) (aj (aK 1) aq))) (aJ _ _ _)))) (aD oV) bB)
      (aA (N_ (K:=K) rfl (aK 0) (dX wV rfl T.nm.tuple boot_tuple (aj (aK 1) aq)) rfl)
      (aD (N_ (K:=K) rfl (aK 0) (dX wV rfl T.nm.tuple boot_tuple (aj (cJ rfl rfl (show aQ (ak eX) _ ["self", "points", "ties"] ["pair"] [] ["pair"] from⟨rfl,by decide+kernel,by decide+kernel,rfl,by decide+kernel,by decide+kernel⟩) rfl (PI.eqv (pG (K:=K) rfl (aK 2)) (mD _ _)) (fun C s H fp pn=>(aO (i:=0) (show(["pair"]:List Str).Nodup by decide+kernel) rfl (Or.inl rfl))) (fun C s H fp pn=>dz) (fun C s H fp pn=>(iW (aj (bQ (bT (K:=K) rfl) (aK 0) aG (fun _ _=>rfl)) (aj (bQ (bT (K:=K) rfl) (aK 0) aG (fun _ _=>rfl)) aq))))) aq)) rfl))))),?_⟩
    simp -dsimp[-Bool.exists_bool];refine⟨p,xs,rfl,hp,hx,fun H1 s1=>?_⟩;simp -dsimp[-Bool.exists_bool];refine⟨t,p,tv,xs,ps,rfl,ht.same s1,hpr.same s1,hp.same s1,hx,hts,fun H2 s2'=>?_⟩;have s2:=s1.trans s2';simp -dsimp[-Bool.exists_bool];refine⟨_,hp.same s2,fun n H3 hn s3'=>?_⟩;have s3:=s2.trans s3';have nno:n≠o:=yP hn (s3 _ _ ho) (by intro z;cases z);refine⟨_,_,_,s3 _ _ ho,T.m_,T.G6,by simp,?_⟩;have hto:t≠o:=by rcases ht with z | z <;> exact yP z ho (by intro y;cases y)
    have qe3:∀{ob:HO} {b:Addr} {u:HO},b≠o→H b=some u→upd H3 o ob b=some u:=fun hb e=>by rw[aB hb];exact s3 _ _ e
    obtain⟨b,hb⟩:∃b,∀H',(∀c u,c≠o→H c=some u→H' c=some u)→Ib b K H' t tv:=by
      rcases ht with z | z
      ·exact⟨true,fun H' k=>aX.of (k _ _ hto z)⟩
      ·exact⟨false,fun H' k=>d9.of (k _ _ hto z)⟩
    have e1:jF "names" (V.ref n) []=([("names",V.ref n)]:List (Str×V)):=rfl;rw[e1];have st4:∀(c:Addr) (u:HO),c≠o→H c=some u→upd H3 o (.ins a.bU dx [("names",V.ref n)]) c=some u:=fun c u hc e=>qe3 hc e;generalize h4:upd H3 o (.ins a.bU dx [("names",V.ref n)])=H4 at st4 ⊢;have ho4:H4 o=some (.ins a.bU dx [("names",V.ref n)]):=by rw[← h4];exact ao
    have ZD:H4 n=some (.tup (xs.map V.str)):=by rw[← h4,aB nno];exact hn
    refine⟨b,⟨_,hb H4 st4⟩,fun D hD=>cmQ tv (fun i σ' H'=>(∃o',σ'=[o'])∧Same H4 H'∧∃tvs,H' D=some (.lst tvs)∧bJ H' tvs (ps.take i)) ⟨⟨none,rfl⟩,au hD,[],ao,by simp[bJ]⟩ (fun i σ' H' _ h=>hb H' fun c u hc e=>h.2.1 _ _ (st4 c u hc e)) ?_ ?_⟩
    · rintro i v σ' H' hi ⟨⟨o',rfl⟩,sm,tvs,yL,htv⟩;have hi2:i<tv.length:=(List.getElem?_eq_some_iff.mp hi).1;have hlen:=hpr.1;have CT:=hts.len;obtain⟨e,he,t2,rfl,rP⟩:=hpr.at hi;have t2o:t2≠o:=by rcases rP with z | z <;> exact yP z ho (by intro y;cases y)
      have ht3:Sq H' t2 [.str e.1,.str e.2]:=by
        rcases rP with z | z
        ·exact .inl (sm _ _ (st4 _ _ t2o z))
        ·exact .inr (sm _ _ (st4 _ _ t2o z))
      simp -dsimp[-Bool.exists_bool];refine⟨_,ht3.q,_,aV (j:=0) rfl,_,ht3.q,_,aV (j:=1) rfl,fun pt hpt=>?_⟩;have hDp:D≠pt:=aH yL hpt;refine⟨tvs,by rw[aB hDp];exact yL,?_,aW (sm.trans (au hpt)) hD,_,ao,?_⟩
      · have h4':20<sizeLine:=by decide
        have:=htv.1;simp at this;omega
      · rw[take_one he];refine(htv.keep ?_).snoc ?_
        ·intro c zs ec;rw[aB (yP ec yL (by intro y;cases y)),aB (aH ec hpt)];exact ec
        ·rw[aB (Ne.symm hDp)];exact ao
    · rintro σ' H' ⟨⟨o',rfl⟩,sm,tvs,yL,htv⟩;simp -dsimp[-Bool.exists_bool];refine⟨tvs,.inl yL,fun m H5 hm s5=>⟨_,_,_,s5 _ _ (sm _ _ ho4),T.m_,T.yJ,by simp,?_⟩⟩;have ho5:=s5 _ _ (sm _ _ ho4);have mno:m≠o:=yP hm ho5 (by intro z;cases z);have e2:jF "pairs" (V.ref m) ([("names",V.ref n)]:List (Str×V))=([("names",V.ref n),("pairs",V.ref m)]:List (Str×V)):=by
        show(if ("names" : Str) = "pairs" then _ else (("names" : Str),V.ref n)::jF "pairs" (V.ref m) [])=_
        rw[if_neg (by decide+kernel)];rfl
      rw[e2];refine q _ ⟨dx,n,m,tvs,ao,?_,?_,?_,hts.len⟩ fun c u hc e=>?_
      ·rw[aB nno];exact s5 _ _ (sm _ _ ZD)
      ·rw[aB mno];exact hm
      ·have hl:=hpr.1;rw[hl,List.take_length] at htv;refine htv.keep fun c zs ec=>?_;rw[aB (yP (s5 _ _ ec) ho5 (by intro z;cases z))];exact s5 _ _ ec
      ·rw[aB hc];exact s5 _ _ (sm _ _ (st4 c u hc e))
def Rf (C:Addr):Sp:=fun vs H Q _=>∃o xs ps,vs=[.ref o]∧g8 C H o xs ps∧∀l,H l=none→Q (.ref l) (upd H l (.lst (xs.map V.str)))
theorem j7 (T:Txt K mg a):cF P w K mg base jA 1 a.cX a.jZ ["self"] (Rf a.bU):=by
  refine T.vQ.oO CK (fun vs H Q E h=>?_) (fun cdv A outer s H vs Q E hr h=>?_)
  ·obtain⟨o,xs,ps,rfl,_⟩:=h;rfl
  ·obtain⟨o,xs,ps,rfl,⟨dx,n,m,tv,h1,h2,h3,h4,h5⟩,q⟩:=h;refine⟨_,(aD (aY (dX (pB (K:=K) rfl) rfl T.nm.list boot_list (aj (PE.eqv (Fz (K:=K) rfl (aK 0) rfl) (Gn _ _ _)) aq)))),?_⟩;simp -dsimp[-Bool.exists_bool];refine⟨_,_,_,h1,T.m_,T.G6,_,rfl,_,.inr (d9.of h2),q⟩
def ZF (C:Addr):Sp:=fun vs H Q _=>∃o xs ps,vs=[.ref o]∧g8 C H o xs ps∧∀l tv,H l=none→bJ H tv ps→Q (.ref l) (upd H l (.lst tv))
theorem JH (T:Txt K mg a):cF P w K mg base jA 1 a.eZ a.m8 ["self"] (ZF a.bU):=by
  refine T.Ab.oO Jq (fun vs H Q E h=>?_) (fun cdv A outer s H vs Q E hr h=>?_)
  ·obtain⟨o,xs,ps,rfl,_⟩:=h;rfl
  ·obtain⟨o,xs,ps,rfl,⟨dx,n,m,tv,h1,h2,h3,h4,h5⟩,q⟩:=h;refine⟨_,(aD (aY (dX (pB (K:=K) rfl) rfl T.nm.list boot_list (aj (PE.eqv (Fz (K:=K) rfl (aK 0) rfl) (Gn _ _ _)) aq)))),?_⟩;simp -dsimp[-Bool.exists_bool];refine⟨_,_,_,h1,T.m_,T.yJ,_,rfl,_,.inr (d9.of h3),fun l hl=>q l tv hl h4⟩
theorem ig.upd {p q:Addr} {H:Hp} {u:HO} (x:ig H p) (h:p≠q):ig (L2.upd H q u) p:=by
  obtain⟨a,b,e,r⟩:=x;exact⟨a,b,by rw[aB h];exact e,r⟩
theorem ig.ne {p q:Addr} {H:Hp} (x:ig H p) (h:H q=none):p≠q:=by
  obtain⟨a,b,e,r⟩:=x;exact aH e h
theorem ig.none {p b:Addr} {H H':Hp} (x:But p H H') (hp:ig H' p) (h:H' b = .none):H b = .none:=by
  obtain⟨a,b,e,r⟩:=hp;exact x.none e h
def V3:Sp:=fun vs H Q _=>∃p l xs,vs=[.ref p,.ref l]∧ig H p∧l≠p∧H l=some (.lst xs)∧xs.length≤100∧∀r ys H',H r=none→H' r=some (.lst ys)→ys.Perm xs→ig H' p→But p H H'→Q (.ref r) H'
theorem JK (T:Txt K mg a):cF P w K mg base jA 2 a.lO a.vB ["_law_pot_here", "_law_things"] V3:=by
  refine T.yI.oO zY (fun vs H Q E h=>?_) (fun cdv A outer s H vs Q E hr h=>?_)
  ·obtain⟨p,l,xs,rfl,_⟩:=h;rfl
  · obtain⟨p,l,xs,rfl,hp,hlp,hl,h100,q⟩:=h;refine⟨_,(aA (bA (i:=2) zY.nd rfl (Or.inl rfl) (gA aq))
      (aA (lZ PassesOwn.never rfl (PI.eqv (cN (K:=K) rfl (aK 1)) (bZ _ _)) (aO (i:=3) zY.nd rfl (Or.inl rfl))
      (aD (gK (nA (K:=K) rfl PySem.F.plainAttrs_list PySem.F.slot_list_insert PySem.F.type_list_insert Lj (aK 2) (aj (PE.eqv (aN (d8 (K:=K) T) (hr.mono (by decide)) rfl T.fW T.fG.kp T.fV .nil bw (aj (aK 0) (aj (cD i_ (aM (bV (K:=K) rfl) rfl T.nm.len PySem.boot_len (aj (aK 2) aq)) aG) aq))) (aJ _ _ _)) (aj (aK 3) aq))))))
      (aD (aY (aK 2))))),?_⟩
    have h4':100<sizeLine:=by decide
    simp -dsimp;intro r hr0;have hpr:p≠r:=hp.ne hr0;refine⟨⟨_,aX.of (bI hl hr0)⟩,frL xs (fun i σ H'=>∃v ys,σ=[some (.ref p),some (.ref l),some (.ref r),v]∧H' r=some (.lst ys)∧ys.Perm (xs.take i)∧ig H' p∧But p H H') ⟨none,[],rfl,ao,by simp,hp.upd hpr,(But.refl _ _).new hr0⟩ (fun i σ H' _ ⟨_,_,_,_,_,_,hb⟩=>aX.of (hb _ _ hlp hl)) ?_ ?_⟩
    · rintro i x σ H' hi ⟨v,ys,rfl,hr',hperm,hP,hB⟩;have hi2:i<xs.length:=(List.getElem?_eq_some_iff.mp hi).1;have hly:ys.length=i:=by
        have:=hperm.length_eq;simp at this;omega
      simp -dsimp;refine⟨⟨_,aX.of hr'⟩,ys,.inl (aX.of hr'),p,_,rfl,hP,by omega,by omega,fun d H1 hd0 hd1 Ho JL=>?_⟩;have hr1:H1 r=some (.lst ys):=JL _ _ (Ne.symm hpr) hr';simp -dsimp;refine⟨ys,hr1,hd0,by omega,by omega,_,ao,?_,Ho.upd hpr,(hB.trans JL).new hr0⟩
      · rw[take_one hi];have e:(ys.take d.toNat++x::ys.drop d.toNat).Perm (x::ys):=by
          refine List.perm_middle.trans ?_;rw[List.take_append_drop]
        exact e.trans ((List.Perm.cons x hperm).trans (List.perm_append_singleton x _).symm)
    ·rintro σ H' ⟨v,ys,rfl,hr',hperm,hP,hB⟩;rw[List.take_length] at hperm;simp -dsimp;exact q r ys H' hr0 hr' hperm hP hB
def qcu:Sp:=fun vs H Q _=>∃(p l:Addr) (xs:List Str),vs=[.ref p,.ref l]∧ig H p∧l≠p∧H l=some (.lst (xs.map V.str))∧2≤xs.length∧xs.length≤9∧xs.Nodup∧∀t x y H',H t=none→H' t=some (.tup [.str x,.str y])→x∈xs→y∈xs→x≠y→ig H' p→But p H H'→Q (.ref t) H'
theorem qcv (T:Txt K mg a):cF P w K mg base jA 2 a.vC a.GD ["_law_pot_here", "_law_names_here"] qcu:=by
  refine T.VH.oO Mg (fun vs H Q E h=>?_) (fun cdv A outer s H vs Q E hr h=>?_)
  ·obtain⟨p,l,xs,rfl,_⟩:=h;rfl
  · obtain⟨p,l,xs,rfl,hp,hlp,hl,h2,h9,hnd,q⟩:=h;refine⟨_,(aA (bA (i:=2) Mg.nd rfl (Or.inl rfl) (PE.eqv (aN (d8 (K:=K) T) (hr.mono (by decide)) rfl T.fW T.fG.kp T.fV .nil bw (aj (aK 0) (aj (aM (bV (K:=K) rfl) rfl T.nm.len PySem.boot_len (aj (aK 1) aq)) aq))) (aJ _ _ _)))
      (aA (bA (i:=3) Mg.nd rfl (Or.inl rfl) (cD sy (cD i_ (cD i_ (aK 2) aG) (PE.eqv (aN (d8 (K:=K) T) (hr.mono (by decide)) rfl T.fW T.fG.kp T.fV .nil bw (aj (aK 0) (aj (cD pJ (aM (bV (K:=K) rfl) rfl T.nm.len PySem.boot_len (aj (aK 1) aq)) aG) aq))) (aJ _ _ _))) (aM (bV (K:=K) rfl) rfl T.nm.len PySem.boot_len (aj (aK 1) aq))))
      (aD (aY (iW (aj (bQ (bT (K:=K) rfl) (aK 1) (aK 2) (fun _ _=>rfl)) (aj (bQ (bT (K:=K) rfl) (aK 1) (aK 3) (fun _ _=>rfl)) aq))))))),?_⟩
    simp -dsimp;refine⟨_,.inl (aX.of hl),p,_,rfl,hp,by simp;omega,by simp;omega,fun d H1 hd0 hd1 Ho JL=>?_⟩;have hl1:=JL _ _ hlp hl;simp -dsimp;refine⟨_,.inl (aX.of hl1),p,_,rfl,Ho,by simp;omega,by simp;omega,fun e H2 he0 Cv hP2 hB2=>?_⟩;have hl2:=hB2 _ _ hlp hl1;simp only[List.length_map] at hd1 Cv;obtain⟨m0,m1,m2⟩:=qbz hd0 hd1 he0 Cv;obtain⟨vx,ex,ax⟩:=N5 (xs:=xs.map V.str) hd0 (by simpa using hd1);obtain⟨vy,ey,ay⟩:=N5 (xs:=xs.map V.str) m0 (by simpa using m1);obtain⟨x,ex',rfl⟩:=iK ex;obtain⟨y,ey',rfl⟩:=iK ey;have sl:=aX.of (K:=K) hl2;simp -dsimp;refine⟨_,.inl sl,by simp;omega,_,.inl sl,_,ax,_,.inl sl,_,(by simpa using ay),fun t ht=>?_⟩;refine q t x y _ (ig.none (JL.trans hB2) hP2 ht) ao (List.mem_of_getElem? ex') (List.mem_of_getElem? ey') (fun z=>?_) (hP2.upd (hP2.ne ht)) ((JL.trans hB2).same (au ht));subst z;have:=zf hnd ex' ey';omega
def V4:Sp:=fun vs H Q _=>∃(p:Addr) (m:Nat),vs=[.ref p,.int m]∧ig H p∧1≤m∧m≤9∧∀(r:Addr) (xs:List Str) (H':Hp),H r=none→H' r=some (.lst (xs.map V.str))→Zy xs→xs.length=m→ig H' p→But p H H'→Q (.ref r) H'
theorem V5 (T:Txt K mg a):cF P w K mg base jA 2 a.lN a.vA ["_law_pot_here", "_law_many"] V4:=by
  refine T.GQ.oO mG (fun vs H Q E h=>?_) (fun cdv A outer s H vs Q E hr h=>?_)
  ·obtain⟨p,m,rfl,_⟩:=h;rfl
  · obtain⟨p,m,rfl,hp,h1,h9,q⟩:=h;refine⟨_,(aA (bA (i:=2) mG.nd rfl (Or.inr rfl) jB)
      (aA (bA (i:=3) mG.nd rfl (Or.inl rfl) (PE.eqv (aN (d8 (K:=K) T) (hr.mono (by decide)) rfl T.fW T.fG.kp T.fV .nil bw (aj (aK 0) (aj aG aq))) (aJ _ _ _)))
      (aA (bA (i:=4) mG.nd rfl (Or.inl rfl) (gA aq))
      (aA (lZ PassesOwn.never rfl (PI.eqv (jD rfl T.nm.range (aj (aK 1) aq)) (jK _)) (aO (i:=5) mG.nd rfl (Or.inl rfl))
      (aA (bA (i:=6) mG.nd rfl (Or.inl rfl) (PE.eqv (aN (d8 (K:=K) T) (hr.mono (by decide)) rfl T.fW T.fG.kp T.fV .nil bw (aj (aK 0) (aj aG aq))) (aJ _ _ _)))
      (aA (bA (i:=7) mG.nd rfl (Or.inl rfl) (nA (K:=K) rfl PySem.F.plainAttrs_str PySem.F.slot_str_join PySem.F.type_str_join U8 jB (aj (cJ rfl rfl (show aQ (ak jU) _ ["_law_pot_here", "_law_many", "_law_letters", "_law_begin", "_law_found", "_law_k", "_law_size", "_law_more"] ["_law_j"] [2,0] ["_law_j", "_law_letters", "_law_pot_here"] from⟨rfl,by decide+kernel,by decide+kernel,rfl,by decide+kernel,by decide+kernel⟩) rfl (PI.eqv (jD rfl T.nm.range (aj (aK 6) aq)) (jK _)) (fun C s H fp pn=>(aO (i:=0) (show(["_law_j", "_law_letters", "_law_pot_here"]:List Str).Nodup by decide+kernel) rfl (Or.inl rfl))) (fun C s H fp pn=>dz) (fun C s H fp pn=>(bQ Oj (aK 1) (PE.eqv (aN (d8 (K:=K) T) (hr.mono (by decide)) rfl T.fW T.fG.kp T.fV .nil bw (aj (aK 2) (aj aG aq))) (aJ _ _ _)) (fun _ _=>rfl)))) aq)))
      (aD (gK (nA (K:=K) rfl PySem.F.plainAttrs_list PySem.F.slot_list_append PySem.F.type_list_append iM (aK 4) (aj (cD Iw (bQ Oj (aK 2) (cD sy (cD i_ (aK 3) (cD yx aG (aK 5))) aG) (fun _ _=>rfl)) (aK 7)) aq)))))))
      (aD (aY (aK 4))))))),?_⟩
    simp -dsimp;refine⟨p,_,rfl,hp,by decide,by decide,fun d H1 hd0 hd1 Ho JL=>?_⟩;obtain⟨b,rfl,qmR,hbl⟩:=rA hd0 hd1;have hP2:=Ho;have hB2:=JL;simp -dsimp;intro r hr0;refine⟨zlt h9 (by decide),frR (fun i σ H'=>∃v8 v9 v10 ws,σ=[some (.ref p),some (.int m),some (.str (Str.ofString "abcdefghijklmnopqrstuvwxyz")),some (.int b),some (.ref r),v8,v9,v10]∧H' r=some (.lst (ws.map V.str))∧ws.length=i∧(∀(j:Nat) x,ws[j]? = some x→∃k,1≤k∧k≤4∧pH (97+(b+5 * j) % 26) k x)∧ig H' p∧But p H H') ⟨none,none,none,[],rfl,ao,rfl,fun j x e=>by simp at e,hP2.upd (hP2.ne hr0),hB2.same (au hr0)⟩ ?_ ?_⟩
    · rintro i σ H' hi ⟨v8,v9,v10,ws,rfl,hr',hl,hw,hP,hB⟩;simp -dsimp;obtain⟨c,hc,qkf,hcl⟩:=rA (i:=((b:Int)+5 * i) % 26) zn1 zn2;have hc':c=(b+5 * i) % 26:=zn3 hc;have pr:r≠p:=fun z=>by subst z;obtain⟨_,_,u,_⟩:=hP2;rw[hr0] at u;cases u
      refine⟨p,_,rfl,hP,by decide,by decide,fun e H3 he0 Cv uf hB3=>?_⟩;simp -dsimp;have hDr:∀{D:Addr},H3 D=none→r≠D:=fun hD=>aH (hB3 _ _ pr hr') hD;refine⟨zlo he0,zhi Cv (by decide),fun D hD=>cmR (fun j σ H4=>∃v ys,σ=[v,some (.str (Str.ofString "abcdefghijklmnopqrstuvwxyz")),some (.ref p)]∧H4 D=some (.lst (ys.map V.str))∧H4 r=some (.lst (ws.map V.str))∧ys.length=j∧(∀y∈ys,∃n,n<26∧y=(⟨#[97+n]⟩:Str))∧ig H4 p∧But p H H4) ⟨_,[],rfl,ao,bI (hB3 _ _ pr hr') hD,rfl,by simp,uf.upd (uf.ne hD),(hB.trans hB3).same (au hD)⟩ ?_ ?_⟩
      · rintro j σ H4 hj ⟨v,ys,rfl,oR,JM,hyl,hys,yM,xM⟩;have hDp:D≠p:=(uf.ne hD).symm;simp -dsimp;refine⟨p,_,rfl,yM,by decide,by decide,fun f H5 hf0 hf1 yN Hq=>?_⟩;obtain⟨n,rfl,qkg,hnl⟩:=rA hf0 hf1;simp -dsimp[xV,hnl];have s20:=of_eq_true yp;refine⟨_,Hq _ _ hDp oR,by rw[List.length_map];exact zn4 hj Cv hyl,ys++[⟨#[97+n]⟩],by rw[ao];simp,by rw[aB (hDr hD)];exact Hq _ _ pr JM,by simp[hyl],fun y hy=>?_,yN.upd hDp.symm,(xM.trans Hq).new (ig.none (hB.trans hB3) uf hD)⟩
        rcases List.mem_append.mp hy with hy | hy
        ·exact hys y hy
        ·exact⟨n,qkg,by simpa using hy⟩
      · rintro σ H4 ⟨v,ys,rfl,oR,JM,hyl,hys,yM,xM⟩;have hy3:=rE ys hys;simp -dsimp;have hw4:=(pH.one qkf).glue (by decide) hys;have s20:=of_eq_true yp;refine⟨ys,oR,by rw[hy3.2.2];exact zn5 hyl Cv,?_⟩;simp -dsimp[xV,hcl];have hlen:(⟨#[97+c]⟩:Str).length+(Txt.join (Str.ofString "") ys).length=1+ys.length:=by
          rw[← hw4.len];exact(Array.size_append).symm
        refine⟨⟨_,aX.of JM⟩,by rw[hlen];exact qj7 (zn6 hyl Cv) (by decide),_,JM,by rw[List.length_map,hl];exact zsz hi (Nat.le_trans h9 (by decide)),ws++[_],by rw[ao];simp;rfl,by simp[hl],fun j y e=>?_,yM.upd pr.symm,xM.new (ig.none hB2 hP2 hr0)⟩
        by_cases hj:j<ws.length
        ·rw[List.getElem?_append_left hj] at e;exact hw j y e
        · rw[List.getElem?_append_right (Nat.not_lt.mp hj)] at e;cases hk:j - ws.length with
          | zero=>
            rw[hk] at e;simp at e;subst e;have ej:j=i:=(zn8 hj hk).trans hl;subst ej;exact⟨1+ys.length,Nat.le_add_right 1 _,zn6 hyl Cv,by rw[← hc'];exact hw4⟩
          | succ k=>
            rw[hk] at e;simp at e
    · rintro σ H' ⟨v8,v9,v10,ws,rfl,hr',hl,hw,hP,hB⟩;simp -dsimp;have nd:ws.Nodup:=by
        unfold List.Nodup;rw[List.pairwise_iff_getElem];intro i j hi hj hij e;obtain⟨k1,_,_,w1⟩:=hw i _ (by simp[hi]:ws[i]? = some ws[i]);obtain⟨k2,_,_,w2⟩:=hw j _ (by simp[hj]:ws[j]? = some ws[j]);have z:=w1.fst;rw[e,w2.fst] at z;simp at z;exact zn7 hi hj hij (by rw[hl];exact h9) z
      refine q r ws H' (ig.none hB2 hP2 hr0) hr' ⟨⟨by rw[hl];exact h1,by rw[hl];exact h9⟩,fun x hx=>?_,nd⟩ hl hP hB;obtain⟨j,hj,e⟩:=List.mem_iff_getElem.mp hx;obtain⟨k,k1,k4,w⟩:=hw j x (by simp[hj,e]);exact w.name k1 k4
theorem bJ.perm {H:Hp} {vs ys:List V} {ps:List (Str×Str)} (h:bJ H vs ps) (hp:ys.Perm vs):∃qs:List (Str×Str),bJ H ys qs∧qs.Perm ps:=by
  have e1:vs=(vs.zip ps).map (·.1):=by rw[List.map_fst_zip (by rw[h.1];exact Nat.le_refl _)]
  have e2:ps=(vs.zip ps).map (·.2):=by rw[List.map_snd_zip (by rw[h.1];exact Nat.le_refl _)]
  obtain⟨l',pl,e⟩:=uT hp _ e1;refine⟨l'.map (·.2),⟨by rw[e];simp,fun i v d h1 h2=>?_⟩,by rw[e2];exact pl.map _⟩;rw[e,List.getElem?_map] at h1;rw[List.getElem?_map] at h2;cases hz:l'[i]? with
  | none=>rw[hz] at h1;cases h1
  | some z=>
    rw[hz] at h1 h2;cases h1;cases h2;have hm:z∈vs.zip ps:=pl.mem_iff.mp (List.mem_of_getElem? hz);obtain⟨j,hj,ez⟩:=List.mem_iff_getElem.mp hm;have hj':j<vs.length∧j<ps.length:=by
      simp at hj;omega
    simp at ez;subst ez;exact h.2 j _ _ (by simp[hj'.1]) (by simp[hj'.2])
theorem bJ.at {H:Hp} {vs:List V} {ps:List (Str×Str)} (h:bJ H vs ps) {i:Nat} {v:V} (hv:vs[i]? = some v):∃e,ps[i]? = some e∧∃t,v = .ref t∧H t=some (.tup [.str e.1,.str e.2]):=by
  have hi:i<ps.length:=by rw[← h.1];exact(List.getElem?_eq_some_iff.mp hv).1
  exact⟨ps[i],by simp[hi],h.2 i v _ hv (by simp[hi])⟩
theorem bJ.but {p:Addr} {H H':Hp} {vs:List V} {ps:List (Str×Str)} (h:bJ H vs ps) (hp:ig H p) (b:But p H H'):bJ H' vs ps:=h.keep fun c xs e=>b c _ (fun z=>by
  subst z;obtain⟨_,_,u,_⟩:=hp;rw[e] at u;cases u) e
theorem bJ.same {H H':Hp} {vs:List V} {ps:List (Str×Str)} (h:bJ H vs ps) (b:Same H H'):bJ H' vs ps:=h.keep fun c xs e=>b c _ e
theorem ig.nl {p q:Addr} {H:Hp} (x:ig H p) (h:H q = .none):q≠p:=fun z=>(x.ne h) z.symm
def qcw:Sp:=fun vs H Q _=>∃(p:Addr) (m k:Nat),vs=[.ref p,.int m,.int k]∧ig H p∧1≤m∧m≤9∧m≤k∧k≤20∧∀(t n l:Addr) (xs:List Str) (tv:List V) (ps:List (Str×Str)) (H':Hp),
  H t=none→H n=none→H l=none→H' t=some (.tup [.ref n,.ref l])→H' n=some (.lst (xs.map V.str))→H' l=some (.lst tv)→bJ H' tv ps→Zy xs→JC xs ps→xs.length≤m→ps.length≤k→ig H' p→But p H H'→Q (.ref t) H'
theorem qcx (T:Txt K mg a):cF P w K mg base jA 3 a.vD a.GF ["_law_pot_here", "_law_points", "_law_most"] qcw:=by
  refine T.VJ.oO pQ (fun vs H Q E h=>?_) (fun cdv A outer s H vs Q E hr h=>?_)
  ·obtain⟨p,m,k,rfl,_⟩:=h;rfl
  · obtain⟨p,m,k,rfl,hp,h1,h9,hmk,hk,q⟩:=h;refine⟨_,(aA (bA (i:=3) pQ.nd rfl (Or.inl rfl) (PE.eqv (aN (V5 (K:=K) T) (hr.mono (by decide)) rfl T.O8 T.GQ.kp T.O7 .nil bw (aj (aK 0) (aj (cD i_ aG (PE.eqv (aN (d8 (K:=K) T) (hr.mono (by decide)) rfl T.fW T.fG.kp T.fV .nil bw (aj (aK 0) (aj (aK 1) aq))) (aJ _ _ _))) aq))) (aJ _ _ _)))
      (aA (bA (i:=4) pQ.nd rfl (Or.inl rfl) (PE.eqv (aN (d8 (K:=K) T) (hr.mono (by decide)) rfl T.fW T.fG.kp T.fV .nil bw (aj (aK 0) (aj aG aq))) (aJ _ _ _)))
      (aA (bA (i:=5) pQ.nd rfl (Or.inl rfl) (gA aq))
      (aA (cO (aR nF (aM (bV (K:=K) rfl) rfl T.nm.len PySem.boot_len (aj (aK 3) aq)) aG (bC _)) (aA (bA (i:=6) pQ.nd rfl (Or.inr rfl) (PE.eqv (aN (JK (K:=K) T) (hr.mono (by decide)) rfl T.GX T.yI.kp T.GR .nil bw (aj (aK 0) (aj (aK 3) aq))) (aJ _ _ _)))
      (aA (cO (aR nF (aK 4) aG (bC _)) (aD (jG (i:=5) pQ.nd rfl rfl rfl rfl (show aQ (ak qO) _ ["_law_pot_here", "_law_points", "_law_most", "_law_names_here", "_law_kind", "_law_ties", "_law_row", "_law_k", "_law_turns"] ["_law_k"] [6] ["_law_k", "_law_row"] from⟨rfl,by decide+kernel,by decide+kernel,rfl,by decide+kernel,by decide+kernel⟩) rfl (PI.eqv (Qc rfl T.nm.range (aj (dX zM rfl T.nm.int wI (aj (iH lg (aK 4) aG (bC _)) aq)) (aj (aM (bV (K:=K) rfl) rfl T.nm.len PySem.boot_len (aj (aK 6) aq)) aq))) (QM _)) (fun C s H fp pn=>(aO (i:=0) (show(["_law_k", "_law_row"]:List Str).Nodup by decide+kernel) rfl (Or.inl rfl))) (fun C s H fp pn=>dz) (fun C s H fp pn=>(iW (aj (bQ (bT (K:=K) rfl) (aK 1) (cD pJ (aK 0) aG) (fun _ _=>rfl)) (aj (bQ (bT (K:=K) rfl) (aK 1) (aK 0) (fun _ _=>rfl)) aq)))))) bB)
      (aD (lZ PassesOwn.never rfl (PI.eqv (jD rfl T.nm.range (aj (PE.eqv (aN (d8 (K:=K) T) (hr.mono (by decide)) rfl T.fW T.fG.kp T.fV .nil bw (aj (aK 0) (aj (cD i_ (cD pJ (aK 2) (aM (bV (K:=K) rfl) rfl T.nm.len PySem.boot_len (aj (aK 5) aq))) aG) aq))) (aJ _ _ _)) aq)) (jK _)) (aO (i:=7) pQ.nd rfl (Or.inl rfl))
      (aD (gK (nA (K:=K) rfl PySem.F.plainAttrs_list PySem.F.slot_list_append PySem.F.type_list_append iM (aK 5) (aj (PE.eqv (aN (qcv (K:=K) T) (hr.mono (by decide)) rfl T.qaD T.VH.kp T.qaC .nil bw (aj (aK 0) (aj (aK 3) aq))) (aJ _ _ _)) aq)))))))) bB)
      (aA (jG (i:=8) pQ.nd rfl rfl rfl rfl (show aQ (ak qO) _ ["_law_pot_here", "_law_points", "_law_most", "_law_names_here", "_law_kind", "_law_ties", "_law_row", "_law_k", "_law_turns"] ["_law_tie_here"] [0] ["_law_tie_here", "_law_pot_here"] from⟨rfl,by decide+kernel,by decide+kernel,rfl,by decide+kernel,by decide+kernel⟩) rfl (PI.eqv (cN (K:=K) rfl (aK 5)) (bZ _ _)) (fun C s H fp pn=>(aO (i:=0) (show(["_law_tie_here", "_law_pot_here"]:List Str).Nodup by decide+kernel) rfl (Or.inl rfl))) (fun C s H fp pn=>dz) (fun C s H fp pn=>(PE.eqv (aN (d8 (K:=K) T) (hr.mono (by decide)) rfl T.fW T.fG.kp T.fV .nil bw (aj (aK 1) (aj aG aq))) (aJ _ _ _))))
      (aA (jG (i:=5) pQ.nd rfl rfl rfl rfl (show aQ (ak qO) _ ["_law_pot_here", "_law_points", "_law_most", "_law_names_here", "_law_kind", "_law_ties", "_law_row", "_law_k", "_law_turns"] ["_law_turn", "_law_a", "_law_b"] [] ["_law_turn", "_law_a", "_law_b"] from⟨rfl,by decide+kernel,by decide+kernel,rfl,by decide+kernel,by decide+kernel⟩) rfl (PI.eqv (N8 (K:=K) rfl rfl T.nm.zip (aj (aK 5) (aj (aK 8) aq))) (IV _ _)) (fun C s H fp pn=>(PG.eqv (fH (K:=K) (n:=2) rfl rfl (g_.eqv (bh (PG.eqv (fH (K:=K) (n:=2) rfl rfl (g_.eqv (bh (aO (i:=1) (show(["_law_turn", "_law_a", "_law_b"]:List Str).Nodup by decide+kernel) rfl (Or.inl rfl)) (g_.eqv (bh (aO (i:=2) (show(["_law_turn", "_law_a", "_law_b"]:List Str).Nodup by decide+kernel) rfl (Or.inl rfl)) (g_.mono eE gD)) (bx _ _))) (bx _ _))) (fK _ _ _)) (g_.eqv (bh (aO (i:=0) (show(["_law_turn", "_law_a", "_law_b"]:List Str).Nodup by decide+kernel) rfl (Or.inl rfl)) (g_.mono eE gD)) (bx _ _))) (bx _ _))) (fK _ _ _))) (fun C s H fp pn=>dz) (fun C s H fp pn=>(bQ (bT (K:=K) rfl) (gA (aj (iW (aj (aK 1) (aj (aK 2) aq))) (aj (iW (aj (aK 2) (aj (aK 1) aq))) aq))) (aK 0) (fun _ _=>rfl))))
      (aD (aY (iW (aj (aK 3) (aj (PE.eqv (aN (JK (K:=K) T) (hr.mono (by decide)) rfl T.GX T.yI.kp T.GR .nil bw (aj (aK 0) (aj (aK 5) aq))) (aJ _ _ _)) aq))))))))))),?_⟩
    simp -dsimp[-Bool.exists_bool,-Prod.forall,-Prod.exists];refine⟨p,_,rfl,hp,qj4 h1,zlt h9 (by decide),fun d H1 hd0 hd1 Ho JL=>?_⟩;simp -dsimp[-Bool.exists_bool,-Prod.forall,-Prod.exists];refine⟨p,d.toNat+1,?_,Ho,Nat.le_add_left 1 _,ztn hd0 hd1 h9,fun n xs H2 hn hn2 hX hxl hP2 hB2'=>?_⟩
    ·simp;exact qj6 hd0 1
    have hxm:xs.length≤m:=by rw[hxl];exact ztn hd0 hd1 (Nat.le_refl m)
    have hx9:=Nat.le_trans hxm h9;have hB2:=JL.trans hB2';simp -dsimp[-Bool.exists_bool,-Prod.forall,-Prod.exists];refine⟨p,_,rfl,hP2,by decide,by decide,fun kd H3 hk0 hk1 uf qe4=>?_⟩;have hB3:=hB2.trans qe4;have np:n≠p:=fun z=>by subst z;obtain⟨_,_,u,_⟩:=Ho;rw[hn] at u;cases u
    have hn3:=qe4 _ _ np hn2;simp -dsimp[-Bool.exists_bool,-Prod.forall,-Prod.exists];refine fun L hL=>⟨_,.inl (aX.of (bI hn3 hL)),zy (fun σ H4=>∃v6 v7 L tv ps,σ=[some (.ref p),some (.int m),some (.int k),some (.ref n),some (.int kd),some (.ref L),v6,v7,none]∧H L=none∧H4 L=some (.lst tv)∧bJ H4 tv ps∧JC xs ps∧ps.length≤k∧H4 n=some (.lst (xs.map V.str))∧ig H4 p∧But p H H4) ?_ ?_⟩
    · rintro σ H4 ⟨v6,v7,L,tv,ps,rfl,hL0,V6,htv,hts,hpk,ZD,yM,xM⟩;simp -dsimp[-Bool.exists_bool,-Prod.forall,-Prod.exists];have Lp:L≠p:=hp.nl hL0;have Mq:tv.length≤20:=by rw[htv.1];exact Nat.le_trans hpk hk
      have s20:=of_eq_true yp;refine⟨⟨_,aX.of V6⟩,fun D hD=>Oa tv (fun i σ H'=>∃v ds,σ=[v,some (.ref p)]∧H' D=some (.lst (ds.map V.int))∧ds.length=i∧(∀d∈ds,0≤d∧d<2)∧H' L=some (.lst tv)∧bJ H' tv ps∧H' n=some (.lst (xs.map V.str))∧ig H' p∧But p H H') ⟨none,[],rfl,ao,rfl,by simp,bI V6 hD,htv.same (au hD),bI ZD hD,yM.upd (yM.ne hD),xM.same (au hD)⟩ (fun i σ H' _ h=>by
        obtain⟨_,_,_,_,_,_,z,_⟩:=h;exact aX.of z) ?_ ?_⟩
      · rintro i x σ H5 hi ⟨v,ds,rfl,Ci,hl,hds,hL5,qcy,hn5,yN,Hq⟩;have hi2:i<tv.length:=(List.getElem?_eq_some_iff.mp hi).1;simp -dsimp[-Bool.exists_bool,-Prod.forall,-Prod.exists];refine⟨p,_,rfl,yN,by decide,by decide,fun d H6 hd0 hd1 Hr Mr=>?_⟩;have Dp:D≠p:=yM.nl hD;have LD:L≠D:=aH V6 hD;have nD:n≠D:=aH ZD hD;have Hs:=Mr _ _ Dp Ci;simp -dsimp[-Bool.exists_bool,-Prod.forall,-Prod.exists];refine⟨_,Hs,by rw[List.length_map,hl];exact zsz hi2 Mq,ds++[d],by rw[ao];simp,by simp[hl],?_,by rw[aB LD];exact Mr _ _ Lp hL5,(qcy.but yN Mr).keep (fun c zs e=>yt e Hs (by intro z;cases z)),by rw[aB nD];exact Mr _ _ np hn5,Hr.upd (Dp.symm),(Hq.trans Mr).new (ig.none xM yM hD)⟩;intro z hz
        rcases List.mem_append.mp hz with y | y
        ·exact hds z y
        ·simp at y;subst y;exact⟨hd0,hd1⟩
      · rintro σ H5 ⟨v,ds,rfl,Ci,hl,hds,hL5,qcy,hn5,yN,Hq⟩;simp -dsimp[-Bool.exists_bool,-Prod.forall,-Prod.exists];have hD0:=ig.none xM yM hD;have LD:L≠D:=aH V6 hD;refine⟨⟨_,aX.of hL5⟩,⟨_,aX.of Ci⟩,fun D2 hD2=>cmZ tv (ds.map V.int) (fun i σ H'=>(∃o1 o2 o3,σ=[o1,o2,o3])∧∃tvs qs,H' D2=some (.lst tvs)∧bJ H' tvs qs∧qs.length=i∧(∀e∈qs,e.1∈xs∧e.2∈xs∧e.1≠e.2)∧H' L=some (.lst tv)∧H' D=some (.lst (ds.map V.int))∧bJ H' tv ps∧H' n=some (.lst (xs.map V.str))∧ig H' p∧But p H H') ⟨⟨_,_,_,rfl⟩,[],[],ao,⟨rfl,by simp⟩,rfl,by simp,bI hL5 hD2,bI Ci hD2,qcy.same (au hD2),bI hn5 hD2,yN.upd (yN.ne hD2),Hq.same (au hD2)⟩ (by simp[hl]) (fun i σ H' _ h=>by
          obtain⟨_,_,_,_,_,_,_,z1,z2,_⟩:=h;exact⟨aX.of z1,aX.of z2⟩) ?_ ?_⟩
        · rintro i x y t σ H6 hx hy ht ⟨⟨o1,o2,o3,rfl⟩,tvs,qs,qcz,CV,hql,hqs,hL6,Hs,qcA,V7,Hr,Mr⟩;simp -dsimp[-Bool.exists_bool,-Prod.forall,-Prod.exists];obtain⟨e,he,tt,rfl,htt⟩:=qcA.at hx;have hi2:i<tv.length:=(List.getElem?_eq_some_iff.mp hx).1;have hem:=List.mem_of_getElem? he;rw[List.getElem?_map] at hy;obtain⟨d,hd,rfl⟩:∃d,ds[i]? = some d∧y = .int d:=by
            cases z:ds[i]? with
            | none=>rw[z] at hy;cases hy
            | some d=>rw[z] at hy;exact⟨d,rfl,(Option.some.inj hy).symm⟩
          have hd2:=hds d (List.mem_of_getElem? hd);refine⟨_,d9.of ao,rfl,_,d9.of (bI htt ht),rfl,?_⟩;simp -dsimp[-Bool.exists_bool,-Prod.forall,-Prod.exists];refine fun p1 h1 p2 h2 p3 h3=>⟨_,.inl (aX.of ao),?_⟩;have hp1:=bI (u:=HO.lst [V.ref p1,V.ref p2]) (bI (u:=HO.tup [.str e.2,.str e.1]) (ao (H:=upd H6 t (HO.tup [V.ref tt,V.int d])) (a:=p1) (o:=HO.tup [.str e.1,.str e.2])) h2) h3;have hp2:=bI (u:=HO.lst [V.ref p1,V.ref p2]) (ao (H:=upd (upd H6 t (HO.tup [V.ref tt,V.int d])) p1 (HO.tup [.str e.1,.str e.2])) (a:=p2) (o:=HO.tup [.str e.2,.str e.1])) h3;have sm:=(((au (o:=HO.tup [V.ref tt,V.int d]) ht).trans (au (o:=HO.tup [.str e.1,.str e.2]) h1)).trans (au (o:=HO.tup [.str e.2,.str e.1]) h2)).trans (au (o:=HO.lst [V.ref p1,V.ref p2]) h3);generalize upd (upd (upd (upd H6 t (HO.tup [V.ref tt,V.int d])) p1 (HO.tup [.str e.1,.str e.2])) p2 (HO.tup [.str e.2,.str e.1])) p3 (HO.lst [V.ref p1,V.ref p2])=H9 at hp1 hp2 sm ⊢;have key:∃(pp:Addr) (e':Str×Str),Ce [V.ref p1,V.ref p2] d=some (.ref pp)∧H9 pp=some (.tup [.str e'.1,.str e'.2])∧e'.1∈xs∧e'.2∈xs∧e'.1≠e'.2:=by
            have ⟨q1,q2,q3⟩:=hts.ok e hem;have:d=0∨d=1:=z01 hd2.1 hd2.2
            rcases this with rfl | rfl
            ·exact⟨p1,e,rfl,hp1,q1,q2,q3⟩
            ·exact⟨p2,(e.2,e.1),rfl,hp2,q2,q1,Ne.symm q3⟩
          obtain⟨pp,e',a1,hpp,k1,k2,k3⟩:=key;have D2n:=hD2;have D2p:D2≠p:=yN.nl hD2;have LD2:L≠D2:=aH hL5 hD2;have DD2:D≠D2:=aH Ci hD2;have nD2:n≠D2:=aH hn5 hD2;have qe5:=sm _ _ qcz;have kp:dD H9 (upd H9 D2 (.lst (tvs++[.ref pp]))):=fun c zs e=>yt e qe5 (by intro z;cases z);have hP9:ig H9 p:=by
            obtain⟨u1,u2,u3,u4⟩:=Hr;exact⟨u1,u2,sm _ _ u3,u4⟩
          refine⟨_,a1,_,qe5,?_,_,ao,qs++[e'],((CV.same sm).keep kp).snoc (kp _ _ hpp),by simp[hql],?_,by rw[aB LD2];exact sm _ _ hL6,by rw[aB DD2];exact sm _ _ Hs,(qcA.same sm).keep kp,by rw[aB nD2];exact sm _ _ V7,hP9.upd D2p.symm,(Mr.same sm).new (ig.none Hq yN hD2)⟩
          ·rw[CV.1,hql];exact zsz hi2 Mq
          · intro z hz
            rcases List.mem_append.mp hz with y | y
            ·exact hqs z y
            ·simp at y;subst y;exact⟨k1,k2,k3⟩
        · rintro σ H6 ⟨⟨o1,o2,o3,rfl⟩,tvs,qs,qcz,CV,hql,hqs,hL6,Hs,qcA,V7,Hr,Mr⟩;simp -dsimp[-Bool.exists_bool,-Prod.forall,-Prod.exists];have D2p:D2≠p:=yN.nl hD2;have qP:=ig.none Hq yN hD2;have tl:tvs.length=tv.length:=by rw[CV.1,hql]
          refine⟨p,D2,_,rfl,Hr,D2p,qcz,by rw[tl];exact Nat.le_trans Mq (by decide),fun l ys H7 hl0 hl7 hperm Xo RP=>?_⟩;simp -dsimp[-Bool.exists_bool,-Prod.forall,-Prod.exists];intro t ht;obtain⟨rs,hrs,hrp⟩:=(CV.but Hr RP).perm hperm;refine q t n l xs ys rs _ (ig.none (Mr.trans RP) Xo ht) (ig.none JL Ho hn) (ig.none Mr Hr hl0) ao (bI (RP _ _ np V7) ht) (bI hl7 ht) (hrs.same (au ht)) hX ⟨?_,fun e he=>hqs e (hrp.mem_iff.mp he)⟩ hxm ?_ (Xo.upd (Xo.ne ht)) ((Mr.trans RP).same (au ht))
          ·rw[hrp.length_eq,hql];exact Mq
          ·rw[hrp.length_eq,hql,htv.1];exact hpk
    · intro N hN;refine fB.of (fun h=>?_) (fun h=>?_)
      · simp -dsimp[-Bool.exists_bool,-Prod.forall,-Prod.exists];have hx2:2≤xs.length:=by simp at h;exact z2 h
        have qe6:upd H3 L (.lst []) n=some (.lst (xs.map V.str)):=bI hn3 hL;refine⟨p,n,_,rfl,uf.upd (uf.ne hL),np,qe6,by rw[List.length_map];exact Nat.le_trans hx9 (by decide),fun rw ys H4 hrw qe7 hperm yM qcB=>?_⟩;have xM:=(hB3.same (au hL)).trans qcB;obtain⟨zs,hzp,rfl⟩:=uT hperm xs rfl;have hzl:zs.length=xs.length:=hzp.length_eq;have qkh:zs.Nodup:=hzp.nodup_iff.mpr hX.nd;have ZD:=qcB _ _ np qe6;have V6:H4 L=some (.lst []):=qcB _ _ (uf.nl hL) ao;have hL0:=ig.none hB3 uf hL;simp -dsimp[-Bool.exists_bool,-Prod.forall,-Prod.exists];refine zy (fun σ H5=>∃v6 v7 L tv ps,σ=[some (.ref p),some (.int m),some (.int k),some (.ref n),some (.int kd),some (.ref L),v6,v7,none]∧H L=none∧H5 L=some (.lst tv)∧bJ H5 tv ps∧JC xs ps∧ps.length≤m∧H5 n=some (.lst (xs.map V.str))∧ig H5 p∧But p H H5) ?_ ?_
        · rintro σ H5 ⟨v6,v7,L,tv,ps,rfl,hL0,hL5,htv,hts,hpm,hn5,yN,Hq⟩;simp -dsimp[-Bool.exists_bool,-Prod.forall,-Prod.exists];have Lp:L≠p:=hp.nl hL0;have Mq:tv.length=ps.length:=htv.1;have s20:=of_eq_true yp;have htk:tv.length≤k:=by rw[Mq];exact Nat.le_trans hpm hmk
          refine⟨_,.inl (aX.of hL5),p,_,rfl,yN,zk1 htk,zk2 hk (by decide),fun f H6 hf0 hf1 Hr ZG=>?_⟩;simp -dsimp[-Bool.exists_bool,-Prod.forall,-Prod.exists];refine⟨zlo hf0,Int.lt_trans hf1 (zk2 hk (by decide)),frR (fun i σ H7=>∃v7 tv ps,σ=[some (.ref p),some (.int m),some (.int k),some (.ref n),some (.int kd),some (.ref L),v6,v7,none]∧H7 L=some (.lst tv)∧bJ H7 tv ps∧JC xs ps∧ps.length+f.toNat≤k+i∧H7 n=some (.lst (xs.map V.str))∧ig H7 p∧But p H H7) ⟨v7,tv,ps,rfl,ZG _ _ Lp hL5,htv.but yN ZG,hts,zk3 hf0 hf1 Mq,ZG _ _ np hn5,Hr,Hq.trans ZG⟩ ?_ ?_⟩
          · rintro i σ H7 hi ⟨v7,tv,ps,rfl,hL7,V8,qcC,hpl,hn7,Xo,RP⟩;simp -dsimp[-Bool.exists_bool,-Prod.forall,-Prod.exists];refine⟨⟨_,aX.of hL7⟩,p,n,xs,rfl,Xo,np,hn7,hx2,hx9,hX.nd,fun t x y H8 ht ht8 hx hy hxy hP8 hB8=>?_⟩;simp -dsimp[-Bool.exists_bool,-Prod.forall,-Prod.exists];have hL8:=hB8 _ _ Lp hL7;have hl7:=V8.1;have kp:dD H8 (upd H8 L (.lst (tv++[.ref t]))):=fun c zs e=>yt e hL8 (by intro z;cases z);have nL:n≠L:=fun z=>by subst z;rw[ig.none JL Ho hn] at hL0;rw[hn7] at hL7;cases tv with
              | nil=>simp at hL7;rw[hL7] at hx2;simp at hx2
              | cons v tv=>
                obtain⟨e,_,u,rfl,_⟩:=V8.at (i:=0) rfl;cases xs with
                | nil=>simp at hx2
                | cons x xs=>simp at hL7
            refine⟨_,hL8,zk4 hl7 hpl hi hk,_,ao,ps++[(x,y)],((V8.but Xo hB8).keep kp).snoc (kp _ _ ht8),⟨by rw[List.length_append];exact Nat.succ_le_succ (zk5 hpl hi hk),?_⟩,by rw[List.length_append];exact zk6 hpl,by rw[aB nL];exact hB8 _ _ np hn7,hP8.upd Lp.symm,(RP.trans hB8).new hL0⟩;intro e he
            rcases List.mem_append.mp he with z | z
            ·exact qcC.ok e z
            ·simp at z;subst z;exact⟨hx,hy,hxy⟩
          ·rintro σ H7 ⟨v7,tv,ps,rfl,hL7,V8,qcC,hpl,hn7,Xo,RP⟩;simp -dsimp[-Bool.exists_bool,-Prod.forall,-Prod.exists];exact hN _ _ ⟨_,_,L,tv,ps,rfl,hL0,hL7,V8,qcC,zk7 hpl,hn7,Xo,RP⟩
        · intro N2 hN2;refine fB.of (fun h=>?_) (fun h=>?_)
          · simp -dsimp[-Bool.exists_bool,-Prod.forall,-Prod.exists];obtain⟨lo,hlo,lo1⟩:∃lo:Nat,(if kd=3 then (1:Int) else 0)=lo∧lo≤1:=by
              split
              ·exact⟨1,rfl,Nat.le_refl _⟩
              ·exact⟨0,rfl,by decide⟩
            simp only[hlo];have s20:=of_eq_true yp;refine⟨_,.inl (aX.of qe7),⟨qj5,zlt lo1 (by decide),zlt (by rw[List.length_map,hzl];exact hx9) (by decide)⟩,fun D hD=>cmR (fun i σ H5=>(∃o,σ=[o,some (.ref rw)])∧∃tvs qs,H5 D=some (.lst tvs)∧bJ H5 tvs qs∧qs.length=i∧(∀e∈qs,e.1∈xs∧e.2∈xs∧e.1≠e.2)∧Same H4 H5) ⟨⟨_,rfl⟩,[],[],ao,⟨rfl,by simp⟩,rfl,by simp,au hD⟩ ?_ ?_⟩
            · rintro i σ H5 hi ⟨⟨o,rfl⟩,tvs,qs,Ci,CV,hql,hqs,sm⟩;have hk:lo+i<zs.length:=by simp at hi;exact qj8 hi
              obtain⟨j,vx,hj,ex,ax⟩:=T9 (xs:=zs.map V.str) (k:=lo+i) (by rw[List.length_map,hzl];exact hx2) (by simpa using hk);obtain⟨x,ex',rfl⟩:=iK ex;have ey':zs[lo+i]? = some (zs[lo+i]'hk):=by simp[hk]
              have ay:Ce (zs.map V.str) ((lo+i:Nat):Int)=some (.str (zs[lo+i]'hk)):=aV (by rw[List.getElem?_map,ey'];rfl);have c1:((lo+i:Nat):Int)=(lo:Int)+i:=Int.natCast_add ..;rw[c1] at ax ay;have sl:=aX.of (K:=K) (sm _ _ qe7);simp -dsimp[-Bool.exists_bool,-Prod.forall,-Prod.exists];refine⟨_,.inl sl,_,ax,_,.inl sl,_,ay,fun pt hpt=>?_⟩;have Dpt:=aH Ci hpt;have Hs:upd H5 pt (.tup [.str x,.str (zs[lo+i]'hk)]) D=some (.lst tvs):=bI Ci hpt;have kp:dD (upd H5 pt (.tup [.str x,.str (zs[lo+i]'hk)])) (upd (upd H5 pt (.tup [.str x,.str (zs[lo+i]'hk)])) D (.lst (tvs++[.ref pt]))):=fun c zs e=>yt e Hs (by intro z;cases z);have hl:=CV.1;refine⟨_,Hs,by rw[hl,hql];exact zsz (Nat.lt_of_le_of_lt (Nat.le_add_left i lo) hk) (by rw[hzl];exact Nat.le_trans hx9 (by decide)),_,ao,qs++[(x,zs[lo+i]'hk)],((CV.same (au hpt)).keep kp).snoc (kp _ _ ao),by simp[hql],?_,aW (sm.trans (au hpt)) hD⟩;intro e he
              rcases List.mem_append.mp he with z | z
              ·exact hqs e z
              ·simp at z;subst z;refine⟨hzp.mem_iff.mp (List.mem_of_getElem? ex'),hzp.mem_iff.mp (List.mem_of_getElem? ey'),fun z=>hj ?_⟩;simp only at z;rw[← z] at ey';exact zf qkh ex' ey'
            · rintro σ H5 ⟨⟨o,rfl⟩,tvs,qs,Ci,CV,hql,hqs,sm⟩;simp -dsimp[-Bool.exists_bool,-Prod.forall,-Prod.exists];simp at hql;have hqm:qs.length≤m:=by rw[hql,hzl];exact Nat.le_trans (Nat.sub_le ..) hxm
              have yN:ig H5 p:=by
                obtain⟨u1,u2,u3,u4⟩:=yM;exact⟨u1,u2,sm _ _ u3,u4⟩
              exact hN2 _ _ ⟨_,_,D,tvs,qs,rfl,ig.none xM yM hD,Ci,CV,⟨Nat.le_trans hqm (Nat.le_trans h9 (by decide)),hqs⟩,hqm,sm _ _ ZD,yN,xM.same sm⟩
          ·simp -dsimp[-Bool.exists_bool,-Prod.forall,-Prod.exists];exact hN2 _ _ ⟨_,_,L,[],[],rfl,hL0,V6,⟨rfl,by simp⟩,⟨by simp,by simp⟩,by simp,ZD,yM,xM⟩
      ·simp -dsimp[-Bool.exists_bool,-Prod.forall,-Prod.exists];exact hN _ _ ⟨_,_,L,[],[],rfl,ig.none hB3 uf hL,ao,⟨rfl,by simp⟩,⟨by simp,by simp⟩,by simp,bI hn3 hL,uf.upd (uf.ne hL),hB3.same (au hL)⟩
theorem qe8 {m:Str} {u v:V} (h1:¬m = "names") (h2:¬m = "pairs"):∀p∈([("names",u),("pairs",v)]:List (Str×V)),¬m=p.1:=fun p hp=>by
  simp at hp
  rcases hp with rfl | rfl
  ·exact h1
  ·exact h2
theorem g8.same {C:Addr} {H H':Hp} {o:Addr} {xs:List Str} {ps:List (Str×Str)} (h:g8 C H o xs ps) (s:Same H H'):g8 C H' o xs ps:=by
  obtain⟨dx,n,m,tv,h1,h2,h3,h4,h5⟩:=h.ex;exact⟨⟨dx,n,m,tv,s _ _ h1,s _ _ h2,s _ _ h3,bJ.same h4 s,h5⟩⟩
theorem g8.ins {C:Addr} {H:Hp} {o:Addr} {xs:List Str} {ps:List (Str×Str)} (h:g8 C H o xs ps) {m:Str} (h1:¬m = "names") (h2:¬m = "pairs"):∃dx fs,H o=some (.ins C dx fs)∧∀p∈fs,¬m=p.1:=by
  obtain⟨dx,n,mm,tv,e,_⟩:=h.ex;exact⟨dx,_,e,qe8 h1 h2⟩
theorem Pq:¬(("ties" : Str) = "names")∧¬(("ties" : Str) = "pairs"):=by decide+kernel
theorem iT:¬(("points" : Str) = "names")∧¬(("points" : Str) = "pairs"):=by decide+kernel
theorem sW:¬(("many" : Str) = "names")∧¬(("many" : Str) = "pairs"):=by decide+kernel
def Ay (C:Addr):Sp:=fun vs H Q _=>∃o d xs ps fx,vs=[.ref o,.ref d]∧g8 C H o xs ps∧qeo H d fx∧∀l tv H',H l=none→H' l=some (.lst tv)→dB H' tv (fJ fx ps 0)→tv.length≤40→Same H H'→Q (.ref l) H'
theorem Az (T:Txt K mg a):cF P w K mg base jA 2 a.cV a.jg ["web", "fixed"] (Ay a.bU):=by
  refine T.nH.oO gH (fun vs H Q E h=>?_) (fun cdv A outer s H vs Q E hr h=>?_)
  ·obtain⟨o,d,xs,ps,fx,rfl,_⟩:=h;rfl
  · obtain⟨o,d,xs,ps,fx,rfl,hw,hfx,q⟩:=h;refine⟨_,(aA (bA (i:=2) gH.nd rfl (Or.inl rfl) (gA aq))
      (aA (lZ PassesOwn.never rfl (PI.eqv (FQ (K:=K) rfl rfl T.Zw.enumerate (aj (PE.eqv (j9 (aK 0) T.m_ T.Al (JH (K:=K) T) (hr.mono (by decide)) T.Ac .nil bw) (kj _ _ _ _ _ _)) aq)) (wU _ _)) (PG.eqv (fH (K:=K) (n:=2) rfl rfl (g_.eqv (bh (aO (i:=3) gH.nd rfl (Or.inl rfl)) (g_.eqv (bh (PG.eqv (fH (K:=K) (n:=2) rfl rfl (g_.eqv (bh (aO (i:=4) gH.nd rfl (Or.inl rfl)) (g_.eqv (bh (aO (i:=5) gH.nd rfl (Or.inl rfl)) (g_.mono eE gD)) (bx _ _))) (bx _ _))) (fK _ _ _)) (g_.mono eE gD)) (bx _ _))) (bx _ _))) (fK _ _ _))
      (aA (cO (aR lg (PE.eqv (Ig (yV hr) (aK 1) (aK 3) aG ⟨rfl,rfl,rfl,rfl⟩) (DY _ _ _)) aG (bC _)) (aD (gK (nA (K:=K) rfl PySem.F.plainAttrs_list PySem.F.slot_list_append PySem.F.type_list_append iM (aK 2) (aj (iW (aj (aK 3) (aj (aK 4) (aj (aK 5) aq)))) aq)))) bB)
      (aD (cO (aR lg (PE.eqv (Ig (yV hr) (aK 1) (aK 3) aG ⟨rfl,rfl,rfl,rfl⟩) (DY _ _ _)) aG (bC _)) (aD (gK (nA (K:=K) rfl PySem.F.plainAttrs_list PySem.F.slot_list_append PySem.F.type_list_append iM (aK 2) (aj (iW (aj (aK 3) (aj (aK 5) (aj (aK 4) aq)))) aq)))) bB))))
      (aD (aY (aK 2))))),?_⟩
    obtain⟨dx,fs,hi,hno⟩:=hw.ins Pq.1 Pq.2;obtain⟨_,_,_,_,_,_,_,_,CT⟩:=hw.ex;simp -dsimp[-Bool.exists_bool,-Prod.forall,-Prod.exists];intro L hL;refine⟨_,_,bI hi hL,hno,o,xs,ps,rfl,hw.same (au hL),fun l2 Kr hl2 qki=>?_⟩;have sa:Same H (upd (upd H L (.lst [])) l2 (.lst Kr)):=(au hL).trans (au hl2);have eL:upd (upd H L (.lst [])) l2 (.lst Kr) L=some (.lst []):=bI ao hl2;have e2:upd (upd H L (.lst [])) l2 (.lst Kr) l2=some (.lst Kr):=ao;have Rg:=bJ.same qki (au (o:=HO.lst Kr) hl2);have L2n:L≠l2:=fun z=>by subst z;rw[ao] at hl2;cases hl2
    generalize upd (upd H L (.lst [])) l2 (.lst Kr)=H1 at sa eL e2 Rg ⊢;obtain⟨kvs,hd,hv⟩:=hfx;have dL:d≠L:=aH hd hL;simp -dsimp[-Bool.exists_bool,-Prod.forall,-Prod.exists];refine⟨⟨_,aX.of e2⟩,frE Kr (fun i σ H'=>(∃v3 v4 v5 sv,σ=[some (.ref o),some (.ref d),some (.ref L),v3,v4,v5]∧H' L=some (.lst sv)∧dB H' sv (fJ fx (ps.take i) 0)∧sv.length≤2 * i)∧H' l2=some (.lst Kr)∧bJ H' Kr ps∧Same H H') ⟨⟨_,_,_,[],rfl,eL,mX.nil,by simp⟩,e2,Rg,sa⟩ (fun i σ H' _ h=>aX.of h.2.1) ?_ ?_⟩
    · rintro i x t σ H2 hi ht ⟨⟨v3,v4,v5,sv,rfl,hL2,hsv,hsl⟩,qe9,htv,s2⟩;have hi2:i<Kr.length:=(List.getElem?_eq_some_iff.mp hi).1;have tl:=htv.1;obtain⟨e,he,tt,rfl,htt⟩:=htv.at hi;rw[Gd fx he];unfold Gb;simp -dsimp[-Bool.exists_bool,-Prod.forall,-Prod.exists];have st:Same H2 (upd H2 t (.tup [.int i,.ref tt])):=au ht;refine⟨_,d9.of ao,rfl,_,d9.of (st _ _ htt),rfl,isD (st _ _ (s2 _ _ hd)),_,qem i (st _ _ (s2 _ _ hd)),?_⟩;have tL:L≠t:=aH hL2 ht;have Ve:=st _ _ hL2;have qcD:=st _ _ qe9;have Rg:=bJ.same htv st;have s3:=s2.trans st;have qcE:=dB.keep hsv (L2.dD.of st);generalize upd H2 t (.tup [.int i,.ref tt])=H3 at Ve qcD Rg s3 qcE ⊢;have Rh:60≤sizeLine:=by decide
      have add:∀(H3:Hp) (sv:List V) (S:List nC) (n:Nat) (x y:Str) (b:Addr),H3 L=some (.lst sv)→dB H3 sv S→H3 b=none→H3 l2=some (.lst Kr)→bJ H3 Kr ps→Same H H3→
          (upd (upd H3 b (.tup [.int n,.str x,.str y])) L (.lst (sv++[.ref b])) L=some (.lst (sv++[.ref b]))∧dB (upd (upd H3 b (.tup [.int n,.str x,.str y])) L (.lst (sv++[.ref b]))) (sv++[.ref b]) (S++[(n,x,y)]))∧upd (upd H3 b (.tup [.int n,.str x,.str y])) L (.lst (sv++[.ref b])) l2=some (.lst Kr)∧bJ (upd (upd H3 b (.tup [.int n,.str x,.str y])) L (.lst (sv++[.ref b]))) Kr ps∧Same H (upd (upd H3 b (.tup [.int n,.str x,.str y])) L (.lst (sv++[.ref b]))):=by
        intro H3 sv S n x y b Ve hsv hb hl2 htv s3;have sb:Same H3 (upd H3 b (.tup [.int n,.str x,.str y])):=au hb;have kp:L2.dD (upd H3 b (.tup [.int n,.str x,.str y])) (upd (upd H3 b (.tup [.int n,.str x,.str y])) L (.lst (sv++[.ref b]))):=L2.dD.set (sb _ _ Ve) (by intro z e;cases e);refine⟨⟨ao,mX.snoc (dB.keep (dB.keep hsv (L2.dD.of sb)) kp) ⟨b,rfl,kp _ _ ao⟩⟩,by rw[aB L2n.symm];exact sb _ _ hl2,(bJ.same htv sb).keep kp,aW (s3.trans sb) hL⟩
      rw[hv i,Io];simp -dsimp[-Bool.exists_bool,-Prod.forall,-Prod.exists];refine zy (fun σ H4=>(∃sv,σ=[some (.ref o),some (.ref d),some (.ref L),some (.int i),some (.str e.1),some (.str e.2)]∧H4 L=some (.lst sv)∧dB H4 sv (fJ fx (ps.take i) 0++if (fx i).getD 0=0 then [(i,e.1,e.2)] else [])∧sv.length≤2 * i+1)∧H4 l2=some (.lst Kr)∧bJ H4 Kr ps∧Same H H4) ?_ ?_
      · rintro σ H4 ⟨⟨sv,rfl,V6,qe_,qcF⟩,qfa,qfb,s4⟩;simp -dsimp[-Bool.exists_bool,-Prod.forall,-Prod.exists];refine⟨isD (s4 _ _ hd),_,qem i (s4 _ _ hd),?_⟩;rw[hv i,Io];simp -dsimp[-Bool.exists_bool,-Prod.forall,-Prod.exists];refine fB.of (fun h=>?_) (fun h=>?_)
        · have h':(fx i).getD 1=1:=by simpa using h
          simp -dsimp[-Bool.exists_bool,-Prod.forall,-Prod.exists];refine⟨⟨_,aX.of V6⟩,fun b hb=>?_⟩;refine⟨_,bI V6 hb,zs1 qcF hi2 tl CT,?_⟩;obtain⟨⟨k1,k2⟩,k3,k4,k5⟩:=add H4 sv _ i e.2 e.1 b V6 qe_ hb qfa qfb s4;refine⟨⟨_,k1,?_,by rw[List.length_append];exact zs2 qcF⟩,k3,k4,k5⟩;rw[if_pos h',← List.append_assoc];exact k2
        · have h':¬(fx i).getD 1=1:=by simpa using h
          simp -dsimp[-Bool.exists_bool,-Prod.forall,-Prod.exists];refine⟨⟨_,V6,?_,Nat.le_of_succ_le (zs2 qcF)⟩,qfa,qfb,s4⟩;rw[if_neg h',List.append_nil];exact qe_
      · intro N hN;refine fB.of (fun h=>?_) (fun h=>?_)
        · have h':(fx i).getD 0=0:=by simpa using h
          simp -dsimp[-Bool.exists_bool,-Prod.forall,-Prod.exists];refine⟨⟨_,aX.of Ve⟩,fun b hb=>?_⟩;refine⟨_,bI Ve hb,zs1 (Nat.le_succ_of_le hsl) hi2 tl CT,?_⟩;obtain⟨⟨k1,k2⟩,k3,k4,k5⟩:=add H3 sv _ i e.1 e.2 b Ve qcE hb qcD Rg s3;refine hN _ _ ⟨⟨_,rfl,k1,?_,by rw[List.length_append];exact Nat.succ_le_succ hsl⟩,k3,k4,k5⟩;rw[if_pos h'];exact k2
        · have h':¬(fx i).getD 0=0:=by simpa using h
          simp -dsimp[-Bool.exists_bool,-Prod.forall,-Prod.exists];refine hN _ _ ⟨⟨_,rfl,Ve,?_,Nat.le_succ_of_le hsl⟩,qcD,Rg,s3⟩;rw[if_neg h',List.append_nil];exact qcE
    ·rintro σ H2 ⟨⟨v3,v4,v5,sv,rfl,hL2,hsv,hsl⟩,qe9,htv,s2⟩;simp -dsimp[-Bool.exists_bool,-Prod.forall,-Prod.exists];rw[htv.1,List.take_length] at hsv;have tl:=htv.1;exact q L sv H2 hL hL2 hsv (zs3 hsl tl CT) s2
def CW:Sp:=fun vs H Q _=>∃(start:Str) (l:Addr) (tv:List V) (S:List nC) (xs:List Str),vs=[.str start,.ref l]∧H l=some (.lst tv)∧dB H tv S∧start∈xs∧(∀s∈S,s.2.2∈xs)∧xs.length≤9∧
  ∀(d:Addr) (kvs:List (Key×V)) (R:BR) (H':Hp),H d=none→H' d=some (.dK kvs)→eO H' kvs R→Kq S start R.length R→qj2 S start R→lG H kvs→Same H H'→Q (.ref d) H'
theorem CZ (T:Txt K mg a):cF P w K mg base jA 1 a.dI a.jW ["start", "steps"] CW:=by
  refine T.qe.oO cU (fun vs H Q E h=>?_) (fun cdv A outer s H vs Q E hr h=>?_)
  ·obtain⟨start,l,tv,S,xs,rfl,_⟩:=h;rfl
  · obtain⟨start,l,tv,S,xs,rfl,hl,hS,hsx,hSx,h9,q⟩:=h;refine⟨_,(aA (bA (i:=2) cU.nd rfl (Or.inl rfl) (Yj (T7 (aK 0) (gA aq) Yi) rfl rfl (by simp) (by decide)))
      (aA (bA (i:=3) cU.nd rfl (Or.inl rfl) (gA (aj (aK 0) aq)))
      (aA (bA (i:=4) cU.nd rfl (Or.inl rfl) aG)
      (aA (Hz PassesOwn.never (aR pK (aK 4) (aM (bV (K:=K) rfl) rfl T.nm.len PySem.boot_len (aj (aK 3) aq)) (bC _))
      (aA (bA (i:=5) cU.nd rfl (Or.inl rfl) (bQ (bT (K:=K) rfl) (aK 3) (aK 4) (fun _ _=>rfl)))
      (aA (lZ PassesOwn.never rfl (PI.eqv (cN (K:=K) rfl (aK 1)) (bZ _ _)) (PG.eqv (fH (K:=K) (n:=3) rfl rfl (g_.eqv (bh (aO (i:=6) cU.nd rfl (Or.inl rfl)) (g_.eqv (bh (aO (i:=7) cU.nd rfl (Or.inl rfl)) (g_.eqv (bh (aO (i:=8) cU.nd rfl (Or.inl rfl)) (g_.mono eE gD)) (bx _ _))) (bx _ _))) (bx _ _))) (fK _ _ _))
      (aD (cO (PW.pt (wC (aR lg (aK 7) (aK 5) (bC _)) (uI (Od (PC.eqv (Qy (yV hr) (aK 8) (aK 2)) (Lg _ _)))))) (aA (PS.eqv (Yh (yV hr) (aK 2) (aK 8) (cD Yv (PE.eqv (N6 (yV hr) (aK 2) (aK 5) (fun _ _=>rfl)) (IW _ _)) (gA (aj (aK 6) aq))) rfl) (U5 _ _ _))
      (aD (gK (nA (K:=K) rfl PySem.F.plainAttrs_list PySem.F.slot_list_append PySem.F.type_list_append iM (aK 3) (aj (aK 8) aq))))) bB)))
      (aD (PS.mono (qa1 (i:=4) cU.nd rfl (Or.inl rfl) aG YQ) qb7)))))
      (aD (aY (aK 2))))))),?_⟩
    simp -dsimp;intro d hd p1 hp1;refine⟨bI ao hp1,[(Sum.inr start,.ref p1)],rfl,by simp,fun rl hrl=>?_⟩;have em:ux [] [((Sum.inr start:Key),V.ref p1)]=[(Sum.inr start,.ref p1)]:=rfl;rw[em] at hrl ⊢;have dp1:d≠p1:=fun z=>by subst z;rw[ao] at hp1;cases hp1
    have qkj:H p1=none:=cu (au hd) hp1;have sa:Same H (upd (upd (upd H d (.dK [])) p1 (.lst [])) d (.dK [(Sum.inr start,.ref p1)])):=aW ((au hd).trans (au hp1)) hd;have qkk:H rl=none:=cu sa hrl;have e1:upd (upd (upd H d (.dK [])) p1 (.lst [])) d (.dK [(Sum.inr start,.ref p1)]) d=some (.dK [(Sum.inr start,.ref p1)]):=ao;have e2:upd (upd (upd H d (.dK [])) p1 (.lst [])) d (.dK [(Sum.inr start,.ref p1)]) p1=some (.lst []):=by rw[aB dp1.symm];exact ao
    generalize upd (upd (upd H d (.dK [])) p1 (.lst [])) d (.dK [(Sum.inr start,.ref p1)])=H1 at sa hrl e1 e2 ⊢;have sb:=sa.trans (au (o:=.lst [.str start]) hrl);have dr:d≠rl:=aH e1 hrl;have qfc:lG H [((Sum.inr start:Key),V.ref p1)]:=by
      intro kv hkv q hq;simp at hkv;subst hkv;cases hq;exact qkj
    refine whB (fun σ H'=>∃(n:Nat) (R:BR) (kvs:List (Key×V)) (o5 o6 o7 o8:Option V),σ=[some (.str start),some (.ref l),some (.ref d),some (.ref rl),some (.int n),o5,o6,o7,o8]∧H' d=some (.dK kvs)∧eO H' kvs R∧H' rl=some (.lst (R.map fun yw=>.str yw.1))∧Kq S start n R∧wX S start n=R∧lG H kvs∧n≤R.length∧Same H H')
      (fun σ _=>qep 4 σ)
      ⟨0,[(start,[])],[(Sum.inr start,.ref p1)],none,none,none,none,rfl,bI e1 hrl,⟨rfl,?_⟩,ao,Kq.begin S start,rfl,qfc,by simp,sb⟩ ?_ Ja
    · intro i kv yw h1 h2;have hi:i=0:=by have:=(List.getElem?_eq_some_iff.mp h1).1;simp at this;omega
      subst hi;simp at h1 h2;subst h1 h2;exact⟨rfl,p1,rfl,bI e2 hrl⟩
    · rintro σ H2 ⟨n,R,kvs,o5,o6,o7,o8,rfl,hd2,hW2,hr2,hB,hF,hN,hnR,s2⟩;have hR9:R.length≤9:=by
        have h1:=o_ hB.nd (hB.sub hsx hSx);simp at h1;omega
      simp -dsimp;refine⟨_,.inl (aX.of hr2),fB.of (fun hlt=>?_) (fun hlt=>?_)⟩
      · have hlt':n<R.length:=by simpa using hlt
        simp -dsimp;obtain⟨⟨hh,wh⟩,hR⟩:∃x,R[n]? = some x:=⟨R[n],by simp[hlt']⟩;refine⟨_,.inl (aX.of hr2),.str hh,aV (by rw[List.getElem?_map,hR];rfl),⟨_,aX.of (s2 _ _ hl)⟩,frL tv (fun j σ H'=>∃(R:BR) (kvs:List (Key×V)) (o6 o7 o8:Option V),σ=[some (.str start),some (.ref l),some (.ref d),some (.ref rl),some (.int n),some (.str hh),o6,o7,o8]∧H' d=some (.dK kvs)∧eO H' kvs R∧H' rl=some (.lst (R.map fun yw=>.str yw.1))∧kZ S (S.take j) start n hh wh R∧u_ (S.take j) hh wh (wX S start n)=R∧lG H kvs∧Same H H') ⟨R,kvs,o6,o7,o8,rfl,hd2,hW2,hr2,kZ.enter hB hR,hF,hN,s2⟩ (fun j σ H' _ h=>by
          obtain⟨_,_,_,_,_,_,_,_,_,_,_,_,z⟩:=h;exact aX.of (z _ _ hl)) ?_ ?_⟩
        · rintro j x σ H3 hj ⟨R,kvs,o6,o7,o8,rfl,hd3,V9,Xp,hM,hF3,hN3,s3⟩;obtain⟨⟨sn,so,sg⟩,hs,t,rfl,ht⟩:=hS.at hj;have hR9:R.length≤9:=by
            have h1:=o_ hM.bf.nd (hM.bf.sub hsx hSx);simp at h1;omega
          have hFs:=Lk (S.take j) (sn,so,sg) hh wh (wX S start n);rw[hF3] at hFs;rw[take_one hs];simp -dsimp;refine⟨_,d9.of (s3 _ _ ht),rfl,?_⟩;simp -dsimp
          by_cases hoh:so=hh
          · subst hoh;refine fB.pos (by simp) ?_;simp -dsimp;refine⟨_,qen sg hd3,?_⟩;rw[V9.qjI hM.bf.nd];refine fB.of (fun hg=>?_) (fun hg=>?_)
            · have hg':¬sg∈R.map (·.1):=by simpa using hg
              obtain⟨pw,hpw,qkl⟩:=V9.some hM.bf.nd (List.mem_of_getElem? hM.hr);have hwl:=hM.bf.qjG (List.mem_of_getElem? hM.hr);have s20:=of_eq_true yp;simp -dsimp;refine⟨.ref pw,?_,fun b hb=>?_⟩
              ·have:=qen so hd3;rw[hpw] at this;exact this
              refine⟨_,bI qkl hb,_,ao,by simp;omega,fun c hc=>?_⟩;have s4:Same H3 (upd (upd H3 b (.lst [.int sn])) c (.lst (wh.map (fun n:Nat=>V.int n)++[.int sn]))):=(au hb).trans (au hc);have ec:upd (upd H3 b (.lst [.int sn])) c (.lst (wh.map (fun n:Nat=>V.int n)++[.int sn])) c=some (.lst (wh.map (fun n:Nat=>V.int n)++[.int sn])):=ao;generalize upd (upd H3 b (.lst [.int sn])) c (.lst (wh.map (fun n:Nat=>V.int n)++[.int sn]))=H4 at s4 ec ⊢;have hd4:=s4 _ _ hd3;have JM:=s4 _ _ Xp;have hkl:=V9.len;have epk:putK kvs (Sum.inr sg) (.ref c)=kvs++[(Sum.inr sg,.ref c)]:=TJ _ (V9.none hg');refine⟨_,qjF sg hd4 (by omega),?_⟩;rw[epk];have hr5:upd H4 d (.dK (kvs++[(Sum.inr sg,.ref c)])) rl=some (.lst (R.map fun yw=>.str yw.1)):=by rw[aB dr.symm];exact JM
              have ne0:∀w:List Nat,R.map (fun yw=>V.str yw.1)≠w.map (fun n:Nat=>V.int n):=fun w e=>by
                have hst:=hM.bf.st;cases R with
                | nil=>simp at hst
                | cons r R=>
                  cases w with
                  | nil=>simp at e
                  | cons n w=>simp at e
              have kp:∀(p:Addr) (w:List Nat),H4 p=some (.lst (w.map fun n:Nat=>V.int n))→upd (upd H4 d (.dK (kvs++[(Sum.inr sg,.ref c)]))) rl (.lst (R.map (fun yw=>V.str yw.1)++[.str sg])) p=some (.lst (w.map fun n:Nat=>V.int n)):=fun p w e=>by
                have h1:p≠d:=fun z=>by subst z;rw[hd4] at e;cases e
                have h2:p≠rl:=fun z=>by subst z;rw[JM] at e;exact ne0 w (HO.lst.inj (Option.some.inj e))
                rw[aB h2,aB h1];exact e
              have ec':H4 c=some (.lst ((wh++[sn]).map fun n:Nat=>V.int n)):=by rw[ec];simp
              refine⟨⟨_,aX.of hr5⟩,_,hr5,by simp;omega,R++[(sg,wh++[sn])],_,by rw[aB dr];exact ao,?_,by rw[ao];simp,hM.add (List.mem_of_getElem? hs) hg',hFs.trans (if_pos ⟨rfl,hg'⟩),hN3.snoc (cu (s3.trans (au hb)) hc),aW (aW (s3.trans s4) hd) qkk⟩;refine eO.snoc (eO.keep (H:=H4) (eO.keep V9 fun p w e=>s4 _ _ e) kp) (kp _ _ ec')
            · have hg':sg∈R.map (·.1):=by simpa using hg
              simp -dsimp;exact⟨R,kvs,hd3,V9,Xp,hM.skip fun _=>hg',hFs.trans (if_neg (fun z=>z.2 hg')),hN3,s3⟩
          ·refine fB.neg (by simp[hoh]) ?_;simp -dsimp;exact⟨R,kvs,hd3,V9,Xp,hM.skip fun z=>absurd z hoh,hFs.trans (if_neg (fun z=>hoh z.1)),hN3,s3⟩
        · rintro σ H3 ⟨R,kvs,o6,o7,o8,rfl,hd3,V9,Xp,hM,hF3,hN3,s3⟩;have hl3:S.take tv.length=S:=by rw[hS.1,List.take_length]
          rw[hl3] at hM hF3;simp -dsimp;have hlen:=(List.getElem?_eq_some_iff.mp hM.hr).1;refine⟨⟨n+1,by omega,R,kvs,hd3,V9,Xp,hM.leave,(QT (by rw[hF];exact hR)).trans hF3,hN3,hlen,s3⟩,?_⟩;simp[qep];omega
      · have hlt':¬n<R.length:=by simpa using hlt
        have en:n=R.length:=by omega
        subst en;simp -dsimp;exact q d kvs R H2 hd hd2 hW2 hB hF hN s2
def tyD:PyData→String
  | .none=> "NoneType"
  | .bool _=> "bool"
  | .int _=> "int"
  | .str _=> "str"
  | .list _=> "list"
  | .tuple _=> "tuple"
  | .dict _=> "dict"
def JN:PyData→Bool
  | .list _=>true
  | .tuple _=>true
  | _=>false
def intD:PyData→Bool
  | .int _=>true
  | .bool _=>true
  | _=>false
def qaJ:PyData→Bool
  | .bool _=>true
  | _=>false
def xO:PyData→Bool
  | .int _=>true
  | _=>false
def ldD:PyData→Bool
  | .int i=>decide (0≤i) && decide (i≤1)
  | _=>false
def kids:PyData→List PyData
  | .list ds=>ds
  | .tuple ds=>ds
  | _=>[]
def ZJ (n:Nat) (d:PyData):Bool:=JN d && (decide ((kids d).length=n) && (kids d).all ldD)
theorem Ms {H:Hp} {d:PyData} {v:V} (h:lW H d v):kW K H v (.type (tyD d)):=by
  cases d with
  | none=>simp only[lW] at h;subst h;exact .non
  | bool b=>simp only[lW] at h;subst h;exact .bl b
  | int i=>simp only[lW] at h;subst h;exact .int i
  | str x=>simp only[lW] at h;subst h;exact .str x
  | list ds=>simp only[lW] at h;obtain⟨a,xs,rfl,h1,_⟩:=h;exact .lst h1
  | tuple ds=>simp only[lW] at h;obtain⟨a,xs,rfl,h1,_⟩:=h;exact .tup h1
  | dict ds=>simp only[lW] at h;obtain⟨_,a,rfl,h1⟩:=h;exact .dK h1
theorem ZK (d:PyData):W.kitAny K (.type (tyD d)) [.type "list",.type "tuple"]=some (JN d):=by
  cases d <;> simp[W.kitAny,W.kitOne,tyD,JN] <;> rfl
theorem V_ (d:PyData):W.kitOne K (.type (tyD d)) (.type "int")=some (intD d):=by
  cases d with
  | none=>exact wN K
  | bool b=>exact FZ K
  | int i=>exact Ij K
  | str x=>exact Ii K
  | list ds=>exact FT K
  | tuple ds=>exact Cq K
  | dict ds=>exact Ga K
theorem Ri (d:PyData):W.kitOne K (.type (tyD d)) (.type "bool")=some (qaJ d):=by
  cases d with
  | none=>exact uV K
  | bool b=>exact Cr K
  | int i=>exact uU K
  | str x=>exact FW K
  | list ds=>exact Cp K
  | tuple ds=>exact zA K
  | dict ds=>exact Cu K
theorem qcG {H:Hp} {t:Addr} {ns:List Int} (h:Sq H t (ns.map V.int)):∃d,lW H d (.ref t)∧JN d=true∧kids d=ns.map PyData.int:=by
  rcases h with h | h
  ·exact⟨.list (ns.map PyData.int),by simp only[lW];exact⟨t,_,rfl,h,bR.ints H ns⟩,rfl,rfl⟩
  ·exact⟨.tuple (ns.map PyData.int),by simp only[lW];exact⟨t,_,rfl,h,bR.ints H ns⟩,rfl,rfl⟩
theorem qcH {H:Hp} {d:PyData} {v:V} (h:lW H d v) (hs:JN d=true):∃t xs,v = .ref t∧Sq H t xs∧bR H (kids d) xs:=by
  cases d with
  | list ds=>simp only[lW] at h;obtain⟨a,xs,rfl,h1,h2⟩:=h;exact⟨a,xs,rfl,.inl h1,h2⟩
  | tuple ds=>simp only[lW] at h;obtain⟨a,xs,rfl,h1,h2⟩:=h;exact⟨a,xs,rfl,.inr h1,h2⟩
  | _=>cases hs
def ZL (C:Addr):Sp:=fun vs H Q _=>∃o xs ps,vs=[.ref o]∧g8 C H o xs ps∧Q (.int ps.length) H
theorem rQ (T:Txt K mg a):cF P w K mg base jA 1 a.fj a.m9 ["self"] (ZL a.bU):=by
  refine T.Ad.oO Jr (fun vs H Q E h=>?_) (fun cdv A outer s H vs Q E hr h=>?_)
  ·obtain⟨o,xs,ps,rfl,_⟩:=h;rfl
  ·obtain⟨o,xs,ps,rfl,⟨dx,n,m,tv,h1,h2,h3,h4,h5⟩,q⟩:=h;refine⟨_,(aD (aY (aM (bV (K:=K) rfl) rfl T.nm.len PySem.boot_len (aj (PE.eqv (Fz (K:=K) rfl (aK 0) rfl) (Gn _ _ _)) aq)))),?_⟩;simp -dsimp[-Bool.exists_bool,-List.map_take,-Prod.forall,-Prod.exists];refine⟨_,_,_,h1,T.m_,T.yJ,_,rfl,_,.inr (d9.of h3),?_⟩;rw[h4.1];exact q
def JQ:Sp:=fun vs H Q _=>∃(d:PyData) (v:V),vs=[v]∧lW H d v∧∀H',Same H H'→Q (.bl (JN d)) H'
theorem JR (T:Txt K mg a):cF P w K mg base jA 1 a.gj a.mJ ["thing"] JQ:=by
  refine T.gV.oO zU (fun vs H Q E h=>?_) (fun cdv A outer s H vs Q E hr h=>?_)
  ·obtain⟨d,v,rfl,_⟩:=h;rfl
  ·obtain⟨d,v,rfl,hd,q⟩:=h;refine⟨_,(aD (aY (aM (U7 (K:=K) rfl) rfl T.nm.isinstance boot_isinstance (aj (aK 0) (aj (iW (aj (iU (v:=.ty "list") rfl T.nm.list boot_list rfl) (aj (iU (v:=.ty "tuple") rfl T.nm.tuple boot_tuple rfl) aq))) aq))))),?_⟩;simp -dsimp[-Bool.exists_bool,-List.map_take,-Prod.forall,-Prod.exists];refine fun t ht=>⟨_,_,ao,_,Ms (lW.same (au ht) d v hd),_,ZK d,q _ (au ht)⟩
def JT:Sp:=fun vs H Q _=>∃(d:PyData) (v:V),vs=[v]∧lW H d v∧Q (.bl (xO d)) H
theorem rR (T:Txt K mg a):cF P w K mg base jA 1 a.fP a.m5 ["thing"] JT:=by
  refine T.mL.oO Jm (fun vs H Q E h=>?_) (fun cdv A outer s H vs Q E hr h=>?_)
  ·obtain⟨d,v,rfl,_⟩:=h;rfl
  · obtain⟨d,v,rfl,hd,q⟩:=h;refine⟨_,(aD (aY (pL (aM (wW (K:=K) rfl) rfl T.nm.isinstance boot_isinstance (aj (aK 0) (aj (iU (v:=.ty "int") rfl T.nm.int wI rfl) aq))) (uo (Yw (aM (wW (K:=K) rfl) rfl T.nm.isinstance boot_isinstance (aj (aK 0) (aj (iU (v:=.ty "bool") rfl T.Zw.bool za rfl) aq)))))))),?_⟩;simp -dsimp[-Bool.exists_bool,-List.map_take,-Prod.forall,-Prod.exists];refine⟨_,Ms hd,_,V_ d,?_⟩;cases hi:intD d with
    | false=>
      refine fB.neg rfl ?_;simp -dsimp[-Bool.exists_bool,-List.map_take,-Prod.forall,-Prod.exists];rw[show xO d=false by cases d <;> first | rfl | cases hi] at q
      exact q
    | true=>
      refine fB.pos rfl ?_;simp -dsimp[-Bool.exists_bool,-List.map_take,-Prod.forall,-Prod.exists];refine⟨_,Ms hd,_,Ri d,?_⟩;rw[show xO d = !qaJ d by cases d <;> first | rfl | cases hi] at q
      exact q
def Mt:Sp:=fun vs H Q _=>∃(d:PyData) (v:V),vs=[v]∧lW H d v∧Q (.bl (ldD d)) H
theorem Mu (T:Txt K mg a):cF P w K mg base jA 2 a.gQ a.pX ["thing"] Mt:=by
  refine T.xG.oO Mf (fun vs H Q E h=>?_) (fun cdv A outer s H vs Q E hr h=>?_)
  ·obtain⟨d,v,rfl,_⟩:=h;rfl
  · obtain⟨d,v,rfl,hd,q⟩:=h;refine⟨_,(aD (aY (pL (PE.eqv (aN (rR (K:=K) T) (hr.mono (by decide)) rfl T.ql T.mL.kp T.qj .nil bw (aj (aK 0) aq)) (aJ _ _ _)) (uo (DW uy uy aG (aK 0) aG))))),?_⟩;simp -dsimp[-Bool.exists_bool,-List.map_take,-Prod.forall,-Prod.exists];refine⟨d,v,rfl,hd,?_⟩;cases hw:xO d with
    | false=>
      rw[show ldD d=false by cases d <;> first | rfl | cases hw] at q
      simp -dsimp[-Bool.exists_bool,-List.map_take,-Prod.forall,-Prod.exists];exact q
    | true=>
      obtain⟨i,rfl⟩:∃i,d = .int i:=by cases d <;> first | exact⟨_,rfl⟩ | cases hw
      simp only[lW] at hd;subst hd;simp -dsimp[-Bool.exists_bool,-List.map_take,-Prod.forall,-Prod.exists];simp only[ldD] at q;refine fB.of (fun h=>?_) (fun h=>?_)
      ·rw[h] at q;simp -dsimp[-Bool.exists_bool,-List.map_take,-Prod.forall,-Prod.exists];exact q
      ·rw[h] at q;simp -dsimp[-Bool.exists_bool,-List.map_take,-Prod.forall,-Prod.exists];exact q
theorem oZ:∀l:List Bool,rm (l.map V.bl) l
  | []=>rfl
  | b::l=>⟨b,_,rfl,rfl,oZ l⟩
def A_ (C:Addr):Sp:=fun vs H Q _=>∃(o:Addr) (v:V) (d:PyData) (xs:List Str) (ps:List (Str×Str)),vs=[.ref o,v]∧g8 C H o xs ps∧lW H d v∧ps.length≤20∧
  ∀H',Same H H'→Q (.bl (ZJ ps.length d)) H'
theorem Ba (T:Txt K mg a):cF P w K mg base jA 3 a.cZ a.jj ["web", "thing"] (A_ a.bU):=by
  refine T.nM.oO zW (fun vs H Q E h=>?_) (fun cdv A outer s H vs Q E hr h=>?_)
  ·obtain⟨o,v,d,xs,ps,rfl,_⟩:=h;rfl
  · obtain⟨o,v,d,xs,ps,rfl,hw,hd,CT,q⟩:=h;refine⟨_,(aA (cO (PW.pt (lY (fD (cA (PE.eqv (aN (JR (K:=K) T) (hr.mono (by decide)) rfl T.jQ T.gV.kp T.jP .nil bw (aj (aK 1) aq)) (aJ _ _ _)))) (iV (aR wR (aM (bV (K:=K) rfl) rfl T.nm.len PySem.boot_len (aj (aK 1) aq)) (PE.eqv (j9 (aK 0) T.m_ T.qu (rQ (K:=K) T) (hr.mono (by decide)) T.qp .nil bw) (kj _ _ _ _ _ _)) (bC _))))) (aD (aY lB)) bB)
      (aD (aY (aM (jL rfl) rfl T.nm.all jH (aj (cJ rfl rfl (show aQ (ak cH) _ ["web", "thing"] ["one"] [] ["one"] from⟨rfl,by decide+kernel,by decide+kernel,rfl,by decide+kernel,by decide+kernel⟩) rfl (PI.eqv (pG (K:=K) rfl (aK 1)) (mD _ _)) (fun C s H fp pn=>(aO (i:=0) (show(["one"]:List Str).Nodup by decide+kernel) rfl (Or.inl rfl))) (fun C s H fp pn=>dz) (fun C s H fp pn=>(PE.eqv (aN (Mu (K:=K) T) (hr.mono (by decide)) rfl T.El T.xG.kp T.Ek .nil bw (aj (aK 0) aq)) (aJ _ _ _)))) aq))))),?_⟩
    simp -dsimp[-Bool.exists_bool,-List.map_take,-Prod.forall,-Prod.exists];refine⟨d,v,rfl,hd,fun H1 s1=>?_⟩;cases hs:JN d with
    | false=>
      simp -dsimp[-Bool.exists_bool,-List.map_take,-Prod.forall,-Prod.exists];have e:ZJ ps.length d=false:=by unfold ZJ;rw[hs];rfl
      rw[e] at q;exact q _ s1
    | true=>
      obtain⟨t,ys,rfl,hq,hall⟩:=qcH hd hs;obtain⟨dx,fs,hi,hno⟩:=(hw.same s1).ins sW.1 sW.2;have hq1:=hq.same s1;have hlen:=hall.length;simp -dsimp[-Bool.exists_bool,-List.map_take,-Prod.forall,-Prod.exists];refine⟨_,hq1.q,_,_,hi,hno,o,xs,ps,rfl,hw.same s1,?_⟩;simp -dsimp[-Bool.exists_bool,-List.map_take,-Prod.forall,-Prod.exists]
      by_cases hn:ys.length=ps.length
      · refine⟨false,by simp[hn],fB.neg rfl ?_⟩;obtain⟨b,hb⟩:=hq1.b;simp -dsimp[-Bool.exists_bool,-List.map_take,-Prod.forall,-Prod.exists];refine⟨b,⟨_,hb K H1 (Same.refl _)⟩,fun D hD=>cmQ ys (fun i σ H'=>(∃o',σ=[o'])∧H' D=some (.lst ((((kids d).take i).map ldD).map V.bl))∧Same H1 H') ⟨⟨_,rfl⟩,ao,au hD⟩ (fun i σ H' _ h=>hb K H' h.2.2) ?_ ?_⟩
        ·rintro i x σ H2 hi ⟨⟨o',rfl⟩,hD2,s2⟩;have hi2:i<ys.length:=(List.getElem?_eq_some_iff.mp hi).1;obtain⟨c,hc,hx⟩:=hall.at hi;simp -dsimp[-Bool.exists_bool,-List.map_take,-Prod.forall,-Prod.exists];refine⟨c,x,rfl,lW.same (s1.trans s2) c x hx,?_⟩;simp -dsimp[-Bool.exists_bool,-List.map_take,-Prod.forall,-Prod.exists];refine⟨_,hD2,by rw[List.length_map,List.length_map];exact zsz (Nat.lt_of_le_of_lt (List.length_take_le ..) hi2) (by rw[hn];exact CT),?_,aW s2 hD⟩;rw[ao,List.take_add_one,hc];simp
        · rintro σ H2 ⟨⟨o',rfl⟩,hD2,s2⟩;simp -dsimp[-Bool.exists_bool,-List.map_take,-Prod.forall,-Prod.exists];refine⟨_,hD2,_,oZ _,?_⟩;have e:ZJ ps.length d=(((kids d).take ys.length).map ldD).all id:=by
            unfold ZJ;rw[hs,← hlen,List.take_length,decide_eq_true (by rw[hlen];exact hn),List.all_map];rfl
          rw[← e];exact q _ (s1.trans s2)
      · refine⟨true,by simp;exact fun z=>hn (Int.ofNat.inj z),fB.pos rfl ?_⟩;simp -dsimp[-Bool.exists_bool,-List.map_take,-Prod.forall,-Prod.exists];have e:ZJ ps.length d=false:=by unfold ZJ;rw[decide_eq_false (by rw[hlen];exact hn)];simp
        rw[e] at q;exact q _ s1
theorem Pr:∀{ns:List Int},(∀n∈ns,0≤n∧n≤1)→(ns.map PyData.int).all ldD=true
  | [],_=>rfl
  | n::ns,h=>by
    have h1:=h n List.mem_cons_self;rw[List.map_cons,List.all_cons,Pr fun m hm=>h m (List.mem_cons_of_mem _ hm)];simp[ldD,h1]
theorem Wa {d:PyData} {ns:List Int} (h1:JN d=true) (h2:kids d=ns.map PyData.int) (h01:∀n∈ns,0≤n∧n≤1):ZJ ns.length d=true:=by
  unfold ZJ;rw[h1,h2,Pr h01];simp
def ZM (C:Addr) (H:Hp) (o t:Addr) (xs:List Str) (ps:List (Str×Str)) (ns:List Int):Prop:=g8 C H o xs ps∧Sq H t (ns.map V.int)∧(∀n∈ns,0≤n∧n≤1)∧ns.length=ps.length∧ps.length≤20
def sZ (C:Addr):Sp:=fun vs H Q _=>∃(o t:Addr) (xs:List Str) (ps:List (Str×Str)) (ns:List Int),vs=[.ref o,.ref t]∧ZM C H o t xs ps ns∧∀H',Same H H'→Q .non H'
theorem lC (T:Txt K mg a):cF P w K mg base jA 4 a.bM a.fC ["web", "thing"] (sZ a.bU):=by
  refine T.fU.oO sY (fun vs H Q E h=>?_) (fun cdv A outer s H vs Q E hr h=>?_)
  ·obtain⟨o,t,xs,ps,ns,rfl,_⟩:=h;rfl
  ·obtain⟨o,t,xs,ps,ns,rfl,⟨hw,ht,h01,hl,CT⟩,q⟩:=h;refine⟨_,(aD (cO (fD (cA (PE.eqv (aN (Ba (K:=K) T) (hr.mono (by decide)) rfl T.tW T.nM.kp T.tV .nil bw (aj (aK 0) (aj (aK 1) aq))) (aJ _ _ _)))) (aD oV) bB)),?_⟩;obtain⟨d,hd,hs,hk⟩:=qcG ht;simp -dsimp[-Bool.exists_bool,-List.map_take,-Prod.forall,-Prod.exists];refine⟨o,.ref t,d,xs,ps,rfl,hw,hd,CT,fun H1 s1=>?_⟩;rw[← hl,Wa hs hk h01];simp -dsimp[-Bool.exists_bool,-List.map_take,-Prod.forall,-Prod.exists];exact q _ s1
def G9 (C:Addr):Sp:=fun vs H Q _=>∃(o:Addr) (xs:List Str) (ps:List (Str×Str)) (k:Int),vs=[.ref o,.int k]∧g8 C H o xs ps∧0≤k∧k<ps.length∧Q (.bl true) H
theorem G_ (T:Txt K mg a):cF P w K mg base jA 2 a.eG a.lM ["web", "thing"] (G9 a.bU):=by
  refine T.rK.oO Gz (fun vs H Q E h=>?_) (fun cdv A outer s H vs Q E hr h=>?_)
  ·obtain⟨o,xs,ps,k,rfl,_⟩:=h;rfl
  ·obtain⟨o,xs,ps,k,rfl,hw,h0,h1,q⟩:=h;refine⟨_,(aD (aY (pL (PE.eqv (aN (rR (K:=K) T) (hr.mono (by decide)) rfl T.ql T.mL.kp T.qj .nil bw (aj (aK 1) aq)) (aJ _ _ _)) (uo (DW uy pK aG (aK 1) (PE.eqv (j9 (aK 0) T.m_ T.qu (rQ (K:=K) T) (hr.mono (by decide)) T.qp .nil bw) (kj _ _ _ _ _ _))))))),?_⟩;obtain⟨dx,fs,hi,hno⟩:=hw.ins sW.1 sW.2;simp -dsimp[-Bool.exists_bool,-List.map_take,-Prod.forall,-Prod.exists];refine⟨.int k,_,rfl,by simp[lW],?_⟩;simp only[xO];simp -dsimp[-Bool.exists_bool,-List.map_take,-Prod.forall,-Prod.exists];refine fB.pos (decide_eq_true h0) ?_;simp -dsimp[-Bool.exists_bool,-List.map_take,-Prod.forall,-Prod.exists];refine⟨_,_,hi,hno,o,xs,ps,rfl,hw,?_⟩;simp -dsimp[-Bool.exists_bool,-List.map_take,-Prod.forall,-Prod.exists];rw[decide_eq_true h1];exact q
theorem Bb:∀xs:List Int,keysOf (xs.map V.int)=xs.map Sum.inl
  | []=>rfl
  | x::xs=>by
    show Sum.inl x::keysOf (xs.map V.int)=_;rw[Bb xs];rfl
theorem qcI {xs:List Int} (h:xs.Nodup):(Cg (fun i=>(keysOf (xs.map V.int))[i]?.getD (Sum.inl 0)) (xs.map V.int).length).length=xs.length:=by
  rw[Bb,List.length_map];refine(K4 _ xs.length fun i j hi hj e=>?_).1;simp[hi,hj] at e;exact(List.getElem_inj h).mp e
theorem JV {xs:List Int} {i:Nat} {x:V} (h:(xs.map V.int)[i]? = some x):∃z,xs[i]? = some z∧x = .int z:=by
  rw[List.getElem?_map] at h;cases e:xs[i]? with
  | none=>rw[e] at h;cases h
  | some z=>
    rw[e] at h;exact⟨z,rfl,(Option.some.inj h).symm⟩
structure Nrs (n:Nat) (ks:List Int):Prop where
  ok:∀k∈ks,0≤k∧k<n
  nd:ks.Nodup
  len:ks.length≤20
def Bc (C:Addr):Sp:=fun vs H Q _=>∃(o t:Addr) (xs:List Str) (ps:List (Str×Str)) (ks:List Int),vs=[.ref o,.ref t]∧g8 C H o xs ps∧Sq H t (ks.map V.int)∧Nrs ps.length ks∧∀H',Same H H'→Q (.bl true) H'
theorem Bf (T:Txt K mg a):cF P w K mg base jA 3 a.cY a.ji ["web", "thing"] (Bc a.bU):=by
  refine T.nJ.oO zV (fun vs H Q E h=>?_) (fun cdv A outer s H vs Q E hr h=>?_)
  ·obtain⟨o,t,xs,ps,ks,rfl,_⟩:=h;rfl
  · obtain⟨o,t,xs,ps,ks,rfl,hw,ht,hk,q⟩:=h;refine⟨_,(aA (cO (PW.pt (lY (fD (cA (PE.eqv (aN (mO (K:=K) T) (hr.mono (by decide)) rfl T.jQ T.gV.kp T.jP .nil bw (aj (aK 1) aq)) (aJ _ _ _)))) (iV (fD (cA (aM (jL rfl) rfl T.nm.all jH (aj (cJ rfl rfl (show aQ (ak cG) _ ["web", "thing"] ["one"] [0] ["one", "web"] from⟨rfl,by decide+kernel,by decide+kernel,rfl,by decide+kernel,by decide+kernel⟩) rfl (PI.eqv (pG (K:=K) rfl (aK 1)) (mD _ _)) (fun C s H fp pn=>(aO (i:=0) (show(["one", "web"]:List Str).Nodup by decide+kernel) rfl (Or.inl rfl))) (fun C s H fp pn=>dz) (fun C s H fp pn=>(PE.eqv (aN (G_ (K:=K) T) (hr.mono (by decide)) rfl T.xZ T.rK.kp T.xY .nil bw (aj (aK 1) (aj (aK 0) aq))) (aJ _ _ _)))) aq))))))) (aD (aY lB)) bB)
      (aD (aY (iH lg (aM Dz rfl T.nm.len PySem.boot_len (aj (dX (Dy rfl) rfl T.nm.set Dv (aj (aK 1) aq)) aq)) (aM (bV (K:=K) rfl) rfl T.nm.len PySem.boot_len (aj (aK 1) aq)) (bC _))))),?_⟩
    simp -dsimp[-Bool.exists_bool,-List.map_take,-Prod.forall,-Prod.exists];refine⟨t,_,rfl,ht,fun H1 s1=>?_⟩;have ht1:=ht.same s1;obtain⟨b,hb⟩:=ht1.b;simp -dsimp[-Bool.exists_bool,-List.map_take,-Prod.forall,-Prod.exists];refine⟨b,⟨_,hb K H1 (Same.refl _)⟩,fun D hD=>cmQ (ks.map V.int) (fun i σ H'=>(∃o',σ=[o',some (.ref o)])∧Same H1 H'∧H' D=some (.lst (List.replicate i (.bl true)))) ⟨⟨none,rfl⟩,au hD,ao⟩ (fun i σ' H' _ h=>hb K H' h.2.1) ?_ ?_⟩
    ·rintro i x σ H2 hi ⟨⟨o',rfl⟩,s2,hD2⟩;obtain⟨k,hki,rfl⟩:=JV hi;have hi2:i<ks.length:=(List.getElem?_eq_some_iff.mp hki).1;have hk2:=hk.ok k (List.mem_of_getElem? hki);simp -dsimp[-Bool.exists_bool,-List.map_take,-Prod.forall,-Prod.exists];refine⟨o,xs,ps,k,rfl,hw.same (s1.trans s2),hk2.1,hk2.2,?_⟩;simp -dsimp[-Bool.exists_bool,-List.map_take,-Prod.forall,-Prod.exists];refine⟨_,hD2,by rw[List.length_replicate];exact zsz hi2 hk.len,aW s2 hD,?_⟩;rw[ao,← List.replicate_succ']
    ·rintro σ H2 ⟨⟨o',rfl⟩,s2,hD2⟩;have rP:=ht1.same s2;simp -dsimp[-Bool.exists_bool,-List.map_take,-Prod.forall,-Prod.exists];refine⟨_,hD2,_,lX _,?_⟩;rw[show(List.replicate (ks.map V.int).length true).all id=true by simp];simp -dsimp[-Bool.exists_bool,-List.map_take,-Prod.forall,-Prod.exists];have ZP:=hk.len;refine⟨_,rP.q,by simp[isKey],by simp;unfold scanBound;omega,fun t3 ht3=>⟨_,ao,_,(rP.same (au ht3)).q,?_⟩⟩;rw[decide_eq_true (by rw[qcI hk.nd];simp)];exact q _ (s1.trans (s2.trans (au ht3)))
def Ht (ks ns:List Int):List Int:=ns.mapIdx fun i n=>if ((i:Nat):Int)∈ks then 1 - n else n
theorem sX (ks ns:List Int):(Ht ks ns).length=ns.length:=by unfold Ht;simp
theorem Bg {ks ns:List Int} {i:Nat} {n:Int} (h:ns[i]? = some n):(Ht ks ns)[i]? = some (if (i:Int)∈ks then 1 - n else n):=by
  unfold Ht;rw[List.getElem?_mapIdx,h];rfl
theorem qcJ {ks ns:List Int} (h:∀n∈ns,0≤n∧n≤1):∀n∈Ht ks ns,0≤n∧n≤1:=by
  intro n hn;obtain⟨i,hi⟩:=List.mem_iff_getElem?.mp hn;have hl:i<ns.length:=by rw[← sX ks ns];exact(List.getElem?_eq_some_iff.mp hi).1
  have e:ns[i]? = some (ns[i]'hl):=List.getElem?_eq_getElem hl;rw[Bg e] at hi;have h1:=h _ (List.mem_of_getElem? e);cases hi;split
  ·omega
  ·exact h1
theorem ZQ (ns:List Int):Ht [] ns=ns:=by
  refine List.ext_getElem? fun i=>?_;unfold Ht;rw[List.getElem?_mapIdx];cases ns[i]? <;> simp
theorem ZR (k:Int) (ks:List Int):inV (.int k) (ks.map V.int)=decide (k∈ks):=by
  unfold inV;rw[List.any_map]
  induction ks with
  | nil=>rfl
  | cons a ks ih=>
    rw[List.any_cons,ih]
    by_cases e:a=k
    ·subst e;simp[Ql]
    ·simp[Ql,e,Ne.symm e]
theorem Rj (ks:List Int):∀z∈ks.map V.int,gB z=true:=by
  intro z hz;obtain⟨k,_,rfl⟩:=List.mem_map.mp hz;rfl
def Rk (C:Addr):Sp:=fun vs H Q _=>∃(o t u:Addr) (xs:List Str) (ps:List (Str×Str)) (ns ks:List Int),vs=[.ref o,.ref t,.ref u]∧ZM C H o t xs ps ns∧Sq H u (ks.map V.int)∧Nrs ps.length ks∧
  ∀r H',H r=none→H' r=some (.lst ((Ht ks ns).map V.int))→Same H H'→Q (.ref r) H'
theorem Rm (T:Txt K mg a):cF P w K mg base jA 5 a.jl a.sJ ["web", "pointing", "numbers"] (Rk a.bU):=by
  refine T.Ag.oO Q9 (fun vs H Q E h=>?_) (fun cdv A outer s H vs Q E hr h=>?_)
  ·obtain⟨o,t,u,xs,ps,ns,ks,rfl,_⟩:=h;rfl
  · obtain⟨o,t,u,xs,ps,ns,ks,rfl,hp,hu,hk,q⟩:=h;refine⟨_,(aA (gK (PE.eqv (aN (lC (K:=K) T) (hr.mono (by decide)) rfl T.iR T.fU.kp T.iQ .nil bw (aj (aK 0) (aj (aK 1) aq))) (aJ _ _ _)))
      (aA (cO (fD (cA (PE.eqv (aN (Bf (K:=K) T) (hr.mono (by decide)) rfl T.tU T.nJ.kp T.tQ .nil bw (aj (aK 0) (aj (aK 2) aq))) (aJ _ _ _)))) (aD oV) bB)
      (aD (aY (cJ rfl rfl (show aQ (ak iC) _ ["web", "pointing", "numbers"] ["number", "lead"] [2] ["number", "lead", "numbers"] from⟨rfl,by decide+kernel,by decide+kernel,rfl,by decide+kernel,by decide+kernel⟩) rfl (Va (K:=K) rfl rfl T.Zw.enumerate (aj (aK 1) aq)) (fun C s H fp pn=>(PG.eqv (fH (K:=K) (n:=2) rfl rfl (g_.eqv (bh (aO (i:=0) (show(["number", "lead", "numbers"]:List Str).Nodup by decide+kernel) rfl (Or.inl rfl)) (g_.eqv (bh (aO (i:=1) (show(["number", "lead", "numbers"]:List Str).Nodup by decide+kernel) rfl (Or.inl rfl)) (g_.mono eE gD)) (bx _ _))) (bx _ _))) (fK _ _ _))) (fun C s H fp pn=>dz) (fun C s H fp pn=>(Hy (aR (yq (K:=K) rfl) (aK 0) (aK 2) rfl) (cD pJ aG (aK 1)) (aK 1)))))))),?_⟩
    simp -dsimp[-Bool.exists_bool,-List.map_take,-Prod.forall,-Prod.exists];refine⟨o,t,xs,ps,ns,rfl,hp,fun H1 s1=>?_⟩;obtain⟨hw,ht,h01,hl,CT⟩:=hp;simp -dsimp[-Bool.exists_bool,-List.map_take,-Prod.forall,-Prod.exists];refine⟨o,u,xs,ps,ks,rfl,hw.same s1,hu.same s1,hk,fun H2 s2'=>?_⟩;have s2:=s1.trans s2';have hu2:=hu.same s2;obtain⟨b,hb⟩:=(ht.same s2).b;simp -dsimp[-Bool.exists_bool,-List.map_take,-Prod.forall,-Prod.exists];refine⟨b,⟨_,hb K H2 (Same.refl _)⟩,fun D hD=>qj9 (ns.map V.int) (fun i σ H'=>(∃o1 o2,σ=[o1,o2,some (.ref u)])∧H' D=some (.lst (((Ht ks ns).take i).map V.int))∧Same H2 H') ⟨⟨_,_,rfl⟩,ao,au hD⟩ (fun i σ H' _ h=>hb K H' h.2.2) ?_ ?_⟩
    · rintro i x e σ H3 hi he ⟨⟨o1,o2,rfl⟩,mz,s3⟩;obtain⟨n,hn,rfl⟩:=JV hi;have hi2:i<ns.length:=(List.getElem?_eq_some_iff.mp hn).1;have s4:Same H3 (upd H3 e (.tup [.int i,.int n])):=au he;have hu4:=hu2.same (s3.trans s4);have hDe:D≠e:=aH mz he;have oR:upd H3 e (.tup [.int i,.int n]) D=some (.lst (((Ht ks ns).take i).map V.int)):=s4 _ _ mz;refine⟨_,d9.of ao,rfl,?_⟩;simp -dsimp[-Bool.exists_bool,-List.map_take,-Prod.forall,-Prod.exists];refine⟨_,hu4.q,rfl,Rj ks,?_⟩;rw[ZR];have fin:∀y:Int,(Ht ks ns)[i]? = some y→∃ys,upd H3 e (.tup [.int i,.int n]) D=some (HO.lst ys)∧ys.length<sizeLine∧((∃o1 o2,[some (V.int i),some (V.int n),some (V.ref u)]=[o1,o2,some (V.ref u)])∧
          upd (upd H3 e (.tup [.int i,.int n])) D (.lst (ys++[V.int y])) D=some (.lst (((Ht ks ns).take (i+1)).map V.int))∧Same H2 (upd (upd H3 e (.tup [.int i,.int n])) D (.lst (ys++[V.int y])))):=fun y hy=>
        ⟨_,oR,by rw[List.length_map];exact zsz (Nat.lt_of_le_of_lt (List.length_take_le ..) hi2) (by rw[hl];exact CT),⟨_,_,rfl⟩,by rw[ao,List.take_add_one,hy];simp,aW (s3.trans s4) hD⟩
      have ht:=Bg (ks:=ks) hn;refine fB.of (fun h=>?_) (fun h=>?_)
      ·rw[if_pos (of_decide_eq_true h)] at ht;simp -dsimp[-Bool.exists_bool,-List.map_take,-Prod.forall,-Prod.exists];obtain⟨ys,f1,f2,_,f4,f5⟩:=fin _ ht;exact⟨ys,f1,f2,f4,f5⟩
      ·rw[if_neg (of_decide_eq_false h)] at ht;simp -dsimp[-Bool.exists_bool,-List.map_take,-Prod.forall,-Prod.exists];obtain⟨ys,f1,f2,_,f4,f5⟩:=fin _ ht;exact⟨ys,f1,f2,f4,f5⟩
    ·rintro σ H3 ⟨⟨o1,o2,rfl⟩,mz,s3⟩;simp -dsimp[-Bool.exists_bool,-List.map_take,-Prod.forall,-Prod.exists];rw[List.length_map,← sX ks ns,List.take_length] at mz;exact q D H3 (cu s2 hD) mz (s2.trans s3)
theorem Er:∀(xs:List V) (n k:Nat),j_ (nums n xs) (Sum.inl ((n+k:Nat):Int):Key)=xs[k]?
  | [],n,k=>by simp[nums,j_]
  | x::xs,n,0=>by rw[nums,uQ (by simp)];rfl
  | x::xs,n,k+1=>by
    rw[nums,uR (by intro z;injection z with z;omega)];have:=Er xs (n+1) k;rw[show n+1+k=n+(k+1) by omega] at this;rw[this];simp
def Mv (ns:List Int) (ps:List (Str×Str)):List nC:=fJ (fun k=>ns[k]?) ps 0
def Es (C:Addr):Sp:=fun vs H Q _=>∃(o t:Addr) (xs:List Str) (ps:List (Str×Str)) (ns:List Int),vs=[.ref o,.ref t]∧ZM C H o t xs ps ns∧
  ∀l tv H',H l=none→H' l=some (.lst tv)→dB H' tv (Mv ns ps)→tv.length≤40→Same H H'→Q (.ref l) H'
theorem Et (T:Txt K mg a):cF P w K mg base jA 5 a.jk a.sI ["web", "pointing"] (Es a.bU):=by
  refine T.vR.oO Q8 (fun vs H Q E h=>?_) (fun cdv A outer s H vs Q E hr h=>?_)
  ·obtain⟨o,t,xs,ps,ns,rfl,_⟩:=h;rfl
  · obtain⟨o,t,xs,ps,ns,rfl,hp,q⟩:=h;refine⟨_,(aA (gK (PE.eqv (aN (lC (K:=K) T) (hr.mono (by decide)) rfl T.iR T.fU.kp T.iQ .nil bw (aj (aK 0) (aj (aK 1) aq))) (aJ _ _ _)))
      (aD (aY (PE.eqv (aN (Az (K:=K) T) (hr.mono (by decide)) rfl T.tO T.nH.kp T.tM .nil bw (aj (aK 0) (aj (Iv (K:=K) rfl rfl rfl T.Zw.dict rfl T.Zw.enumerate (aj (aK 1) aq)) aq))) (aJ _ _ _))))),?_⟩
    simp -dsimp;refine⟨o,t,xs,ps,ns,rfl,hp,fun H1 s1=>?_⟩;obtain⟨hw,ht,h01,hl,CT⟩:=hp;simp -dsimp;refine⟨_,(ht.same s1).q,fun d hd=>⟨o,d,xs,ps,(fun k=>ns[k]?),rfl,hw.same (s1.trans (au hd)),⟨_,ao,fun k=>?_⟩,fun l tv H2 hl hl2 hst h40 s2=>q l tv H2 (cu (s1.trans (au hd)) hl) hl2 hst h40 ((s1.trans (au hd)).trans s2)⟩⟩;have:=Er (ns.map V.int) 0 k;rw[Nat.zero_add,List.getElem?_map] at this;exact this
theorem qaK {ps:List (Str×Str)} {ns:List Int} (hlen:ns.length=ps.length) (h01:∀n∈ns,0≤n∧n≤1):Mv ns ps=mC ns ps 0:=Uh (fun k=>ns[k]?) ps ns 0 (fun i=>by rw[Nat.zero_add]) hlen h01
def Rn (C:Addr):Sp:=fun vs H Q _=>∃(o t:Addr) (xs:List Str) (ps:List (Str×Str)) (ns:List Int),vs=[.ref o,.ref t]∧ZM C H o t xs ps ns∧xs.length≤9∧
  ∀(r:Addr) (H':Hp),H r=none→H' r=some (.lst ((xs.map fun x=>(((Mv ns ps).map (·.2.2)).count x:Int)).map V.int))→Same H H'→Q (.ref r) H'
theorem Eu (T:Txt K mg a):cF P w K mg base jA 6 a.jm a.sO ["web", "pointing"] (Rn a.bU):=by
  refine T.vU.oO Ej (fun vs H Q E h=>?_) (fun cdv A outer s H vs Q E hr h=>?_)
  ·obtain⟨o,t,xs,ps,ns,rfl,_⟩:=h;rfl
  · obtain⟨o,t,xs,ps,ns,rfl,hp,h9,q⟩:=h;refine⟨_,(aA (bA (i:=2) Ej.nd rfl (Or.inr rfl) (cJ rfl rfl (show aQ (ak gF) _ ["web", "pointing", "goals"] ["number", "origin", "goal"] [] ["number", "origin", "goal"] from⟨rfl,by decide+kernel,by decide+kernel,rfl,by decide+kernel,by decide+kernel⟩) rfl (PI.eqv (cN (K:=K) rfl (PE.eqv (aN (Et (K:=K) T) (hr.mono (by decide)) rfl T.Af T.vR.kp T.Ae .nil bw (aj (aK 0) (aj (aK 1) aq))) (aJ _ _ _))) (bZ _ _)) (fun C s H fp pn=>(PG.eqv (fH (K:=K) (n:=3) rfl rfl (g_.eqv (bh (aO (i:=0) (show(["number", "origin", "goal"]:List Str).Nodup by decide+kernel) rfl (Or.inl rfl)) (g_.eqv (bh (aO (i:=1) (show(["number", "origin", "goal"]:List Str).Nodup by decide+kernel) rfl (Or.inl rfl)) (g_.eqv (bh (aO (i:=2) (show(["number", "origin", "goal"]:List Str).Nodup by decide+kernel) rfl (Or.inl rfl)) (g_.mono eE gD)) (bx _ _))) (bx _ _))) (bx _ _))) (fK _ _ _))) (fun C s H fp pn=>dz) (fun C s H fp pn=>(aK 2))))
      (aD (aY (cJ rfl rfl (show aQ (ak gF) _ ["web", "pointing", "goals"] ["point"] [2] ["point", "goals"] from⟨rfl,by decide+kernel,by decide+kernel,rfl,by decide+kernel,by decide+kernel⟩) rfl (PI.eqv (cN (K:=K) rfl (PE.eqv (j9 (aK 0) T.m_ T.jx (j7 (K:=K) T) (hr.mono (by decide)) T.jw .nil bw) (kj _ _ _ _ _ _))) (bZ _ _)) (fun C s H fp pn=>(aO (i:=0) (show(["point", "goals"]:List Str).Nodup by decide+kernel) rfl (Or.inl rfl))) (fun C s H fp pn=>dz) (fun C s H fp pn=>(nA (K:=K) rfl PySem.F.plainAttrs_list PySem.F.slot_list_count PySem.F.type_list_count (QS (K:=K) rfl) (aK 1) (aj (aK 0) aq))))))),?_⟩
    have Rh:60≤sizeLine:=by decide
    have hw:=hp.1;simp -dsimp[-Bool.exists_bool,-Prod.forall,-Prod.exists];refine⟨o,t,xs,ps,ns,rfl,hp,fun l tv H1 hl0 hl1 hS h40 s1=>?_⟩;simp -dsimp[-Bool.exists_bool,-Prod.forall,-Prod.exists];refine⟨⟨_,aX.of hl1⟩,fun D hD=>Oa tv (fun i σ H'=>(∃o1 o2 o3,σ=[o1,o2,o3])∧H' D=some (.lst ((((Mv ns ps).take i).map (·.2.2)).map V.str))∧Same H1 H') ⟨⟨_,_,_,rfl⟩,ao,au hD⟩ (fun i σ H' _ h=>aX.of (h.2.2 _ _ hl1)) ?_ ?_⟩
    ·rintro i x σ H2 hi ⟨⟨o1,o2,o3,rfl⟩,hD2,s2⟩;obtain⟨st,hst,t,rfl,ht⟩:=hS.at hi;have hi2:i<(Mv ns ps).length:=(List.getElem?_eq_some_iff.mp hst).1;have rP:=s2 _ _ ht;have hlS:=hS.1;rw[take_one hst,List.map_append,List.map_append];simp -dsimp[-Bool.exists_bool,-Prod.forall,-Prod.exists];refine⟨_,d9.of rP,rfl,_,hD2,by simp;omega,by rw[ao];simp,aW s2 hD⟩
    · rintro σ H2 ⟨⟨o1,o2,o3,rfl⟩,hD2,s2⟩;rw[hS.1,List.take_length] at hD2;have sH2:=s1.trans s2;obtain⟨dx,fs,hi,hno⟩:=(hw.same sH2).ins iT.1 iT.2;simp -dsimp[-Bool.exists_bool,-Prod.forall,-Prod.exists];refine⟨_,_,hi,hno,o,xs,ps,rfl,hw.same sH2,fun l2 hl2=>?_⟩;have s3:Same H2 (upd H2 l2 (.lst (xs.map V.str))):=au hl2;have e2:upd H2 l2 (.lst (xs.map V.str)) l2=some (.lst (xs.map V.str)):=ao;have mz:=s3 _ _ hD2;generalize upd H2 l2 (.lst (xs.map V.str))=H3 at s3 e2 mz ⊢;have sH3:=sH2.trans s3;simp -dsimp[-Bool.exists_bool,-Prod.forall,-Prod.exists];refine⟨⟨_,aX.of e2⟩,fun D2 qcK=>Oa (xs.map V.str) (fun i σ H'=>(∃o',σ=[o',some (.ref D)])∧H' D2=some (.lst (((xs.take i).map fun x=>(((Mv ns ps).map (·.2.2)).count x:Int)).map V.int))∧Same H3 H') ⟨⟨_,rfl⟩,ao,au qcK⟩ (fun i σ H' _ h=>aX.of (h.2.2 _ _ e2)) ?_ ?_⟩
      ·rintro i x σ H4 hi ⟨⟨o',rfl⟩,oR,s4⟩;obtain⟨y,hy,rfl⟩:=iK hi;have hi2:i<xs.length:=(List.getElem?_eq_some_iff.mp hy).1;have Ci:=s4 _ _ mz;rw[take_one hy,List.map_append,List.map_append];simp -dsimp[-Bool.exists_bool,-Prod.forall,-Prod.exists];refine⟨⟨_,aX.of Ci⟩,_,aX.of Ci,_,oR,by simp;omega,by rw[ao];simp,aW s4 qcK⟩
      ·rintro σ H4 ⟨⟨o',rfl⟩,oR,s4⟩;rw[List.length_map,List.take_length] at oR;simp -dsimp[-Bool.exists_bool,-Prod.forall,-Prod.exists];exact q D2 H4 (cu sH3 qcK) oR (sH3.trans s4)
def inN (ns:List Int) (ps:List (Str×Str)) (x:Str):Nat:=(bN ns ps).count x
def fZ (c:List Str):List (Str×Str)→Nat
  | []=>0
  | e::ps=>(if e.1∈c∧e.2∈c then 1 else 0)+fZ c ps
theorem JW:∀{ns:List Int} {ps:List (Str×Str)},ns.length=ps.length→(bN ns ps).length=ps.length
  | [],[],_=>rfl
  | [],_::_,h=>by simp at h
  | _::_,[],h=>by simp at h
  | n::ns,e::ps,h=>by simp only[bN,List.length_cons];rw[JW (by simpa using h)]
theorem su {xs:List Str}:∀{ns:List Int} {ps:List (Str×Str)},(∀e∈ps,e.1∈xs∧e.2∈xs)→∀g∈bN ns ps,g∈xs
  | [],_,_,g,h=>by simp[bN] at h
  | _::_,[],_,g,h=>by simp[bN] at h
  | n::ns,e::ps,hp,g,h=>by
    simp only[bN,List.mem_cons] at h
    rcases h with rfl | h
    · have:=hp e List.mem_cons_self;unfold k_;split
      ·exact this.2
      ·exact this.1
    ·exact su (fun d hd=>hp d (List.mem_cons_of_mem _ hd)) g h
theorem JX (c:List Str):∀{ns:List Int} {ps:List (Str×Str)},ns.length=ps.length→((bN ns ps).filter fun x=>decide (x∈c)).length=DQ c ns ps+fZ c ps
  | [],[],_=>rfl
  | [],_::_,h=>by simp at h
  | _::_,[],h=>by simp at h
  | n::ns,e::ps,h=>by
    have ih:=JX c (ns:=ns) (ps:=ps) (by simpa using h);simp only[bN,DQ,fZ];unfold u5 k_
    by_cases h0:n=0 <;> by_cases h1:e.1∈c <;> by_cases h2:e.2∈c <;> simp[h0,h1,h2] <;> omega
theorem sum_map_add {α:Type} (f g:α→Nat):∀l:List α,(l.map fun x=>f x+g x).sum=(l.map f).sum+(l.map g).sum
  | []=>rfl
  | a::l=>by simp only[List.map_cons,List.sum_cons];rw[sum_map_add f g l];omega
theorem Pu {α:Type} [DecidableEq α] (y:α):∀{l:List α},l.Nodup→(l.map fun x=>if y=x then 1 else 0).sum=if y∈l then 1 else 0
  | [],_=>rfl
  | a::l,h=>by
    have ih:=Pu y (List.nodup_cons.mp h).2;have na:=(List.nodup_cons.mp h).1;simp only[List.map_cons,List.sum_cons];rw[ih]
    by_cases e:y=a
    ·subst e;simp[na]
    ·simp[e]
theorem yO {xs:List Str} (nd:xs.Nodup) (p:Str→Bool):∀{L:List Str},(∀y∈L,y∈xs)→(L.filter p).length=((xs.filter p).map fun x=>L.count x).sum
  | [],_=>by
    induction xs.filter p with
    | nil=>rfl
    | cons a l ih=>simpa using ih
  | y::L,h=>by
    have ih:=yO nd p (L:=L) fun z hz=>h z (List.mem_cons_of_mem _ hz);have hy:=h y List.mem_cons_self;have e:((xs.filter p).map fun x=>(y::L).count x).sum=((xs.filter p).map fun x=>L.count x).sum+((xs.filter p).map fun x=>if y=x then 1 else 0).sum:=by
      rw[← sum_map_add];congr 1;refine List.map_congr_left fun x _=>?_;rw[List.count_cons]
      by_cases hyx:y=x <;> simp[hyx]
    rw[e,Pu y (List.Pairwise.filter _ nd),← ih];simp only[List.filter_cons,List.mem_filter]
    by_cases hp:p y=true
    ·simp[hp,hy]
    ·simp[hp]
theorem Wb {α:Type} {f g:α→Nat}:∀{l:List α},(∀x∈l,f x≤g x)→(l.map f).sum≤(l.map g).sum
  | [],_=>Nat.le_refl _
  | a::l,h=>by
    have h1:=h a List.mem_cons_self;have h2:=Wb fun x hx=>h x (List.mem_cons_of_mem _ hx);simp only[List.map_cons,List.sum_cons];omega
theorem Hf {α:Type} {f g:α→Nat}:∀{l:List α},(∀x∈l,f x≤g x)→∀{y},y∈l→f y<g y→(l.map f).sum<(l.map g).sum
  | a::l,h,y,hy,hlt=>by
    have h1:=h a List.mem_cons_self;have h2:=Wb fun x hx=>h x (List.mem_cons_of_mem _ hx);simp only[List.map_cons,List.sum_cons]
    rcases List.mem_cons.mp hy with rfl | hy
    ·omega
    ·have:=Hf (fun x hx=>h x (List.mem_cons_of_mem _ hx)) hy hlt;omega
theorem Px {b c x:Str}:∀{L:List Str} {n:Nat},L[n]? = some c→(L.set n b).count x+(if c=x then 1 else 0)=L.count x+(if b=x then 1 else 0)
  | [],n,h=>by simp at h
  | a::L,0,h=>by
    simp at h;subst h;simp only[List.set_cons_zero,List.count_cons,beq_iff_eq];omega
  | a::L,n+1,h=>by
    have ih:=Px (b:=b) (x:=x) (L:=L) (n:=n) (by simpa using h);simp only[List.set_cons_succ,List.count_cons];omega
theorem Py:∀{ns:List Int} {ps:List (Str×Str)} {j:Nat} {n:Int} {e:Str×Str},ns[j]? = some n→ps[j]? = some e→(bN ns ps)[j]? = some (k_ n e)
  | [],_,j,n,e,h,_=>by simp at h
  | _::_,[],j,n,e,_,h=>by simp at h
  | m::ns,d::ps,0,n,e,h1,h2=>by
    simp at h1 h2;subst h1 h2;rfl
  | m::ns,d::ps,j+1,n,e,h1,h2=>by
    simp only[bN,List.getElem?_cons_succ];exact Py (by simpa using h1) (by simpa using h2)
theorem JZ:∀{ns:List Int} {ps:List (Str×Str)} {j:Nat} {m:Int} {e:Str×Str},ps[j]? = some e→bN (ns.set j m) ps=(bN ns ps).set j (k_ m e)
  | [],ps,j,m,e,h=>by simp[bN]
  | _::_,[],j,m,e,h=>by simp at h
  | n::ns,d::ps,0,m,e,h=>by
    simp at h;subst h;rfl
  | n::ns,d::ps,j+1,m,e,h=>by
    simp only[List.set_cons_succ,bN];rw[JZ (by simpa using h)]
theorem Mw {S:List nC} {a:Str} {w:List Nat} {vs:List Str} {b:Str} (h:qN S a w vs b):∀n∈w,∃u v,(n,u,v)∈S∧v∈vs:=by
  induction h with
  | nil=>intro n hn;cases hn
  | snoc _ q ih=>
    intro n hn
    rcases List.mem_append.mp hn with hn | hn
    ·obtain⟨u,v,h1,h2⟩:=ih n hn;exact⟨u,v,h1,List.mem_append_left _ h2⟩
    ·rw[List.mem_singleton] at hn;subst hn;exact⟨_,_,q,by simp⟩
def kJ (w:List Nat):List Int:=w.map fun n:Nat=>(n:Int)
theorem Wc {w:List Nat} {n:Nat} {ns:List Int} {m:Int} (hn:n∉w) (h:ns[n]? = some m):Ht (kJ (w++[n])) ns=(Ht (kJ w) ns).set n (1 - m):=by
  apply List.ext_getElem?;intro i;rw[List.getElem?_set,sX];cases hi:ns[i]? with
  | none=>
    have hl:ns.length≤i:=List.getElem?_eq_none_iff.mp hi;have hln:n<ns.length:=(List.getElem?_eq_some_iff.mp h).1;rw[if_neg (by omega),List.getElem?_eq_none (by rw[sX];exact hl),List.getElem?_eq_none (by rw[sX];exact hl)]
  | some k=>
    rw[Bg hi,Bg hi]
    by_cases e:n=i
    ·subst e;rw[h] at hi;cases hi;have hln:n<ns.length:=(List.getElem?_eq_some_iff.mp h).1;simp[kJ,hln]
    ·simp only[kJ,List.map_append,List.map_cons,List.map_nil,List.mem_append,List.mem_map,List.mem_singleton,if_neg e];have:¬((i:Int)=(n:Int)):=fun z=>e (by omega);simp[this]
theorem Wd {w:List Nat} {n:Nat} {ns:List Int} {m:Int} (hn:n∉w) (h:ns[n]? = some m):(Ht (kJ w) ns)[n]? = some m:=by
  rw[Bg h,if_neg];intro z;obtain⟨k,hk,e⟩:=List.mem_map.mp z;have:k=n:=by omega
  exact hn (this▸hk)
theorem Ro {ns:List Int} {ps:List (Str×Str)} (h01:∀n∈ns,0≤n∧n≤1) (hne:∀e∈ps,e.1≠e.2) {a:Str} {w:List Nat} {vs:List Str} {b:Str} (h:qN (mC ns ps 0) a w vs b) :
    vs.Nodup→(∀n∈w,n<ps.length)∧w.Nodup∧∀x,inN (Ht (kJ w) ns) ps x+(if b=x then 1 else 0)=inN ns ps x+(if a=x then 1 else 0):=by
  induction h with
  | nil=>intro _;refine⟨by simp,by simp,fun x=>?_⟩;simp[kJ,ZQ]
  | @snoc w vs b c n hp hq ih=>
    intro hnd;have nd1:vs.Nodup:=(List.nodup_append.mp hnd).1;have hcv:c∉vs:=fun z=>(List.nodup_append.mp hnd).2.2 c z c (by simp) rfl;obtain⟨i1,i2,i3⟩:=ih nd1;obtain⟨j,m,e,a1,a2,a3⟩:=rF.mp hq;cases a3;have hnw:n∉w:=fun hm=>by
      obtain⟨u,v,q1,q2⟩:=Mw hp n hm;obtain⟨j',m',e',b1,b2,b3⟩:=rF.mp q1;cases b3;rw[a1] at b1;rw[a2] at b2;cases b1;cases b2;exact hcv q2
    have hln:n<ps.length:=(List.getElem?_eq_some_iff.mp a2).1;refine⟨fun k hk=>?_,?_,fun x=>?_⟩
    · rcases List.mem_append.mp hk with hk | hk
      ·exact i1 k hk
      ·rw[List.mem_singleton] at hk;subst hk;exact hln
    ·rw[List.nodup_append];refine⟨i2,by simp,fun k hk l hl=>?_⟩;rw[List.mem_singleton] at hl;subst hl;exact fun z=>hnw (z▸hk)
    · have g1:=Px (b:=k_ (1 - m) e) (x:=x) (Py (Wd hnw a1) a2);rw[← JZ a2,← Wc hnw a1] at g1;have m01:=h01 m (List.mem_of_getElem? a1);have eo:k_ (1 - m) e=u5 m e:=by
        unfold k_ u5;obtain rfl | rfl:m=0∨m=1:=by omega
        ·simp
        ·simp
      rw[eo] at g1;have i4:=i3 x;unfold inN at i4 ⊢;omega
def muN (xs:List Str) (f g:Str→Nat):Nat:=(xs.map fun x=>g x - f x).sum
theorem qfd {xs:List Str} {f f' g:Str→Nat} {s e:Str} (hs:s∈xs) (h1:f s<g s) (h2:g e<f e) (h:∀x,f' x+(if e=x then 1 else 0)=f x+(if s=x then 1 else 0)):muN xs f' g<muN xs f g:=by
  have hse:s≠e:=fun z=>by rw[z] at h1;omega
  refine Hf (y:=s) (fun x _=>?_) hs ?_
  · have:=h x
    by_cases a:e=x
    ·subst a;rw[if_pos rfl,if_neg hse] at this;omega
    ·rw[if_neg a] at this;split at this <;> omega
  ·have:=h s;rw[if_neg hse.symm,if_pos rfl] at this;omega
def gY (xs:List Str) (f g:Str→Int):List Str:=xs.filter fun x=>decide (f x<g x)
theorem Wf {H:Hp} {tv:List V} {xs:List Str} {f g:Str→Int} {i:Nat} {v:V} (h:jM H tv (xs.map V.str) ((xs.map f).map V.int) ((xs.map g).map V.int) xs.length) (hv:tv[i]? = some v):∃t x,v = .ref t∧xs[i]? = some x∧H t=some (.tup [.str x,.int (f x),.int (g x)]):=by
  obtain⟨t,a,b,c,rfl,h1,h2,h3,h4⟩:=h.2 i v hv;obtain⟨x,hx,rfl⟩:=iK h1;rw[List.getElem?_map,List.getElem?_map,hx] at h2 h3;cases h2;cases h3;exact⟨t,x,rfl,hx,h4⟩
def ZS (C:Addr):Sp:=fun vs H Q _=>∃(o i g:Addr) (xs:List Str) (ps:List (Str×Str)) (f h:Str→Int),vs=[.ref o,.ref i,.ref g]∧g8 C H o xs ps∧0<xs.length∧xs.length≤9∧H i=some (.lst ((xs.map f).map V.int))∧Sq H g ((xs.map h).map V.int)∧
  ∀(t l s:Addr) (H':Hp),H t=none→H l=none→H s=none→H' t=some (.tup [.ref l,.ref s])→H' l=some (.lst ((gY xs f h).map V.str))→H' s=some (.lst ((gY xs h f).map V.str))→Same H H'→Q (.ref t) H'
theorem Pz (T:Txt K mg a):cF P w K mg base jA 2 a.pY a.yF ["web", "ins", "wanted"] (ZS a.bU):=by
  refine T.GP.oO yE (fun vs H Q E h=>?_) (fun cdv A outer s H vs Q E hr h=>?_)
  ·obtain⟨o,i,g,xs,ps,f,h,rfl,_⟩:=h;rfl
  · obtain⟨o,i,g,xs,ps,f,h,rfl,hw,h0,h9,hi,hg,q⟩:=h;refine⟨_,(aA (bA (i:=3) yE.nd rfl (Or.inl rfl) (Lx (K:=K) rfl rfl rfl T.nm.list rfl T.nm.zip (aj (PE.eqv (j9 (aK 0) T.m_ T.jx (j7 (K:=K) T) (hr.mono (by decide)) T.jw .nil bw) (kj _ _ _ _ _ _)) (aj (aK 1) (aj (aK 2) aq)))))
      (aA (jG (i:=4) yE.nd rfl rfl rfl rfl (show aQ (ak mF) _ ["web", "ins", "wanted", "rows", "lacking", "spare"] ["point", "many", "goal"] [] ["point", "many", "goal"] from⟨rfl,by decide+kernel,by decide+kernel,rfl,by decide+kernel,by decide+kernel⟩) rfl (PI.eqv (cN (K:=K) rfl (aK 3)) (bZ _ _)) (fun C s H fp pn=>(PG.eqv (fH (K:=K) (n:=3) rfl rfl (g_.eqv (bh (aO (i:=0) (show(["point", "many", "goal"]:List Str).Nodup by decide+kernel) rfl (Or.inl rfl)) (g_.eqv (bh (aO (i:=1) (show(["point", "many", "goal"]:List Str).Nodup by decide+kernel) rfl (Or.inl rfl)) (g_.eqv (bh (aO (i:=2) (show(["point", "many", "goal"]:List Str).Nodup by decide+kernel) rfl (Or.inl rfl)) (g_.mono eE gD)) (bx _ _))) (bx _ _))) (bx _ _))) (fK _ _ _))) (fun C s H fp pn=>(gw (aR pK (aK 1) (aK 2) (bC _)))) (fun C s H fp pn=>(aK 0)))
      (aA (jG (i:=5) yE.nd rfl rfl rfl rfl (show aQ (ak mF) _ ["web", "ins", "wanted", "rows", "lacking", "spare"] ["point", "many", "goal"] [] ["point", "many", "goal"] from⟨rfl,by decide+kernel,by decide+kernel,rfl,by decide+kernel,by decide+kernel⟩) rfl (PI.eqv (cN (K:=K) rfl (aK 3)) (bZ _ _)) (fun C s H fp pn=>(PG.eqv (fH (K:=K) (n:=3) rfl rfl (g_.eqv (bh (aO (i:=0) (show(["point", "many", "goal"]:List Str).Nodup by decide+kernel) rfl (Or.inl rfl)) (g_.eqv (bh (aO (i:=1) (show(["point", "many", "goal"]:List Str).Nodup by decide+kernel) rfl (Or.inl rfl)) (g_.eqv (bh (aO (i:=2) (show(["point", "many", "goal"]:List Str).Nodup by decide+kernel) rfl (Or.inl rfl)) (g_.mono eE gD)) (bx _ _))) (bx _ _))) (bx _ _))) (fK _ _ _))) (fun C s H fp pn=>(gw (aR nF (aK 1) (aK 2) (bC _)))) (fun C s H fp pn=>(aK 0)))
      (aD (aY (iW (aj (aK 4) (aj (aK 5) aq)))))))),?_⟩
    have Rh:60≤sizeLine:=by decide
    obtain⟨dx,fs,hin,hno⟩:=hw.ins iT.1 iT.2;simp -dsimp[-Bool.exists_bool,-Prod.forall,-Prod.exists];refine⟨_,_,hin,hno,o,xs,ps,rfl,hw,fun p1 hp1=>?_⟩;have s1:Same H (upd H p1 (.lst (xs.map V.str))):=au hp1;have e1:upd H p1 (.lst (xs.map V.str)) p1=some (.lst (xs.map V.str)):=ao;generalize upd H p1 (.lst (xs.map V.str))=H1 at s1 e1 ⊢;obtain⟨b3,hg3⟩:∃b3,Y9 b3 K H1 g ((xs.map h).map V.int):=(hg.same s1).elim (fun z=>⟨true,aX.of z⟩) fun z=>⟨false,d9.of z⟩;simp -dsimp[-Bool.exists_bool,-Prod.forall,-Prod.exists];refine⟨b3,_,aX.of e1,_,aX.of (s1 _ _ hi),_,hg3,by simpa using h0,by simp,by simp,fun p2 tv H2 hp2 e2 rP s2=>?_⟩;rw[List.length_map] at rP;have tl:tv.length=xs.length:=rP.1;refine⟨⟨_,aX.of e2⟩,fun D hD=>Oa tv (fun k σ H'=>(∃o1 o2 o3,σ=[o1,o2,o3])∧H' D=some (.lst ((gY (xs.take k) f h).map V.str))∧Same H2 H') ⟨⟨_,_,_,rfl⟩,ao,au hD⟩ (fun k σ H' _ h=>aX.of (h.2.2 _ _ e2)) ?_ ?_⟩
    · rintro k v σ H3 hk ⟨⟨o1,o2,o3,rfl⟩,mz,s3⟩;obtain⟨t,x,rfl,hx,ht⟩:=Wf (rP.same s3) hk;have hk9:k<xs.length:=(List.getElem?_eq_some_iff.mp hx).1;have hfl:(gY (xs.take k) f h).length≤(xs.take k).length:=List.length_filter_le _ _;rw[List.length_take] at hfl;rw[take_one hx,show gY (xs.take k++[x]) f h=gY (xs.take k) f h++gY [x] f h from List.filter_append ..];simp -dsimp[-Bool.exists_bool,-Prod.forall,-Prod.exists];refine⟨_,d9.of ht,rfl,?_⟩;simp -dsimp[-Bool.exists_bool,-Prod.forall,-Prod.exists];refine fB.of (fun hb=>?_) (fun hb=>?_)
      ·simp -dsimp[-Bool.exists_bool,-Prod.forall,-Prod.exists];refine⟨_,mz,by simp;omega,?_,aW s3 hD⟩;rw[ao];simp[gY,of_decide_eq_true hb]
      ·simp -dsimp[-Bool.exists_bool,-Prod.forall,-Prod.exists];refine⟨?_,s3⟩;rw[mz];have:=of_decide_eq_false hb;simp[gY,this]
    · rintro σ H3 ⟨⟨o1,o2,o3,rfl⟩,mz,s3⟩;rw[tl,List.take_length] at mz;have e3:=s3 _ _ e2;have ht3:=rP.same s3;simp -dsimp[-Bool.exists_bool,-Prod.forall,-Prod.exists];refine⟨⟨_,aX.of e3⟩,fun D2 hD2=>Oa tv (fun k σ H'=>(∃o1 o2 o3,σ=[o1,o2,o3])∧H' D2=some (.lst ((gY (xs.take k) h f).map V.str))∧Same H3 H') ⟨⟨_,_,_,rfl⟩,ao,au hD2⟩ (fun k σ H' _ h=>aX.of (h.2.2 _ _ e3)) ?_ ?_⟩
      · rintro k v σ H4 hk ⟨⟨o1,o2,o3,rfl⟩,oR,s4⟩;obtain⟨t,x,rfl,hx,ht⟩:=Wf (ht3.same s4) hk;have hk9:k<xs.length:=(List.getElem?_eq_some_iff.mp hx).1;have hfl:(gY (xs.take k) h f).length≤(xs.take k).length:=List.length_filter_le _ _;rw[List.length_take] at hfl;rw[take_one hx,show gY (xs.take k++[x]) h f=gY (xs.take k) h f++gY [x] h f from List.filter_append ..];simp -dsimp[-Bool.exists_bool,-Prod.forall,-Prod.exists];refine⟨_,d9.of ht,rfl,?_⟩;simp -dsimp[-Bool.exists_bool,-Prod.forall,-Prod.exists];refine fB.of (fun hb=>?_) (fun hb=>?_)
        ·simp -dsimp[-Bool.exists_bool,-Prod.forall,-Prod.exists];refine⟨_,oR,by simp;omega,?_,aW s4 hD2⟩;rw[ao];simp[gY,of_decide_eq_true hb]
        ·simp -dsimp[-Bool.exists_bool,-Prod.forall,-Prod.exists];refine⟨?_,s4⟩;rw[oR];have:=of_decide_eq_false hb;simp[gY,this]
      ·rintro σ H4 ⟨⟨o1,o2,o3,rfl⟩,oR,s4⟩;rw[tl,List.take_length] at oR;have S4:=s1.trans (s2.trans (s3.trans s4));simp -dsimp[-Bool.exists_bool,-Prod.forall,-Prod.exists];intro t ht;exact q t D D2 _ (cu S4 ht) (cu (s1.trans s2) hD) (cu (s1.trans (s2.trans s3)) hD2) ao (bI (s4 _ _ mz) ht) (bI oR ht) (S4.trans (au ht))
def Bh:Sp:=fun vs H Q _=>∃(l a b:Addr) (tv:List V) (S:List nC) (ss es xs:List Str),vs=[.ref l,.ref a,.ref b]∧H l=some (.lst tv)∧dB H tv S∧H a=some (.lst (ss.map V.str))∧H b=some (.lst (es.map V.str))∧(∀x∈ss,x∈xs)∧(∀s∈S,s.2.2∈xs)∧xs.length≤9∧
  (∀H',(∀s∈ss,∀e∈es,¬RT (iy S) s e)→Same H H'→Q .non H')∧
  ∀(s e:Str) (w:List Nat) (ws:List Str) (r:Addr) (H':Hp),s∈ss→e∈es→qN S s w ws e→ws.Nodup→H r=none→H' r=some (.lst (w.map fun n:Nat=>V.int n))→Same H H'→Q (.ref r) H'
theorem rT (T:Txt K mg a):cF P w K mg base jA 2 a.dh a.jq ["steps", "starts", "ends"] Bh:=by
  refine T.j6.oO jf (fun vs H Q E h=>?_) (fun cdv A outer s H vs Q E hr h=>?_)
  ·obtain⟨l,a,b,tv,S,ss,es,xs,rfl,_⟩:=h;rfl
  · obtain⟨l,a,b,tv,S,ss,es,xs,rfl,hl,hS,ha,hb,hsx,hSx,h9,q1,q2⟩:=h;refine⟨_,(aA (lZ PassesOwn.never rfl (PI.eqv (cN (K:=K) rfl (aK 1)) (bZ _ _)) (aO (i:=3) jf.nd rfl (Or.inl rfl))
      (aA (bA (i:=4) jf.nd rfl (Or.inl rfl) (PE.eqv (aN (CZ (K:=K) T) (hr.mono (by decide)) rfl T.vM T.qe.kp T.vL .nil bw (aj (aK 3) (aj (aK 0) aq))) (aJ _ _ _)))
      (aD (lZ PassesOwn.never rfl (PI.eqv (cN (K:=K) rfl (aK 2)) (bZ _ _)) (aO (i:=5) jf.nd rfl (Or.inl rfl))
      (aD (cO (Od (PC.eqv (qbB (yV hr) (aK 5) (aK 4)) (YK _ _))) (aD (aY (PE.eqv (N6 (yV hr) (aK 4) (aK 5) (fun _ _=>rfl)) (IW _ _)))) bB))))))
      (aD (aY yU))),?_⟩
    simp -dsimp;refine⟨⟨_,aX.of ha⟩,frL (ss.map V.str) (fun k σ H'=>(∃o3 o4 o5,σ=[some (.ref l),some (.ref a),some (.ref b),o3,o4,o5])∧(∀s∈ss.take k,∀e∈es,¬RT (iy S) s e)∧Same H H') ⟨⟨_,_,_,rfl⟩,by simp,Same.refl _⟩ (fun k σ H' _ h=>aX.of (h.2.2 _ _ ha)) ?_ ?_⟩
    · rintro k v σ H1 hk ⟨⟨o3,o4,o5,rfl⟩,hno,s1⟩;obtain⟨x,hx,rfl⟩:=iK hk;have hxs:=List.mem_of_getElem? hx;simp -dsimp;refine⟨x,l,tv,S,xs,rfl,s1 _ _ hl,hS.keep (L2.dD.of s1),hsx x hxs,hSx,h9,fun d kvs R H2 hd0 hd hw hb1 hb2 hnew s2=>?_⟩;simp -dsimp;refine⟨⟨_,aX.of (s2 _ _ (s1 _ _ hb))⟩,frL (es.map V.str) (fun j σ H'=>(∃o5,σ=[some (.ref l),some (.ref a),some (.ref b),some (.str x),some (.ref d),o5])∧(∀e∈es.take j,¬RT (iy S) x e)∧Same H2 H') ⟨⟨_,rfl⟩,by simp,Same.refl _⟩ (fun j σ H' _ h=>aX.of (h.2.2 _ _ (s2 _ _ (s1 _ _ hb)))) ?_ ?_⟩
      · rintro j u σ H3 hj ⟨⟨o5,rfl⟩,ZV,s3⟩;obtain⟨y,hy,rfl⟩:=iK hj;simp -dsimp;have hw3:eO H3 kvs R:=hw.keep fun p w e=>s3 _ _ e;refine⟨_,iZ.k (k:=Sum.inr y) (s3 _ _ hd),?_⟩;rw[hw3.has hb1.nd];refine fB.of (fun hb'=>?_) (fun hb'=>?_)
        ·have hyR:=of_decide_eq_true hb';obtain⟨⟨y',w'⟩,hm,rfl⟩:=List.mem_map.mp hyR;obtain⟨p,hp1,hp2⟩:=hw3.some hb1.nd hm;obtain⟨ws,J0,hnd,_⟩:=hb1.Ym _ _ hm;have hpn:H1 p=none:=hnew.at hp1;simp -dsimp;refine⟨.ref p,?_,q2 x y' w' ws p H3 hxs (List.mem_of_getElem? hy) J0 hnd (cu s1 hpn) hp2 (s1.trans (s2.trans s3))⟩;rw[← hp1];exact iZ.k (k:=Sum.inr y') (s3 _ _ hd)
        · have hyR:=of_decide_eq_false hb';simp -dsimp;refine⟨fun e he=>?_,s3⟩;rw[take_one hy] at he
          rcases List.mem_append.mp he with he | he
          ·exact ZV e he
          ·rw[List.mem_singleton] at he;subst he;exact fun z=>hyR ((hb1.iff e).mpr z)
      · rintro σ H3 ⟨⟨o5,rfl⟩,ZV,s3⟩;rw[List.length_map,List.take_length] at ZV;simp -dsimp;refine⟨fun s hs=>?_,s1.trans (s2.trans s3)⟩;rw[take_one hx] at hs
        rcases List.mem_append.mp hs with hs | hs
        ·exact hno s hs
        ·rw[List.mem_singleton] at hs;subst hs;exact ZV
    ·rintro σ H1 ⟨⟨o3,o4,o5,rfl⟩,hno,s1⟩;rw[List.length_map,List.take_length] at hno;simp -dsimp;exact q1 H1 hno s1
def qaL (H:Hp) (e C:Addr) (fs:List (Str×V)):Prop:=∃dx,dx≠e∧H e=some (eU e C (some dx))∧H dx=some (iz dx fs)
theorem J_ {H:Hp} {e l C:Addr} {xs:List V} {f g:Str} {y:V} {Q:VK} {K:W.Frag} (fg:g≠f) (he:H e=some (eU e C none)) (hl:H l=some (.lst xs)) (q:∀(b:Addr) (H':Hp),H b=none→H' b=some (.lst xs)→qaL H' e C [(f,y),(g,.ref b)]→But e H H'→Q .non H') :
    (∃x,H e=some (eU e C x))∧H e=some (eU e C none)∧∀dx,H dx=none→∃ys,(aX K (upd (upd H dx (iz dx [(f,y)])) e (eU e C (some dx))) l ys∨d9 K (upd (upd H dx (iz dx [(f,y)])) e (eU e C (some dx))) l ys)∧
      ∀(l:Addr),upd (upd H dx (iz dx [(f,y)])) e (eU e C (some dx)) l=none→∃d2,upd (upd (upd H dx (iz dx [(f,y)])) e (eU e C (some dx))) l (.lst ys) e=some (eU e C (some d2))∧∃fs,upd (upd (upd H dx (iz dx [(f,y)])) e (eU e C (some dx))) l (.lst ys) d2=some (iz d2 fs)∧fs.length<1000∧
        Q .non (upd (upd (upd (upd H dx (iz dx [(f,y)])) e (eU e C (some dx))) l (.lst ys)) d2 (iz d2 (jF g (.ref l) fs))):=by
  refine⟨⟨_,he⟩,he,fun dx hdx=>?_⟩;have ne:dx≠e:=fun z=>by rw[z,he] at hdx;cases hdx
  have le:l≠e:=fun z=>by rw[z,he] at hl;cases hl
  have ld:l≠dx:=fun z=>by rw[z,hdx] at hl;cases hl
  have e1:upd (upd H dx (iz dx [(f,y)])) e (eU e C (some dx)) e=some (eU e C (some dx)):=ao;have d1:upd (upd H dx (iz dx [(f,y)])) e (eU e C (some dx)) dx=some (iz dx [(f,y)]):=by rw[aB ne];exact ao
  have b1:But e H (upd (upd H dx (iz dx [(f,y)])) e (eU e C (some dx))):=fun c o hc z=>by
    rw[aB hc,aB (fun y=>by rw[y,hdx] at z;cases z)];exact z
  generalize upd (upd H dx (iz dx [(f,y)])) e (eU e C (some dx))=H1 at e1 d1 b1 ⊢;refine⟨xs,.inl (aX.of (b1 _ _ le hl)),fun b hb=>?_⟩;have s2:Same H1 (upd H1 b (.lst xs)):=au hb;have e2:upd H1 b (.lst xs) b=some (.lst xs):=ao;generalize upd H1 b (.lst xs)=H2 at s2 e2 ⊢;refine⟨dx,s2 _ _ e1,_,s2 _ _ d1,by show(1:Nat)<1000;decide,?_⟩;have bd:b≠dx:=fun z=>by rw[z,d1] at hb;cases hb
  have be:b≠e:=fun z=>by rw[z,e1] at hb;cases hb
  have hb0:H b=none:=by
    cases z:H b with
    | none=>rfl
    | some o=>rw[b1 _ _ be z] at hb;cases hb
  have ep:jF g (.ref b) [(f,y)]=[(f,y),(g,.ref b)]:=by
    show(if f=g then _ else _)=_
    rw[if_neg (fun z=>fg z.symm)];rfl
  rw[ep];refine q b _ hb0 (by rw[aB bd];exact e2) ⟨dx,ne,by rw[aB (Ne.symm ne)];exact s2 _ _ e1,ao⟩ fun c o hc z=>?_;rw[aB (fun y=>by rw[y,hdx] at z;cases z)];exact s2 _ _ (b1 _ _ hc z)
def Wg (C:Addr) (f g:Str):Sp:=fun vs H Q _=>∃(e l:Addr) (y:V) (xs:List V),vs=[.ref e,y,.ref l]∧H e=some (eU e C none)∧H l=some (.lst xs)∧
  ∀(b:Addr) (H':Hp),H b=none→H' b=some (.lst xs)→qaL H' e C [(f,y),(g,.ref b)]→But e H H'→Q .non H'
theorem ug (T:Txt K mg a):cF P w K mg base jA 1 a.cW a.jX ["self", "word", "part"] (Wg a.aZ "word" "part"):=by
  refine T.vN.oO CG (fun vs H Q E h=>?_) (fun cdv A outer s H vs Q E hr h=>?_)
  ·obtain⟨e,l,y,xs,rfl,_⟩:=h;rfl
  · obtain⟨e,l,y,xs,rfl,he,hl,q⟩:=h;refine⟨_,(aA (gK (Zo T.rO T.ini rfl T.qw (aj (aK 0) (aj jB aq))))
      (aA (qeU T.Aq T.dU (aK 0) (aK 1) rfl)
      (aD (qeV T.Aq T.dW (aK 0) (dX (pB (K:=K) rfl) rfl T.nm.list boot_list (aj (aK 2) aq)) rfl)))),?_⟩
    simp -dsimp[-Bool.exists_bool,-Prod.forall,-Prod.exists];exact J_ (by decide) he hl q
def xP:Sp:=fun vs H Q _=>∃(l a b:Addr) (tv:List V) (S:List nC) (ss es xs:List Str),vs=[.ref l,.ref a,.ref b]∧H l=some (.lst tv)∧dB H tv S∧H a=some (.lst (ss.map V.str))∧H b=some (.lst (es.map V.str))∧(∀x∈ss,x∈xs)∧(∀s∈S,s.2.2∈xs)∧xs.length≤9∧
  ∀(z:Bool) (H':Hp),(z=true↔∃s∈ss,∃e∈es,RT (iy S) s e)→Same H H'→Q (.bl z) H'
theorem pD (T:Txt K mg a):cF P w K mg base jA 3 a.cg a.gR ["steps", "starts", "ends"] xP:=by
  refine T.iJ.oO xg (fun vs H Q E h=>?_) (fun cdv A outer s H vs Q E hr h=>?_)
  ·obtain⟨l,a,b,tv,S,ss,es,xs,rfl,_⟩:=h;rfl
  · obtain⟨l,a,b,tv,S,ss,es,xs,rfl,hl,hS,ha,hb,hss,hsx,h9,q⟩:=h;refine⟨_,(aD (aY (iH Nx (PE.eqv (aN (rT (K:=K) T) (hr.mono (by decide)) rfl T.nQ T.j6.kp T.nP .nil bw (aj (aK 0) (aj (aK 1) (aj (aK 2) aq)))) (aJ _ _ _)) yU (bC _)))),?_⟩;simp -dsimp[-Bool.exists_bool,-Prod.forall,-Prod.exists];refine⟨l,a,b,tv,S,ss,es,xs,rfl,hl,hS,ha,hb,hss,hsx,h9,fun H' hno s'=>?_,fun s e w ws r H' h1 h2 hp _ _ _ s'=>?_⟩
    ·simp -dsimp[-Bool.exists_bool,-Prod.forall,-Prod.exists];exact q _ _ ⟨fun z=>(by cases z),fun⟨s,h1,e,h2,h3⟩=>(hno s h1 e h2 h3).elim⟩ s'
    ·simp -dsimp[-Bool.exists_bool,-Prod.forall,-Prod.exists];exact q _ _ ⟨fun _=>⟨s,h1,e,h2,hp.reach⟩,fun _=>rfl⟩ s'
def qcL (S:List nC) (xs ss es:List Str) (w:Str) (part:List Str):Prop:=(0<ss.length∧w = "touching" ∧∃p:Str→Bool,(∀x,p x=true↔∃s∈ss,RT (iy S) s x)∧part=xs.filter p)∨(ss.length=0∧w = "within" ∧∃p:Str→Bool,(∀x,p x=true↔∃e∈es,RT (iy S) x e)∧part=xs.filter p)
def C_ (C N:Addr):Sp:=fun vs H _ E=>∃(o l a b:Addr) (tv:List V) (S:List nC) (ss es xs:List Str) (ps:List (Str×Str)),vs=[.ref o,.ref l,.ref a,.ref b]∧g8 C H o xs ps∧H l=some (.lst tv)∧dB H tv S∧H a=some (.lst (ss.map V.str))∧H b=some (.lst (es.map V.str))∧(∀x∈ss,x∈xs)∧(∀s∈S,s.2.2∈xs)∧xs.length≤9∧
  ∀(dx c:Addr) (w:Str) (part:List Str) (H':Hp),H c=none→H' dx=some (iz dx [("word",.str w),("part",.ref c)])→H' c=some (.lst (part.map V.str))→qcL S xs ss es w part→Same H H'→E (.ref N) (some dx) H'
theorem Dc (T:Txt K mg a):cF P w K mg base (Vi P w) 4 a.dM a.j4 ["web", "steps", "lacking", "spare"] (C_ a.bU a.aZ):=by
  refine T.qt.qeQ tK (fun vs H Q E h=>?_) (fun cdv A outer s H vs Q E hr h=>?_)
  ·obtain⟨o,l,a,b,tv,S,ss,es,xs,ps,rfl,_⟩:=h;rfl
  · obtain⟨o,l,a',b,tv,S,ss,es,xs,ps,rfl,hw,hl,hS,ha,hb,hss,hsx,h9,q⟩:=h;refine⟨_,(aA (bA (i:=4) tK.nd rfl (Or.inl rfl) (PE.eqv (j9 (aK 0) T.m_ T.jx (j7 (K:=K) T) (hr.mono (by decide)) T.jw .nil bw) (kj _ _ _ _ _ _)))
      (aA (cO (aR nF (aM (bV (K:=K) rfl) rfl T.nm.len PySem.boot_len (aj (aK 2) aq)) aG (bC _)) (aD (Eh (E:=E) Gu rfl rfl T.rO (ug (K:=K) T) (hr.mono (by decide)) rfl T.yK T.qg (aj jB (aj (cJ rfl rfl (show aQ (ak cL) _ ["web", "steps", "lacking", "spare", "points"] ["point"] [1,2] ["point", "steps", "lacking"] from⟨rfl,by decide+kernel,by decide+kernel,rfl,by decide+kernel,by decide+kernel⟩) rfl (PI.eqv (cN (K:=K) rfl (aK 4)) (bZ _ _)) (fun C s H fp pn=>(aO (i:=0) (show(["point", "steps", "lacking"]:List Str).Nodup by decide+kernel) rfl (Or.inl rfl))) (fun C s H fp pn=>(gw (cA (PE.eqv (aN (pD (K:=K) T) (hr.mono (by decide)) rfl T.lu T.iJ.kp T.lq .nil bw (aj (aK 1) (aj (aK 2) (aj (gA (aj (aK 0) aq)) aq)))) (aJ _ _ _))))) (fun C s H fp pn=>(aK 0))) aq)))) bB)
      (aD (Eh (E:=E) Gu rfl rfl T.rO (ug (K:=K) T) (hr.mono (by decide)) rfl T.yK T.qg (aj jB (aj (cJ rfl rfl (show aQ (ak cL) _ ["web", "steps", "lacking", "spare", "points"] ["point"] [1,3] ["point", "steps", "spare"] from⟨rfl,by decide+kernel,by decide+kernel,rfl,by decide+kernel,by decide+kernel⟩) rfl (PI.eqv (cN (K:=K) rfl (aK 4)) (bZ _ _)) (fun C s H fp pn=>(aO (i:=0) (show(["point", "steps", "spare"]:List Str).Nodup by decide+kernel) rfl (Or.inl rfl))) (fun C s H fp pn=>(gw (cA (PE.eqv (aN (pD (K:=K) T) (hr.mono (by decide)) rfl T.lu T.iJ.kp T.lq .nil bw (aj (aK 1) (aj (gA (aj (aK 0) aq)) (aj (aK 2) aq)))) (aJ _ _ _))))) (fun C s H fp pn=>(aK 0))) aq)))))),?_⟩
    obtain⟨dx,fs,hin,hno⟩:=hw.ins iT.1 iT.2;have Rh:60≤sizeLine:=by decide
    simp -dsimp[-Bool.exists_bool,-Prod.forall,-Prod.exists];refine⟨_,_,hin,hno,o,xs,ps,rfl,hw,fun l2 hl2=>?_⟩;have s1:Same H (upd H l2 (.lst (xs.map V.str))):=au hl2;have e1:upd H l2 (.lst (xs.map V.str)) l2=some (.lst (xs.map V.str)):=ao;generalize upd H l2 (.lst (xs.map V.str))=H1 at s1 e1 ⊢;simp -dsimp[-Bool.exists_bool,-Prod.forall,-Prod.exists];refine⟨_,.inl (aX.of (s1 _ _ ha)),fB.of (fun h=>?_) (fun h=>?_)⟩
    · have hpos:=of_decide_eq_true h;rw[List.length_map] at hpos;obtain⟨p,hp⟩:∃p:Str→Bool,∀x,p x=true↔∃s∈ss,RT (iy S) s x:=by
        have hd:∀x,∃z:Bool,z=true↔∃s∈ss,RT (iy S) s x:=fun x=>by
          by_cases h:∃s∈ss,RT (iy S) s x
          ·exact⟨true,by simp only[true_iff];exact h⟩
          ·exact⟨false,by simp only[Bool.false_eq_true,false_iff];exact h⟩
        exact⟨fun x=>(hd x).choose,fun x=>(hd x).choose_spec⟩
      simp -dsimp[-Bool.exists_bool,-Prod.forall,-Prod.exists];refine⟨⟨_,aX.of e1⟩,fun D hD=>Oa (xs.map V.str) (fun i σ H'=>(∃o',σ=[o',some (.ref l),some (.ref a')])∧H' D=some (.lst (((xs.take i).filter p).map V.str))∧Same H1 H') ⟨⟨_,rfl⟩,ao,au hD⟩ (fun i σ H' _ h=>aX.of (h.2.2 _ _ e1)) ?_ ?_⟩
      · rintro i x σ H4 hi ⟨⟨o',rfl⟩,oR,s4⟩;obtain⟨y,hy,rfl⟩:=iK hi;have hi2:i<xs.length:=(List.getElem?_eq_some_iff.mp hy).1;have fl:((xs.take i).filter p).length≤xs.length:=Nat.le_trans (List.length_filter_le _ _) (by rw[List.length_take];omega);simp -dsimp[-Bool.exists_bool,-Prod.forall,-Prod.exists];intro q5 hq5;have s5:Same H4 (upd H4 q5 (.lst [.str y])):=au hq5;have e5:upd H4 q5 (.lst [.str y]) q5=some (.lst ([y].map V.str)):=ao;generalize upd H4 q5 (.lst [.str y])=H5 at s5 e5 ⊢;have S5:=s1.trans (s4.trans s5);refine⟨l,a',q5,tv,S,ss,[y],xs,rfl,S5 _ _ hl,dB.keep hS (L2.dD.of S5),S5 _ _ ha,e5,hss,hsx,h9,fun z H6 hz s6=>?_⟩;have zp:z=p y:=by
          rw[Bool.eq_iff_iff];exact⟨fun h=>by obtain⟨s,h1,e,h2,h3⟩:=hz.mp h;rw[List.mem_singleton] at h2;subst h2;exact(hp _).mpr ⟨s,h1,h3⟩,fun h=>by obtain⟨s,h1,h3⟩:=(hp _).mp h;exact hz.mpr ⟨s,h1,y,List.mem_singleton.mpr rfl,h3⟩⟩
        subst zp;rw[take_one hy,List.filter_append];have S6:=s4.trans (s5.trans s6);have Hs:=s6 _ _ (s5 _ _ oR);simp -dsimp[-Bool.exists_bool,-Prod.forall,-Prod.exists];refine fB.of (fun h=>?_) (fun h=>?_)
        ·simp -dsimp[-Bool.exists_bool,-Prod.forall,-Prod.exists];refine⟨_,Hs,by rw[List.length_map];omega,?_,aW S6 hD⟩;rw[ao,List.filter_cons,if_pos h];simp
        ·simp -dsimp[-Bool.exists_bool,-Prod.forall,-Prod.exists];refine⟨?_,S6⟩;rw[Hs,List.filter_cons,if_neg (by rw[h];decide)];simp
      · rintro σ H4 ⟨⟨o',rfl⟩,oR,s4⟩;rw[List.length_map,List.take_length] at oR;have S4:=s1.trans s4;simp -dsimp[-Bool.exists_bool,-Prod.forall,-Prod.exists];intro e5 Yo;have s5:Same H4 (upd H4 e5 (eU e5 a.aZ none)):=au Yo;have x5:upd H4 e5 (eU e5 a.aZ none) e5=some (eU e5 a.aZ none):=ao;have Ci:=s5 _ _ oR;have e50:H e5=none:=cu S4 Yo;have S5:=S4.trans s5;generalize upd H4 e5 (eU e5 a.aZ none)=H5 at s5 x5 Ci S5 ⊢;refine⟨e5,D,.str "touching",_,rfl,x5,Ci,fun c H6 hc ec hbe hB=>⟨rfl,?_⟩⟩;obtain⟨dx,dxe,hx,hdx⟩:=hbe;have ce:c≠e5:=fun z=>by rw[z,x5] at hc;cases hc
        refine⟨_,hx,q dx c "touching" (xs.filter p) _ (cu S5 hc) (uz dxe hdx) (uz ce ec) (.inl ⟨by omega,rfl,p,hp,rfl⟩) fun b' u e=>?_⟩;have be:b'≠e5:=fun z=>by rw[z,e50] at e;cases e
        exact uz be (hB b' u be (S5 _ _ e))
    · have hpos:=of_decide_eq_false h;rw[List.length_map] at hpos;obtain⟨p,hp⟩:∃p:Str→Bool,∀x,p x=true↔∃e∈es,RT (iy S) x e:=by
        have hd:∀x,∃z:Bool,z=true↔∃e∈es,RT (iy S) x e:=fun x=>by
          by_cases h:∃e∈es,RT (iy S) x e
          ·exact⟨true,by simp only[true_iff];exact h⟩
          ·exact⟨false,by simp only[Bool.false_eq_true,false_iff];exact h⟩
        exact⟨fun x=>(hd x).choose,fun x=>(hd x).choose_spec⟩
      simp -dsimp[-Bool.exists_bool,-Prod.forall,-Prod.exists];refine⟨⟨_,aX.of e1⟩,fun D hD=>Oa (xs.map V.str) (fun i σ H'=>(∃o',σ=[o',some (.ref l),some (.ref b)])∧H' D=some (.lst (((xs.take i).filter p).map V.str))∧Same H1 H') ⟨⟨_,rfl⟩,ao,au hD⟩ (fun i σ H' _ h=>aX.of (h.2.2 _ _ e1)) ?_ ?_⟩
      · rintro i x σ H4 hi ⟨⟨o',rfl⟩,oR,s4⟩;obtain⟨y,hy,rfl⟩:=iK hi;have hi2:i<xs.length:=(List.getElem?_eq_some_iff.mp hy).1;have fl:((xs.take i).filter p).length≤xs.length:=Nat.le_trans (List.length_filter_le _ _) (by rw[List.length_take];omega);simp -dsimp[-Bool.exists_bool,-Prod.forall,-Prod.exists];intro q5 hq5;have s5:Same H4 (upd H4 q5 (.lst [.str y])):=au hq5;have e5:upd H4 q5 (.lst [.str y]) q5=some (.lst ([y].map V.str)):=ao;generalize upd H4 q5 (.lst [.str y])=H5 at s5 e5 ⊢;have S5:=s1.trans (s4.trans s5);refine⟨l,q5,b,tv,S,[y],es,xs,rfl,S5 _ _ hl,dB.keep hS (L2.dD.of S5),e5,S5 _ _ hb,(fun x hx=>by rw[List.mem_singleton] at hx;subst hx;exact List.mem_of_getElem? hy),hsx,h9,fun z H6 hz s6=>?_⟩;have zp:z=p y:=by
          rw[Bool.eq_iff_iff];exact⟨fun h=>by obtain⟨s,h1,e,h2,h3⟩:=hz.mp h;rw[List.mem_singleton] at h1;subst h1;exact(hp _).mpr ⟨e,h2,h3⟩,fun h=>by obtain⟨e,h1,h3⟩:=(hp _).mp h;exact hz.mpr ⟨y,List.mem_singleton.mpr rfl,e,h1,h3⟩⟩
        subst zp;rw[take_one hy,List.filter_append];have S6:=s4.trans (s5.trans s6);have Hs:=s6 _ _ (s5 _ _ oR);simp -dsimp[-Bool.exists_bool,-Prod.forall,-Prod.exists];refine fB.of (fun h=>?_) (fun h=>?_)
        ·simp -dsimp[-Bool.exists_bool,-Prod.forall,-Prod.exists];refine⟨_,Hs,by rw[List.length_map];omega,?_,aW S6 hD⟩;rw[ao,List.filter_cons,if_pos h];simp
        ·simp -dsimp[-Bool.exists_bool,-Prod.forall,-Prod.exists];refine⟨?_,S6⟩;rw[Hs,List.filter_cons,if_neg (by rw[h];decide)];simp
      · rintro σ H4 ⟨⟨o',rfl⟩,oR,s4⟩;rw[List.length_map,List.take_length] at oR;have S4:=s1.trans s4;simp -dsimp[-Bool.exists_bool,-Prod.forall,-Prod.exists];intro e5 Yo;have s5:Same H4 (upd H4 e5 (eU e5 a.aZ none)):=au Yo;have x5:upd H4 e5 (eU e5 a.aZ none) e5=some (eU e5 a.aZ none):=ao;have Ci:=s5 _ _ oR;have e50:H e5=none:=cu S4 Yo;have S5:=S4.trans s5;generalize upd H4 e5 (eU e5 a.aZ none)=H5 at s5 x5 Ci S5 ⊢;refine⟨e5,D,.str "within",_,rfl,x5,Ci,fun c H6 hc ec hbe hB=>⟨rfl,?_⟩⟩;obtain⟨dx,dxe,hx,hdx⟩:=hbe;have ce:c≠e5:=fun z=>by rw[z,x5] at hc;cases hc
        refine⟨_,hx,q dx c "within" (xs.filter p) _ (cu S5 hc) (uz dxe hdx) (uz ce ec) (.inr ⟨by omega,rfl,p,hp,rfl⟩) fun b' u e=>?_⟩;have be:b'≠e5:=fun z=>by rw[z,e50] at e;cases e
        exact uz be (hB b' u be (S5 _ _ e))
end Zu
namespace L2
open PySem PySem.Spec PyProof.Rows
variable {X:Cx}
@[simp ↓] theorem qkm x y H Q:qeu x y H Q=(isRef x fun l=>isInt y fun k=>∃xs,H l=some (.lst xs)∧-(2 ^ 63)≤k∧k<2 ^ 63∧xs.length * k.toNat≤sizeLine∧∀p,H p=none→Q (.ref p) (upd H p (.lst (List.replicate k.toNat xs).flatten))):=rfl
theorem ZW:fY X (binaryOp .Mult) qeu:=by
  refine qbn.mono fun {x y H Q} h=>?_;obtain⟨l,rfl,h1⟩:=isRef.out h;obtain⟨k,rfl,xs,h2⟩:=isInt.out h1;exact⟨l,k,xs,rfl,rfl,h2⟩
end L2
namespace Zu
open PySem L2
variable {P:Program} {w:World} {K:W.Frag} {mg:Str→Option Value} {base:Heap} {a:Adr}
def Bj (C:Addr):Sp:=fun vs H Q _=>∃(o i:Addr) (xs:List Str) (ps:List (Str×Str)) (gs:List Int),vs=[.ref o,.ref i]∧g8 C H o xs ps∧xs.length≤9∧gs.length=xs.length∧(∀n∈gs,0≤n)∧Sq H i (gs.map V.int)∧∀H',Same H H'→Q .non H'
theorem Bk (T:Txt K mg a):cF P w K mg base jA 2 a.dg a.jo ["web", "thing"] (Bj a.bU):=by
  refine T.nO.oO zX (fun vs H Q E h=>?_) (fun cdv A outer s H vs Q E hr h=>?_)
  ·obtain⟨o,i,xs,ps,gs,rfl,_⟩:=h;rfl
  · obtain⟨o,i,xs,ps,gs,rfl,hw,h9,hl,h0,ht,q⟩:=h;refine⟨_,(aA (cO (PW.pt (lY (fD (cA (PE.eqv (aN (mO (K:=K) T) (hr.mono (by decide)) rfl T.jQ T.gV.kp T.jP .nil bw (aj (aK 1) aq)) (aJ _ _ _)))) (iV (aR wR (aM (bV (K:=K) rfl) rfl T.nm.len PySem.boot_len (aj (aK 1) aq)) (aM (bV (K:=K) rfl) rfl T.nm.len PySem.boot_len (aj (PE.eqv (j9 (aK 0) T.m_ T.jx (j7 (K:=K) T) (hr.mono (by decide)) T.jw .nil bw) (kj _ _ _ _ _ _)) aq)) (bC _))))) (aD oV) bB)
      (aD (cO (fD (cA (aM (jL rfl) rfl T.nm.all jH (aj (cJ rfl rfl (show aQ (ak cI) _ ["web", "thing"] ["one"] [] ["one"] from⟨rfl,by decide+kernel,by decide+kernel,rfl,by decide+kernel,by decide+kernel⟩) rfl (PI.eqv (pG (K:=K) rfl (aK 1)) (mD _ _)) (fun C s H fp pn=>(aO (i:=0) (show(["one"]:List Str).Nodup by decide+kernel) rfl (Or.inl rfl))) (fun C s H fp pn=>dz) (fun C s H fp pn=>(pL (PE.eqv (aN (rR (K:=K) T) (hr.mono (by decide)) rfl T.ql T.mL.kp T.qj .nil bw (aj (aK 0) aq)) (aJ _ _ _)) (uo (iH qbN (aK 0) aG (bC _)))))) aq)))) (aD oV) bB))),?_⟩
    have Rh:60≤sizeLine:=by decide
    simp -dsimp[-Bool.exists_bool,-Prod.forall,-Prod.exists];refine⟨i,_,rfl,ht,fun H1 s1=>?_⟩;obtain⟨dx,fs,hin,hno⟩:=(hw.same s1).ins iT.1 iT.2;simp -dsimp[-Bool.exists_bool,-Prod.forall,-Prod.exists];refine⟨_,(ht.same s1).q,_,_,hin,hno,o,xs,ps,rfl,hw.same s1,fun p1 hp1=>?_⟩;have s2:Same H1 (upd H1 p1 (.lst (xs.map V.str))):=au hp1;have e2:upd H1 p1 (.lst (xs.map V.str)) p1=some (.lst (xs.map V.str)):=ao;generalize upd H1 p1 (.lst (xs.map V.str))=H2 at s2 e2 ⊢;have S2:=s1.trans s2;simp -dsimp[-Bool.exists_bool,-Prod.forall,-Prod.exists];refine⟨_,.inl (aX.of e2),false,by simp[hl],fB.neg rfl ?_⟩;obtain⟨b,hb⟩:=(ht.same S2).b;simp -dsimp[-Bool.exists_bool,-Prod.forall,-Prod.exists];refine⟨b,⟨_,hb K H2 (Same.refl _)⟩,fun D hD=>cmQ (gs.map V.int) (fun i σ H'=>(∃o',σ=[o'])∧H' D=some (.lst (List.replicate i (.bl true)))∧Same H2 H') ⟨⟨_,rfl⟩,ao,au hD⟩ (fun i σ H' _ h=>hb K H' h.2.2) ?_ ?_⟩
    · rintro i x σ H3 hi ⟨⟨o',rfl⟩,mz,s3⟩;obtain⟨n,hn,rfl⟩:∃n,gs[i]? = some n∧x = .int n:=by
        rw[List.getElem?_map] at hi;cases hn:gs[i]? with
        | none=>rw[hn] at hi;cases hi
        | some n=>rw[hn] at hi;cases hi;exact⟨n,rfl,rfl⟩
      have hi2:i<gs.length:=(List.getElem?_eq_some_iff.mp hn).1;have h0':=h0 n (List.mem_of_getElem? hn);simp -dsimp[-Bool.exists_bool,-Prod.forall,-Prod.exists];refine⟨.int n,.int n,rfl,by simp[lW],?_⟩;simp only[xO];simp -dsimp[-Bool.exists_bool,-Prod.forall,-Prod.exists];refine⟨_,mz,by simp;omega,?_,aW s3 hD⟩;rw[ao,decide_eq_true h0',List.replicate_succ']
    ·rintro σ H3 ⟨⟨o',rfl⟩,mz,s3⟩;simp -dsimp[-Bool.exists_bool,-Prod.forall,-Prod.exists];refine⟨_,mz,_,lX _,?_⟩;rw[show(List.replicate (gs.map V.int).length true).all id=true by simp];refine fB.neg rfl ?_;simp -dsimp[-Bool.exists_bool,-Prod.forall,-Prod.exists];exact q _ (S2.trans s3)
theorem Wh {ns:List Int} {ps:List (Str×Str)} (hl:ns.length=ps.length) (h01:∀n∈ns,0≤n∧n≤1):((Mv ns ps).map fun s=>s.2.2)=bN ns ps:=by
  rw[qaK hl h01,Oc]
def qcM:V→Int
  | .int n=>n
  | _=>0
theorem Ka:∀ns:List Int,(ns.map V.int).map qcM=ns
  | []=>rfl
  | n::ns=>by simp only[List.map_cons,qcM];rw[Ka ns]
def Wi (xs:List Str) (ps:List (Str×Str)) (g:Str→Nat) (σ:List (Option V)) (H:Hp):Nat:=match σ[2]? with
  | some (some (V.ref t))=>(match H t with
    | some (.lst vs)=>muN xs (inN (vs.map qcM) ps) g
    | _=>0)
  | _=>0
theorem Kc {xs:List Str} {ps:List (Str×Str)} {g:Str→Nat} {o0 o1:Option V} {t:Addr} {r:List (Option V)} {H:Hp} {ns:List Int} (h:H t=some (.lst (ns.map V.int))):Wi xs ps g (o0::o1::some (.ref t)::r) H=muN xs (inN ns ps) g:=by
  unfold Wi;simp only[List.getElem?_cons_succ,List.getElem?_cons_zero,h,Ka]
theorem rep0 (m:Nat):(List.replicate m [V.int 0]).flatten=(List.replicate m (0:Int)).map V.int:=by
  rw[List.map_replicate]
  induction m with
  | zero=>rfl
  | succ m ih=>rw[List.replicate_succ,List.flatten_cons,ih,List.replicate_succ];rfl
theorem Rp {K:W.Frag} {g:Int→Int→V} {i j:Nat} {x y:V}:∀(σ:St) (H:Hp) (Q Q':Bool→Hp→Prop),(∀(b:Bool) (H1:Hp),Q b H1→Q' b H1)→
    tOr (pA (RG (Lb g) (XS (u9 K) (tu (fVar i) Cj)) (tC x))) (pA (RG (Lb g) (XS (u9 K) (tu (fVar j) Cj)) (tC y))) σ H Q→tOr (pA (RG (Lb g) (XS (u9 K) (tu (fVar i) Cj)) (tC x))) (pA (RG (Lb g) (XS (u9 K) (tu (fVar j) Cj)) (tC y))) σ H Q':=by
  intro σ H Q Q' f h;refine getSt.imp (fun v h=>isRef.imp (fun p h=>?_) h) h;obtain⟨ys,h1,h2⟩:=h;refine⟨ys,h1,?_⟩;obtain⟨n,rfl,h3⟩:=isInt.out (x:=x) h2;refine pI.imp (fun b h=>?_) h3;cases b with
  | true=>exact f _ _ h
  | false=>
    refine getSt.imp (fun v h=>isRef.imp (fun p h=>?_) h) h;obtain⟨ys,h1,h2⟩:=h;refine⟨ys,h1,?_⟩;obtain⟨m,rfl,h4⟩:=isInt.out (x:=y) h2;exact pI.imp (fun b h=>f _ _ h) h4
theorem ZX {S:List nC} {a:Str} {w:List Nat} {vs:List Str} {b:Str} (h:qN S a w vs b) {xs:List Str} (ha:a∈xs) (hS:∀s∈S,s.2.2∈xs):∀v∈vs,v∈xs:=by
  induction h with
  | nil=>intro v hv;rw[List.mem_singleton] at hv;subst hv;exact ha
  | snoc _ q ih=>
    intro v hv
    rcases List.mem_append.mp hv with hv | hv
    ·exact ih v hv
    ·rw[List.mem_singleton] at hv;subst hv;exact hS _ q
theorem nj {xs:List Str} {f g:Str→Nat} {y:Str}:y∈gY xs (fun x=>(f x:Int)) (fun x=>(g x:Int))↔y∈xs∧f y<g y:=by
  unfold gY;rw[List.mem_filter,decide_eq_true_eq];constructor
  ·rintro⟨h1,h2⟩;have h2:(f y:Int)<g y:=h2;exact⟨h1,by omega⟩
  ·rintro⟨h1,h2⟩;exact⟨h1,show(f y:Int)<g y by omega⟩
theorem Wj {w:List Nat} (h:w.Nodup):(kJ w).Nodup:=by
  unfold kJ
  induction w with
  | nil=>exact List.nodup_nil
  | cons a l ih=>
    rw[List.nodup_cons] at h;rw[List.map_cons,List.nodup_cons];refine⟨fun z=>?_,ih h.2⟩;obtain⟨k,hk,e⟩:=List.mem_map.mp z;have:k=a:=by omega
    exact h.1 (this▸hk)
def Bl (C N:Addr):Sp:=fun vs H Q E=>∃(o i:Addr) (xs:List Str) (ps:List (Str×Str)) (g:Str→Nat),vs=[.ref o,.ref i]∧g8 C H o xs ps∧Zy xs∧JC xs ps∧Sq H i ((xs.map fun x=>(g x:Int)).map V.int)∧
  (∀(r:Addr) (ns:List Int) (H':Hp),H r=none→H' r=some (.lst (ns.map V.int))→ns.length=ps.length→(∀n∈ns,0≤n∧n≤1)→(∀x∈xs,inN ns ps x=g x)→Same H H'→Q (.ref r) H')∧
  (∀(dx c:Addr) (w:Str) (part:List Str) (ns:List Int) (H':Hp),H c=none→H' dx=some (iz dx [("word",.str w),("part",.ref c)])→H' c=some (.lst (part.map V.str))→ns.length=ps.length→
    qcL (mC ns ps 0) xs (gY xs (fun x=>(inN ns ps x:Int)) fun x=>(g x:Int)) (gY xs (fun x=>(g x:Int)) fun x=>(inN ns ps x:Int)) w part→
    (∀s∈gY xs (fun x=>(inN ns ps x:Int)) (fun x=>(g x:Int)),∀e∈gY xs (fun x=>(g x:Int)) (fun x=>(inN ns ps x:Int)),¬RT (iy (mC ns ps 0)) s e)→
    (0<(gY xs (fun x=>(inN ns ps x:Int)) fun x=>(g x:Int)).length∨0<(gY xs (fun x=>(g x:Int)) fun x=>(inN ns ps x:Int)).length)→Same H H'→E (.ref N) (some dx) H')
theorem Bm (T:Txt K mg a):cF P w K mg base (Vi P w) 7 a.dj a.jr ["web", "ins"] (Bl a.bU a.aZ):=by
  refine T.nR.qeQ cM (fun vs H Q E h=>?_) (fun cdv A outer s H vs Q E hr h=>?_)
  ·obtain⟨o,i,xs,ps,g,rfl,_⟩:=h;rfl
  · obtain⟨o,i,xs,ps,g,rfl,hw,hX,hT,hi,q,qE⟩:=h;refine⟨_,(aA (gK (PE.eqv (aN (Bk (K:=K) T) (hr.mono (by decide)) rfl T.tY T.nO.kp T.tX .nil bw (aj (aK 0) (aj (aK 1) aq))) (aJ _ _ _)))
      (aA (bA (i:=2) cM.nd rfl (Or.inl rfl) (cD ZW (gA (aj aG aq)) (PE.eqv (j9 (aK 0) T.m_ T.qu (rQ (K:=K) T) (hr.mono (by decide)) T.qp .nil bw) (kj _ _ _ _ _ _))))
      (aA (uq (PE.eqv (aN (Pz (K:=K) T) (hr.mono (by decide)) rfl T.Mi T.GP.kp T.Mh .nil bw (aj (aK 0) (aj (PE.eqv (aN (Eu (K:=K) T) (hr.mono (by decide)) rfl T.Ai T.vU.kp T.Ah .nil bw (aj (aK 0) (aj (aK 2) aq))) (aJ _ _ _)) (aj (aK 1) aq)))) (aJ _ _ _)) (PG.eqv (fH (K:=K) (n:=2) rfl rfl (g_.eqv (bh (aO (i:=3) cM.nd rfl (Or.inl rfl)) (g_.eqv (bh (aO (i:=4) cM.nd rfl (Or.inl rfl)) (g_.mono eE gD)) (bx _ _))) (bx _ _))) (fK _ _ _)))
      (aA (Hz PassesOwn.leaving (PW.pt (lY (aR nF (aM (bV (K:=K) rfl) rfl T.nm.len PySem.boot_len (aj (aK 3) aq)) aG (bC _)) (iV (aR nF (aM (bV (K:=K) rfl) rfl T.nm.len PySem.boot_len (aj (aK 4) aq)) aG (bC _)))))
      (aA (bA (i:=5) cM.nd rfl (Or.inl rfl) (PE.eqv (aN (Et (K:=K) T) (hr.mono (by decide)) rfl T.Af T.vR.kp T.Ae .nil bw (aj (aK 0) (aj (aK 2) aq))) (aJ _ _ _)))
      (aA (bA (i:=6) cM.nd rfl (Or.inl rfl) (PE.eqv (aN (rT (K:=K) T) (hr.mono (by decide)) rfl T.nQ T.j6.kp T.nP .nil bw (aj (aK 5) (aj (aK 3) (aj (aK 4) aq)))) (aJ _ _ _)))
      (aA (cO (aR qbc (aK 6) yU (bC _)) (aD (gK (PE.eqv (aN (Dc (K:=K) T) (hr.mono (by decide)) rfl T.vW T.qt.kp T.vV .nil (Gu.passes rfl) (aj (aK 0) (aj (aK 5) (aj (aK 3) (aj (aK 4) aq))))) (aJ _ _ _)))) bB)
      (aA (bA (i:=2) cM.nd rfl (Or.inl rfl) (PE.eqv (aN (Rm (K:=K) T) (hr.mono (by decide)) rfl T.Jv T.Ag.kp T.Ju .nil bw (aj (aK 0) (aj (aK 2) (aj (aK 6) aq)))) (aJ _ _ _)))
      (aD (uq (PE.eqv (aN (Pz (K:=K) T) (hr.mono (by decide)) rfl T.Mi T.GP.kp T.Mh .nil bw (aj (aK 0) (aj (PE.eqv (aN (Eu (K:=K) T) (hr.mono (by decide)) rfl T.Ai T.vU.kp T.Ah .nil bw (aj (aK 0) (aj (aK 2) aq))) (aJ _ _ _)) (aj (aK 1) aq)))) (aJ _ _ _)) (PG.eqv (fH (K:=K) (n:=2) rfl rfl (g_.eqv (bh (aO (i:=3) cM.nd rfl (Or.inl rfl)) (g_.eqv (bh (aO (i:=4) cM.nd rfl (Or.inl rfl)) (g_.mono eE gD)) (bx _ _))) (bx _ _))) (fK _ _ _)))))))))
      (aD (aY (aK 2))))))),?_⟩
    have Rh:60≤sizeLine:=by decide
    have l9:=hX.len;have ZP:=hT.len;simp -dsimp[-Bool.exists_bool,-Prod.forall,-Prod.exists];refine⟨o,i,xs,ps,_,rfl,hw,l9.2,by simp,fun n hn=>?_,hi,fun H1 s1=>?_⟩
    ·obtain⟨x,_,rfl⟩:=List.mem_map.mp hn;exact Int.natCast_nonneg _
    simp -dsimp[-Bool.exists_bool,-Prod.forall,-Prod.exists];intro p2 hp2;have s2:Same H1 (upd H1 p2 (.lst [V.int 0])):=au hp2;have e2:upd H1 p2 (.lst [V.int 0]) p2=some (.lst [V.int 0]):=ao;generalize upd H1 p2 (.lst [V.int 0])=H2 at s2 e2 ⊢;have S2:=s1.trans s2;obtain⟨dx,fs,hin,hno⟩:=(hw.same S2).ins sW.1 sW.2;refine⟨_,_,hin,hno,o,xs,ps,rfl,hw.same S2,?_⟩;simp -dsimp[-Bool.exists_bool,-Prod.forall,-Prod.exists];refine⟨_,e2,by omega,by simp;omega,fun t ht=>?_⟩;rw[rep0];have s3:Same H2 (upd H2 t (.lst ((List.replicate ps.length (0:Int)).map V.int))):=au ht;have e3:upd H2 t (.lst ((List.replicate ps.length (0:Int)).map V.int)) t=some (.lst ((List.replicate ps.length (0:Int)).map V.int)):=ao;generalize upd H2 t (.lst ((List.replicate ps.length (0:Int)).map V.int))=H3 at s3 e3 ⊢;have S3:=S2.trans s3;have hr0:H t=none:=cu S2 ht;have l0:(List.replicate ps.length (0:Int)).length=ps.length:=List.length_replicate;have z0:∀n∈List.replicate ps.length (0:Int),0≤n∧n≤1:=fun n hn=>by rw[List.eq_of_mem_replicate hn];decide
    generalize List.replicate ps.length (0:Int)=ns0 at e3 l0 z0;have g2:∀e∈ps,e.1∈xs∧e.2∈xs:=fun e he=>⟨(hT.ok e he).1,(hT.ok e he).2.1⟩;have hne:∀e∈ps,e.1≠e.2:=fun e he=>(hT.ok e he).2.2;refine⟨o,t,xs,ps,ns0,rfl,⟨hw.same S3,.inl e3,z0,l0,ZP⟩,l9.2,fun r4 H4 JM e4 s4=>?_⟩;rw[Wh l0 z0] at e4;have S4:=S3.trans s4;simp -dsimp[-Bool.exists_bool,-Prod.forall,-Prod.exists];refine⟨o,r4,i,xs,ps,_,_,rfl,hw.same S4,l9.1,l9.2,e4,hi.same S4,fun t5 la sp H5 ht5 hla hsp e5 ela esp s5=>?_⟩;have S5:=S4.trans s5;simp -dsimp[-Bool.exists_bool,-Prod.forall,-Prod.exists];refine⟨_,d9.of e5,rfl,?_⟩;simp -dsimp[-Bool.exists_bool,-Prod.forall,-Prod.exists];refine whB (fun σ H'=>∃(t la sp:Addr) (ns:List Int) (o5 o6:Option V),σ=[some (.ref o),some (.ref i),some (.ref t),some (.ref la),some (.ref sp),o5,o6]∧H t=none∧H' t=some (.lst (ns.map V.int))∧ns.length=ps.length∧(∀n∈ns,0≤n∧n≤1)∧
        H' la=some (.lst ((gY xs (fun x=>(inN ns ps x:Int)) fun x=>(g x:Int)).map V.str))∧H' sp=some (.lst ((gY xs (fun x=>(g x:Int)) fun x=>(inN ns ps x:Int)).map V.str))∧Same H H') (Wi xs ps g)
      ⟨t,la,sp,ns0,none,none,rfl,hr0,s5 _ _ (s4 _ _ e3),l0,z0,ela,esp,S5⟩ ?_ Rp
    rintro σ H6 ⟨t,la,sp,ns,o5,o6,rfl,hr6,e6,hl6,h01,qcN,qcO,S6⟩;rw[Kc e6];simp -dsimp[-Bool.exists_bool,-Prod.forall,-Prod.exists];generalize hBd:qaX (R4 (U0 (Es a.bU) E0 _) _) _ _ _ _=Bd;have body:(0<(gY xs (fun x=>(inN ns ps x:Int)) fun x=>(g x:Int)).length∨0<(gY xs (fun x=>(g x:Int)) fun x=>(inN ns ps x:Int)).length)→Bd:=by
      intro hgap;rw[← hBd];simp -dsimp[-Bool.exists_bool,-Prod.forall,-Prod.exists];refine⟨o,t,xs,ps,ns,rfl,⟨hw.same S6,.inl e6,h01,hl6,ZP⟩,fun l7 tv H7 hl7 e7 hst h40 s7=>?_⟩;rw[qaK hl6 h01] at hst;have hgo:∀s∈mC ns ps 0,s.2.2∈xs:=fun s hs=>by
        obtain⟨j,m,e,a1,a2,rfl⟩:=rF.mp hs;have he:=g2 e (List.mem_of_getElem? a2);show k_ m e∈xs;unfold k_;split
        ·exact he.2
        ·exact he.1
      simp -dsimp[-Bool.exists_bool,-Prod.forall,-Prod.exists];refine⟨l7,la,sp,tv,_,_,_,xs,rfl,e7,hst,s7 _ _ qcN,s7 _ _ qcO,fun x hx=>(List.mem_filter.mp hx).1,hgo,l9.2,fun H8 hno s8=>?_,fun sx ex w ws r8 H8 hsx hex J0 hnd hr8 e8 s8=>?_⟩
      ·have S8:=s7.trans s8;simp -dsimp[-Bool.exists_bool,-Prod.forall,-Prod.exists];refine⟨o,l7,la,sp,tv,_,_,_,xs,ps,rfl,hw.same (S6.trans S8),s8 _ _ e7,dB.keep hst (L2.dD.of s8),S8 _ _ qcN,S8 _ _ qcO,fun x hx=>(List.mem_filter.mp hx).1,hgo,l9.2,fun dx c w part H9 hc hdx hcc hP s9=>?_⟩;exact qE dx c w part ns H9 (cu (S6.trans S8) hc) hdx hcc hl6 hP hno hgap ((S6.trans S8).trans s9)
      · have S8:=S6.trans (s7.trans s8);obtain⟨i1,i2,i3⟩:=Ro h01 hne J0 hnd;obtain⟨qfe,hs1⟩:=nj.mp hsx;have Cv:=(nj.mp hex).2;have wl:w.length<xs.length:=by
          have hlen:=J0.len;have:=o_ hnd fun v hv=>ZX J0 qfe hgo v hv;omega
        have mlt:=qfd (f:=inN ns ps) (f':=inN (Ht (kJ w) ns) ps) (g:=g) qfe hs1 Cv i3;have e6':=(s7.trans s8) _ _ e6;have e8':H8 r8=some (.lst ((kJ w).map V.int)):=by rw[e8];simp[kJ]
        simp -dsimp[-Bool.exists_bool,-Prod.forall,-Prod.exists];refine⟨o,t,r8,xs,ps,ns,kJ w,rfl,⟨hw.same S8,.inl e6',h01,hl6,ZP⟩,.inl e8',⟨fun k hk=>?_,?_,?_⟩,fun r9 H9 hr9 e9 s9=>?_⟩
        ·obtain⟨n,hn,rfl⟩:=List.mem_map.mp hk;have:=i1 n hn;omega
        ·exact Wj i2
        ·unfold kJ;rw[List.length_map];omega
        ·have S9:=S8.trans s9;have l9':=sX (kJ w) ns;have z9:=qcJ (ks:=kJ w) h01;generalize Ht (kJ w) ns=ns9 at e9 l9' z9 mlt i3;rw[hl6] at l9';simp -dsimp[-Bool.exists_bool,-Prod.forall,-Prod.exists];refine⟨o,r9,xs,ps,ns9,rfl,⟨hw.same S9,.inl e9,z9,l9',ZP⟩,l9.2,fun r10 H10 qmS e10 s10=>?_⟩;rw[Wh l9' z9] at e10;have S10:=S9.trans s10;simp -dsimp[-Bool.exists_bool,-Prod.forall,-Prod.exists];refine⟨o,r10,i,xs,ps,_,_,rfl,hw.same S10,l9.1,l9.2,e10,hi.same S10,fun t11 qkn qko H11 qmT qmz qmA e11 qff qfg s11=>?_⟩;simp -dsimp[-Bool.exists_bool,-Prod.forall,-Prod.exists];refine⟨_,d9.of e11,rfl,?_⟩;simp -dsimp[-Bool.exists_bool,-Prod.forall,-Prod.exists];refine⟨⟨r9,qkn,qko,⟨rfl,rfl,rfl⟩,cu S8 hr9,ns9,(s10.trans s11) _ _ e9,l9',z9,qff,qfg,S10.trans s11⟩,?_⟩;rw[Kc ((s10.trans s11) _ _ e9)];exact mlt
    refine⟨_,.inl (aX.of qcN),fB.of (fun h=>?_) (fun h=>?_)⟩
    ·refine fB.pos rfl (body (.inl ?_));have h':=of_decide_eq_true h;rw[List.length_map] at h';omega
    · simp -dsimp[-Bool.exists_bool,-Prod.forall,-Prod.exists];refine⟨_,.inl (aX.of qcO),fB.of (fun h2=>?_) (fun h2=>?_)⟩
      ·rw[hBd];refine body (.inr ?_);have h':=of_decide_eq_true h2;rw[List.length_map] at h';omega
      ·simp -dsimp[-Bool.exists_bool,-Prod.forall,-Prod.exists];have h1':=of_decide_eq_false h;have h2':=of_decide_eq_false h2;rw[List.length_map] at h1' h2';refine q t ns H6 hr6 e6 hl6 h01 (fun x hx=>?_) S6;have a1:¬inN ns ps x<g x:=fun z=>h1' (List.length_pos_of_mem (nj.mpr ⟨hx,z⟩));have a2:¬g x<inN ns ps x:=fun z=>h2' (List.length_pos_of_mem (nj.mpr ⟨hx,z⟩));omega
theorem ig.keep {p:Addr} {H H':Hp} (x:ig H p) (s:Same H H'):ig H' p:=by
  obtain⟨u1,u2,u3,u4⟩:=x;exact⟨u1,u2,s _ _ u3,u4⟩
def Wk:Sp:=fun vs H Q _=>∃(p t n l:Addr) (tv:List V),vs=[.ref p,.ref t]∧ig H p∧H t=some (.tup [.ref n,.ref l])∧H l=some (.lst tv)∧l≠p∧tv.length≤20∧
  ∀(r:Addr) (ns:List Int) (H':Hp),H r=none→H' r=some (.lst (ns.map V.int))→ns.length=tv.length→(∀n∈ns,0≤n∧n≤1)→ig H' p→But p H H'→Q (.ref r) H'
theorem Wm (T:Txt K mg a):cF P w K mg base jA 2 a.lQ a.vH ["_law_pot_here", "_law_web_here"] Wk:=by
  refine T.GZ.oO VD (fun vs H Q E h=>?_) (fun cdv A outer s H vs Q E hr h=>?_)
  ·obtain⟨p,t,n,l,tv,rfl,_⟩:=h;rfl
  · obtain⟨p,t,n,l,tv,rfl,hp,ht,hl,lp,CT,q⟩:=h;refine⟨_,(aD (aY (cJ rfl rfl (show aQ (ak jV) _ ["_law_pot_here", "_law_web_here"] ["_law_tie_here"] [0] ["_law_tie_here", "_law_pot_here"] from⟨rfl,by decide+kernel,by decide+kernel,rfl,by decide+kernel,by decide+kernel⟩) rfl (PI.eqv (cN (K:=K) rfl (bQ (bT (K:=K) rfl) (aK 1) aG (fun _ _=>rfl))) (bZ _ _)) (fun C s H fp pn=>(aO (i:=0) (show(["_law_tie_here", "_law_pot_here"]:List Str).Nodup by decide+kernel) rfl (Or.inl rfl))) (fun C s H fp pn=>dz) (fun C s H fp pn=>(PE.eqv (aN (d8 (K:=K) T) (hr.mono (by decide)) rfl T.fW T.fG.kp T.fV .nil bw (aj (aK 1) (aj aG aq))) (aJ _ _ _)))))),?_⟩;have s20:=of_eq_true yp;simp -dsimp;refine⟨_,.inr (d9.of ht),_,aV (j:=1) rfl,⟨_,aX.of hl⟩,fun D hD=>Oa tv (fun i σ H'=>(∃o',σ=[o',some (.ref p)])∧(∃ns:List Int,H' D=some (.lst (ns.map V.int))∧ns.length=i∧∀n∈ns,0≤n∧n≤1)∧H' l=some (.lst tv)∧ig H' p∧But p H H') ⟨⟨_,rfl⟩,⟨[],ao,rfl,by simp⟩,bI hl hD,hp.upd (hp.ne hD),But.of (au hD)⟩ (fun i σ H' _ h=>aX.of h.2.2.1) ?_ ?_⟩
    · rintro i x σ H2 hi ⟨⟨o',rfl⟩,⟨ns,hD2,hn,h01⟩,hl2,hP2,hB2⟩;have hi2:i<tv.length:=(List.getElem?_eq_some_iff.mp hi).1;have Dp:D≠p:=(hp.ne hD).symm;have lD:l≠D:=aH hl hD;simp -dsimp;refine⟨p,_,rfl,hP2,by decide,by decide,fun f H3 hf0 hf1 uf hB3=>?_⟩;simp -dsimp;refine⟨_,hB3 _ _ Dp hD2,by simp;omega,⟨ns++[f],by rw[ao];simp,by simp[hn],fun m hm=>?_⟩,by rw[aB lD];exact hB3 _ _ lp hl2,uf.upd Dp.symm,(hB2.trans hB3).new hD⟩
      rcases List.mem_append.mp hm with hm | hm
      ·exact h01 m hm
      ·simp at hm;subst hm;omega
    ·rintro σ H2 ⟨⟨o',rfl⟩,⟨ns,hD2,hn,h01⟩,hl2,hP2,hB2⟩;simp -dsimp;exact q D ns H2 hD hD2 hn h01 hP2 hB2
def Rq:Sp:=fun vs H Q _=>∃(p row:Addr) (xs:List V),vs=[.ref p,.ref row]∧ig H p∧H row=some (.lst xs)∧row≠p∧xs.length≤20∧
  ∀(r:Addr) (H':Hp),r≠p→Sq H' r xs→ig H' p→But p H H'→Q (.ref r) H'
theorem Rr (T:Txt K mg a):cF P w K mg base jA 2 a.jt a.sS ["_law_pot_here", "_law_row"] Rq:=by
  refine T.Aj.oO Q_ (fun vs H Q E h=>?_) (fun cdv A outer s H vs Q E hr h=>?_)
  ·obtain⟨p,row,xs,rfl,_⟩:=h;rfl
  · obtain⟨p,row,xs,rfl,hp,hrw,rp,CT,q⟩:=h;refine⟨_,(aD (aY (bQ (bT (K:=K) rfl) (gA (aj (dX (pB (K:=K) rfl) rfl T.nm.list boot_list (aj (aK 1) aq)) (aj (dX wV rfl T.nm.tuple boot_tuple (aj (aK 1) aq)) aq))) (PE.eqv (aN (d8 (K:=K) T) (hr.mono (by decide)) rfl T.fW T.fG.kp T.fV .nil bw (aj (aK 0) (aj aG aq))) (aJ _ _ _)) (fun _ _=>rfl)))),?_⟩;have s20:=of_eq_true yp;simp -dsimp;refine⟨_,.inl (aX.of hrw),fun l1 hl1=>⟨_,.inl (bI hrw hl1),fun l2 H2 hl2 s2 p3 hp3=>?_⟩⟩;have s1:Same H (upd H l1 (.lst xs)):=au hl1;have e1:=s2 _ _ (show upd H l1 (.lst xs) l1=some (.lst xs) from ao);have s3:Same H2 (upd H2 p3 (.lst [.ref l1,.ref l2])):=au hp3;have sH:=(s1.trans s2).trans s3;have uf:=hp.keep sH;have e1':=s3 _ _ e1;have e2':=s3 _ _ hl2;have e3:upd H2 p3 (.lst [.ref l1,.ref l2]) p3=some (.lst [.ref l1,.ref l2]):=ao;have l1p:l1≠p:=fun z=>by subst z;obtain⟨_,_,u,_⟩:=hp;rw[hl1] at u;cases u
    have l2p:l2≠p:=fun z=>by subst z;obtain⟨_,_,u,_⟩:=uf;rw[e2'] at u;cases u
    have p3p:p3≠p:=fun z=>by subst z;obtain⟨_,_,u,_⟩:=(hp.keep (s1.trans s2));rw[hp3] at u;cases u
    generalize upd H2 p3 (.lst [.ref l1,.ref l2])=H3 at sH uf e1' e2' e3 ⊢;refine⟨p,_,rfl,uf,by decide,by decide,fun d H4 hd0 hd1 yM xM=>?_⟩;have e34:=xM _ _ p3p e3;have:d=0∨d=1:=by omega
    simp -dsimp
    rcases this with rfl | rfl
    ·exact⟨_,.inl (aX.of e34),_,aV (j:=0) rfl,q l1 H4 l1p (.inl (xM _ _ l1p e1')) yM ((But.of sH).trans xM)⟩
    ·exact⟨_,.inl (aX.of e34),_,aV (j:=1) rfl,q l2 H4 l2p (.inr (xM _ _ l2p e2')) yM ((But.of sH).trans xM)⟩
def jz (H:Hp) (t n l:Addr) (xs:List Str) (tv:List V) (ps:List (Str×Str)):Prop:=H t=some (.tup [.ref n,.ref l])∧H n=some (.lst (xs.map V.str))∧H l=some (.lst tv)∧bJ H tv ps∧Zy xs∧JC xs ps
theorem jz.same {H H':Hp} {t n l:Addr} {xs:List Str} {tv:List V} {ps:List (Str×Str)} (h:jz H t n l xs tv ps) (s:Same H H'):jz H' t n l xs tv ps:=⟨s _ _ h.1,s _ _ h.2.1,s _ _ h.2.2.1,bJ.same h.2.2.2.1 s,h.2.2.2.2⟩
theorem int_at {ns:List Int} {i:Nat} {x:V} (h:(ns.map V.int)[i]? = some x):∃m,ns[i]? = some m∧x = .int m:=by
  rw[List.getElem?_map] at h;cases hn:ns[i]? with
  | none=>rw[hn] at h;cases h
  | some n=>rw[hn] at h;cases h;exact⟨n,rfl,rfl⟩
theorem Z0 (e:Str×Str) {m:Int} (h0:0≤m) (h1:m≤1):Ce [V.str e.1,V.str e.2] (1 - m)=some (.str (k_ m e)):=by
  have:m=0∨m=1:=by omega
  rcases this with rfl | rfl
  ·exact aV (j:=1) rfl
  ·exact aV (j:=0) rfl
theorem ig.Z1 {p b:Addr} {H:Hp} {o:HO} (x:ig H p) (h:H b=some o) (hn:∀zs,o≠.lst zs):b≠p:=fun z=>by
  subst z;obtain⟨u,v,e,_⟩:=x;rw[h] at e;exact hn _ (Option.some.inj e)
theorem g8.but {C p:Addr} {H H':Hp} {o:Addr} {xs:List Str} {ps:List (Str×Str)} (h:g8 C H o xs ps) (hp:ig H p) (b:But p H H'):g8 C H' o xs ps:=by
  obtain⟨dx,n,m,tv,h1,h2,h3,h4,h5⟩:=h.ex;exact⟨⟨dx,n,m,tv,b _ _ (hp.Z1 h1 (by intro zs z;cases z)) h1,b _ _ (hp.Z1 h2 (by intro zs z;cases z)) h2,b _ _ (hp.Z1 h3 (by intro zs z;cases z)) h3,h4.but hp b,h5⟩⟩
theorem jz.but {p:Addr} {H H':Hp} {t n l:Addr} {xs:List Str} {tv:List V} {ps:List (Str×Str)} (h:jz H t n l xs tv ps) (hp:ig H p) (b:But p H H') (np:n≠p) (lp:l≠p):jz H' t n l xs tv ps:=
  ⟨b _ _ (hp.Z1 h.1 (by intro zs z;cases z)) h.1,b _ _ np h.2.1,b _ _ lp h.2.2.1,h.2.2.2.1.but hp b,h.2.2.2.2⟩
theorem Kd:∀(ns:List Int) (ps:List (Str×Str)) (i:Nat) (n:Int) (e:Str×Str),ns[i]? = some n→ps[i]? = some e→bN (ns.take (i+1)) (ps.take (i+1))=bN (ns.take i) (ps.take i)++[k_ n e]
  | [],_,i,n,e,h,_=>by simp at h
  | m::ns,[],i,n,e,_,h=>by simp at h
  | m::ns,d::ps,0,n,e,h1,h2=>by
    simp at h1 h2;subst h1 h2;simp[bN]
  | m::ns,d::ps,i+1,n,e,h1,h2=>by
    have:=Kd ns ps i n e (by simpa using h1) (by simpa using h2);rw[List.take_succ_cons,List.take_succ_cons,bN,this];simp[bN]
theorem xQ:∀(ns:List Int) (ps:List (Str×Str)),(bN ns ps).length≤ns.length
  | [],_=>by simp[bN]
  | n::ns,[]=>by simp[bN]
  | n::ns,e::ps=>by
    have:=xQ ns ps;simp[bN];omega
def qcP:Sp:=fun vs H Q _=>∃(t n l g:Addr) (xs:List Str) (tv:List V) (ps:List (Str×Str)) (ns:List Int),vs=[.ref t,.ref g]∧jz H t n l xs tv ps∧H g=some (.lst (ns.map V.int))∧ns.length=ps.length∧(∀n∈ns,0≤n∧n≤1)∧
  ∀(r:Addr) (H':Hp),H r=none→H' r=some (.lst ((xs.map fun x=>((bN ns ps).count x:Int)).map V.int))→Same H H'→Q (.ref r) H'
theorem Wn (T:Txt K mg a):cF P w K mg base jA 1 a.vG a.GJ ["_law_web_here", "_law_pointing"] qcP:=by
  refine T.O9.oO VB (fun vs H Q E h=>?_) (fun cdv A outer s H vs Q E hr h=>?_)
  ·obtain⟨t,n,l,g,xs,tv,ps,ns,rfl,_⟩:=h;rfl
  · obtain⟨t,n,l,g,xs,tv,ps,ns,rfl,⟨ht,hn,hl,htv,hX,hTs⟩,hg,hlen,h01,q⟩:=h;refine⟨_,(aA (bA (i:=2) VB.nd rfl (Or.inr rfl) (cJ rfl rfl (show aQ (ak rG) _ ["_law_web_here", "_law_pointing", "_law_goals"] ["_law_tie_here", "_law_turn"] [] ["_law_tie_here", "_law_turn"] from⟨rfl,by decide+kernel,by decide+kernel,rfl,by decide+kernel,by decide+kernel⟩) rfl (PI.eqv (N8 (K:=K) rfl rfl T.nm.zip (aj (bQ (bT (K:=K) rfl) (aK 0) aG (fun _ _=>rfl)) (aj (aK 1) aq))) (IV _ _)) (fun C s H fp pn=>(PG.eqv (fH (K:=K) (n:=2) rfl rfl (g_.eqv (bh (aO (i:=0) (show(["_law_tie_here", "_law_turn"]:List Str).Nodup by decide+kernel) rfl (Or.inl rfl)) (g_.eqv (bh (aO (i:=1) (show(["_law_tie_here", "_law_turn"]:List Str).Nodup by decide+kernel) rfl (Or.inl rfl)) (g_.mono eE gD)) (bx _ _))) (bx _ _))) (fK _ _ _))) (fun C s H fp pn=>dz) (fun C s H fp pn=>(bQ (bT (K:=K) rfl) (aK 0) (cD pJ aG (aK 1)) (fun _ _=>rfl)))))
      (aD (aY (cJ rfl rfl (show aQ (ak rG) _ ["_law_web_here", "_law_pointing", "_law_goals"] ["_law_name"] [2] ["_law_name", "_law_goals"] from⟨rfl,by decide+kernel,by decide+kernel,rfl,by decide+kernel,by decide+kernel⟩) rfl (PI.eqv (cN (K:=K) rfl (bQ (bT (K:=K) rfl) (aK 0) aG (fun _ _=>rfl))) (bZ _ _)) (fun C s H fp pn=>(aO (i:=0) (show(["_law_name", "_law_goals"]:List Str).Nodup by decide+kernel) rfl (Or.inr rfl))) (fun C s H fp pn=>dz) (fun C s H fp pn=>(aM (bV (K:=K) rfl) rfl T.nm.len PySem.boot_len (aj (Ug (show aQ (_) _ ["_law_name", "_law_goals"] ["_law_goal"] [0] ["_law_goal", "_law_name"] from⟨rfl,by decide+kernel,by decide+kernel,rfl,by decide+kernel,by decide+kernel⟩) rfl (PI.eqv (cN (K:=K) rfl (aK 1)) (bZ _ _)) (fun C s H fp pn=>(aO (i:=0) (show(["_law_goal", "_law_name"]:List Str).Nodup by decide+kernel) rfl (Or.inl rfl))) (fun C s H fp pn=>(gw (aR lg (aK 0) (aK 1) (bC _)))) (fun C s H fp pn=>(aK 0))) aq))))))),?_⟩
    have Rh:60≤sizeLine:=by decide
    have CT:=hTs.len;have tl:=htv.1;simp -dsimp;refine⟨_,.inr (d9.of ht),_,aV (j:=1) rfl,?_⟩;simp -dsimp;refine⟨⟨_,aX.of hl⟩,⟨_,aX.of hg⟩,fun D hD=>cmZ tv (ns.map V.int) (fun i σ H'=>(∃o1 o2,σ=[o1,o2])∧H' D=some (.lst ((bN (ns.take i) (ps.take i)).map V.str))∧Same H H') ⟨⟨_,_,rfl⟩,by rw[ao];simp[bN],au hD⟩ (by simp;omega) (fun i σ H' _ h=>⟨aX.of (h.2.2 _ _ hl),aX.of (h.2.2 _ _ hg)⟩) ?_ ?_⟩
    ·rintro i x y tt σ H2 hi hj htt ⟨⟨o1,o2,rfl⟩,hD2,s2⟩;obtain⟨e,he,t2,rfl,rP⟩:=htv.at hi;obtain⟨m,hm,rfl⟩:=int_at hj;have hm2:=h01 m (List.mem_of_getElem? hm);have hi2:i<ps.length:=(List.getElem?_eq_some_iff.mp he).1;have st:Same H2 (upd H2 tt (.tup [.ref t2,.int m])):=au htt;have hgl:=xQ (ns.take i) (ps.take i);rw[List.length_take] at hgl;rw[Kd ns ps i m e hm he,List.map_append];have hat:=Z0 e hm2.1 hm2.2;simp -dsimp;refine⟨_,d9.of ao,rfl,?_⟩;simp -dsimp;refine⟨_,.inr (d9.of (st _ _ (s2 _ _ rP))),_,hat,_,st _ _ hD2,by simp;omega,?_,aW (s2.trans st) hD⟩;rw[ao]
    · rintro σ H2 ⟨⟨o1,o2,rfl⟩,hD2,s2⟩;have e1:ns.take tv.length=ns:=List.take_of_length_le (by omega);have e2:ps.take tv.length=ps:=List.take_of_length_le (by omega);rw[e1,e2] at hD2;have hgl:=xQ ns ps;simp -dsimp;refine⟨_,.inr (d9.of (s2 _ _ ht)),_,aV (j:=0) rfl,?_⟩;simp -dsimp;refine⟨⟨_,aX.of (s2 _ _ hn)⟩,fun D2 qP=>Oa (xs.map V.str) (fun i σ H'=>(∃o',σ=[o',some (.ref D)])∧H' D2=some (.lst (((xs.take i).map fun x=>((bN ns ps).count x:Int)).map V.int))∧Same H2 H') ⟨⟨_,rfl⟩,ao,au qP⟩ (fun i σ H' _ h=>aX.of (h.2.2 _ _ (s2 _ _ hn))) ?_ ?_⟩
      · rintro i x σ H3 hi ⟨⟨o',rfl⟩,mz,s3⟩;obtain⟨y,hy,rfl⟩:=iK hi;have hi2:i<xs.length:=(List.getElem?_eq_some_iff.mp hy).1;have l9:=hX.len;have yL:=s3 _ _ hD2;rw[take_one hy,List.map_append,List.map_append];simp -dsimp;refine⟨⟨_,aX.of yL⟩,fun D3 qfh=>Oa ((bN ns ps).map V.str) (fun j σ H'=>(∃o'',σ=[o'',some (.str y)])∧(∃zs,H' D3=some (.lst zs)∧zs.length=((bN ns ps).take j).count y)∧Same H3 H') ⟨⟨_,rfl⟩,⟨[],ao,rfl⟩,au qfh⟩ (fun j σ H' _ h=>aX.of (h.2.2 _ _ yL)) ?_ ?_⟩
        · rintro j x σ H4 hj ⟨⟨o'',rfl⟩,⟨zs,oR,hz⟩,s4⟩;obtain⟨z,hz2,rfl⟩:=iK hj;have hj2:j<(bN ns ps).length:=(List.getElem?_eq_some_iff.mp hz2).1;have hcl:((bN ns ps).take j).count y≤((bN ns ps).take j).length:=List.count_le_length;rw[List.length_take] at hcl;rw[take_one hz2,List.count_append];simp -dsimp;refine fB.of (fun h=>?_) (fun h=>?_)
          · have h':z=y:=by simpa using h
            simp -dsimp;refine⟨_,oR,by omega,⟨_,ao,?_⟩,aW s4 qfh⟩;simp[hz,h']
          · have h':¬z=y:=by simpa using h
            simp -dsimp;refine⟨⟨_,oR,?_⟩,s4⟩;simp[hz,h']
        ·rintro σ H4 ⟨⟨o'',rfl⟩,⟨zs,oR,hz⟩,s4⟩;rw[List.length_map,List.take_length] at hz;simp -dsimp;refine⟨_,.inl (aX.of oR),_,s4 _ _ mz,by simp;omega,?_,aW (s3.trans s4) qP⟩;rw[ao,hz];simp
      ·rintro σ H3 ⟨⟨o',rfl⟩,mz,s3⟩;rw[List.length_map,List.take_length] at mz;simp -dsimp;exact q D2 H3 (cu s2 qP) mz (s2.trans s3)
def nU (c:List Str):List (Str×Str)→Nat
  | []=>0
  | e::ps=>(if e.1∈c∨e.2∈c then 1 else 0)+nU c ps
theorem Wo (c:List Str):∀{ns:List Int} {ps:List (Str×Str)},ns.length=ps.length→(∀(j:Nat) n e,ns[j]? = some n→ps[j]? = some e→u5 n e∈c→k_ n e∈c)→nU c ps≤((bN ns ps).filter fun x=>decide (x∈c)).length
  | [],[],_,_=>Nat.le_refl _
  | [],_::_,h,_=>by simp at h
  | _::_,[],h,_=>by simp at h
  | n::ns,e::ps,h,hc=>by
    have ih:=Wo c (ns:=ns) (ps:=ps) (by simpa using h) fun j k d a b=>hc (j+1) k d (by simpa using a) (by simpa using b);have h0:=hc 0 n e rfl rfl;simp only[nU,bN];unfold u5 k_ at h0;unfold k_
    by_cases hn:n=0 <;> by_cases a1:e.1∈c <;> by_cases a2:e.2∈c <;> simp[hn,a1,a2] at h0 ⊢ <;> omega
theorem PB (c:List Str):∀{ns:List Int} {ps:List (Str×Str)},ns.length=ps.length→(∀(j:Nat) n e,ns[j]? = some n→ps[j]? = some e→k_ n e∈c→u5 n e∈c)→((bN ns ps).filter fun x=>decide (x∈c)).length≤fZ c ps
  | [],[],_,_=>Nat.le_refl _
  | [],_::_,h,_=>by simp at h
  | _::_,[],h,_=>by simp at h
  | n::ns,e::ps,h,hc=>by
    have ih:=PB c (ns:=ns) (ps:=ps) (by simpa using h) fun j k d a b=>hc (j+1) k d (by simpa using a) (by simpa using b);have h0:=hc 0 n e rfl rfl;simp only[fZ,bN];unfold u5 k_ at h0;unfold k_
    by_cases hn:n=0 <;> by_cases a1:e.1∈c <;> by_cases a2:e.2∈c <;> simp[hn,a1,a2] at h0 ⊢ <;> omega
theorem Rt {xs:List Str} (p:Str→Bool):(xs.filter fun y=>decide (y∈xs.filter p))=xs.filter p:=List.filter_congr fun y hy=>by
  rw[Bool.eq_iff_iff,decide_eq_true_eq,List.mem_filter];exact⟨fun h=>h.2,fun h=>⟨hy,h⟩⟩
theorem Wq {xs:List Str} {ns:List Int} {ps:List (Str×Str)} (nd:xs.Nodup) (hp:∀e∈ps,e.1∈xs∧e.2∈xs) (p:Str→Bool):((bN ns ps).filter fun x=>decide (x∈xs.filter p)).length=((xs.filter p).map (inN ns ps)).sum:=by
  have e1:=yO nd (fun x=>decide (x∈xs.filter p)) (L:=bN ns ps) (su hp);rw[Rt] at e1;exact e1
theorem Ke {xs:List Str} {ns:List Int} {ps:List (Str×Str)} {g:Str→Nat} (nd:xs.Nodup) (hp:∀e∈ps,e.1∈xs∧e.2∈xs) (h1:ns.length=ps.length) {p:Str→Bool} {L M:List Str}
    (hL:∀y,y∈L↔y∈xs∧inN ns ps y<g y) (hM:∀y,y∈M↔y∈xs∧g y<inN ns ps y) (hpp:∀x,p x=true↔∃s∈L,RT (iy (mC ns ps 0)) s x) (hno:∀s∈L,∀e∈M,¬RT (iy (mC ns ps 0)) s e) (hpos:0<L.length) :
    nU (xs.filter p) ps<((xs.filter p).map g).sum∧0<(xs.filter p).length:=by
  obtain⟨y,hy⟩:=List.exists_mem_of_length_pos hpos;obtain⟨hyx,hlt⟩:=(hL y).mp hy;have hyc:y∈xs.filter p:=List.mem_filter.mpr ⟨hyx,(hpp y).mpr ⟨y,hy,.refl _⟩⟩;refine⟨?_,List.length_pos_of_mem hyc⟩;have a1:=Wo (xs.filter p) h1 fun j n e b1 b2 ho=>by
    have he:=hp e (List.mem_of_getElem? b2);rw[List.mem_filter] at ho ⊢;obtain⟨s,hs,hr⟩:=(hpp _).mp ho.2;refine⟨?_,(hpp _).mpr ⟨s,hs,.tail hr ⟨j,rF.mpr ⟨j,n,e,b1,b2,rfl⟩⟩⟩⟩;unfold k_;split
    ·exact he.2
    ·exact he.1
  rw[Wq nd hp] at a1;refine Nat.lt_of_le_of_lt a1 (Hf (y:=y) (fun x hx=>?_) hyc hlt);obtain⟨hx1,hx2⟩:=List.mem_filter.mp hx;obtain⟨s,hs,hr⟩:=(hpp _).mp hx2;exact Nat.not_lt.mp fun z=>hno s hs x ((hM x).mpr ⟨hx1,z⟩) hr
theorem Mx {xs:List Str} {ns:List Int} {ps:List (Str×Str)} {g:Str→Nat} (nd:xs.Nodup) (hp:∀e∈ps,e.1∈xs∧e.2∈xs) (h1:ns.length=ps.length) {p:Str→Bool} {M:List Str}
    (hL:∀y∈xs,¬inN ns ps y<g y) (hM:∀y,y∈M↔y∈xs∧g y<inN ns ps y) (hpp:∀x,p x=true↔∃e∈M,RT (iy (mC ns ps 0)) x e) (hpos:0<M.length) :
    ((xs.filter p).map g).sum<fZ (xs.filter p) ps∧0<(xs.filter p).length:=by
  obtain⟨y,hy⟩:=List.exists_mem_of_length_pos hpos;obtain⟨hyx,hlt⟩:=(hM y).mp hy;have hyc:y∈xs.filter p:=List.mem_filter.mpr ⟨hyx,(hpp y).mpr ⟨y,hy,.refl _⟩⟩;refine⟨?_,List.length_pos_of_mem hyc⟩;have a1:=PB (xs.filter p) h1 fun j n e b1 b2 ho=>by
    have he:=hp e (List.mem_of_getElem? b2);rw[List.mem_filter] at ho ⊢;obtain⟨s,hs,hr⟩:=(hpp _).mp ho.2;refine⟨?_,(hpp _).mpr ⟨s,hs,(RT.one ⟨j,rF.mpr ⟨j,n,e,b1,b2,rfl⟩⟩).trans hr⟩⟩;unfold u5;split
    ·exact he.1
    ·exact he.2
  rw[Wq nd hp] at a1;refine Nat.lt_of_lt_of_le (Hf (y:=y) (fun x hx=>?_) hyc hlt) a1;exact Nat.not_lt.mp (hL x (List.mem_filter.mp hx).1)
def qQ (m k:Nat):Bool:=decide (m / 2 ^ k % 2=1)
def nq (b:Nat→Bool) (xs:List Str):List Str:=(xs.zipIdx.filter fun e=>b e.2).map (·.1)
theorem bits_sub (b:Nat→Bool) (xs:List Str):(nq b xs).Sublist xs:=by
  have h:=List.Sublist.map (fun e:Str×Nat=>e.1) (List.filter_sublist (p:=fun e:Str×Nat=>b e.2) (l:=xs.zipIdx));rw[List.zipIdx_map_fst] at h;exact h
theorem Ew {b:Nat→Bool} {l:List Str} {x:Str}:nq b (l++[x])=nq b l++if b l.length=true then [x] else []:=by
  unfold nq;rw[List.zipIdx_append,List.filter_append,List.map_append]
  by_cases h:b l.length=true <;> simp[h]
theorem PJ (q:Str→Bool):∀(xs:List Str) (k:Nat),∃m,m<2 ^ xs.length∧∀b:Nat→Bool,(∀i,i<xs.length→b (k+i)=qQ m i)→((xs.zipIdx k).filter fun e=>b e.2).map (·.1)=xs.filter q
  | [],k=>⟨0,by simp,fun b _=>by simp⟩
  | x::xs,k=>by
    obtain⟨m,hm,h⟩:=PJ q xs (k+1);refine⟨2 * m+(if q x=true then 1 else 0),?_,fun b hb=>?_⟩
    ·rw[List.length_cons,Nat.pow_succ];split <;> omega
    · have b0:=hb 0 (by simp);have hb':∀i,i<xs.length→b (k+1+i)=qQ m i:=fun i hi=>by
        have:=hb (i+1) (by simp;omega);rw[show k+1+i=k+(i+1) by omega,this];unfold qQ;rw[Nat.pow_succ,Nat.mul_comm (2 ^ i) 2,← Nat.div_div_eq_div_mul];have:(2 * m+(if q x=true then 1 else 0)) / 2=m:=by split <;> omega
        rw[this]
      rw[List.zipIdx_cons,List.filter_cons,List.filter_cons];have e0:b k=q x:=by
        rw[show k=k+0 from rfl,b0];unfold qQ;rw[Nat.pow_zero,Nat.div_one];cases hq:q x with
        | true=>simp
        | false=>simp
      have ih:=h b hb';dsimp only;rw[e0];cases hq:q x with
      | true=>simp only[if_true,List.map_cons];rw[ih]
      | false=>simp only[Bool.false_eq_true,if_false];exact ih
theorem yg (q:Str→Bool) (xs:List Str):∃m,m<2 ^ xs.length∧nq (qQ m) xs=xs.filter q:=by
  obtain⟨m,hm,h⟩:=PJ q xs 0;exact⟨m,hm,h (qQ m) fun i _=>by rw[Nat.zero_add]⟩
def Mz (xs:List Str) (ps:List (Str×Str)) (g:Str→Nat):Prop:=(xs.map g).sum=ps.length∧∀m,m<2 ^ xs.length→fZ (nq (qQ m) xs) ps≤((nq (qQ m) xs).map g).sum
theorem Wr {xs:List Str} {ks:List Int} {ps:List (Str×Str)} (nd:xs.Nodup) (hp:∀e∈ps,e.1∈xs∧e.2∈xs) (hk:ks.length=ps.length):(xs.map (inN ks ps)).sum=ps.length:=by
  have:=yO nd (fun _=>true) (L:=bN ks ps) (su hp);rw[List.filter_eq_self.mpr (by simp),List.filter_eq_self.mpr (by simp),JW hk] at this;exact this.symm
theorem MF {xs c:List Str} (nd:xs.Nodup) (h:c.Sublist xs):(xs.filter fun y=>decide (y∈c))=c:=by
  induction h with
  | slnil=>rfl
  | cons a h ih=>
    rename_i l1 l2;have ha:a∉l1:=fun z=>(List.nodup_cons.mp nd).1 (h.subset z);rw[List.filter_cons_of_neg (by simpa using ha)];exact ih (List.nodup_cons.mp nd).2
  | cons_cons a h ih=>
    rename_i l1 l2;have ha:=(List.nodup_cons.mp nd).1;rw[List.filter_cons_of_pos (by simp)];congr 1;have e:(l2.filter fun y=>decide (y∈a::l1))=l2.filter fun y=>decide (y∈l1):=List.filter_congr fun y hy=>by
      have:y≠a:=fun z=>ha (z▸hy);simp[this]
    rw[e];exact ih (List.nodup_cons.mp nd).2
theorem qcQ {xs:List Str} {ns:List Int} {ps:List (Str×Str)} {g:Str→Nat} (nd:xs.Nodup) (hp:∀e∈ps,e.1∈xs∧e.2∈xs) (hk:ns.length=ps.length) (he:∀x∈xs,inN ns ps x=g x):Mz xs ps g:=by
  refine⟨?_,fun m _=>?_⟩
  ·rw[← Wr nd hp hk];congr 1;exact List.map_congr_left fun x hx=>(he x hx).symm
  ·have hs:=bits_sub (qQ m) xs;generalize nq (qQ m) xs=c at hs;have e1:=yO nd (fun x=>decide (x∈c)) (L:=bN ns ps) (su hp);rw[JX c hk,MF nd hs] at e1;have e2:(c.map fun x=>(bN ns ps).count x)=c.map g:=List.map_congr_left fun x hx=>he x (hs.subset hx);rw[e2] at e1;omega
theorem Kf {xs:List Str} (p:Str→Bool):∀{ps:List (Str×Str)},(∀e∈ps,e.1∈xs∧e.2∈xs)→nU (xs.filter p) ps+fZ (xs.filter fun x=>!p x) ps=ps.length
  | [],_=>rfl
  | e::ps,h=>by
    have ih:=Kf p (xs:=xs) (ps:=ps) fun d hd=>h d (List.mem_cons_of_mem _ hd);have he:=h e List.mem_cons_self;simp only[nU,fZ,List.length_cons,List.mem_filter,he.1,he.2,true_and];cases p e.1 <;> cases p e.2 <;> simp <;> omega
theorem Ru {xs:List Str} (p:Str→Bool) (g:Str→Nat):((xs.filter p).map g).sum+((xs.filter fun x=>!p x).map g).sum=(xs.map g).sum:=by
  induction xs with
  | nil=>rfl
  | cons x xs ih=>
    rw[List.filter_cons,List.filter_cons,List.map_cons,List.sum_cons];cases p x <;> simp <;> omega
theorem Ws {xs:List Str} {ps:List (Str×Str)} {g:Str→Nat} (hp:∀e∈ps,e.1∈xs∧e.2∈xs) {p:Str→Bool} (h:nU (xs.filter p) ps<((xs.filter p).map g).sum):¬Mz xs ps g:=fun⟨h1,h2⟩=>by
  obtain⟨m,hm,e⟩:=yg (fun x=>!p x) xs;have a:=h2 m hm;rw[e] at a;have b:=Kf p (xs:=xs) hp;have c:=Ru (xs:=xs) p g;omega
theorem Z2 {xs:List Str} {ps:List (Str×Str)} {g:Str→Nat} {p:Str→Bool} (h:((xs.filter p).map g).sum<fZ (xs.filter p) ps):¬Mz xs ps g:=fun⟨_,h2⟩=>by
  obtain⟨m,hm,e⟩:=yg p xs;have a:=h2 m hm;rw[e] at a;omega
def PK (xs:List Str) (ps:List (Str×Str)) (g:Str→Nat) (w:Str) (c:List Str):Prop:=(∃p:Str→Bool,c=xs.filter p)∧0<c.length∧((w = "touching" ∧nU c ps<(c.map g).sum)∨(w = "within" ∧(c.map g).sum<fZ c ps))
theorem Z4 {xs:List Str} {ps:List (Str×Str)} {g:Str→Nat} {w:Str} {c:List Str} (hp:∀e∈ps,e.1∈xs∧e.2∈xs) (h:PK xs ps g w c):¬Mz xs ps g:=by
  obtain⟨⟨p,rfl⟩,_,⟨_,h⟩ | ⟨_,h⟩⟩:=h
  ·exact Ws hp h
  ·exact Z2 h
theorem Wt {xs:List Str} {ns:List Int} {ps:List (Str×Str)} {g:Str→Nat} {w:Str} {c:List Str} (nd:xs.Nodup) (hp:∀e∈ps,e.1∈xs∧e.2∈xs) (h1:ns.length=ps.length)
    (h:qcL (mC ns ps 0) xs (gY xs (fun x=>(inN ns ps x:Int)) fun x=>(g x:Int)) (gY xs (fun x=>(g x:Int)) fun x=>(inN ns ps x:Int)) w c)
    (hno:∀s∈gY xs (fun x=>(inN ns ps x:Int)) (fun x=>(g x:Int)),∀e∈gY xs (fun x=>(g x:Int)) (fun x=>(inN ns ps x:Int)),¬RT (iy (mC ns ps 0)) s e)
    (hgap:0<(gY xs (fun x=>(inN ns ps x:Int)) fun x=>(g x:Int)).length∨0<(gY xs (fun x=>(g x:Int)) fun x=>(inN ns ps x:Int)).length):PK xs ps g w c:=by
  obtain⟨h0,rfl,p,hpp,rfl⟩ | ⟨h0,rfl,p,hpp,rfl⟩:=h
  ·obtain⟨a,b⟩:=Ke nd hp h1 (fun y=>nj) (fun y=>nj) hpp hno h0;exact⟨⟨p,rfl⟩,b,.inl ⟨rfl,a⟩⟩
  ·obtain⟨a,b⟩:=Mx nd hp h1 (fun y hy z=>absurd (List.length_pos_of_mem (nj.mpr ⟨hy,z⟩)) (by omega)) (fun y=>nj) hpp (by omega);exact⟨⟨p,rfl⟩,b,.inr ⟨rfl,a⟩⟩
theorem Hg {c:List Str}:∀{ps:List (Str×Str)} {i:Nat} {e:Str×Str},ps[i]? = some e→fZ c (ps.take (i+1))=fZ c (ps.take i)+(if e.1∈c∧e.2∈c then 1 else 0)
  | [],i,e,h=>by simp at h
  | d::ps,0,e,h=>by simp at h;subst h;simp[fZ]
  | d::ps,i+1,e,h=>by
    have:=Hg (c:=c) (ps:=ps) (i:=i) (e:=e) (by simpa using h);rw[List.take_succ_cons,fZ,this,List.take_succ_cons,fZ];omega
theorem MJ {c:List Str}:∀{ps:List (Str×Str)} {i:Nat} {e:Str×Str},ps[i]? = some e→nU c (ps.take (i+1))=nU c (ps.take i)+(if e.1∈c∨e.2∈c then 1 else 0)
  | [],i,e,h=>by simp at h
  | d::ps,0,e,h=>by simp at h;subst h;simp[nU]
  | d::ps,i+1,e,h=>by
    have:=MJ (c:=c) (ps:=ps) (i:=i) (e:=e) (by simpa using h);rw[List.take_succ_cons,nU,this,List.take_succ_cons,nU];omega
theorem Bo {c:List Str}:∀{ps:List (Str×Str)},fZ c ps≤ps.length
  | []=>Nat.le_refl _
  | e::ps=>by
    have:=Bo (c:=c) (ps:=ps);simp only[fZ,List.length_cons];split <;> omega
theorem Hh {c:List Str}:∀{ps:List (Str×Str)},nU c ps≤ps.length
  | []=>Nat.le_refl _
  | e::ps=>by
    have:=Hh (c:=c) (ps:=ps);simp only[nU,List.length_cons];split <;> omega
theorem iG {H H':Hp} {e:Addr} (h:LC H e) (s:Same H H'):LC H' e:=by
  obtain⟨C,od,h⟩:=h;exact⟨C,od,s _ _ h⟩
def MK:Sp:=fun vs H Q _=>∃(t n l cl:Addr) (xs c:List Str) (tv:List V) (ps:List (Str×Str)),vs=[.ref t,.ref cl]∧jz H t n l xs tv ps∧H cl=some (.lst (c.map V.str))∧
  ∀(r:Addr) (H':Hp),H r=none→H' r=some (.tup [.int (fZ c ps),.int (nU c ps)])→Same H H'→Q (.ref r) H'
theorem MN (T:Txt K mg a):cF P w K mg base jA 1 a.gk a.mK ["_law_web_here", "_law_part"] MK:=by
  refine T.pC.oO pU (fun vs H Q E h=>?_) (fun cdv A outer s H vs Q E hr h=>?_)
  ·obtain⟨t,n,l,cl,xs,c,tv,ps,rfl,_⟩:=h;rfl
  · obtain⟨t,n,l,cl,xs,c,tv,ps,rfl,hG,hc,q⟩:=h;refine⟨_,(aA (bA (i:=2) pU.nd rfl (Or.inl rfl) (aM (bV (K:=K) rfl) rfl T.nm.len PySem.boot_len (aj (cJ rfl rfl (show aQ (ak dY) _ ["_law_web_here", "_law_part", "_law_inner"] ["_law_tie_here"] [1] ["_law_tie_here", "_law_part"] from⟨rfl,by decide+kernel,by decide+kernel,rfl,by decide+kernel,by decide+kernel⟩) rfl (PI.eqv (cN (K:=K) rfl (bQ (bT (K:=K) rfl) (aK 0) aG (fun _ _=>rfl))) (bZ _ _)) (fun C s H fp pn=>(aO (i:=0) (show(["_law_tie_here", "_law_part"]:List Str).Nodup by decide+kernel) rfl (Or.inl rfl))) (fun C s H fp pn=>(gw (PW.pt (wC (aR (yq (K:=K) rfl) (bQ (bT (K:=K) rfl) (aK 0) aG (fun _ _=>rfl)) (aK 1) rfl) (uI (aR (yq (K:=K) rfl) (bQ (bT (K:=K) rfl) (aK 0) aG (fun _ _=>rfl)) (aK 1) rfl)))))) (fun C s H fp pn=>(aK 0))) aq)))
      (aD (aY (iW (aj (aK 2) (aj (aM (bV (K:=K) rfl) rfl T.nm.len PySem.boot_len (aj (cJ rfl rfl (show aQ (ak dY) _ ["_law_web_here", "_law_part", "_law_inner"] ["_law_tie_here"] [1] ["_law_tie_here", "_law_part"] from⟨rfl,by decide+kernel,by decide+kernel,rfl,by decide+kernel,by decide+kernel⟩) rfl (PI.eqv (cN (K:=K) rfl (bQ (bT (K:=K) rfl) (aK 0) aG (fun _ _=>rfl))) (bZ _ _)) (fun C s H fp pn=>(aO (i:=0) (show(["_law_tie_here", "_law_part"]:List Str).Nodup by decide+kernel) rfl (Or.inl rfl))) (fun C s H fp pn=>(gw (PW.pt (lY (aR (yq (K:=K) rfl) (bQ (bT (K:=K) rfl) (aK 0) aG (fun _ _=>rfl)) (aK 1) rfl) (iV (aR (yq (K:=K) rfl) (bQ (bT (K:=K) rfl) (aK 0) aG (fun _ _=>rfl)) (aK 1) rfl)))))) (fun C s H fp pn=>(aK 0))) aq)) aq)))))),?_⟩
    have Rh:60≤sizeLine:=by decide
    have CT:=hG.2.2.2.2.2.len;have tl:=hG.2.2.2.1.1;have fl:∀z∈c.map V.str,gB z=true:=List.all_eq_true.mp (wO _);simp -dsimp;refine⟨_,.inr (d9.of hG.1),_,aV (j:=1) rfl,?_⟩;simp -dsimp;refine⟨⟨_,aX.of hG.2.2.1⟩,fun D hD=>Oa tv (fun i σ H'=>(∃o',σ=[o',some (.ref cl)])∧(∃zs,H' D=some (.lst zs)∧zs.length=fZ c (ps.take i))∧Same H H') ⟨⟨_,rfl⟩,⟨[],ao,by simp[fZ]⟩,au hD⟩ (fun i σ H' _ h=>aX.of (h.2.2 _ _ hG.2.2.1)) ?_ ?_⟩
    · rintro i x σ H2 hi ⟨⟨o',rfl⟩,⟨zs,hD2,hz⟩,s2⟩;obtain⟨e,he,t2,rfl,rP⟩:=hG.2.2.2.1.at hi;have hi2:i<ps.length:=(List.getElem?_eq_some_iff.mp he).1;have wl:=Bo (c:=c) (ps:=ps.take i);rw[List.length_take] at wl;rw[Hg he];simp -dsimp;refine⟨_,.inr (d9.of (s2 _ _ rP)),_,aV (j:=0) rfl,_,.inl (aX.of (s2 _ _ hc)),rfl,fl,fB.of (fun h=>?_) (fun h=>?_)⟩
      · rw[bH] at h;have h':=of_decide_eq_true h;simp -dsimp;refine⟨_,.inr (d9.of (s2 _ _ rP)),_,aV (j:=1) rfl,_,.inl (aX.of (s2 _ _ hc)),rfl,fl,fB.of (fun h2=>?_) (fun h2=>?_)⟩
        ·rw[bH] at h2;have h2':=of_decide_eq_true h2;simp -dsimp;refine⟨_,hD2,by omega,⟨_,ao,by simp[hz,h',h2']⟩,aW s2 hD⟩
        ·rw[bH] at h2;have h2':=of_decide_eq_false h2;simp -dsimp;exact⟨⟨_,hD2,by simp[hz,h2']⟩,s2⟩
      ·rw[bH] at h;have h':=of_decide_eq_false h;simp -dsimp;exact⟨⟨_,hD2,by simp[hz,h']⟩,s2⟩
    · rintro σ H2 ⟨⟨o',rfl⟩,⟨zs,hD2,hz⟩,s2⟩;rw[tl,List.take_length] at hz;have Bp:=hG.same s2;have hc2:=s2 _ _ hc;simp -dsimp;refine⟨_,.inl (aX.of hD2),?_⟩;rw[hz];refine⟨_,.inr (d9.of Bp.1),_,aV (j:=1) rfl,?_⟩;simp -dsimp;refine⟨⟨_,aX.of Bp.2.2.1⟩,fun D2 qP=>Oa tv (fun i σ H'=>(∃o',σ=[o',some (.ref cl)])∧(∃zs,H' D2=some (.lst zs)∧zs.length=nU c (ps.take i))∧Same H2 H') ⟨⟨_,rfl⟩,⟨[],ao,by simp[nU]⟩,au qP⟩ (fun i σ H' _ h=>aX.of (h.2.2 _ _ Bp.2.2.1)) ?_ ?_⟩
      · rintro i x σ H3 hi ⟨⟨o',rfl⟩,⟨zs,mz,hz⟩,s3⟩;obtain⟨e,he,t2,rfl,rP⟩:=Bp.2.2.2.1.at hi;have hi2:i<ps.length:=(List.getElem?_eq_some_iff.mp he).1;have wl:=Hh (c:=c) (ps:=ps.take i);rw[List.length_take] at wl;rw[MJ he];simp -dsimp;refine⟨_,.inr (d9.of (s3 _ _ rP)),_,aV (j:=0) rfl,_,.inl (aX.of (s3 _ _ hc2)),rfl,fl,fB.of (fun h=>?_) (fun h=>?_)⟩
        ·rw[bH] at h;have h':=of_decide_eq_true h;simp -dsimp;refine⟨_,mz,by omega,⟨_,ao,by simp[hz,h']⟩,aW s3 qP⟩
        · rw[bH] at h;have h':=of_decide_eq_false h;simp -dsimp;refine⟨_,.inr (d9.of (s3 _ _ rP)),_,aV (j:=1) rfl,_,.inl (aX.of (s3 _ _ hc2)),rfl,fl,fB.of (fun h2=>?_) (fun h2=>?_)⟩
          ·rw[bH] at h2;have h2':=of_decide_eq_true h2;simp -dsimp;refine⟨_,mz,by omega,⟨_,ao,by simp[hz,h2']⟩,aW s3 qP⟩
          ·rw[bH] at h2;have h2':=of_decide_eq_false h2;simp -dsimp;exact⟨⟨_,mz,by simp[hz,h',h2']⟩,s3⟩
      ·rintro σ H3 ⟨⟨o',rfl⟩,⟨zs,mz,hz⟩,s3⟩;rw[tl,List.take_length] at hz;simp -dsimp;refine⟨_,.inl (aX.of mz),?_⟩;rw[hz];intro r hr;exact q r _ (cu (s2.trans s3) hr) ao ((s2.trans s3).trans (au hr))
def Kg:Addr→Sp:=fun e vs H Q _=>∃(t n l cl:Addr) (xs c:List Str) (tv:List V) (ps:List (Str×Str)),vs=[.ref t,.ref cl]∧jz H t n l xs tv ps∧H cl=some (.lst (c.map V.str))∧LC H e∧
  ∀(r:Addr) (H':Hp),H r=none→H' r=some (.tup [.int (fZ c ps),.int (nU c ps)])→Same H H'→Q (.ref r) H'
theorem Kh (T:Txt K mg a):Jh P w K mg base 1 a.gk a.mK ["_law_web_here", "_law_part"] Kg:=by
  refine T.pC.qeR pU (fun e vs H Q E h=>?_) (fun e cdv A outer s H vs Q hr h=>?_)
  ·obtain⟨t,n,l,cl,xs,c,tv,ps,rfl,_⟩:=h;rfl
  · obtain⟨t,n,l,cl,xs,c,tv,ps,rfl,hG,hc,hca,q⟩:=h;refine⟨_,(aA (bA (i:=2) pU.nd rfl (Or.inl rfl) (aM (bV (K:=K) rfl) rfl T.nm.len PySem.boot_len (aj (vg rfl rfl (show aQ (ak dY) _ ["_law_web_here", "_law_part", "_law_inner"] ["_law_tie_here"] [1] ["_law_tie_here", "_law_part"] from⟨rfl,by decide+kernel,by decide+kernel,rfl,by decide+kernel,by decide+kernel⟩) rfl (zT (K:=K) rfl (bQ (bT (K:=K) rfl) (aK 0) aG (fun _ _=>rfl))) (fun C s H fp pn=>(aO (i:=0) (show(["_law_tie_here", "_law_part"]:List Str).Nodup by decide+kernel) rfl (Or.inl rfl))) (fun C s H fp pn=>(gw (PW.pt (wC (aR (yq (K:=K) rfl) (bQ (bT (K:=K) rfl) (aK 0) aG (fun _ _=>rfl)) (aK 1) rfl) (uI (aR (yq (K:=K) rfl) (bQ (bT (K:=K) rfl) (aK 0) aG (fun _ _=>rfl)) (aK 1) rfl)))))) (fun C s H fp pn=>(aK 0))) aq)))
      (aD (aY (iW (aj (aK 2) (aj (aM (bV (K:=K) rfl) rfl T.nm.len PySem.boot_len (aj (vg rfl rfl (show aQ (ak dY) _ ["_law_web_here", "_law_part", "_law_inner"] ["_law_tie_here"] [1] ["_law_tie_here", "_law_part"] from⟨rfl,by decide+kernel,by decide+kernel,rfl,by decide+kernel,by decide+kernel⟩) rfl (zT (K:=K) rfl (bQ (bT (K:=K) rfl) (aK 0) aG (fun _ _=>rfl))) (fun C s H fp pn=>(aO (i:=0) (show(["_law_tie_here", "_law_part"]:List Str).Nodup by decide+kernel) rfl (Or.inl rfl))) (fun C s H fp pn=>(gw (PW.pt (lY (aR (yq (K:=K) rfl) (bQ (bT (K:=K) rfl) (aK 0) aG (fun _ _=>rfl)) (aK 1) rfl) (iV (aR (yq (K:=K) rfl) (bQ (bT (K:=K) rfl) (aK 0) aG (fun _ _=>rfl)) (aK 1) rfl)))))) (fun C s H fp pn=>(aK 0))) aq)) aq)))))),?_⟩
    have Rh:60≤sizeLine:=by decide
    have CT:=hG.2.2.2.2.2.len;have tl:=hG.2.2.2.1.1;have fl:∀z∈c.map V.str,gB z=true:=List.all_eq_true.mp (wO _);simp -dsimp;refine⟨_,.inr (d9.of hG.1),_,aV (j:=1) rfl,?_⟩;simp -dsimp;refine⟨⟨_,aX.of hG.2.2.1⟩,fun D hD=>qcp tv (fun i σ H'=>(∃o',σ=[o',some (.ref cl)])∧(∃zs,H' D=some (.lst zs)∧zs.length=fZ c (ps.take i))∧Same H H') ⟨⟨_,rfl⟩,⟨[],ao,by simp[fZ]⟩,au hD⟩ (fun i σ H' _ h=>⟨aX.of (h.2.2 _ _ hG.2.2.1),iG hca h.2.2⟩) ?_ ?_⟩
    · rintro i x σ H2 hi ⟨⟨o',rfl⟩,⟨zs,hD2,hz⟩,s2⟩;obtain⟨e,he,t2,rfl,rP⟩:=hG.2.2.2.1.at hi;have hi2:i<ps.length:=(List.getElem?_eq_some_iff.mp he).1;have wl:=Bo (c:=c) (ps:=ps.take i);rw[List.length_take] at wl;rw[Hg he];simp -dsimp;refine⟨_,.inr (d9.of (s2 _ _ rP)),_,aV (j:=0) rfl,_,.inl (aX.of (s2 _ _ hc)),rfl,fl,fB.of (fun h=>?_) (fun h=>?_)⟩
      · rw[bH] at h;have h':=of_decide_eq_true h;simp -dsimp;refine⟨_,.inr (d9.of (s2 _ _ rP)),_,aV (j:=1) rfl,_,.inl (aX.of (s2 _ _ hc)),rfl,fl,fB.of (fun h2=>?_) (fun h2=>?_)⟩
        ·rw[bH] at h2;have h2':=of_decide_eq_true h2;simp -dsimp;refine⟨_,hD2,by omega,⟨_,ao,by simp[hz,h',h2']⟩,aW s2 hD⟩
        ·rw[bH] at h2;have h2':=of_decide_eq_false h2;simp -dsimp;exact⟨⟨_,hD2,by simp[hz,h2']⟩,s2⟩
      ·rw[bH] at h;have h':=of_decide_eq_false h;simp -dsimp;exact⟨⟨_,hD2,by simp[hz,h']⟩,s2⟩
    · rintro σ H2 ⟨⟨o',rfl⟩,⟨zs,hD2,hz⟩,s2⟩;rw[tl,List.take_length] at hz;have Bp:=hG.same s2;have hc2:=s2 _ _ hc;simp -dsimp;refine⟨_,.inl (aX.of hD2),?_⟩;rw[hz];refine⟨_,.inr (d9.of Bp.1),_,aV (j:=1) rfl,?_⟩;simp -dsimp;refine⟨⟨_,aX.of Bp.2.2.1⟩,fun D2 qP=>qcp tv (fun i σ H'=>(∃o',σ=[o',some (.ref cl)])∧(∃zs,H' D2=some (.lst zs)∧zs.length=nU c (ps.take i))∧Same H2 H') ⟨⟨_,rfl⟩,⟨[],ao,by simp[nU]⟩,au qP⟩ (fun i σ H' _ h=>⟨aX.of (h.2.2 _ _ Bp.2.2.1),iG hca (s2.trans h.2.2)⟩) ?_ ?_⟩
      · rintro i x σ H3 hi ⟨⟨o',rfl⟩,⟨zs,mz,hz⟩,s3⟩;obtain⟨e,he,t2,rfl,rP⟩:=Bp.2.2.2.1.at hi;have hi2:i<ps.length:=(List.getElem?_eq_some_iff.mp he).1;have wl:=Hh (c:=c) (ps:=ps.take i);rw[List.length_take] at wl;rw[MJ he];simp -dsimp;refine⟨_,.inr (d9.of (s3 _ _ rP)),_,aV (j:=0) rfl,_,.inl (aX.of (s3 _ _ hc2)),rfl,fl,fB.of (fun h=>?_) (fun h=>?_)⟩
        ·rw[bH] at h;have h':=of_decide_eq_true h;simp -dsimp;refine⟨_,mz,by omega,⟨_,ao,by simp[hz,h']⟩,aW s3 qP⟩
        · rw[bH] at h;have h':=of_decide_eq_false h;simp -dsimp;refine⟨_,.inr (d9.of (s3 _ _ rP)),_,aV (j:=1) rfl,_,.inl (aX.of (s3 _ _ hc2)),rfl,fl,fB.of (fun h2=>?_) (fun h2=>?_)⟩
          ·rw[bH] at h2;have h2':=of_decide_eq_true h2;simp -dsimp;refine⟨_,mz,by omega,⟨_,ao,by simp[hz,h2']⟩,aW s3 qP⟩
          ·rw[bH] at h2;have h2':=of_decide_eq_false h2;simp -dsimp;exact⟨⟨_,mz,by simp[hz,h',h2']⟩,s3⟩
      ·rintro σ H3 ⟨⟨o',rfl⟩,⟨zs,mz,hz⟩,s3⟩;rw[tl,List.take_length] at hz;simp -dsimp;refine⟨_,.inl (aX.of mz),?_⟩;rw[hz];intro r hr;exact q r _ (cu (s2.trans s3) hr) ao ((s2.trans s3).trans (au hr))
theorem PL {X:Cx}:fY X (binaryOp .BitAnd) (Lb fun i j=>.int (Builtin.bitAnd i j)):=qbb.mono zL
theorem Z5:∀i:Nat,i<512→Builtin.bitAnd (i:Int) 1=((i % 2:Nat):Int):=by decide+kernel
theorem Wu {k i:Nat} (h:k<512):decide (Builtin.bitAnd ((k:Int) / 2 ^ i) 1=1)=qQ k i:=by
  have e:(k:Int) / 2 ^ i=((k / 2 ^ i:Nat):Int):=by
    rw[Int.natCast_ediv];simp
  have hd:k / 2 ^ i≤k:=Nat.div_le_self _ _;rw[e,Z5 _ (by omega)];unfold qQ;rw[Bool.eq_iff_iff,decide_eq_true_eq,decide_eq_true_eq];omega
theorem vY (g:Str→Nat):∀c:List Str,(c.map fun x=>(g x:Int)).sum=(((c.map g).sum:Nat):Int)
  | []=>rfl
  | x::c=>by
    simp only[List.map_cons,List.sum_cons];rw[vY g c];omega
def Rv:Sp:=fun vs H Q _=>∃(t n l j:Addr) (xs:List Str) (tv:List V) (ps:List (Str×Str)) (g:Str→Nat),vs=[.ref t,.ref j]∧jz H t n l xs tv ps∧H j=some (.lst ((xs.map fun x=>(g x:Int)).map V.int))∧
  ∀(z:Bool) (H':Hp),(z=true↔Mz xs ps g)→Same H H'→Q (.bl z) H'
theorem Rw (T:Txt K mg a):cF P w K mg base jA 2 a.ju a.sU ["_law_web_here", "_law_ins_here"] Rv:=by
  refine T.Ak.oO xq (fun vs H Q E h=>?_) (fun cdv A outer s H vs Q E hr h=>?_)
  ·obtain⟨t,n,l,j,xs,tv,ps,g,rfl,_⟩:=h;rfl
  · obtain⟨t,n,l,j,xs,tv,ps,g,rfl,hG,hj,q⟩:=h;refine⟨_,(aA (cO (aR wR (aM (Ea (K:=K) rfl rfl) rfl T.nm3.sum boot_sum (aj (aK 1) aq)) (aM (bV (K:=K) rfl) rfl T.nm.len PySem.boot_len (aj (bQ (bT (K:=K) rfl) (aK 0) aG (fun _ _=>rfl)) aq)) (bC _)) (aD (aY lB)) bB)
      (aA (lZ PassesOwn.never rfl (PI.eqv (jD rfl T.nm.range (aj (cD YL aG (aM (bV (K:=K) rfl) rfl T.nm.len PySem.boot_len (aj (bQ (bT (K:=K) rfl) (aK 0) aG (fun _ _=>rfl)) aq))) aq)) (jK _)) (aO (i:=2) xq.nd rfl (Or.inr rfl))
      (aA (jG (i:=3) xq.nd rfl rfl rfl rfl (show aQ (ak gG) _ ["_law_web_here", "_law_ins_here", "_law_mask", "_law_part"] ["_law_k", "_law_name"] [2] ["_law_k", "_law_name", "_law_mask"] from⟨rfl,by decide+kernel,by decide+kernel,rfl,by decide+kernel,by decide+kernel⟩) rfl (PI.eqv (FQ (K:=K) rfl rfl T.Zw.enumerate (aj (bQ (bT (K:=K) rfl) (aK 0) aG (fun _ _=>rfl)) aq)) (wU _ _)) (fun C s H fp pn=>(PG.eqv (fH (K:=K) (n:=2) rfl rfl (g_.eqv (bh (aO (i:=0) (show(["_law_k", "_law_name", "_law_mask"]:List Str).Nodup by decide+kernel) rfl (Or.inl rfl)) (g_.eqv (bh (aO (i:=1) (show(["_law_k", "_law_name", "_law_mask"]:List Str).Nodup by decide+kernel) rfl (Or.inl rfl)) (g_.mono eE gD)) (bx _ _))) (bx _ _))) (fK _ _ _))) (fun C s H fp pn=>(gw (aR lg (cD PL (cD Oi (aK 2) (aK 0)) aG) aG (bC _)))) (fun C s H fp pn=>(aK 1)))
      (aD (cO (aR pK (aM (Ea (K:=K) rfl rfl) rfl T.nm3.sum boot_sum (aj (cJ rfl rfl (show aQ (ak gG) _ ["_law_web_here", "_law_ins_here", "_law_mask", "_law_part"] ["_law_k", "_law_number"] [2] ["_law_k", "_law_number", "_law_mask"] from⟨rfl,by decide+kernel,by decide+kernel,rfl,by decide+kernel,by decide+kernel⟩) rfl (PI.eqv (FQ (K:=K) rfl rfl T.Zw.enumerate (aj (aK 1) aq)) (wU _ _)) (fun C s H fp pn=>(PG.eqv (fH (K:=K) (n:=2) rfl rfl (g_.eqv (bh (aO (i:=0) (show(["_law_k", "_law_number", "_law_mask"]:List Str).Nodup by decide+kernel) rfl (Or.inl rfl)) (g_.eqv (bh (aO (i:=1) (show(["_law_k", "_law_number", "_law_mask"]:List Str).Nodup by decide+kernel) rfl (Or.inl rfl)) (g_.mono eE gD)) (bx _ _))) (bx _ _))) (fK _ _ _))) (fun C s H fp pn=>(gw (aR lg (cD PL (cD Oi (aK 2) (aK 0)) aG) aG (bC _)))) (fun C s H fp pn=>(aK 1))) aq)) (bQ (bT (K:=K) rfl) (PE.eqv (aN (MN (K:=K) T) (hr.mono (by decide)) rfl T.xK T.pC.kp T.xJ .nil bw (aj (aK 0) (aj (aK 3) aq))) (aJ _ _ _)) aG (fun _ _=>rfl)) (bC _)) (aD (aY lB)) bB))))
      (aD (aY lB)))),?_⟩
    have Rh:60≤sizeLine:=by decide
    have CT:=hG.2.2.2.2.2.len;have l9:=hG.2.2.2.2.1.len;have tl:=hG.2.2.2.1.1;simp -dsimp[-Bool.exists_bool];refine⟨_,aX.of hj,_,.inr (d9.of hG.1),_,aV (j:=1) rfl,?_⟩;rw[vY];simp -dsimp[-Bool.exists_bool];refine⟨_,.inl (aX.of hG.2.2.1),?_⟩;rw[tl];refine⟨decide (¬(xs.map g).sum=ps.length),?_,fB.of (fun h=>?_) (fun h=>?_)⟩
    · rw[Bool.eq_iff_iff]
      by_cases hs:(xs.map g).sum=ps.length
      ·simp[hs]
      ·have hs':¬(((xs.map g).sum:Nat):Int)=(ps.length:Int):=fun z=>hs (by omega);simp[hs,hs']
    ·have h':=of_decide_eq_true h;simp -dsimp[-Bool.exists_bool];exact q _ _ ⟨fun z=>(by cases z),fun z=>absurd z.1 h'⟩ (Same.refl _)
    · have hsum:(xs.map g).sum=ps.length:=by simpa using h
      have p9:2 ^ xs.length≤2 ^ 9:=Nat.pow_le_pow_right (by decide) l9.2;have pc:((2:Int) ^ xs.length)=((2 ^ xs.length:Nat):Int):=by simp
      simp -dsimp[-Bool.exists_bool];refine⟨_,.inr (d9.of hG.1),_,aV (j:=0) rfl,?_⟩;simp -dsimp[-Bool.exists_bool];refine⟨_,.inl (aX.of hG.2.1),?_⟩;rw[List.length_map,pc,Int.toNat_natCast];have pN:2 ^ xs.length=2 ^ xs.length:=rfl;generalize hN:2 ^ xs.length=N at p9 ⊢;refine⟨by omega,by omega,by omega,frR (fun k σ H'=>(∃o2 o3,σ=[some (.ref t),some (.ref j),o2,o3])∧(∀m,m<k→fZ (nq (qQ m) xs) ps≤((nq (qQ m) xs).map g).sum)∧Same H H') ⟨⟨_,_,rfl⟩,fun m hm=>absurd hm (Nat.not_lt_zero _),Same.refl _⟩ ?_ ?_⟩
      · rintro k σ H2 hk ⟨⟨o2,o3,rfl⟩,hall,s2⟩;have Bp:=hG.same s2;simp -dsimp[-Bool.exists_bool];refine⟨_,.inr (d9.of Bp.1),_,aV (j:=0) rfl,?_⟩;simp -dsimp[-Bool.exists_bool];refine⟨⟨_,aX.of Bp.2.1⟩,fun D hD=>cmE (xs.map V.str) (fun i σ H'=>(∃o0 o1,σ=[o0,o1,some (.int k)])∧H' D=some (.lst ((nq (qQ k) (xs.take i)).map V.str))∧Same H2 H') ⟨⟨_,_,rfl⟩,ao,au hD⟩ (fun i σ H' _ h=>aX.of (h.2.2 _ _ Bp.2.1)) ?_ ?_⟩
        · rintro i v t2 σ H3 hi rP ⟨⟨o0,o1,rfl⟩,mz,s3⟩;obtain⟨y,hy,rfl⟩:=iK hi;have hi9:i<xs.length:=(List.getElem?_eq_some_iff.mp hy).1;have s4:Same H3 (upd H3 t2 (.tup [.int i,.str y])):=au rP;have e4:upd H3 t2 (.tup [.int i,.str y]) t2=some (.tup [.int i,.str y]):=ao;generalize upd H3 t2 (.tup [.int i,.str y])=H4 at s4 e4 ⊢;have oR:=s4 _ _ mz;have hfl:(nq (qQ k) (xs.take i)).length≤(xs.take i).length:=(bits_sub _ _).length_le;rw[List.length_take] at hfl;rw[take_one hy,Ew,List.length_take,Nat.min_eq_left (by omega)];simp -dsimp[-Bool.exists_bool];refine⟨_,d9.of e4,rfl,?_⟩;simp -dsimp[-Bool.exists_bool];rw[Wu (by omega)];refine fB.of (fun hb=>?_) (fun hb=>?_)
          ·rw[if_pos hb];simp -dsimp[-Bool.exists_bool];refine⟨_,oR,by simp;omega,?_,aW (s3.trans s4) hD⟩;rw[ao]
          ·rw[if_neg (by rw[hb];decide),List.append_nil];simp -dsimp[-Bool.exists_bool];exact⟨oR,s3.trans s4⟩
        · rintro σ H3 ⟨⟨o0,o1,rfl⟩,mz,s3⟩;rw[List.length_map,List.take_length] at mz;have S3:=s2.trans s3;have hj3:=S3 _ _ hj;simp -dsimp[-Bool.exists_bool];refine⟨⟨_,aX.of hj3⟩,fun D2 qP=>cmE ((xs.map fun x=>(g x:Int)).map V.int) (fun i σ H'=>(∃o0 o1,σ=[o0,o1,some (.int k)])∧H' D2=some (.lst (((nq (qQ k) (xs.take i)).map fun x=>(g x:Int)).map V.int))∧Same H3 H') ⟨⟨_,_,rfl⟩,ao,au qP⟩ (fun i σ H' _ h=>aX.of (h.2.2 _ _ hj3)) ?_ ?_⟩
          · rintro i v t2 σ H4 hi rP ⟨⟨o0,o1,rfl⟩,oR,s4⟩;obtain⟨m,hm,rfl⟩:=int_at hi;obtain⟨y,hy,rfl⟩:∃y,xs[i]? = some y∧m=(g y:Int):=by
              rw[List.getElem?_map] at hm;obtain⟨y,hy,rfl⟩:=Option.map_eq_some_iff.mp hm;exact⟨y,hy,rfl⟩
            have hi9:i<xs.length:=(List.getElem?_eq_some_iff.mp hy).1;have s5:Same H4 (upd H4 t2 (.tup [.int i,.int (g y:Int)])):=au rP;have e5:upd H4 t2 (.tup [.int i,.int (g y:Int)]) t2=some (.tup [.int i,.int (g y:Int)]):=ao;generalize upd H4 t2 (.tup [.int i,.int (g y:Int)])=H5 at s5 e5 ⊢;have Ci:=s5 _ _ oR;have hfl:(nq (qQ k) (xs.take i)).length≤(xs.take i).length:=(bits_sub _ _).length_le;rw[List.length_take] at hfl;rw[take_one hy,Ew,List.length_take,Nat.min_eq_left (by omega)];simp -dsimp[-Bool.exists_bool];refine⟨_,d9.of e5,rfl,?_⟩;simp -dsimp[-Bool.exists_bool];rw[Wu (by omega)];refine fB.of (fun hb=>?_) (fun hb=>?_)
            ·rw[if_pos hb];simp -dsimp[-Bool.exists_bool];refine⟨_,Ci,by simp;omega,?_,aW (s4.trans s5) qP⟩;rw[ao];simp
            ·rw[if_neg (by rw[hb];decide),List.append_nil];simp -dsimp[-Bool.exists_bool];exact⟨by rw[Ci,List.map_map],s4.trans s5⟩
          · rintro σ H4 ⟨⟨o0,o1,rfl⟩,oR,s4⟩;rw[List.length_map,List.length_map,List.take_length] at oR;have S4:=S3.trans s4;simp -dsimp[-Bool.exists_bool];refine⟨_,aX.of oR,t,n,l,D,xs,_,tv,ps,rfl,hG.same S4,s4 _ _ mz,fun r5 H5 hr5 e5 s5=>?_⟩;rw[vY];simp -dsimp[-Bool.exists_bool];refine⟨_,.inr (d9.of e5),_,aV (j:=0) rfl,?_⟩;simp -dsimp[-Bool.exists_bool];refine fB.of (fun hb=>?_) (fun hb=>?_)
            ·have hb':=of_decide_eq_true hb;simp -dsimp[-Bool.exists_bool];refine q _ _ ⟨fun z=>(by cases z),fun z=>?_⟩ (S4.trans s5);have:=z.2 k (by rw[hN];exact hk);omega
            · have hb':=of_decide_eq_false hb;simp -dsimp[-Bool.exists_bool];refine⟨fun m hm=>?_,S4.trans s5⟩
              by_cases hmk:m=k
              ·subst hmk;omega
              ·exact hall m (by omega)
      ·rintro σ H2 ⟨⟨o2,o3,rfl⟩,hall,s2⟩;simp -dsimp[-Bool.exists_bool];exact q _ _ ⟨fun _=>⟨hsum,fun m hm=>hall m (by rw[← hN];exact hm)⟩,fun _=>rfl⟩ s2
theorem isS {K:W.Frag} {H:Hp} {r:Addr} {zs:List Str} (e:H r=some (.lst (zs.map V.str))):Is K H (.list (gZ zs)) (.ref r):=⟨_,_,rfl,aX.of e,Ob _⟩
theorem Kl {xs c:List Str} (hX:Zy xs) (h:∀x∈c,x∈xs):PyData.canLay0 (.list (gZ c))=true:=by
  show PyData.canLayAll0 (gZ c)=true;exact Ik c fun x hx=>Yl (hX.nm x (h x hx))
theorem Km (c:List Str):(PyData.list (gZ c)).depth≤64:=by
  have:=Il c;simp[PyData.depth];omega
def Wv (N:Addr):Addr→Sp:=fun e vs H Q _=>∃(t n l j dx cl:Addr) (xs c:List Str) (tv:List V) (ps:List (Str×Str)) (g:Str→Nat) (w:Str),vs=[.ref t,.ref j,.ref e]∧jz H t n l xs tv ps∧H j=some (.lst ((xs.map fun x=>(g x:Int)).map V.int))∧
  H e=some (vf e N (some dx))∧H dx=some (iz dx [("word",.str w),("part",.ref cl)])∧H cl=some (.lst (c.map V.str))∧PK xs ps g w c∧∀H',Same H H'→Q (.bl true) H'
theorem Ww (T:Txt K mg a):Jh P w K mg base 2 a.lU a.vJ ["_law_web_here", "_law_ins_here", "_law_e"] (Wv a.aZ):=by
  refine T.G4.qeR rJ (fun e vs H Q E h=>?_) (fun e cdv A outer s H vs Q hr h=>?_)
  ·obtain⟨t,n,l,j,dx,cl,xs,c,tv,ps,g,w,rfl,_⟩:=h;rfl
  · obtain⟨t,n,l,j,dx,cl,xs,c,tv,ps,g,w',rfl,hG,hj,he,hdx,hcl,⟨⟨p,hp⟩,hpos,hpart⟩,q⟩:=h;refine⟨_,(aA (bA (i:=3) rJ.nd rfl (Or.inr rfl) (vh T.iD.get T.dW (aK 2) rfl))
      (aA (cO (PW.pt (lY (fD (cA (O5 (K:=K) rfl rfl T.nm.isinstance (T.iD.ask T.Am T.Ao) (show Zg K a.aZ (.ref a.aZ)=some true from Vx) (aj (aK 2) (aj (uH (v:=.ref a.aZ) rfl T.yK rfl) aq))))) (lY (fD (cA (O5 (K:=K) rfl rfl T.nm.isinstance (T.iD.ask T.Am T.Ao) T.iD.qkd (aj (aK 2) (aj (iU (v:=.ty "ValueError") rfl T.gW Zh rfl) aq))))) (iV (fD (cA (aM (wW (K:=K) rfl) rfl T.nm.isinstance boot_isinstance (aj (aK 3) (aj (iU (v:=.ty "list") rfl T.nm.list boot_list rfl) aq))))))))) (aD (aY lB)) bB)
      (aA (cO (PW.pt (lY (aR (Lh (K:=K) rfl hr.units) (aK 3) (gA aq) (bC _)) (iV (aR (U6 (K:=K) rfl hr.units) (aK 3) (vg rfl rfl (show aQ (ak je) _ ["_law_web_here", "_law_ins_here", "_law_e", "_law_part", "_law_wanted", "_law_inner", "_law_touched_here"] ["_law_name"] [3] ["_law_name", "_law_part"] from⟨rfl,by decide+kernel,by decide+kernel,rfl,by decide+kernel,by decide+kernel⟩) rfl (zT (K:=K) rfl (bQ (bT (K:=K) rfl) (aK 0) aG (fun _ _=>rfl))) (fun C s H fp pn=>(aO (i:=0) (show(["_law_name", "_law_part"]:List Str).Nodup by decide+kernel) rfl (Or.inl rfl))) (fun C s H fp pn=>(gw (aR (yq (K:=K) rfl) (aK 0) (aK 1) rfl))) (fun C s H fp pn=>(aK 0))) (bC _))))) (aD (aY lB)) bB)
      (aA (bA (i:=4) rJ.nd rfl (Or.inl rfl) (aM (LR (K:=K) rfl rfl) rfl T.nm3.sum boot_sum (aj (vg rfl rfl (show aQ (ak je) _ ["_law_web_here", "_law_ins_here", "_law_e", "_law_part", "_law_wanted", "_law_inner", "_law_touched_here"] ["_law_name", "_law_number"] [3] ["_law_name", "_law_number", "_law_part"] from⟨rfl,by decide+kernel,by decide+kernel,rfl,by decide+kernel,by decide+kernel⟩) rfl (Zf (K:=K) rfl rfl T.nm.zip (aj (bQ (bT (K:=K) rfl) (aK 0) aG (fun _ _=>rfl)) (aj (aK 1) aq))) (fun C s H fp pn=>(Ox (K:=K) (n:=2) rfl rfl (g_.eqv (bh (aO (i:=0) (show(["_law_name", "_law_number", "_law_part"]:List Str).Nodup by decide+kernel) rfl (Or.inl rfl)) (g_.eqv (bh (aO (i:=1) (show(["_law_name", "_law_number", "_law_part"]:List Str).Nodup by decide+kernel) rfl (Or.inl rfl)) (g_.mono eE gD)) (bx _ _))) (bx _ _)))) (fun C s H fp pn=>(gw (aR (yq (K:=K) rfl) (aK 0) (aK 2) rfl))) (fun C s H fp pn=>(aK 1))) aq)))
      (aA (uq (Ji (Kh (K:=K) T) (hr.mono (by decide)) rfl T.xK T.pC.kp T.xJ (aj (aK 0) (aj (aK 3) aq))) (Ox (K:=K) (n:=2) rfl rfl (g_.eqv (bh (aO (i:=5) rJ.nd rfl (Or.inl rfl)) (g_.eqv (bh (aO (i:=6) rJ.nd rfl (Or.inl rfl)) (g_.mono eE gD)) (bx _ _))) (bx _ _))))
      (aA (cO (aR lg (vh T.iD.get T.dU (aK 2) rfl) jB (bC _)) (aD (aY (iH nF (aK 5) (aK 4) (bC _)))) bB)
      (aD (aY (pL (iH lg (vh T.iD.get T.dU (aK 2) rfl) jB (bC _)) (uo (iH pK (aK 6) (aK 4) (bC _)))))))))))),?_⟩
    have Rh:60≤sizeLine:=by decide
    have l9:=hG.2.2.2.2.1.len;have hca:LC H e:=⟨_,_,he⟩;have fl:∀z∈c.map V.str,gB z=true:=List.all_eq_true.mp (wO _);simp -dsimp[dw,-Bool.exists_bool];refine⟨dx,he,_,hdx,.ref cl,rfl,?_⟩;refine⟨⟨_,he⟩,_,.lst hcl,_,tG K,?_⟩;simp -dsimp[dw,-Bool.exists_bool];intro p1 hp1;have s1:Same H (upd H p1 (.lst [])):=au hp1;have e1:upd H p1 (.lst []) p1=some (.lst (([]:List Str).map V.str)):=ao;generalize upd H p1 (.lst [])=H1 at s1 e1 ⊢;have csub:∀x∈c,x∈xs:=fun x hx=>by rw[hp] at hx;exact(List.mem_filter.mp hx).1
    have RW:c≠[]:=fun z=>by rw[z] at hpos;exact absurd hpos (by decide)
    refine⟨_,isS (s1 _ _ hcl),_,isS e1,Kl hG.2.2.2.2.1 csub,rfl,Km c,?_⟩;have ene:PyData.eqv (.list (gZ c)) (.list (gZ []))=false:=by
      cases c with
      | nil=>exact absurd rfl RW
      | cons x l=>simp[PyData.eqv,gZ,PyData.eqvAll]
    rw[ene];refine fB.neg rfl ?_;simp -dsimp[dw,-Bool.exists_bool];have Wx:=hG.same s1;have qkp:=s1 _ _ hcl;have hc1:=iG hca s1;refine⟨_,.inr (d9.of Wx.1),_,aV (j:=0) rfl,?_⟩;simp -dsimp[dw,-Bool.exists_bool];refine⟨⟨_,aX.of Wx.2.1⟩,fun D hD=>qcp (xs.map V.str) (fun i σ H'=>(∃o',σ=[o',some (.ref cl)])∧H' D=some (.lst (((xs.take i).filter p).map V.str))∧Same H1 H') ⟨⟨_,rfl⟩,ao,au hD⟩ (fun i σ H' _ h=>⟨aX.of (h.2.2 _ _ Wx.2.1),iG hc1 h.2.2⟩) ?_ ?_⟩
    · rintro i x σ H2 hi ⟨⟨o',rfl⟩,hD2,s2⟩;obtain⟨y,hy,rfl⟩:=iK hi;have hi2:i<xs.length:=(List.getElem?_eq_some_iff.mp hy).1;have fl2:((xs.take i).filter p).length≤xs.length:=Nat.le_trans (List.length_filter_le _ _) (by rw[List.length_take];omega);have hyp:decide (y∈c)=p y:=by
        rw[hp,Bool.eq_iff_iff,decide_eq_true_eq,List.mem_filter];exact⟨fun z=>z.2,fun z=>⟨List.mem_of_getElem? hy,z⟩⟩
      rw[take_one hy,List.filter_append];simp -dsimp[dw,-Bool.exists_bool];refine⟨_,.inl (aX.of (s2 _ _ qkp)),rfl,fl,?_⟩;rw[bH,hyp];refine fB.of (fun h=>?_) (fun h=>?_)
      ·simp -dsimp[dw,-Bool.exists_bool];refine⟨_,hD2,by rw[List.length_map];omega,?_,aW s2 hD⟩;rw[ao,List.filter_cons,if_pos h];simp
      ·simp -dsimp[dw,-Bool.exists_bool];refine⟨?_,s2⟩;rw[hD2,List.filter_cons,if_neg (by rw[h];decide)];simp
    · rintro σ H2 ⟨⟨o',rfl⟩,hD2,s2⟩;rw[List.length_map,List.take_length,← hp] at hD2;have S2:=s1.trans s2;have lay:=Kl hG.2.2.2.2.1 csub;have Bp:=hG.same S2;have X6:=S2 _ _ hcl;have hj2:=S2 _ _ hj;have hc2:=iG hca S2;simp -dsimp[dw,-Bool.exists_bool];refine⟨_,isS X6,_,isS hD2,lay,lay,Km c,false,by simp[PyData.eqv,Ip],fB.neg rfl ?_⟩;simp -dsimp[dw,-Bool.exists_bool];refine⟨_,.inr (d9.of Bp.1),_,aV (j:=0) rfl,?_⟩;simp -dsimp[dw,-Bool.exists_bool];refine⟨⟨_,aX.of Bp.2.1⟩,⟨_,aX.of hj2⟩,fun D2 qP=>qkc (xs.map V.str) ((xs.map fun x=>(g x:Int)).map V.int) (fun i σ H'=>(∃o1 o2,σ=[o1,o2,some (.ref cl)])∧H' D2=some (.lst ((((xs.take i).filter p).map fun x=>(g x:Int)).map V.int))∧Same H2 H') ⟨⟨_,_,rfl⟩,ao,au qP⟩ (by simp) (fun i σ H' _ h=>⟨⟨aX.of (h.2.2 _ _ Bp.2.1),aX.of (h.2.2 _ _ hj2)⟩,iG hc2 h.2.2⟩) ?_ ?_⟩
      · rintro i x y tt σ H3 hi hjj htt ⟨⟨o1,o2,rfl⟩,mz,s3⟩;obtain⟨y,hy,rfl⟩:=iK hi;rw[List.getElem?_map,List.getElem?_map,hy] at hjj;cases hjj;have hi2:i<xs.length:=(List.getElem?_eq_some_iff.mp hy).1;have fl2:((xs.take i).filter p).length≤xs.length:=Nat.le_trans (List.length_filter_le _ _) (by rw[List.length_take];omega);have hyp:decide (y∈c)=p y:=by
          rw[hp,Bool.eq_iff_iff,decide_eq_true_eq,List.mem_filter];exact⟨fun z=>z.2,fun z=>⟨List.mem_of_getElem? hy,z⟩⟩
        have s4:Same H3 (upd H3 tt (.tup [.str y,.int (g y:Int)])):=au htt;have e4:upd H3 tt (.tup [.str y,.int (g y:Int)]) tt=some (.tup [.str y,.int (g y:Int)]):=ao;generalize upd H3 tt (.tup [.str y,.int (g y:Int)])=H4 at s4 e4 ⊢;have oR:=s4 _ _ mz;have S4:=s3.trans s4;rw[take_one hy,List.filter_append];simp -dsimp[dw,-Bool.exists_bool];refine⟨iG hc2 S4,_,d9.of e4,rfl,?_⟩;simp -dsimp[dw,-Bool.exists_bool];refine⟨_,.inl (aX.of (S4 _ _ X6)),rfl,fl,?_⟩;rw[bH,hyp];refine fB.of (fun h=>?_) (fun h=>?_)
        ·simp -dsimp[dw,-Bool.exists_bool];refine⟨_,oR,by simp;omega,?_,aW S4 qP⟩;rw[ao,List.filter_cons,if_pos h];simp
        ·simp -dsimp[dw,-Bool.exists_bool];refine⟨?_,S4⟩;rw[oR,List.filter_cons,if_neg (by rw[h];decide)];simp
      · rintro σ H3 ⟨⟨o1,o2,rfl⟩,mz,s3⟩;rw[List.length_map,List.take_length,← hp] at mz;have S3:=S2.trans s3;simp -dsimp[dw,-Bool.exists_bool];refine⟨iG hc2 s3,_,aX.of mz,?_⟩;rw[vY];refine⟨t,n,l,cl,xs,c,tv,ps,rfl,hG.same S3,S3 _ _ hcl,iG hca S3,fun r4 H4 JM e4 s4=>?_⟩;have S4:=S3.trans s4;simp -dsimp[dw,-Bool.exists_bool];refine⟨iG hca S4,_,d9.of e4,rfl,?_⟩;simp -dsimp[dw,-Bool.exists_bool];refine⟨dx,S4 _ _ he,_,S4 _ _ hdx,.str w',rfl,?_⟩;simp -dsimp[dw,-Bool.exists_bool]
        rcases hpart with⟨rfl,hlt⟩ | ⟨rfl,hlt⟩
        ·rw[show decide ((Str.ofString "touching" : Str)=Str.ofString "within")=false by decide];refine fB.neg rfl ?_;simp -dsimp[dw,-Bool.exists_bool];refine⟨dx,S4 _ _ he,_,S4 _ _ hdx,.str "touching",rfl,?_⟩;simp -dsimp[dw,-Bool.exists_bool];rw[decide_eq_true (by omega)];exact q _ S4
        ·rw[show decide ((Str.ofString "within" : Str)=Str.ofString "within")=true by decide];refine fB.pos rfl ?_;simp -dsimp[dw,-Bool.exists_bool];rw[decide_eq_true (by omega)];exact q _ S4
def Z6 (C:Addr):Sp:=fun vs H Q _=>∃(t n l o j r:Addr) (xs:List Str) (tv:List V) (ps:List (Str×Str)) (g:Str→Nat),vs=[.ref t,.ref o,.ref j,.ref r]∧jz H t n l xs tv ps∧g8 C H o xs ps∧H j=some (.lst ((xs.map fun x=>(g x:Int)).map V.int))∧Sq H r ((xs.map fun x=>(g x:Int)).map V.int)∧
  (Mz xs ps g→∀H',Same H H'→Q (.str "yes") H')∧(¬Mz xs ps g→∀H',Same H H'→Q (.str "no") H')
theorem Z7 (T:Txt K mg a):cF P w K mg base jA 8 a.p8 a.yH ["_law_web_here", "_law_told_here", "_law_ins_here", "_law_handed_here"] (Z6 a.bU):=by
  refine T.Mj.oO mZ (fun vs H Q E h=>?_) (fun cdv A outer s H vs Q E hr h=>?_)
  ·obtain⟨t,n,l,o,j,r,xs,tv,ps,g,rfl,_⟩:=h;rfl
  · obtain⟨t,n,l,o,j,r,xs,tv,ps,g,rfl,hG,hw,hj,hr0,q1,q2⟩:=h;refine⟨_,(aA (bA (i:=4) mZ.nd rfl (Or.inl rfl) jB)
      (aA (bA (i:=5) mZ.nd rfl (Or.inl rfl) yU)
      (aA (qci (i:=7) rfl rfl rfl mZ.nd rfl rfl (fun R pn xe hx=>(aD (bA (i:=5) mZ.nd rfl (Or.inl rfl) (Vn hx rfl (Bm (K:=K) T) (hr.mono (by decide)) rfl T.t_ T.nR.kp T.tZ (aj (aK 1) (aj (aK 3) aq)))))) rfl T.qw T.fX (fun e=>(aD (cO (cA (Ji (Ww (K:=K) T) (hr.mono (by decide)) rfl T.Pj T.G4.kp T.Ph (aj (aK 0) (aj (aK 2) (aj (aK 7) aq))))) (aA (bA (i:=4) mZ.nd rfl (Or.inl rfl) jB)
      (aD (gK (nA (K:=K) rfl PySem.F.plainAttrs_list PySem.F.slot_list_append PySem.F.type_list_append iM (vh T.iD.get T.dW (aK 7) rfl) (aj jB aq))))) bB))))
      (aA (cO (PW.pt (wC (aR Nx (aK 5) yU (bC _)) (wC (cA (aM (wW (K:=K) rfl) rfl T.nm.isinstance boot_isinstance (aj (aK 5) (aj (iU (v:=.ty "list") rfl T.nm.list boot_list rfl) aq)))) (uI (aR lg (aM (bV (K:=K) rfl) rfl T.nm.len PySem.boot_len (aj (aK 5) aq)) (aM (bV (K:=K) rfl) rfl T.nm.len PySem.boot_len (aj (bQ (bT (K:=K) rfl) (aK 0) aG (fun _ _=>rfl)) aq)) (bC _)))))) (aA (bA (i:=6) mZ.nd rfl (Or.inl rfl) (iH (Lh (K:=K) rfl hr.units) (cJ rfl rfl (show aQ (ak nG) _ ["_law_web_here", "_law_told_here", "_law_ins_here", "_law_handed_here", "_law_word", "_law_made", "_law_plain", "_law_e"] ["_law_turn"] [] ["_law_turn"] from⟨rfl,by decide+kernel,by decide+kernel,rfl,by decide+kernel,by decide+kernel⟩) rfl (PI.eqv (cN (K:=K) rfl (aK 5)) (bZ _ _)) (fun C s H fp pn=>(aO (i:=0) (show(["_law_turn"]:List Str).Nodup by decide+kernel) rfl (Or.inl rfl))) (fun C s H fp pn=>(gw (PW.pt (lY (cA (aM (wW (K:=K) rfl) rfl T.nm.isinstance boot_isinstance (aj (aK 0) (aj (iU (v:=.ty "bool") rfl T.Zw.bool za rfl) aq)))) (iV (aR (YM (K:=K) rfl) (aK 0) (iW (aj aG (aj aG aq))) rfl)))))) (fun C s H fp pn=>(aK 0))) (gA aq) (bC _)))
      (aA (cO (PW.pt (wC (cA (aK 6)) (uI (aR (Lh (K:=K) rfl hr.units) (PE.eqv (aN (Wn (K:=K) T) (hr.mono (by decide)) rfl T.VN T.O9.kp T.VL .nil bw (aj (aK 0) (aj (aK 5) aq))) (aJ _ _ _)) (aK 2) (bC _))))) (aD (bA (i:=4) mZ.nd rfl (Or.inl rfl) jB)) bB)
      (aD (gK (nA (K:=K) rfl PySem.F.plainAttrs_list PySem.F.slot_list_append PySem.F.type_list_append iM (aK 5) (aj aG aq)))))) bB)
      (aD (aY (aK 4))))))),?_⟩
    have Rh:60≤sizeLine:=by decide
    simp -dsimp[dw,-Bool.exists_bool];generalize hR:Vo _ _ a.aP _ _=R;have hX:=hG.2.2.2.2.1;have hT:=hG.2.2.2.2.2;have g2:∀e∈ps,e.1∈xs∧e.2∈xs:=fun e he=>⟨(hT.ok e he).1,(hT.ok e he).2.1⟩;have key:∀(dx c:Addr) (w:Str) (part:List Str) (H1:Hp),Same H H1→H c=none→H1 dx=some (iz dx [("word",.str w),("part",.ref c)])→H1 c=some (.lst (part.map V.str))→PK xs ps g w part→
        R [some (.ref t),some (.ref o),some (.ref j),some (.ref r),some (.str "other"),some .non,none,none] a.aZ (some dx) H1:=by
      intro dx c w part H1 s1 hc hdx hcc hP;subst hR;have ndB:=(List.nodup_cons.mp T.nd).1;have neB:a.aZ≠a.aP:=fun z=>ndB (by rw[← z];simp[qe0]);refine⟨⟨Ow.ofX T.rO T.iD,by rw[T.iD.mro];simp,neB⟩,fun e he=>?_⟩;have se:Same H1 (upd H1 e (vf e a.aZ (some dx))):=au he;have ee:upd H1 e (vf e a.aZ (some dx)) e=some (vf e a.aZ (some dx)):=ao;have S:=s1.trans se;have qcR:=se _ _ hdx;have qcS:=se _ _ hcc;generalize upd H1 e (vf e a.aZ (some dx))=H2 at se ee S qcR qcS ⊢;simp -dsimp[dw,-Bool.exists_bool];refine⟨t,n,l,j,dx,c,xs,part,tv,ps,g,w,rfl,hG.same S,S _ _ hj,ee,qcR,qcS,hP,fun H3 s3=>?_⟩;simp -dsimp[dw,-Bool.exists_bool];refine⟨dx,s3 _ _ ee,_,s3 _ _ qcR,.ref c,rfl,?_⟩;simp -dsimp[dw,-Bool.exists_bool];have qfi:=s3 _ _ qcS;have pl:part.length≤9:=by
        obtain⟨⟨p,rfl⟩,_⟩:=hP;exact Nat.le_trans (List.length_filter_le _ _) hX.len.2
      exact⟨⟨_,aX.of qfi⟩,_,qfi,by rw[List.length_map];omega,q2 (Z4 g2 hP) _ (aW (S.trans s3) hc)⟩
    refine⟨o,r,xs,ps,g,rfl,hw,hX,hT,hr0,fun m ns H1 hm em hl h01 hin s1=>?_,fun dx c w part ns H1 hc hdx hcc hl hP hno hgap s1=>⟨_,rfl,key dx c w part H1 s1 hc hdx hcc (Wt hX.nd g2 hl hP hno hgap)⟩⟩;have CT:=hT.len;have Wx:=hG.same s1;have mr:m≠r:=fun z=>by rcases hr0 with h | h <;> (rw[z,h] at hm;cases hm)
    have tl:=hG.2.2.2.1.1;simp -dsimp[dw,-Bool.exists_bool];refine⟨_,.lst em,_,tG K,?_⟩;simp -dsimp[dw,-Bool.exists_bool];refine⟨_,.inl (aX.of em),_,.inr (d9.of Wx.1),_,aV (j:=1) rfl,?_⟩;simp -dsimp[dw,-Bool.exists_bool];refine⟨_,.inl (aX.of Wx.2.2.1),?_⟩;rw[tl,hl,decide_eq_true rfl];refine fB.pos rfl ?_;simp -dsimp[dw,-Bool.exists_bool];refine⟨⟨_,aX.of em⟩,fun D hD=>Oa (ns.map V.int) (fun i σ H'=>(∃o',σ=[o'])∧H' D=some (.lst [])∧Same H1 H') ⟨⟨_,rfl⟩,ao,au hD⟩ (fun i σ H' _ h=>aX.of (h.2.2 _ _ em)) ?_ ?_⟩
    · rintro i x σ H2 hi ⟨⟨o',rfl⟩,hD2,s2⟩;obtain⟨k,hk,rfl⟩:=int_at hi;have hk2:=h01 k (List.mem_of_getElem? hk);simp -dsimp[dw,-Bool.exists_bool];refine⟨_,.int k,_,uU K,?_⟩;simp -dsimp[dw,-Bool.exists_bool];intro p3 hp3;have s3:Same H2 (upd H2 p3 (.tup [.int 0,.int 1])):=au hp3;have e3:upd H2 p3 (.tup [.int 0,.int 1]) p3=some (.tup [.int 0,.int 1]):=ao;generalize upd H2 p3 (.tup [.int 0,.int 1])=H3 at s3 e3 ⊢;refine⟨_,.inr (d9.of e3),rfl,by simp[gB],false,?_,fB.neg rfl ⟨⟨_,rfl⟩,s3 _ _ hD2,s2.trans s3⟩⟩;obtain rfl | rfl:k=0∨k=1:=by omega
      ·rfl
      ·rfl
    · rintro σ H2 ⟨⟨o',rfl⟩,hD2,s2⟩;have isN:∀{H:Hp} {c:Addr},H c=some (.lst [])→Is K H (.list []) (.ref c):=fun e=>⟨_,_,rfl,aX.of e,yu []⟩;simp -dsimp[dw,-Bool.exists_bool];intro p3 hp3;have s3:Same H2 (upd H2 p3 (.lst [])):=au hp3;have e3:upd H2 p3 (.lst []) p3=some (.lst []):=ao;generalize upd H2 p3 (.lst [])=H3 at s3 e3 ⊢;have S3:=s2.trans s3;refine⟨_,isN (s3 _ _ hD2),_,isN e3,rfl,rfl,by simp[PyData.depth,PyData.depthAll],?_⟩;rw[show PyData.eqv (.list []) (.list [])=true by simp[PyData.eqv,PyData.eqvAll]];simp -dsimp[dw,-Bool.exists_bool];refine⟨t,n,l,m,xs,tv,ps,ns,rfl,Wx.same S3,S3 _ _ em,hl,h01,fun r4 H4 JM e4 s4=>?_⟩;have S4:=S3.trans s4;have ee:(xs.map fun x=>((bN ns ps).count x:Int))=xs.map fun x=>(g x:Int):=List.map_congr_left fun x hx=>by
        have:=hin x hx;unfold inN at this;rw[this]
      rw[ee] at e4;have isI:∀{H:Hp} {c:Addr} {ms:List Int},H c=some (.lst (ms.map V.int))→Is K H (.list (gC ms)) (.ref c):=fun e=>⟨_,_,rfl,aX.of e,yu _⟩;have lay:∀ms:List Int,PyData.canLay0 (.list (gC ms))=true:=fun ms=>lay_ints ms;have dep:∀ms:List Int,(PyData.list (gC ms)).depth≤64:=fun ms=>by
        have:=zK ms;simp[PyData.depth];omega
      have em4:=S4 _ _ em;simp -dsimp[dw,-Bool.exists_bool];refine⟨_,isI e4,_,isI ((s1.trans S4) _ _ hj),lay _,lay _,dep _,?_⟩;rw[show PyData.eqv (.list (gC (xs.map fun x=>(g x:Int)))) (.list (gC (xs.map fun x=>(g x:Int))))=true by simp[PyData.eqv,u0]];simp -dsimp[dw,-Bool.exists_bool];exact⟨⟨_,aX.of em4⟩,_,em4,by rw[List.length_map];omega,q1 (qcQ hX.nd g2 hl hin) _ (aW (s1.trans S4) hm)⟩
def Wy:Sp:=fun vs H Q _=>∃(p j:Addr) (gs:List Int),vs=[.ref p,.ref j]∧ig H p∧H j=some (.lst (gs.map V.int))∧1≤gs.length∧gs.length≤9∧(∀n∈gs,0≤n)∧
  ∀(r:Addr) (hs:List Int) (H':Hp),H r=none→H' r=some (.lst (hs.map V.int))→hs.length=gs.length→(∀n∈hs,0≤n)→ig H' p→But p H H'→Q (.ref r) H'
theorem Wz {hs:List Int} (h:∀n∈hs,0≤n) {i:Nat} {m:Int} (hm:0≤m):∀n∈hs.set i m,0≤n:=fun n hn=>by
  rcases List.mem_or_eq_of_mem_set hn with h1 | h1
  ·exact h n h1
  ·rw[h1];exact hm
theorem PN {n i:Nat} (h:i<n):RJ n (i:Int)=some i:=by
  unfold RJ;rw[if_pos (by omega),if_pos (by omega)];simp
theorem WD (T:Txt K mg a):cF P w K mg base jA 2 a.lR a.vI ["_law_pot_here", "_law_ins_here"] Wy:=by
  refine T.G3.oO rH (fun vs H Q E h=>?_) (fun cdv A outer s H vs Q E hr h=>?_)
  ·obtain⟨p,j,gs,rfl,_⟩:=h;rfl
  · obtain⟨p,j,gs,rfl,hP,hj,h1,h9,h0,q⟩:=h;refine⟨_,(aA (bA (i:=2) rH.nd rfl (Or.inl rfl) (dX (pB (K:=K) rfl) rfl T.nm.list boot_list (aj (aK 1) aq)))
      (aA (lZ PassesOwn.never rfl (PI.eqv (jD rfl T.nm.range (aj (PE.eqv (aN (d8 (K:=K) T) (hr.mono (by decide)) rfl T.fW T.fG.kp T.fV .nil bw (aj (aK 0) (aj aG aq))) (aJ _ _ _)) aq)) (jK _)) (aO (i:=3) rH.nd rfl (Or.inl rfl))
      (aA (bA (i:=4) rH.nd rfl (Or.inl rfl) (PE.eqv (aN (d8 (K:=K) T) (hr.mono (by decide)) rfl T.fW T.fG.kp T.fV .nil bw (aj (aK 0) (aj (aM (bV (K:=K) rfl) rfl T.nm.len PySem.boot_len (aj (aK 2) aq)) aq))) (aJ _ _ _)))
      (aA (bA (i:=5) rH.nd rfl (Or.inl rfl) (PE.eqv (aN (d8 (K:=K) T) (hr.mono (by decide)) rfl T.fW T.fG.kp T.fV .nil bw (aj (aK 0) (aj (cD i_ (aM (bV (K:=K) rfl) rfl T.nm.len PySem.boot_len (aj (aK 2) aq)) aG) aq))) (aJ _ _ _)))
      (aD (cO (aR nF (bQ (bT (K:=K) rfl) (aK 2) (aK 4) (fun _ _=>rfl)) aG (bC _)) (aA (uq (cD pJ (bQ (bT (K:=K) rfl) (aK 2) (aK 4) (fun _ _=>rfl)) aG) (EY (aK 2) (aK 4) sE))
      (aD (cO (aR pK (aK 5) (aM (bV (K:=K) rfl) rfl T.nm.len PySem.boot_len (aj (aK 2) aq)) (bC _)) (aD (uq (cD i_ (bQ (bT (K:=K) rfl) (aK 2) (aK 5) (fun _ _=>rfl)) aG) (EY (aK 2) (aK 5) sE))) bB))) bB)))))
      (aD (aY (aK 2))))),?_⟩
    have Rh:60≤sizeLine:=by decide
    simp -dsimp;refine⟨_,.inl (aX.of hj),fun r hr0=>?_⟩;have s1:Same H (upd H r (.lst (gs.map V.int))):=au hr0;have e1:upd H r (.lst (gs.map V.int)) r=some (.lst (gs.map V.int)):=ao;have rp:r≠p:=(hP.ne hr0).symm;have Ho:=hP.keep s1;generalize upd H r (.lst (gs.map V.int))=H1 at s1 e1 Ho ⊢;refine⟨p,4,rfl,Ho,by decide,by decide,fun d H2 hd0 hd4 hP2 hB2=>?_⟩;simp -dsimp;refine⟨by omega,by omega,frR (fun k σ H'=>(∃o3 o4 o5,σ=[some (.ref p),some (.ref j),some (.ref r),o3,o4,o5])∧(∃hs:List Int,H' r=some (.lst (hs.map V.int))∧hs.length=gs.length∧∀n∈hs,0≤n)∧ig H' p∧But p H H') ⟨⟨_,_,_,rfl⟩,⟨gs,hB2 _ _ rp e1,rfl,h0⟩,hP2,(But.of s1).trans hB2⟩ ?_ ?_⟩
    · rintro k σ H3 hk ⟨⟨o3,o4,o5,rfl⟩,⟨hs,er,hl,hn⟩,uf,hB3⟩;simp -dsimp;refine⟨_,.inl (aX.of er),p,_,rfl,uf,by rw[List.length_map];omega,by rw[List.length_map];omega,fun d4 H4 qmU qkq yM xM=>?_⟩;have er4:=xM _ _ rp er;simp -dsimp;refine⟨_,.inl (aX.of er4),p,_,rfl,yM,by rw[List.length_map];omega,by rw[List.length_map];omega,fun d5 H5 qkr qfj yN Hq=>?_⟩;have er5:=Hq _ _ rp er4;have B5:=hB3.trans (xM.trans Hq);simp only[List.length_map] at qkq qfj;obtain⟨i,rfl⟩:∃i:Nat,d4=i:=⟨d4.toNat,by omega⟩;obtain⟨i2,rfl⟩:∃i:Nat,d5=i:=⟨d5.toNat,by omega⟩;have hi:i<hs.length:=by omega
      have hv:(hs.map V.int)[i]? = some (.int hs[i]):=by simp[hi]
      simp -dsimp;refine⟨_,.inl (aX.of er5),_,aV hv,?_⟩;simp -dsimp;refine fB.of (fun h=>?_) (fun h=>?_)
      · have hpos:=of_decide_eq_true h;simp -dsimp;refine⟨_,.inl (aX.of er5),_,aV hv,?_⟩;simp -dsimp;refine⟨_,er5,i,PN (by simpa using hi),?_⟩;rw[← List.map_set];have V7:=Wz hn (i:=i) (show(0:Int)≤hs[i] - 1 by omega);have hl6:(hs.set i (hs[i] - 1)).length=hs.length:=List.length_set;have er6:upd H5 r (.lst ((hs.set i (hs[i] - 1)).map V.int)) r=some (.lst ((hs.set i (hs[i] - 1)).map V.int)):=ao;have Hr:ig (upd H5 r (.lst ((hs.set i (hs[i] - 1)).map V.int))) p:=yN.upd rp.symm;have B6:But p H (upd H5 r (.lst ((hs.set i (hs[i] - 1)).map V.int))):=B5.new hr0;generalize hs.set i (hs[i] - 1)=Uc at V7 hl6 er6 Hr B6 ⊢;generalize upd H5 r (.lst (Uc.map V.int))=H6 at er6 Hr B6 ⊢;refine⟨_,.inl (aX.of er6),?_⟩;rw[List.length_map];refine fB.of (fun h=>?_) (fun h=>?_)
        · have hi2:i2<Uc.length:=of_decide_eq_true h;have hv2:(Uc.map V.int)[i2]? = some (.int Uc[i2]):=by simp[hi2]
          have hge:=V7 Uc[i2] (List.getElem_mem _);simp -dsimp;refine⟨_,.inl (aX.of er6),_,aV hv2,?_⟩;simp -dsimp;refine⟨_,er6,i2,PN (by simpa using hi2),⟨Uc.set i2 (Uc[i2]+1),by rw[ao,← List.map_set],by rw[List.length_set];omega,Wz V7 (by omega)⟩,Hr.upd rp.symm,B6.new hr0⟩
        ·simp -dsimp;exact⟨⟨Uc,er6,by omega,V7⟩,Hr,B6⟩
      ·simp -dsimp;exact⟨⟨hs,er5,hl,hn⟩,yN,B5⟩
    ·rintro σ H3 ⟨⟨o3,o4,o5,rfl⟩,⟨hs,er,hl,hn⟩,uf,hB3⟩;simp -dsimp;exact q r hs H3 hr0 er hl hn uf hB3
def MP:Sp:=fun vs H Q _=>∃(p t n l:Addr) (xs:List Str) (tv:List V) (ps:List (Str×Str)),vs=[.ref p,.ref t]∧ig H p∧jz H t n l xs tv ps∧n≠p∧l≠p∧
  ∀(r:Addr) (gs:List Int) (H':Hp),H r=none→H' r=some (.lst (gs.map V.int))→gs.length=xs.length→(∀n∈gs,0≤n)→ig H' p→But p H H'→Q (.ref r) H'
theorem M4 (T:Txt K mg a):cF P w K mg base jA 3 a.gU a.p7 ["_law_pot_here", "_law_web_here"] MP:=by
  refine T.xH.oO pR (fun vs H Q E h=>?_) (fun cdv A outer s H vs Q E hr h=>?_)
  ·obtain⟨p,t,n,l,xs,tv,ps,rfl,_⟩:=h;rfl
  · obtain⟨p,t,n,l,xs,tv,ps,rfl,hP,hG,np,lp,q⟩:=h;refine⟨_,(aA (bA (i:=2) pR.nd rfl (Or.inl rfl) (PE.eqv (aN (d8 (K:=K) T) (hr.mono (by decide)) rfl T.fW T.fG.kp T.fV .nil bw (aj (aK 0) (aj aG aq))) (aJ _ _ _)))
      (aA (bA (i:=3) pR.nd rfl (Or.inl rfl) (PE.eqv (aN (Wn (K:=K) T) (hr.mono (by decide)) rfl T.VN T.O9.kp T.VL .nil bw (aj (aK 1) (aj (PE.eqv (aN (Wm (K:=K) T) (hr.mono (by decide)) rfl T.Pa T.GZ.kp T.O_ .nil bw (aj (aK 0) (aj (aK 1) aq))) (aJ _ _ _)) aq))) (aJ _ _ _)))
      (aA (cO (aR pK (aK 2) aG (bC _)) (aD (aY (aK 3))) bB)
      (aA (cO (aR pK (aK 2) aG (bC _)) (aD (aY (PE.eqv (aN (WD (K:=K) T) (hr.mono (by decide)) rfl T.Pg T.G3.kp T.Pb .nil bw (aj (aK 0) (aj (aK 3) aq))) (aJ _ _ _)))) bB)
      (aA (bA (i:=4) pR.nd rfl (Or.inr rfl) (bQ (bT (K:=K) rfl) (gA (aj aG (aj (cD Oh aG aG) aq))) (cD I_ (PE.eqv (aN (d8 (K:=K) T) (hr.mono (by decide)) rfl T.fW T.fG.kp T.fV .nil bw (aj (aK 0) (aj aG aq))) (aJ _ _ _)) aG) (fun _ _=>rfl)))
      (aD (aY (cJ rfl rfl (show aQ (ak gb) _ ["_law_pot_here", "_law_web_here", "_law_kind", "_law_ins_here", "_law_most"] ["_law_name"] [0,4] ["_law_name", "_law_pot_here", "_law_most"] from⟨rfl,by decide+kernel,by decide+kernel,rfl,by decide+kernel,by decide+kernel⟩) rfl (PI.eqv (cN (K:=K) rfl (bQ (bT (K:=K) rfl) (aK 1) aG (fun _ _=>rfl))) (bZ _ _)) (fun C s H fp pn=>(aO (i:=0) (show(["_law_name", "_law_pot_here", "_law_most"]:List Str).Nodup by decide+kernel) rfl (Or.inl rfl))) (fun C s H fp pn=>dz) (fun C s H fp pn=>(PE.eqv (aN (d8 (K:=K) T) (hr.mono (by decide)) rfl T.fW T.fG.kp T.fV .nil bw (aj (aK 1) (aj (aK 2) aq))) (aJ _ _ _))))))))))),?_⟩
    have Rh:60≤sizeLine:=by decide
    have l9:=hG.2.2.2.2.1.len;have CT:=hG.2.2.2.2.2.len;have tl:=hG.2.2.2.1.1;simp -dsimp;refine⟨p,8,rfl,hP,by decide,by decide,fun d1 H1 hd0 hd1 Ho JL=>?_⟩;have Wx:=hG.but hP JL np lp;simp -dsimp;refine⟨p,t,n,l,tv,rfl,Ho,Wx.1,Wx.2.2.1,lp,by omega,fun r2 ns H2 hr2 e2 hl2 h01 hP2 hB2=>?_⟩;have Bp:=Wx.but Ho hB2 np lp;have B2:=JL.trans hB2;simp -dsimp;refine⟨t,n,l,r2,xs,tv,ps,ns,rfl,Bp,e2,by omega,h01,fun r3 H3 Xp e3 s3=>?_⟩;have B3:=B2.same s3;have uf:=hP2.keep s3;have qks:H r3=none:=hP2.none B2 Xp;simp -dsimp;refine fB.of (fun h=>?_) (fun h=>?_)
    ·simp -dsimp;refine q r3 _ H3 qks e3 (by simp) (fun n hn=>?_) uf B3;obtain⟨x,_,rfl⟩:=List.mem_map.mp hn;exact Int.natCast_nonneg _
    · simp -dsimp;refine fB.of (fun h=>?_) (fun h=>?_)
      · simp -dsimp;refine⟨p,r3,_,rfl,uf,e3,by simp;omega,by simp;omega,fun n hn=>?_,fun r4 hs H4 JM e4 hl4 ZD yM xM=>?_⟩
        ·obtain⟨x,_,rfl⟩:=List.mem_map.mp hn;exact Int.natCast_nonneg _
        ·simp -dsimp;exact q r4 hs H4 (uf.none B3 JM) e4 (by rw[hl4];simp) ZD yM (B3.trans xM)
      · simp -dsimp;intro p4 hp4;have s4:Same H3 (upd H3 p4 (.lst [.int 5,.int 1000000000000000000])):=au hp4;have e4:upd H3 p4 (.lst [.int 5,.int 1000000000000000000]) p4=some (.lst [.int 5,.int 1000000000000000000]):=ao;have p4p:p4≠p:=(uf.ne hp4).symm;generalize upd H3 p4 (.lst [.int 5,.int 1000000000000000000])=H4 at s4 e4 ⊢;have B4:=B3.same s4;have yM:=uf.keep s4;have hG4:=(Bp.same s3).same s4;refine⟨p,4,rfl,yM,by decide,by decide,fun d5 H5 qkr qfj yN Hq=>?_⟩;have e5:=Hq _ _ p4p e4;have hG5:=hG4.but yM Hq np lp;have B5:=B4.trans Hq;obtain⟨m,hm,hm0,hm1⟩:∃m:Int,Ce [V.int 5,V.int 1000000000000000000] (d5 / 3)=some (.int m)∧0<m∧m<2000000000000000000:=by
          have h2:d5 / 3=0∨d5 / 3=1:=by omega
          rcases h2 with h2 | h2
          ·rw[h2];exact⟨5,aV (j:=0) rfl,by decide,by decide⟩
          ·rw[h2];exact⟨1000000000000000000,aV (j:=1) rfl,by decide,by decide⟩
        simp -dsimp;refine⟨_,.inl (aX.of e5),_,hm,?_⟩;refine⟨_,.inr (d9.of hG5.1),_,aV (j:=0) rfl,?_⟩;simp -dsimp;refine⟨⟨_,aX.of hG5.2.1⟩,fun D hD=>Oa (xs.map V.str) (fun i σ H'=>(∃o',σ=[o',some (.ref p),some (.int m)])∧(∃gs:List Int,H' D=some (.lst (gs.map V.int))∧gs.length=i∧∀n∈gs,0≤n)∧H' n=some (.lst (xs.map V.str))∧ig H' p∧But p H5 H') ⟨⟨_,rfl⟩,⟨[],ao,rfl,by simp⟩,bI hG5.2.1 hD,yN.upd (yN.ne hD),But.of (au hD)⟩ (fun i σ H' _ h=>aX.of h.2.2.1) ?_ ?_⟩
        · rintro i x σ H6 hi ⟨⟨o',rfl⟩,⟨gs,Hs,hg,hn⟩,V7,Hr,Mr⟩;obtain⟨y,hy,rfl⟩:=iK hi;have hi2:i<xs.length:=(List.getElem?_eq_some_iff.mp hy).1;have Dp:D≠p:=(yN.ne hD).symm;have nD:n≠D:=aH hG5.2.1 hD;simp -dsimp;refine⟨p,m,rfl,Hr,hm0,hm1,fun d7 H7 qkt qmV Xo RP=>?_⟩;simp -dsimp;refine⟨_,RP _ _ Dp Hs,by simp;omega,⟨gs++[d7],by rw[ao];simp,by simp[hg],fun k hk=>?_⟩,by rw[aB nD];exact RP _ _ np V7,Xo.upd Dp.symm,(Mr.trans RP).new hD⟩
          rcases List.mem_append.mp hk with hk | hk
          ·exact hn k hk
          ·rw[List.mem_singleton] at hk;subst hk;exact qkt
        ·rintro σ H6 ⟨⟨o',rfl⟩,⟨gs,Hs,hg,hn⟩,V7,Hr,Mr⟩;simp -dsimp;exact q D gs H6 (yN.none B5 hD) Hs (by rw[hg,List.length_map]) hn Hr (B5.trans Mr)
theorem WK:∀{xs:List Str} {gs:List Int},xs.Nodup→gs.length=xs.length→(∀n∈gs,0≤n)→∃g:Str→Nat,gs=xs.map fun x=>(g x:Int)
  | [],[],_,_,_=>⟨fun _=>0,rfl⟩
  | [],_::_,_,h,_=>by simp at h
  | _::_,[],_,h,_=>by simp at h
  | x::xs,k::gs,nd,h,hn=>by
    obtain⟨g,hg⟩:=WK (xs:=xs) (gs:=gs) (List.nodup_cons.mp nd).2 (by simpa using h) fun n hn'=>hn n (List.mem_cons_of_mem _ hn');have hk:=hn k List.mem_cons_self;refine⟨fun y=>if y=x then k.toNat else g y,?_⟩
    rw[List.map_cons];congr 1
    ·simp;omega
    ·rw[hg];refine List.map_congr_left fun y hy=>?_;have:y≠x:=fun z=>(List.nodup_cons.mp nd).1 (z▸hy);simp[this]
def WL (C:Addr):Sp:=fun vs H Q _=>∃(p:Addr),vs=[.ref p]∧ig H p∧∀H',But p H H'→Q (.bl true) H'
theorem WM (T:Txt K mg a):cF P w K mg base jA 9 a.lV a.vK ["_law_pot_here"] (WL a.bU):=by
  refine T.G5.oO mH (fun vs H Q E h=>?_) (fun cdv A outer s H vs Q E hr h=>?_)
  ·obtain⟨p,rfl,_⟩:=h;rfl
  · obtain⟨p,rfl,hPp,q⟩:=h;refine⟨_,(aA (bA (i:=1) mH.nd rfl (Or.inl rfl) (PE.eqv (aN (qcx (K:=K) T) (hr.mono (by decide)) rfl T.qaF T.VJ.kp T.qaE .nil bw (aj (aK 0) (aj aG (aj aG aq)))) (aJ _ _ _)))
      (aA (bA (i:=2) mH.nd rfl (Or.inl rfl) (PE.eqv (XR T.qaI (JG (K:=K) T) (hr.mono (by decide)) rfl T.qaH T.Aa .nil bw (aj (bQ (bT (K:=K) rfl) (aK 1) aG (fun _ _=>rfl)) (aj (bQ (bT (K:=K) rfl) (aK 1) aG (fun _ _=>rfl)) aq))) (U3 _ _ _ _)))
      (aA (bA (i:=3) mH.nd rfl (Or.inl rfl) (PE.eqv (aN (M4 (K:=K) T) (hr.mono (by decide)) rfl T.En T.xH.kp T.Em .nil bw (aj (aK 0) (aj (aK 1) aq))) (aJ _ _ _)))
      (aA (bA (i:=4) mH.nd rfl (Or.inl rfl) (PE.eqv (aN (Rr (K:=K) T) (hr.mono (by decide)) rfl T.Jx T.Aj.kp T.Jw .nil bw (aj (aK 0) (aj (aK 3) aq))) (aJ _ _ _)))
      (aA (bA (i:=5) mH.nd rfl (Or.inl rfl) (bQ (bT (K:=K) rfl) (gA (aj jB (aj jB aq))) (dX zM rfl T.nm.int wI (aj (PE.eqv (aN (Rw (K:=K) T) (hr.mono (by decide)) rfl T.Jz T.Ak.kp T.Jy .nil bw (aj (aK 1) (aj (aK 3) aq))) (aJ _ _ _)) aq)) (fun _ _=>rfl)))
      (aA (lZ PassesOwn.never rfl (PI.eqv (jD rfl T.nm.range (aj aG aq)) (jK _)) (aO (i:=6) mH.nd rfl (Or.inl rfl))
      (aD (cO (PW.pt (lY (aR wR (PE.eqv (aN (Z7 (K:=K) T) (hr.mono (by decide)) rfl T.VR T.Mj.kp T.VP .nil bw (aj (aK 1) (aj (aK 2) (aj (aK 3) (aj (aK 4) aq))))) (aJ _ _ _)) (aK 5) (bC _)) (iV (aR (U6 (K:=K) rfl hr.units) (dX (pB (K:=K) rfl) rfl T.nm.list boot_list (aj (aK 4) aq)) (aK 3) (bC _))))) (aD (aY lB)) bB)))
      (aD (aY lB)))))))),?_⟩
    have qmW:600<sizeLine:=by decide
    simp -dsimp[-Bool.exists_bool];refine⟨p,9,20,rfl,hPp,by decide,by decide,by decide,by decide,fun t n l xs tv ps H1 ht0 hn0 hl0 ht1 hn1 hl1 Z8 hX hTs _ _ Ho JL=>?_⟩;have np:n≠p:=(hPp.ne hn0).symm;have lp:l≠p:=(hPp.ne hl0).symm;have tp:t≠p:=(hPp.ne ht0).symm;have l9:=hX.len;have CT:=hTs.len;have tl:=Z8.1;simp -dsimp[-Bool.exists_bool];refine⟨_,.inr (d9.of ht1),_,aV (j:=0) rfl,_,.inr (d9.of ht1),_,aV (j:=1) rfl,fun o dx ho hdx qmX=>?_⟩;have so:Same H1 (upd (upd H1 dx (.own o)) o (.ins a.bU dx [])):=fun b u e=>by
      rw[aB (aH e ho),aB (aH e hdx)];exact e
    have hpr:ni H1 tv ps:=⟨Z8.1,fun i v e h1 h2=>by
      obtain⟨t,rfl,z⟩:=Z8.2 i v e h1 h2;exact⟨t,rfl,.inr z⟩⟩
    refine⟨o,dx,n,l,tv,xs,ps,rfl,ao,.inl (so _ _ hl1),hpr.same so,.inl (so _ _ hn1),hX,hTs,fun H2 hW2 hB2=>⟨rfl,?_⟩⟩;have s2:Same H1 H2:=fun b u e=>hB2 b u (aH e ho) (so b u e);have hP2:=Ho.keep s2;have Bp:jz H2 t n l xs tv ps:=⟨s2 _ _ ht1,s2 _ _ hn1,s2 _ _ hl1,bJ.same Z8 s2,hX,hTs⟩;simp -dsimp[-Bool.exists_bool];refine⟨p,t,n,l,xs,tv,ps,rfl,hP2,Bp,np,lp,fun r gs H3 hr0 Xp hrl hge uf hB3=>?_⟩;have rp:r≠p:=(hP2.ne hr0).symm;have V9:=hW2.but hP2 hB3;have hG3:=Bp.but hP2 hB3 np lp;have B3:=(JL.same s2).trans hB3;obtain⟨g,rfl⟩:=WK hX.nd hrl hge;simp -dsimp[-Bool.exists_bool];refine⟨p,r,_,rfl,uf,Xp,rp,by simp;omega,fun r4 H4 r4p hq4 yM xM=>?_⟩;have hW4:=V9.but uf xM;have hG4:=hG3.but uf xM np lp;have JM:=xM _ _ rp Xp;have B4:=B3.trans xM;simp -dsimp[-Bool.exists_bool];intro p5 hp5;have s5:Same H4 (upd H4 p5 (.lst [.str "no",.str "yes"])):=au hp5;have e5:upd H4 p5 (.lst [.str "no",.str "yes"]) p5=some (.lst [.str "no",.str "yes"]):=ao;generalize upd H4 p5 (.lst [.str "no",.str "yes"])=H5 at s5 e5 ⊢;refine⟨t,n,l,r,xs,tv,ps,g,rfl,hG4.same s5,s5 _ _ JM,fun z H6 hz s6=>?_⟩;have S6:=s5.trans s6;obtain⟨w',hw',hwz⟩:∃w':Str,Ce [V.str "no",V.str "yes"] (if z=true then 1 else 0)=some (.str w')∧w'=if z=true then "yes" else "no" :=by
      cases z with
      | true=>exact⟨"yes",aV (j:=1) rfl,rfl⟩
      | false=>exact⟨"no",aV (j:=0) rfl,rfl⟩
    simp -dsimp[-Bool.exists_bool];have isI:∀{H:Hp} {c:Addr} {ms:List Int},H c=some (.lst (ms.map V.int))→Is K H (.list (gC ms)) (.ref c):=fun e=>⟨_,_,rfl,aX.of e,yu _⟩;have lay:∀ms:List Int,PyData.canLay0 (.list (gC ms))=true:=fun ms=>lay_ints ms;have dep:∀ms:List Int,(PyData.list (gC ms)).depth≤64:=fun ms=>by
      have:=zK ms;simp[PyData.depth];omega
    refine⟨_,.inl (aX.of (s6 _ _ e5)),_,hw',frR (fun k σ H'=>(∃o6,σ=[some (.ref p),some (.ref t),some (.ref o),some (.ref r),some (.ref r4),some (.str w'),o6])∧Same H4 H') ⟨⟨_,rfl⟩,S6⟩ ?_ ?_⟩
    · rintro k σ H7 hk ⟨⟨o6,rfl⟩,s7⟩;simp -dsimp[-Bool.exists_bool];have rest:∀H8,Same H4 H8→∀c,H8 c=none→Same H4 (upd H8 c (.lst ((xs.map fun x=>(g x:Int)).map V.int))):=fun H8 s8 c hc=>s8.trans (au hc);refine⟨t,n,l,o,r,r4,xs,tv,ps,g,rfl,hG4.same s7,hW4.same s7,s7 _ _ JM,hq4.same s7,fun hcan H8 s8=>?_,fun hno H8 s8=>?_⟩
      ·have hzt:z=true:=hz.mpr hcan;subst hzt;rw[if_pos rfl] at hwz;subst hwz;have S8:=s7.trans s8;simp -dsimp[-Bool.exists_bool];refine⟨_,(hq4.same S8).q,fun c9 hc9=>?_⟩;exact⟨_,isI ao,_,isI (bI (S8 _ _ JM) hc9),lay _,lay _,dep _,false,by simp[PyData.eqv,u0],fB.neg rfl ⟨⟨_,rfl⟩,rest _ S8 _ hc9⟩⟩
      · have hzt:z=false:=by
          cases z with
          | true=>exact absurd (hz.mp rfl) hno
          | false=>rfl
        subst hzt;rw[if_neg (by decide)] at hwz;subst hwz;have S8:=s7.trans s8;simp -dsimp[-Bool.exists_bool];refine⟨_,(hq4.same S8).q,fun c9 hc9=>?_⟩;exact⟨_,isI ao,_,isI (bI (S8 _ _ JM) hc9),lay _,lay _,dep _,false,by simp[PyData.eqv,u0],fB.neg rfl ⟨⟨_,rfl⟩,rest _ S8 _ hc9⟩⟩
    ·rintro σ H7 ⟨⟨o6,rfl⟩,s7⟩;simp -dsimp[-Bool.exists_bool];exact q _ (B4.same s7)
def Hi (K:W.Frag):Sp:=fun vs H Q _=>∃(l:Addr) (ns:List Int),vs=[.ref l]∧aX K H l (ns.map V.int)∧ns.length≤63∧∀H',Q (.bl true) H'
theorem qcT (T:Txt K mg a):cF P w K mg base jA 10 a.xX a.GK ["_law_script"] (Hi K):=by
  refine T.qaG.oO VF (fun vs H Q E h=>?_) (fun cdv A outer s H vs Q E hr h=>?_)
  ·obtain⟨l,ns,rfl,_⟩:=h;rfl
  · obtain⟨sl,ns,rfl,hS,hlen,q⟩:=h;refine⟨_,(aA (lZ PassesOwn.never rfl (PI.eqv (jD rfl T.nm.range (aj (aM (zN rfl) rfl T.nm.max boot_max (aj aG (aj (aM (Li rfl) rfl T.nm.min boot_min (aj (aM (bV (K:=K) rfl) rfl T.nm.len PySem.boot_len (aj (aK 0) aq)) (aj aG aq))) aq))) aq)) (jK _)) (aO (i:=1) VF.nd rfl (Or.inl rfl))
      (aD (cO (fD (cA (PE.eqv (aN (WM (K:=K) T) (hr.mono (by decide)) rfl T.Pn T.G5.kp T.Pk .nil bw (aj (PE.eqv (aN (qcs (K:=K) T) (hr.mono (by decide)) rfl T.qaB T.VG.kp T.qaA .nil bw (aj (aK 0) (aj (aK 1) aq))) (aJ _ _ _)) aq)) (aJ _ _ _)))) (aD (aY lB)) bB)))
      (aD (aY lB))),?_⟩
    simp -dsimp[-Bool.exists_bool];refine⟨_,.inl hS,?_⟩;simp only[List.length_map];obtain⟨m,hm,hm6⟩:∃m:Nat,(if 1<if 6<(ns.length:Int) then (6:Int) else ns.length then if 6<(ns.length:Int) then (6:Int) else ns.length else 1)=m∧m≤6:=by
      by_cases h1:6<(ns.length:Int)
      ·rw[if_pos h1];exact⟨6,rfl,by decide⟩
      · rw[if_neg h1]
        by_cases h2:1<(ns.length:Int)
        ·exact⟨ns.length,by rw[if_pos h2],by omega⟩
        ·exact⟨1,by rw[if_neg h2];rfl,by decide⟩
    simp only[hm];refine⟨by omega,by omega,frR (fun i σ H'=>(∃o1,σ=[some (.ref sl),o1])∧Same H H') ⟨⟨_,rfl⟩,Same.refl _⟩ ?_ ?_⟩
    ·rintro i σ H1 hi ⟨⟨o1,rfl⟩,s1⟩;simp -dsimp[-Bool.exists_bool];refine⟨sl,ns,i,rfl,s1.seq hS,by simp at hi;omega,fun p H2 hp0 hP2 hB2=>?_⟩;have s2:Same H1 H2:=fun b o e=>hB2 b o (aH e hp0) e;refine⟨p,rfl,hP2,fun H3 hB3=>?_⟩;have s3:Same H1 H3:=fun b o e=>hB3 b o (aH e hp0) (s2 b o e);simp -dsimp[-Bool.exists_bool];exact s1.trans s3
    ·rintro σ H1 ⟨⟨o1,rfl⟩,s1⟩;simp -dsimp[-Bool.exists_bool];exact q _
end Zu
namespace Zu
open PySem L2
theorem Xq {α:Type} {n:Nat} (l:List α) (h:l.length=n+1):∃a r,l=a::r:=by
  cases l with
  | nil=>cases h
  | cons a r=>exact⟨a,r,rfl⟩
theorem nW {fd:FuncData} {ps:List Str} (h:∀v0,bindArgs fd {pos:=[v0]}=pure (ps.zip [v0])):∀us:List Value,us.length=1→bindArgs fd {pos:=us}=pure (ps.zip us):=by
  intro us hl;obtain⟨v0,us,rfl⟩:=Xq us hl;replace hl:=Nat.succ.inj hl;obtain rfl:=List.eq_nil_of_length_eq_zero hl;exact h v0
theorem dN {fd:FuncData} {ps:List Str} (h:∀v0 v1,bindArgs fd {pos:=[v0,v1]}=pure (ps.zip [v0,v1])):∀us:List Value,us.length=2→bindArgs fd {pos:=us}=pure (ps.zip us):=by
  intro us hl;obtain⟨v0,us,rfl⟩:=Xq us hl;replace hl:=Nat.succ.inj hl;obtain⟨v1,us,rfl⟩:=Xq us hl;replace hl:=Nat.succ.inj hl;obtain rfl:=List.eq_nil_of_length_eq_zero hl;exact h v0 v1
theorem rU {fd:FuncData} {ps:List Str} (h:∀v0 v1 v2,bindArgs fd {pos:=[v0,v1,v2]}=pure (ps.zip [v0,v1,v2])):∀us:List Value,us.length=3→bindArgs fd {pos:=us}=pure (ps.zip us):=by
  intro us hl;obtain⟨v0,us,rfl⟩:=Xq us hl;replace hl:=Nat.succ.inj hl;obtain⟨v1,us,rfl⟩:=Xq us hl;replace hl:=Nat.succ.inj hl;obtain⟨v2,us,rfl⟩:=Xq us hl;replace hl:=Nat.succ.inj hl;obtain rfl:=List.eq_nil_of_length_eq_zero hl;exact h v0 v1 v2
theorem WQ {fd:FuncData} {ps:List Str} (h:∀v0 v1 v2 v3,bindArgs fd {pos:=[v0,v1,v2,v3]}=pure (ps.zip [v0,v1,v2,v3])):∀us:List Value,us.length=4→bindArgs fd {pos:=us}=pure (ps.zip us):=by
  intro us hl;obtain⟨v0,us,rfl⟩:=Xq us hl;replace hl:=Nat.succ.inj hl;obtain⟨v1,us,rfl⟩:=Xq us hl;replace hl:=Nat.succ.inj hl;obtain⟨v2,us,rfl⟩:=Xq us hl;replace hl:=Nat.succ.inj hl;obtain⟨v3,us,rfl⟩:=Xq us hl;replace hl:=Nat.succ.inj hl;obtain rfl:=List.eq_nil_of_length_eq_zero hl;exact h v0 v1 v2 v3
theorem all_mk {l:W.OpenLaw} {w:World} {K:W.Frag} {h:Heap} {mg:Str→Option Value} {fa bU aP eN bK bG aZ cV dI cW gj fP gP dJ jh fQ eY cX eZ fj eG cY gQ cZ bM jk jl jm pY dg dh cg dM dj vq pZ lN lO vC vD vG lQ jt lR gU gk ju lU p8 lV xX:Addr} (X:K.In h) (G:h.Ns mainGlobals mg) (hfa:mg "law" = some (.ref fa))
    {od1 an1 od2 an2 od3 an3 od4 an4 od5 an5 od6 an6 od7 an7 od8 an8 od9 an9 qku qfk qkv qfl qkw qfm qkx qfn qky qfo qkz qfp qkA qfq qkB qfr qkC qfs qkD qft qkE qfu qkF qfv qkG qfw qkH qfx qkI qfy qkJ qfz qkK qfA qkL qfB qkM qfC qkN qfD qkO qfE qkP qfF qkQ qfG qkR qfH qkS qfI qkT qfJ qkU qfK qkV qfL qkW qfM qkX qfN qkY qfO qkZ qfP qk0 qfQ qk1 qfR qk2 qfS:Option Addr} {sl1 sl2 sl3 sl4 sl5 sl6 sl7 sl8 sl9 qk3 qk4 qk5 qk6 qk7 qk8 qk9 qk_ qla qlb qlc qld qle qlf qlg qlh qli qlj qlk qll qlm qln qlo qlp qlq qlr qls qlt qlu qlv qlw qlx qly qlz qlA:Array (Option Value)} {oc1 kV1 dc1 pm1 cd1 ct1 oc2 kV2 dc2 pm2 cd2 ct2 oc3 kV3 dc3 pm3 cd3 ct3 oc4 kV4 dc4 pm4 cd4 ct4 oc5 kV5 dc5 pm5 cd5 ct5 oc6 kV6 dc6 pm6 cd6 ct6 oc7 kV7 dc7 pm7 cd7 ct7 oc8 kV8 dc8 pm8 cd8 ct8 oc9 kV9 dc9 pm9 cd9 ct9 qlB qfT qfU qfV qcU qfW qlC qfX qfY qfZ qcV qf0 qlD qf1 qf2 qf3 qcW qf4 qlE qf5 qf6 qf7 qcX qf8 qlF qf9 qf_ qga qcY qgb qlG qgc qgd qge qcZ qgf qlH qgg qgh qgi qc0 qgj qlI qgk qgl qgm qc1 qgn qlJ qgo qgp qgq qc2 qgr qlK qgs qgt qgu qc3 qgv qlL qgw qgx qgy qc4 qgz qlM qgA qgB qgC qc5 qgD qlN qgE qgF qgG qc6 qgH qlO qgI qgJ qgK qc7 qgL qlP qgM qgN qgO qc8 qgP qlQ qgQ qgR qgS qc9 qgT qlR qgU qgV qgW qc_ qgX qlS qgY qgZ qg0 qda qg1 qlT qg2 qg3 qg4 qdb qg5 qlU qg6 qg7 qg8 qdc qg9 qlV qg_ qha qhb qdd qhc qlW qhd qhe qhf qde qhg qlX qhh qhi qhj qdf qhk qlY qhl qhm qhn qdg qho qlZ qhp qhq qhr qdh qhs ql0 qht qhu qhv qdi qhw ql1 qhx qhy qhz qdj qhA ql2 qhB qhC qhD qdk qhE ql3 qhF qhG qhH qdl qhI ql4 qhJ qhK qhL qdm qhM ql5 qhN qhO qhP qdn qhQ ql6 qhR qhS qhT qdo qhU ql7 qhV qhW qhX qdp qhY ql8 qhZ qh0 qh1 qdq qh2 ql9 qh3 qh4 qh5 qdr qh6:Value} {uG lA mQ qx:Tok}
    {uh Bq qy nY Br:ClassData} {WR WT:Str} {Z9:Addr} {WW Rx:List Value} {WX WY:Bool} {W0:List Str} {Ry:Option Bool} {W2:Option Addr} {W3 W4 W5 W6 W7:Option Value}
    (M5:W.nsIn K mainGlobals "Web" = some (some (.ref bU)))
    (nZ:W.nsIn K mainGlobals "PointError" = some (some (.ref aP)))
    (Bs:W.nsIn K mainGlobals "NoWeb" = some (some (.ref eN)))
    (qz:W.nsIn K mainGlobals "NoNumbers" = some (some (.ref bK)))
    (n6:W.nsIn K mainGlobals "NoPointing" = some (some (.ref bG)))
    (Bt:W.nsIn K mainGlobals "NoIns" = some (some (.ref aZ)))
    (a1:W.nsIn K mainGlobals "steps_along" = some (some (.ref cV)))
    (l1:K.lookup cV=some ⟨oc1,od1,.func (W.fnOf "steps_along" "steps_along" (aF cP) (aC cP) (ak cP) .none kV1 dc1 pm1 an1 cd1 ct1),sl1⟩) (c1:W.codeIn K cd1 "steps_along" = true) (k1:W.keepIn K (.ref cV)=true)
    (a2:W.nsIn K mainGlobals "ways_along" = some (some (.ref dI)))
    (l2:K.lookup dI=some ⟨oc2,od2,.func (W.fnOf "ways_along" "ways_along" (aF dF) (aC dF) (ak dF) .none kV2 dc2 pm2 an2 cd2 ct2),sl2⟩) (c2:W.codeIn K cd2 "ways_along" = true) (k2:W.keepIn K (.ref dI)=true)
    (a3:W.findIn K (.ref aZ) "__init__" = some (some (.ref cW))) (i3:W.isFn K (.ref cW)=true)
    (l3:K.lookup cW=some ⟨oc3,od3,.func (W.fnOf "__init__" "NoIns.__init__" (aF dG) (aC dG) (ak dG) .none kV3 dc3 pm3 an3 cd3 ct3),sl3⟩) (c3:W.codeIn K cd3 "NoIns.__init__" = true) (k3:W.keepIn K (.ref cW)=true)
    (a4:W.nsIn K mainGlobals "is_list" = some (some (.ref gj)))
    (l4:K.lookup gj=some ⟨oc4,od4,.func (W.fnOf "is_list" "is_list" (aF gM) (aC gM) (ak gM) .none kV4 dc4 pm4 an4 cd4 ct4),sl4⟩) (c4:W.codeIn K cd4 "is_list" = true) (k4:W.keepIn K (.ref gj)=true)
    (a5:W.nsIn K mainGlobals "is_whole" = some (some (.ref fP)))
    (l5:K.lookup fP=some ⟨oc5,od5,.func (W.fnOf "is_whole" "is_whole" (aF fL) (aC fL) (ak fL) .none kV5 dc5 pm5 an5 cd5 ct5),sl5⟩) (c5:W.codeIn K cd5 "is_whole" = true) (k5:W.keepIn K (.ref fP)=true)
    (a6:W.nsIn K mainGlobals "is_name" = some (some (.ref gP)))
    (l6:K.lookup gP=some ⟨oc6,od6,.func (W.fnOf "is_name" "is_name" (aF f9) (aC f9) (ak f9) .none kV6 dc6 pm6 an6 cd6 ct6),sl6⟩) (c6:W.codeIn K cd6 "is_name" = true) (k6:W.keepIn K (.ref gP)=true)
    (a7:W.nsIn K mainGlobals "are_points" = some (some (.ref dJ)))
    (l7:K.lookup dJ=some ⟨oc7,od7,.func (W.fnOf "are_points" "are_points" (aF cQ) (aC cQ) (ak cQ) .none kV7 dc7 pm7 an7 cd7 ct7),sl7⟩) (c7:W.codeIn K cd7 "are_points" = true) (k7:W.keepIn K (.ref dJ)=true)
    (a8:W.nsIn K mainGlobals "is_tie" = some (some (.ref jh)))
    (l8:K.lookup jh=some ⟨oc8,od8,.func (W.fnOf "is_tie" "is_tie" (aF iB) (aC iB) (ak iB) .none kV8 dc8 pm8 an8 cd8 ct8),sl8⟩) (c8:W.codeIn K cd8 "is_tie" = true) (k8:W.keepIn K (.ref jh)=true)
    (a9:W.nsIn K mainGlobals "are_ties" = some (some (.ref fQ)))
    (l9:K.lookup fQ=some ⟨oc9,od9,.func (W.fnOf "are_ties" "are_ties" (aF eV) (aC eV) (ak eV) .none kV9 dc9 pm9 an9 cd9 ct9),sl9⟩) (c9:W.codeIn K cd9 "are_ties" = true) (k9:W.keepIn K (.ref fQ)=true)
    (a10:W.findIn K (.ref bU) "__init__" = some (some (.ref eY))) (i10:W.isFn K (.ref eY)=true)
    (l10:K.lookup eY=some ⟨qlB,qku,.func (W.fnOf "__init__" "Web.__init__" (aF eX) (aC eX) (ak eX) .none qfT qfU qfV qfk qcU qfW),qk3⟩) (c10:W.codeIn K qcU "Web.__init__" = true) (k10:W.keepIn K (.ref eY)=true)
    (a11:W.findIn K (.ref bU) "points" = some (some (.ref cX))) (i11:W.isFn K (.ref cX)=true)
    (l11:K.lookup cX=some ⟨qlC,qkv,.func (W.fnOf "points" "Web.points" (aF dH) (aC dH) (ak dH) .none qfX qfY qfZ qfl qcV qf0),qk4⟩) (c11:W.codeIn K qcV "Web.points" = true) (k11:W.keepIn K (.ref cX)=true)
    (a12:W.findIn K (.ref bU) "ties" = some (some (.ref eZ))) (i12:W.isFn K (.ref eZ)=true)
    (l12:K.lookup eZ=some ⟨qlD,qkw,.func (W.fnOf "ties" "Web.ties" (aF fM) (aC fM) (ak fM) .none qf1 qf2 qf3 qfm qcW qf4),qk5⟩) (c12:W.codeIn K qcW "Web.ties" = true) (k12:W.keepIn K (.ref eZ)=true)
    (a13:W.findIn K (.ref bU) "many" = some (some (.ref fj))) (i13:W.isFn K (.ref fj)=true)
    (l13:K.lookup fj=some ⟨qlE,qkx,.func (W.fnOf "many" "Web.many" (aF fO) (aC fO) (ak fO) .none qf5 qf6 qf7 qfn qcX qf8),qk6⟩) (c13:W.codeIn K qcX "Web.many" = true) (k13:W.keepIn K (.ref fj)=true)
    (a14:W.nsIn K mainGlobals "is_number" = some (some (.ref eG)))
    (l14:K.lookup eG=some ⟨qlF,qky,.func (W.fnOf "is_number" "is_number" (aF eF) (aC eF) (ak eF) .none qf9 qf_ qga qfo qcY qgb),qk7⟩) (c14:W.codeIn K qcY "is_number" = true) (k14:W.keepIn K (.ref eG)=true)
    (a15:W.nsIn K mainGlobals "are_numbers" = some (some (.ref cY)))
    (l15:K.lookup cY=some ⟨qlG,qkz,.func (W.fnOf "are_numbers" "are_numbers" (aF cG) (aC cG) (ak cG) .none qgc qgd qge qfp qcZ qgf),qk8⟩) (c15:W.codeIn K qcZ "are_numbers" = true) (k15:W.keepIn K (.ref cY)=true)
    (a16:W.nsIn K mainGlobals "is_lead" = some (some (.ref gQ)))
    (l16:K.lookup gQ=some ⟨qlH,qkA,.func (W.fnOf "is_lead" "is_lead" (aF gO) (aC gO) (ak gO) .none qgg qgh qgi qfq qc0 qgj),qk9⟩) (c16:W.codeIn K qc0 "is_lead" = true) (k16:W.keepIn K (.ref gQ)=true)
    (a17:W.nsIn K mainGlobals "is_pointing" = some (some (.ref cZ)))
    (l17:K.lookup cZ=some ⟨qlI,qkB,.func (W.fnOf "is_pointing" "is_pointing" (aF cH) (aC cH) (ak cH) .none qgk qgl qgm qfr qc1 qgn),qk_⟩) (c17:W.codeIn K qc1 "is_pointing" = true) (k17:W.keepIn K (.ref cZ)=true)
    (a18:W.nsIn K mainGlobals "sure_of_pointing" = some (some (.ref bM)))
    (l18:K.lookup bM=some ⟨qlJ,qkC,.func (W.fnOf "sure_of_pointing" "sure_of_pointing" (aF bL) (aC bL) (ak bL) .none qgo qgp qgq qfs qc2 qgr),qla⟩) (c18:W.codeIn K qc2 "sure_of_pointing" = true) (k18:W.keepIn K (.ref bM)=true)
    (a19:W.nsIn K mainGlobals "arrows" = some (some (.ref jk)))
    (l19:K.lookup jk=some ⟨qlK,qkD,.func (W.fnOf "arrows" "arrows" (aF jc) (aC jc) (ak jc) .none qgs qgt qgu qft qc3 qgv),qlb⟩) (c19:W.codeIn K qc3 "arrows" = true) (k19:W.keepIn K (.ref jk)=true)
    (a20:W.nsIn K mainGlobals "turned" = some (some (.ref jl)))
    (ZP:K.lookup jl=some ⟨qlL,qkE,.func (W.fnOf "turned" "turned" (aF iC) (aC iC) (ak iC) .none qgw qgx qgy qfu qc4 qgz),qlc⟩) (c20:W.codeIn K qc4 "turned" = true) (k20:W.keepIn K (.ref jl)=true)
    (a21:W.nsIn K mainGlobals "ins_of" = some (some (.ref jm)))
    (l21:K.lookup jm=some ⟨qlM,qkF,.func (W.fnOf "ins_of" "ins_of" (aF gF) (aC gF) (ak gF) .none qgA qgB qgC qfv qc5 qgD),qld⟩) (c21:W.codeIn K qc5 "ins_of" = true) (k21:W.keepIn K (.ref jm)=true)
    (a22:W.nsIn K mainGlobals "gaps" = some (some (.ref pY)))
    (l22:K.lookup pY=some ⟨qlN,qkG,.func (W.fnOf "gaps" "gaps" (aF mF) (aC mF) (ak mF) .none qgE qgF qgG qfw qc6 qgH),qle⟩) (c22:W.codeIn K qc6 "gaps" = true) (k22:W.keepIn K (.ref pY)=true)
    (a23:W.nsIn K mainGlobals "sure_of_ins" = some (some (.ref dg)))
    (l23:K.lookup dg=some ⟨qlO,qkH,.func (W.fnOf "sure_of_ins" "sure_of_ins" (aF cI) (aC cI) (ak cI) .none qgI qgJ qgK qfx qc7 qgL),qlf⟩) (c23:W.codeIn K qc7 "sure_of_ins" = true) (k23:W.keepIn K (.ref dg)=true)
    (a24:W.nsIn K mainGlobals "way_between" = some (some (.ref dh)))
    (l24:K.lookup dh=some ⟨qlP,qkI,.func (W.fnOf "way_between" "way_between" (aF cR) (aC cR) (ak cR) .none qgM qgN qgO qfy qc8 qgP),qlg⟩) (c24:W.codeIn K qc8 "way_between" = true) (k24:W.keepIn K (.ref dh)=true)
    (a25:W.nsIn K mainGlobals "leads_between" = some (some (.ref cg)))
    (l25:K.lookup cg=some ⟨qlQ,qkJ,.func (W.fnOf "leads_between" "leads_between" (aF b_) (aC b_) (ak b_) .none qgQ qgR qgS qfz qc9 qgT),qlh⟩) (c25:W.codeIn K qc9 "leads_between" = true) (k25:W.keepIn K (.ref cg)=true)
    (a26:W.nsIn K mainGlobals "refuse_ins" = some (some (.ref dM)))
    (l26:K.lookup dM=some ⟨qlR,qkK,.func (W.fnOf "refuse_ins" "refuse_ins" (aF cL) (aC cL) (ak cL) .none qgU qgV qgW qfA qc_ qgX),qli⟩) (c26:W.codeIn K qc_ "refuse_ins" = true) (k26:W.keepIn K (.ref dM)=true)
    (a27:W.nsIn K mainGlobals "pointing_of" = some (some (.ref dj)))
    (l27:K.lookup dj=some ⟨qlS,qkL,.func (W.fnOf "pointing_of" "pointing_of" (aF cT) (aC cT) (ak cT) .none qgY qgZ qg0 qfB qda qg1),qlj⟩) (c27:W.codeIn K qda "pointing_of" = true) (k27:W.keepIn K (.ref dj)=true)
    (a28:W.nsIn K mainGlobals "_law_pot" = some (some (.ref vq)))
    (l28:K.lookup vq=some ⟨qlT,qkM,.func (W.fnOf "_law_pot" "_law_pot" (aF vm) (aC vm) (ak vm) .none qg2 qg3 qg4 qfC qdb qg5),qlk⟩) (c28:W.codeIn K qdb "_law_pot" = true) (k28:W.keepIn K (.ref vq)=true)
    (a29:W.nsIn K mainGlobals "_law_take" = some (some (.ref pZ)))
    (l29:K.lookup pZ=some ⟨qlU,qkN,.func (W.fnOf "_law_take" "_law_take" (aF pP) (aC pP) (ak pP) .none qg6 qg7 qg8 qfD qdc qg9),qll⟩) (c29:W.codeIn K qdc "_law_take" = true) (k29:W.keepIn K (.ref pZ)=true)
    (a30:W.nsIn K mainGlobals "_law_names" = some (some (.ref lN)))
    (l30:K.lookup lN=some ⟨qlV,qkO,.func (W.fnOf "_law_names" "_law_names" (aF jU) (aC jU) (ak jU) .none qg_ qha qhb qfE qdd qhc),qlm⟩) (c30:W.codeIn K qdd "_law_names" = true) (k30:W.keepIn K (.ref lN)=true)
    (a31:W.nsIn K mainGlobals "_law_mixed" = some (some (.ref lO)))
    (l31:K.lookup lO=some ⟨qlW,qkP,.func (W.fnOf "_law_mixed" "_law_mixed" (aF lH) (aC lH) (ak lH) .none qhd qhe qhf qfF qde qhg),qln⟩) (c31:W.codeIn K qde "_law_mixed" = true) (k31:W.keepIn K (.ref lO)=true)
    (a32:W.nsIn K mainGlobals "_law_tie" = some (some (.ref vC)))
    (l32:K.lookup vC=some ⟨qlX,qkQ,.func (W.fnOf "_law_tie" "_law_tie" (aF vo) (aC vo) (ak vo) .none qhh qhi qhj qfG qdf qhk),qlo⟩) (c32:W.codeIn K qdf "_law_tie" = true) (k32:W.keepIn K (.ref vC)=true)
    (a33:W.nsIn K mainGlobals "_law_web" = some (some (.ref vD)))
    (l33:K.lookup vD=some ⟨qlY,qkR,.func (W.fnOf "_law_web" "_law_web" (aF qO) (aC qO) (ak qO) .none qhl qhm qhn qfH qdg qho),qlp⟩) (c33:W.codeIn K qdg "_law_web" = true) (k33:W.keepIn K (.ref vD)=true)
    (a34:W.nsIn K mainGlobals "_law_ins" = some (some (.ref vG)))
    (l34:K.lookup vG=some ⟨qlZ,qkS,.func (W.fnOf "_law_ins" "_law_ins" (aF rG) (aC rG) (ak rG) .none qhp qhq qhr qfI qdh qhs),qlq⟩) (c34:W.codeIn K qdh "_law_ins" = true) (k34:W.keepIn K (.ref vG)=true)
    (a35:W.nsIn K mainGlobals "_law_drawn" = some (some (.ref lQ)))
    (l35:K.lookup lQ=some ⟨ql0,qkT,.func (W.fnOf "_law_drawn" "_law_drawn" (aF jV) (aC jV) (ak jV) .none qht qhu qhv qfJ qdi qhw),qlr⟩) (c35:W.codeIn K qdi "_law_drawn" = true) (k35:W.keepIn K (.ref lQ)=true)
    (a36:W.nsIn K mainGlobals "_law_handed" = some (some (.ref jt)))
    (l36:K.lookup jt=some ⟨ql1,qkU,.func (W.fnOf "_law_handed" "_law_handed" (aF jd) (aC jd) (ak jd) .none qhx qhy qhz qfK qdj qhA),qls⟩) (c36:W.codeIn K qdj "_law_handed" = true) (k36:W.keepIn K (.ref jt)=true)
    (a37:W.nsIn K mainGlobals "_law_moved" = some (some (.ref lR)))
    (l37:K.lookup lR=some ⟨ql2,qkV,.func (W.fnOf "_law_moved" "_law_moved" (aF lJ) (aC lJ) (ak lJ) .none qhB qhC qhD qfL qdk qhE),qlt⟩) (c37:W.codeIn K qdk "_law_moved" = true) (k37:W.keepIn K (.ref lR)=true)
    (a38:W.nsIn K mainGlobals "_law_numbers" = some (some (.ref gU)))
    (l38:K.lookup gU=some ⟨ql3,qkW,.func (W.fnOf "_law_numbers" "_law_numbers" (aF gb) (aC gb) (ak gb) .none qhF qhG qhH qfM qdl qhI),qlu⟩) (c38:W.codeIn K qdl "_law_numbers" = true) (k38:W.keepIn K (.ref gU)=true)
    (a39:W.nsIn K mainGlobals "_law_touched" = some (some (.ref gk)))
    (l39:K.lookup gk=some ⟨ql4,qkX,.func (W.fnOf "_law_touched" "_law_touched" (aF dY) (aC dY) (ak dY) .none qhJ qhK qhL qfN qdm qhM),qlv⟩) (c39:W.codeIn K qdm "_law_touched" = true) (k39:W.keepIn K (.ref gk)=true)
    (a40:W.nsIn K mainGlobals "_law_can_be" = some (some (.ref ju)))
    (l40:K.lookup ju=some ⟨ql5,qkY,.func (W.fnOf "_law_can_be" "_law_can_be" (aF gG) (aC gG) (ak gG) .none qhN qhO qhP qfO qdn qhQ),qlw⟩) (c40:W.codeIn K qdn "_law_can_be" = true) (k40:W.keepIn K (.ref ju)=true)
    (a41:W.nsIn K mainGlobals "_law_shows" = some (some (.ref lU)))
    (l41:K.lookup lU=some ⟨ql6,qkZ,.func (W.fnOf "_law_shows" "_law_shows" (aF je) (aC je) (ak je) .none qhR qhS qhT qfP qdo qhU),qlx⟩) (c41:W.codeIn K qdo "_law_shows" = true) (k41:W.keepIn K (.ref lU)=true)
    (a42:W.nsIn K mainGlobals "_law_told" = some (some (.ref p8)))
    (l42:K.lookup p8=some ⟨ql7,qk0,.func (W.fnOf "_law_told" "_law_told" (aF nG) (aC nG) (ak nG) .none qhV qhW qhX qfQ qdp qhY),qly⟩) (c42:W.codeIn K qdp "_law_told" = true) (k42:W.keepIn K (.ref p8)=true)
    (a43:W.nsIn K mainGlobals "_law_right" = some (some (.ref lV)))
    (l43:K.lookup lV=some ⟨ql8,qk1,.func (W.fnOf "_law_right" "_law_right" (aF lK) (aC lK) (ak lK) .none qhZ qh0 qh1 qfR qdq qh2),qlz⟩) (c43:W.codeIn K qdq "_law_right" = true) (k43:W.keepIn K (.ref lV)=true)
    (a44:W.nsIn K mainGlobals "law" = some (some (.ref xX)))
    (l44:K.lookup xX=some ⟨ql9,qk2,.func (W.fnOf "law" "law" (aF vp) (aC vp) (ak vp) .none qh3 qh4 qh5 qfS qdr qh6),qlA⟩) (c44:W.codeIn K qdr "law" = true) (k44:W.keepIn K (.ref xX)=true)
    (jO:W.nsIn K mainGlobals "LETTERS" = some (some (.str "abcdefghijklmnopqrstuvwxyz" uG)))
    (dZ:W.nsIn K mainGlobals "MOST_LETTERS" = some (some (.int 4 lA)))
    (fu:W.nsIn K mainGlobals "MOST_POINTS" = some (some (.int 9 mQ)))
    (gJ:W.nsIn K mainGlobals "MOST_TIES" = some (some (.int 20 qx)))
    (M6:W.plainGet K bU Str.empty=true) (M7:W.hasDictIn K bU=true) (M8:W.plainOver K bU=true) (M9:W.findIn K (.ref bU) "__setattr__" = some (some (.builtin "object.__setattr__"))) (M_:W.makesIn K bU=true) (Nb:W.keepIn K (.ref bU)=true)
    (Bu:W.findIn K (.ref bU) "names" = some none)
    (Bv:W.findIn K (.ref bU) "pairs" = some none)
    (W8:W.nsIn K mainGlobals "len" = some none)
    (W9:W.nsIn K mainGlobals "max" = some none)
    (W_:W.nsIn K mainGlobals "min" = some none)
    (Xa:W.nsIn K mainGlobals "abs" = some none)
    (Bw:W.nsIn K mainGlobals "divmod" = some none)
    (Hj:W.nsIn K mainGlobals "range" = some none)
    (Xb:W.nsIn K mainGlobals "zip" = some none)
    (Nf:W.nsIn K mainGlobals "list" = some none)
    (Hl:W.nsIn K mainGlobals "tuple" = some none)
    (Xc:W.nsIn K mainGlobals "int" = some none)
    (Xd:W.nsIn K mainGlobals "str" = some none)
    (Xe:W.nsIn K mainGlobals "set" = some none)
    (Xf:W.nsIn K mainGlobals "all" = some none)
    (qC:W.nsIn K mainGlobals "isinstance" = some none)
    (rW:W.nsIn K mainGlobals "enumerate" = some none)
    (Xg:W.nsIn K mainGlobals "any" = some none)
    (Ng:W.nsIn K mainGlobals "dict" = some none)
    (Bx:W.nsIn K mainGlobals "sorted" = some none)
    (Nh:W.nsIn K mainGlobals "repr" = some none)
    (Ni:W.nsIn K mainGlobals "bool" = some none)
    (Xh:W.nsIn K mainGlobals "sum" = some none)
    (n_:W.clsIn K aP=some uh) (oh:uh.mro=[.ref aP,.type "ValueError",.type "Exception",.type "BaseException",.type "object"]) (ou:W.typeIn K (.ref aP)=some (.type "type"))
    (BJ:W.clsIn K eN=some Bq) (BK:Bq.mro=[.ref eN,.ref aP,.type "ValueError",.type "Exception",.type "BaseException",.type "object"]) (BL:W.typeIn K (.ref eN)=some (.type "type"))
    (qD:W.clsIn K bK=some qy) (qF:qy.mro=[.ref bK,.ref aP,.type "ValueError",.type "Exception",.type "BaseException",.type "object"]) (qG:W.typeIn K (.ref bK)=some (.type "type"))
    (oA:W.clsIn K bG=some nY) (oE:nY.mro=[.ref bG,.ref aP,.type "ValueError",.type "Exception",.type "BaseException",.type "object"]) (oF:W.typeIn K (.ref bG)=some (.type "type"))
    (vZ:W.clsIn K aZ=some Br) (wg:Br.mro=[.ref aZ,.ref aP,.type "ValueError",.type "Exception",.type "BaseException",.type "object"]) (wj:W.typeIn K (.ref aZ)=some (.type "type"))
    (fX:W.excIn K aP kE "ValueError.__new__" = true)
    (vX:W.excIn K eN kE "ValueError.__new__" = true)
    (kI:W.excIn K bK kE "ValueError.__new__" = true)
    (jy:W.excIn K bG kE "ValueError.__new__" = true)
    (oG:W.isClsIn K aP=true) (qds:W.specialIn K (.ref aP) "__getattribute__" = some (some (.builtin "type.__getattribute__"))) (qdt:W.readsIn K aP (.type "type")=true) (qdu:W.findCls K (.ref aP) (.type "type") "__init__" = some (.val (.builtin "ValueError.__init__")))
    (Am:W.specialIn K (.builtin "object.__class__") "__get__" = some (some (.builtin "getset_descriptor.__get__"))) (Ao:W.takesIn K (.builtin "object.__class__")=some true)
    (Nj:Gy [aP,eN,bK,bG,aZ]=true)
    (BP:Bq.hasDict=true) (BW:W.findIn K (.ref eN) "__getattribute__" = some (some (.builtin "BaseException.__getattribute__"))) (BX:W.findIn K (.ref eN) "__getattr__" = some none) (BZ:W.findIn K (.ref eN) "__class__" = some (some (.builtin "object.__class__"))) (B_:W.keepIn K (.ref eN)=true)
    (qH:qy.hasDict=true) (qI:W.findIn K (.ref bK) "__getattribute__" = some (some (.builtin "BaseException.__getattribute__"))) (qJ:W.findIn K (.ref bK) "__getattr__" = some none) (qK:W.findIn K (.ref bK) "__class__" = some (some (.builtin "object.__class__"))) (qL:W.keepIn K (.ref bK)=true)
    (oH:nY.hasDict=true) (oJ:W.findIn K (.ref bG) "__getattribute__" = some (some (.builtin "BaseException.__getattribute__"))) (oK:W.findIn K (.ref bG) "__getattr__" = some none) (oM:W.findIn K (.ref bG) "__class__" = some (some (.builtin "object.__class__"))) (oN:W.keepIn K (.ref bG)=true)
    (wk:Br.hasDict=true) (wu:W.findIn K (.ref aZ) "__getattribute__" = some (some (.builtin "BaseException.__getattribute__"))) (wz:W.findIn K (.ref aZ) "__getattr__" = some none) (wA:W.findIn K (.ref aZ) "__class__" = some (some (.builtin "object.__class__"))) (rY:W.keepIn K (.ref aZ)=true)
    (Ca:K.lookup aZ=some (excClassObj WR WT aZ Z9 WW [.ref aP,.type "ValueError",.type "Exception",.type "BaseException",.type "object"] WX W0 Rx WY Ry W2 W3 W4 W5 W6 W7 "ValueError.__new__")) (Cd:W.findIn K (.ref aZ) "__setattr__" = some (some (.builtin "object.__setattr__")))
    (dU:W.findIn K (.ref aZ) "word" = some none)
    (dW:W.findIn K (.ref aZ) "part" = some none)
    (gW:W.nsIn K mainGlobals "ValueError" = some none)
    : ∃fd:FuncData,(∀(s:Shared) (v:Value),BindsTo s fd ⟨[v],[]⟩ [("_law_script",v)])∧∀base:Heap,K.In base→base.Ns mainGlobals mg→cF l.prog w K mg base jA 10 fa fd ["_law_script"] (Hi K):=by
  have e:=hfa.symm.trans (W.mg_of X G a44);cases e;have F1:=bD (st:=cP) l1 c1 k1;have b1:=F1.binds (ps:=["web", "fixed"]) fun _ _ _ _ _ _=>dN fun _ _=>rfl;have F2:=bD (st:=dF) l2 c2 k2;have b2:=F2.binds (ps:=["start", "steps"]) fun _ _ _ _ _ _=>dN fun _ _=>rfl;have F3:=bD (st:=dG) l3 c3 k3;have b3:=F3.binds (ps:=["self", "word", "part"]) fun _ _ _ _ _ _=>rU fun _ _ _=>rfl;have F4:=bD (st:=gM) l4 c4 k4;have b4:=F4.binds (ps:=["thing"]) fun _ _ _ _ _ _=>nW fun _=>rfl;have F5:=bD (st:=fL) l5 c5 k5;have b5:=F5.binds (ps:=["thing"]) fun _ _ _ _ _ _=>nW fun _=>rfl;have F6:=bD (st:=f9) l6 c6 k6;have b6:=F6.binds (ps:=["thing"]) fun _ _ _ _ _ _=>nW fun _=>rfl;have F7:=bD (st:=cQ) l7 c7 k7;have b7:=F7.binds (ps:=["thing"]) fun _ _ _ _ _ _=>nW fun _=>rfl;have F8:=bD (st:=iB) l8 c8 k8;have b8:=F8.binds (ps:=["thing", "points"]) fun _ _ _ _ _ _=>dN fun _ _=>rfl;have F9:=bD (st:=eV) l9 c9 k9;have b9:=F9.binds (ps:=["thing", "points"]) fun _ _ _ _ _ _=>dN fun _ _=>rfl;have F10:=bD (st:=eX) l10 c10 k10;have b10:=F10.binds (ps:=["self", "points", "ties"]) fun _ _ _ _ _ _=>rU fun _ _ _=>rfl;have F11:=bD (st:=dH) l11 c11 k11;have b11:=F11.binds (ps:=["self"]) fun _ _ _ _ _ _=>nW fun _=>rfl;have F12:=bD (st:=fM) l12 c12 k12;have b12:=F12.binds (ps:=["self"]) fun _ _ _ _ _ _=>nW fun _=>rfl;have F13:=bD (st:=fO) l13 c13 k13;have b13:=F13.binds (ps:=["self"]) fun _ _ _ _ _ _=>nW fun _=>rfl;have F14:=bD (st:=eF) l14 c14 k14;have b14:=F14.binds (ps:=["web", "thing"]) fun _ _ _ _ _ _=>dN fun _ _=>rfl;have F15:=bD (st:=cG) l15 c15 k15;have b15:=F15.binds (ps:=["web", "thing"]) fun _ _ _ _ _ _=>dN fun _ _=>rfl;have F16:=bD (st:=gO) l16 c16 k16;have b16:=F16.binds (ps:=["thing"]) fun _ _ _ _ _ _=>nW fun _=>rfl;have F17:=bD (st:=cH) l17 c17 k17;have b17:=F17.binds (ps:=["web", "thing"]) fun _ _ _ _ _ _=>dN fun _ _=>rfl;have F18:=bD (st:=bL) l18 c18 k18;have b18:=F18.binds (ps:=["web", "thing"]) fun _ _ _ _ _ _=>dN fun _ _=>rfl;have F19:=bD (st:=jc) l19 c19 k19;have b19:=F19.binds (ps:=["web", "pointing"]) fun _ _ _ _ _ _=>dN fun _ _=>rfl;have F20:=bD (st:=iC) ZP c20 k20;have b20:=F20.binds (ps:=["web", "pointing", "numbers"]) fun _ _ _ _ _ _=>rU fun _ _ _=>rfl;have F21:=bD (st:=gF) l21 c21 k21;have b21:=F21.binds (ps:=["web", "pointing"]) fun _ _ _ _ _ _=>dN fun _ _=>rfl;have F22:=bD (st:=mF) l22 c22 k22;have b22:=F22.binds (ps:=["web", "ins", "wanted"]) fun _ _ _ _ _ _=>rU fun _ _ _=>rfl;have F23:=bD (st:=cI) l23 c23 k23;have b23:=F23.binds (ps:=["web", "thing"]) fun _ _ _ _ _ _=>dN fun _ _=>rfl;have F24:=bD (st:=cR) l24 c24 k24;have b24:=F24.binds (ps:=["steps", "starts", "ends"]) fun _ _ _ _ _ _=>rU fun _ _ _=>rfl;have F25:=bD (st:=b_) l25 c25 k25;have b25:=F25.binds (ps:=["steps", "starts", "ends"]) fun _ _ _ _ _ _=>rU fun _ _ _=>rfl;have F26:=bD (st:=cL) l26 c26 k26;have b26:=F26.binds (ps:=["web", "steps", "lacking", "spare"]) fun _ _ _ _ _ _=>WQ fun _ _ _ _=>rfl;have F27:=bD (st:=cT) l27 c27 k27;have b27:=F27.binds (ps:=["web", "ins"]) fun _ _ _ _ _ _=>dN fun _ _=>rfl;have F28:=bD (st:=vm) l28 c28 k28;have b28:=F28.binds (ps:=["_law_script", "_law_k"]) fun _ _ _ _ _ _=>dN fun _ _=>rfl;have F29:=bD (st:=pP) l29 c29 k29;have b29:=F29.binds (ps:=["_law_pot_here", "_law_many"]) fun _ _ _ _ _ _=>dN fun _ _=>rfl;have F30:=bD (st:=jU) l30 c30 k30;have b30:=F30.binds (ps:=["_law_pot_here", "_law_many"]) fun _ _ _ _ _ _=>dN fun _ _=>rfl;have F31:=bD (st:=lH) l31 c31 k31;have b31:=F31.binds (ps:=["_law_pot_here", "_law_things"]) fun _ _ _ _ _ _=>dN fun _ _=>rfl;have F32:=bD (st:=vo) l32 c32 k32;have b32:=F32.binds (ps:=["_law_pot_here", "_law_names_here"]) fun _ _ _ _ _ _=>dN fun _ _=>rfl;have F33:=bD (st:=qO) l33 c33 k33;have b33:=F33.binds (ps:=["_law_pot_here", "_law_points", "_law_most"]) fun _ _ _ _ _ _=>rU fun _ _ _=>rfl;have F34:=bD (st:=rG) l34 c34 k34;have b34:=F34.binds (ps:=["_law_web_here", "_law_pointing"]) fun _ _ _ _ _ _=>dN fun _ _=>rfl;have F35:=bD (st:=jV) l35 c35 k35;have b35:=F35.binds (ps:=["_law_pot_here", "_law_web_here"]) fun _ _ _ _ _ _=>dN fun _ _=>rfl;have F36:=bD (st:=jd) l36 c36 k36;have b36:=F36.binds (ps:=["_law_pot_here", "_law_row"]) fun _ _ _ _ _ _=>dN fun _ _=>rfl;have F37:=bD (st:=lJ) l37 c37 k37;have b37:=F37.binds (ps:=["_law_pot_here", "_law_ins_here"]) fun _ _ _ _ _ _=>dN fun _ _=>rfl;have F38:=bD (st:=gb) l38 c38 k38;have b38:=F38.binds (ps:=["_law_pot_here", "_law_web_here"]) fun _ _ _ _ _ _=>dN fun _ _=>rfl;have F39:=bD (st:=dY) l39 c39 k39;have b39:=F39.binds (ps:=["_law_web_here", "_law_part"]) fun _ _ _ _ _ _=>dN fun _ _=>rfl;have F40:=bD (st:=gG) l40 c40 k40;have b40:=F40.binds (ps:=["_law_web_here", "_law_ins_here"]) fun _ _ _ _ _ _=>dN fun _ _=>rfl;have F41:=bD (st:=je) l41 c41 k41;have b41:=F41.binds (ps:=["_law_web_here", "_law_ins_here", "_law_e"]) fun _ _ _ _ _ _=>rU fun _ _ _=>rfl;have F42:=bD (st:=nG) l42 c42 k42;have b42:=F42.binds (ps:=["_law_web_here", "_law_told_here", "_law_ins_here", "_law_handed_here"]) fun _ _ _ _ _ _=>WQ fun _ _ _ _=>rfl;have F43:=bD (st:=lK) l43 c43 k43;have b43:=F43.binds (ps:=["_law_pot_here"]) fun _ _ _ _ _ _=>nW fun _=>rfl;have F44:=bD (st:=vp) l44 c44 k44;have b44:=F44.binds (ps:=["_law_script"]) fun _ _ _ _ _ _=>nW fun _=>rfl;have T:Txt K mg {cV:=cV,jg:=W.fnOf "steps_along" "steps_along" (aF cP) (aC cP) (ak cP) .none kV1 dc1 pm1 an1 cd1 ct1,dI:=dI,jW:=W.fnOf "ways_along" "ways_along" (aF dF) (aC dF) (ak dF) .none kV2 dc2 pm2 an2 cd2 ct2,cW:=cW,jX:=W.fnOf "__init__" "NoIns.__init__" (aF dG) (aC dG) (ak dG) .none kV3 dc3 pm3 an3 cd3 ct3,gj:=gj,mJ:=W.fnOf "is_list" "is_list" (aF gM) (aC gM) (ak gM) .none kV4 dc4 pm4 an4 cd4 ct4,fP:=fP,m5:=W.fnOf "is_whole" "is_whole" (aF fL) (aC fL) (ak fL) .none kV5 dc5 pm5 an5 cd5 ct5,gP:=gP,pW:=W.fnOf "is_name" "is_name" (aF f9) (aC f9) (ak f9) .none kV6 dc6 pm6 an6 cd6 ct6,dJ:=dJ,jY:=W.fnOf "are_points" "are_points" (aF cQ) (aC cQ) (ak cQ) .none kV7 dc7 pm7 an7 cd7 ct7,jh:=jh,sG:=W.fnOf "is_tie" "is_tie" (aF iB) (aC iB) (ak iB) .none kV8 dc8 pm8 an8 cd8 ct8,fQ:=fQ,m6:=W.fnOf "are_ties" "are_ties" (aF eV) (aC eV) (ak eV) .none kV9 dc9 pm9 an9 cd9 ct9,eY:=eY,m7:=W.fnOf "__init__" "Web.__init__" (aF eX) (aC eX) (ak eX) .none qfT qfU qfV qfk qcU qfW,cX:=cX,jZ:=W.fnOf "points" "Web.points" (aF dH) (aC dH) (ak dH) .none qfX qfY qfZ qfl qcV qf0,eZ:=eZ,m8:=W.fnOf "ties" "Web.ties" (aF fM) (aC fM) (ak fM) .none qf1 qf2 qf3 qfm qcW qf4,fj:=fj,m9:=W.fnOf "many" "Web.many" (aF fO) (aC fO) (ak fO) .none qf5 qf6 qf7 qfn qcX qf8,eG:=eG,lM:=W.fnOf "is_number" "is_number" (aF eF) (aC eF) (ak eF) .none qf9 qf_ qga qfo qcY qgb,cY:=cY,ji:=W.fnOf "are_numbers" "are_numbers" (aF cG) (aC cG) (ak cG) .none qgc qgd qge qfp qcZ qgf,gQ:=gQ,pX:=W.fnOf "is_lead" "is_lead" (aF gO) (aC gO) (ak gO) .none qgg qgh qgi qfq qc0 qgj,cZ:=cZ,jj:=W.fnOf "is_pointing" "is_pointing" (aF cH) (aC cH) (ak cH) .none qgk qgl qgm qfr qc1 qgn,bM:=bM,fC:=W.fnOf "sure_of_pointing" "sure_of_pointing" (aF bL) (aC bL) (ak bL) .none qgo qgp qgq qfs qc2 qgr,jk:=jk,sI:=W.fnOf "arrows" "arrows" (aF jc) (aC jc) (ak jc) .none qgs qgt qgu qft qc3 qgv,jl:=jl,sJ:=W.fnOf "turned" "turned" (aF iC) (aC iC) (ak iC) .none qgw qgx qgy qfu qc4 qgz,jm:=jm,sO:=W.fnOf "ins_of" "ins_of" (aF gF) (aC gF) (ak gF) .none qgA qgB qgC qfv qc5 qgD,pY:=pY,yF:=W.fnOf "gaps" "gaps" (aF mF) (aC mF) (ak mF) .none qgE qgF qgG qfw qc6 qgH,dg:=dg,jo:=W.fnOf "sure_of_ins" "sure_of_ins" (aF cI) (aC cI) (ak cI) .none qgI qgJ qgK qfx qc7 qgL,dh:=dh,jq:=W.fnOf "way_between" "way_between" (aF cR) (aC cR) (ak cR) .none qgM qgN qgO qfy qc8 qgP,cg:=cg,gR:=W.fnOf "leads_between" "leads_between" (aF b_) (aC b_) (ak b_) .none qgQ qgR qgS qfz qc9 qgT,dM:=dM,j4:=W.fnOf "refuse_ins" "refuse_ins" (aF cL) (aC cL) (ak cL) .none qgU qgV qgW qfA qc_ qgX,dj:=dj,jr:=W.fnOf "pointing_of" "pointing_of" (aF cT) (aC cT) (ak cT) .none qgY qgZ qg0 qfB qda qg1,vq:=vq,GC:=W.fnOf "_law_pot" "_law_pot" (aF vm) (aC vm) (ak vm) .none qg2 qg3 qg4 qfC qdb qg5,pZ:=pZ,yG:=W.fnOf "_law_take" "_law_take" (aF pP) (aC pP) (ak pP) .none qg6 qg7 qg8 qfD qdc qg9,lN:=lN,vA:=W.fnOf "_law_names" "_law_names" (aF jU) (aC jU) (ak jU) .none qg_ qha qhb qfE qdd qhc,lO:=lO,vB:=W.fnOf "_law_mixed" "_law_mixed" (aF lH) (aC lH) (ak lH) .none qhd qhe qhf qfF qde qhg,vC:=vC,GD:=W.fnOf "_law_tie" "_law_tie" (aF vo) (aC vo) (ak vo) .none qhh qhi qhj qfG qdf qhk,vD:=vD,GF:=W.fnOf "_law_web" "_law_web" (aF qO) (aC qO) (ak qO) .none qhl qhm qhn qfH qdg qho,vG:=vG,GJ:=W.fnOf "_law_ins" "_law_ins" (aF rG) (aC rG) (ak rG) .none qhp qhq qhr qfI qdh qhs,lQ:=lQ,vH:=W.fnOf "_law_drawn" "_law_drawn" (aF jV) (aC jV) (ak jV) .none qht qhu qhv qfJ qdi qhw,jt:=jt,sS:=W.fnOf "_law_handed" "_law_handed" (aF jd) (aC jd) (ak jd) .none qhx qhy qhz qfK qdj qhA,lR:=lR,vI:=W.fnOf "_law_moved" "_law_moved" (aF lJ) (aC lJ) (ak lJ) .none qhB qhC qhD qfL qdk qhE,gU:=gU,p7:=W.fnOf "_law_numbers" "_law_numbers" (aF gb) (aC gb) (ak gb) .none qhF qhG qhH qfM qdl qhI,gk:=gk,mK:=W.fnOf "_law_touched" "_law_touched" (aF dY) (aC dY) (ak dY) .none qhJ qhK qhL qfN qdm qhM,ju:=ju,sU:=W.fnOf "_law_can_be" "_law_can_be" (aF gG) (aC gG) (ak gG) .none qhN qhO qhP qfO qdn qhQ,lU:=lU,vJ:=W.fnOf "_law_shows" "_law_shows" (aF je) (aC je) (ak je) .none qhR qhS qhT qfP qdo qhU,p8:=p8,yH:=W.fnOf "_law_told" "_law_told" (aF nG) (aC nG) (ak nG) .none qhV qhW qhX qfQ qdp qhY,lV:=lV,vK:=W.fnOf "_law_right" "_law_right" (aF lK) (aC lK) (ak lK) .none qhZ qh0 qh1 qfR qdq qh2,xX:=fa,GK:=W.fnOf "law" "law" (aF vp) (aC vp) (ak vp) .none qh3 qh4 qh5 qfS qdr qh6,jO:=.str "abcdefghijklmnopqrstuvwxyz" uG,dZ:=.int 4 lA,fu:=.int 9 mQ,gJ:=.int 20 qx,bU:=bU,aP:=aP,eN:=eN,bK:=bK,bG:=bG,aZ:=aZ}:={nH:=F1,tM:=b1,tO:=W.mg_of X G a1,qe:=F2,vL:=b2,vM:=W.mg_of X G a2,vN:=F3,qg:=b3,gV:=F4,jP:=b4,jQ:=W.mg_of X G a4,mL:=F5,qj:=b5,ql:=W.mg_of X G a5,sV:=F6,xr:=b6,xu:=W.mg_of X G a6,qm:=F7,vO:=b7,vP:=W.mg_of X G a7,zZ:=F8,Js:=b8,Jt:=W.mg_of X G a8,uF:=F9,z7:=b9,z8:=W.mg_of X G a9,z_:=F10,Aa:=b10,vQ:=F11,jw:=b11,jx:=⟨a11,i11,k11⟩,Ab:=F12,Ac:=b12,Al:=⟨a12,i12,k12⟩,Ad:=F13,qp:=b13,qu:=⟨a13,i13,k13⟩,rK:=F14,xY:=b14,xZ:=W.mg_of X G a14,nJ:=F15,tQ:=b15,tU:=W.mg_of X G a15,xG:=F16,Ek:=b16,El:=W.mg_of X G a16,nM:=F17,tV:=b17,tW:=W.mg_of X G a17,fU:=F18,iQ:=b18,iR:=W.mg_of X G a18,vR:=F19,Ae:=b19,Af:=W.mg_of X G a19,Ag:=F20,Ju:=b20,Jv:=W.mg_of X G a20,vU:=F21,Ah:=b21,Ai:=W.mg_of X G a21,GP:=F22,Mh:=b22,Mi:=W.mg_of X G a22,nO:=F23,tX:=b23,tY:=W.mg_of X G a23,j6:=F24,nP:=b24,nQ:=W.mg_of X G a24,iJ:=F25,lq:=b25,lu:=W.mg_of X G a25,qt:=F26,vV:=b26,vW:=W.mg_of X G a26,nR:=F27,tZ:=b27,t_:=W.mg_of X G a27,VG:=F28,qaA:=b28,qaB:=W.mg_of X G a28,fG:=F29,fV:=b29,fW:=W.mg_of X G a29,GQ:=F30,O7:=b30,O8:=W.mg_of X G a30,yI:=F31,GR:=b31,GX:=W.mg_of X G a31,VH:=F32,qaC:=b32,qaD:=W.mg_of X G a32,VJ:=F33,qaE:=b33,qaF:=W.mg_of X G a33,O9:=F34,VL:=b34,VN:=W.mg_of X G a34,GZ:=F35,O_:=b35,Pa:=W.mg_of X G a35,Aj:=F36,Jw:=b36,Jx:=W.mg_of X G a36,G3:=F37,Pb:=b37,Pg:=W.mg_of X G a37,xH:=F38,Em:=b38,En:=W.mg_of X G a38,pC:=F39,xJ:=b39,xK:=W.mg_of X G a39,Ak:=F40,Jy:=b40,Jz:=W.mg_of X G a40,G4:=F41,Ph:=b41,Pj:=W.mg_of X G a41,Mj:=F42,VP:=b42,VR:=W.mg_of X G a42,G5:=F43,Pk:=b43,Pn:=W.mg_of X G a43,qaG:=F44,qe1:=b44,qe2:=W.mg_of X G a44,Eo:=W.mg_of X G jO,Ep:=⟨uG,rfl⟩,rM:=W.mg_of X G dZ,rN:=⟨lA,rfl⟩,uc:=W.mg_of X G fu,ud:=⟨mQ,rfl⟩,yc:=W.mg_of X G gJ,yd:=⟨qx,rfl⟩,G6:=Bu,yJ:=Bv,qaH:=W.mg_of X G M5,m_:=⟨M6,M7,M8,M9⟩,qaI:=⟨M_,a10,i10,Nb⟩,nm:=⟨W.mg_none_of X G W8,W.mg_none_of X G W9,W.mg_none_of X G W_,W.mg_none_of X G Xa,W.mg_none_of X G Bw,W.mg_none_of X G Hj,W.mg_none_of X G Xb,W.mg_none_of X G Nf,W.mg_none_of X G Hl,W.mg_none_of X G Xc,W.mg_none_of X G Xd,W.mg_none_of X G Xe,W.mg_none_of X G Xf,W.mg_none_of X G qC⟩,Zw:=⟨W.mg_none_of X G rW,W.mg_none_of X G Xg,W.mg_none_of X G Ng,W.mg_none_of X G Bx,W.mg_none_of X G Nh,W.mg_none_of X G Ni⟩,nm3:=⟨W.mg_none_of X G Xh⟩,qw:=W.mg_of X G nZ,Zv:=W.mg_of X G Bs,JB:=W.mg_of X G qz,G7:=W.mg_of X G n6,yK:=W.mg_of X G Bt,fX:=fX,vX:=vX,kI:=kI,jy:=jy,ib:=oG,tb:=ou,ini:=⟨qds,qdt,qdu⟩,Am:=Am,Ao:=Ao,nd:=Ef Nj,V0:=⟨⟨_,BJ,BK,BP⟩,BL,BW,BX,BZ,B_⟩,G8:=⟨⟨_,qD,qF,qH⟩,qG,qI,qJ,qK,qL⟩,CN:=⟨⟨_,oA,oE,oH⟩,oF,oJ,oK,oM,oN⟩,iD:=⟨⟨_,vZ,wg,wk⟩,wj,wu,wz,wA,rY⟩,rO:=⟨⟨_,_,_,_,_,_,_,_,_,_,_,_,_,_,_,Ca⟩,fX,⟨_,n_,oh⟩,a3,beq_iff_eq.mp i3,rY⟩,Aq:=XC.set ⟨⟨_,vZ,wg,wk⟩,wj,wu,wz,wA,rY⟩ Cd,dU:=dU,dW:=dW,gW:=W.mg_none_of X G gW};exact⟨_,fun s v=>.of_eq rfl,fun base _ _=>qcT T⟩
theorem walk {l:W.OpenLaw} {q:Program} {loose:List Str} {XP:(Str→Option Value)→Heap→Prop} {YP:World→Heap→Prop} {d:DefRec} {K:Params→W.Frag} (hn:l.most=some 63) (hdf:d.params.defaults=[])
    (hY:∀(w:World) (h:Heap),YP w h→(K w.params).In h)
    (F:∀(w:World) (mg:Str→Option Value) (fa:Addr) (h:Heap),(K w.params).In h→h.Ns mainGlobals mg→mg d.name=some (.ref fa)→
      ∃fd:FuncData,(∀(s:Shared) (u:Value),BindsTo s fd ⟨[u],[]⟩ [("_law_script",u)])∧∀base:Heap,(K w.params).In base→base.Ns mainGlobals mg→cF l.prog w (K w.params) mg base jA 10 fa fd ["_law_script"] (Hi (K w.params))) :
    W.WalkO q loose XP YP l.row.toRowW d [] (fun f vs=>PySem.call f vs):=
  L2.X5 (n:=63) (k:=10) (x:= "_law_script") (CX:=fun _=>jA) (sp:=fun w=>Hi (K w.params)) hn (by decide) hdf ⟨rfl,by decide,by decide,rfl⟩ hY F (fun _ _ a ns hl _ hS=>⟨a,ns,rfl,hS,hl,fun _=>rfl⟩) fun _ _ _ _ _ z=>z
end Zu
end
set_option Elab.async false
set_option maxRecDepth 100000
set_option maxHeartbeats 4000000
open PySem PySem.W PyProof.Rows
namespace PySem.W.Fast
def tw14292541245461030357:=0
def tw518058980316596180:=0
def tw16815013427477607001:=0
def tw16971576088758021456:=0
def tw3111839235913247168:=0
def tw4141558190111587536:=0
def tw4246932546591340238:=0
def tw2804288775499549794:=0
end PySem.W.Fast
set_option maxRecDepth 100000 in
set_option maxHeartbeats 0 in
theorem PySem.Challenge.cw_pointways_k62_whole_pointings_by_ins_holds : PySem.Challenge.rw_pointways_k62_whole_pointings_by_ins.Holds := by
  w_on;o_law;k_head;(case hw=>w_witness2)
  k_fill
  refine Zu.walk (l:=PySem.Challenge.rw_pointways_k62_whole_pointings_by_ins) rfl rfl (fun w h Y=>W.kIn_of Y) ?F
  case F=>
    intro w mg fa h KX G hmg;refine' Zu.all_mk KX G hmg ?M5 ?nZ ?Bs ?qz ?n6 ?Bt ?a1 ?l1 ?c1 ?k1 ?a2 ?l2 ?c2 ?k2 ?a3 ?i3 ?l3 ?c3 ?k3 ?a4 ?l4 ?c4 ?k4 ?a5 ?l5 ?c5 ?k5 ?a6 ?l6 ?c6 ?k6 ?a7 ?l7 ?c7 ?k7 ?a8 ?l8 ?c8 ?k8 ?a9 ?l9 ?c9 ?k9 ?a10 ?i10 ?l10 ?c10 ?k10 ?a11 ?i11 ?l11 ?c11 ?k11 ?a12 ?i12 ?l12 ?c12 ?k12 ?a13 ?i13 ?l13 ?c13 ?k13 ?a14 ?l14 ?c14 ?k14 ?a15 ?l15 ?c15 ?k15 ?a16 ?l16 ?c16 ?k16 ?a17 ?l17 ?c17 ?k17 ?a18 ?l18 ?c18 ?k18 ?a19 ?l19 ?c19 ?k19 ?a20 ?ZP ?c20 ?k20 ?a21 ?l21 ?c21 ?k21 ?a22 ?l22 ?c22 ?k22 ?a23 ?l23 ?c23 ?k23 ?a24 ?l24 ?c24 ?k24 ?a25 ?l25 ?c25 ?k25 ?a26 ?l26 ?c26 ?k26 ?a27 ?l27 ?c27 ?k27 ?a28 ?l28 ?c28 ?k28 ?a29 ?l29 ?c29 ?k29 ?a30 ?l30 ?c30 ?k30 ?a31 ?l31 ?c31 ?k31 ?a32 ?l32 ?c32 ?k32 ?a33 ?l33 ?c33 ?k33 ?a34 ?l34 ?c34 ?k34 ?a35 ?l35 ?c35 ?k35 ?a36 ?l36 ?c36 ?k36 ?a37 ?l37 ?c37 ?k37 ?a38 ?l38 ?c38 ?k38 ?a39 ?l39 ?c39 ?k39 ?a40 ?l40 ?c40 ?k40 ?a41 ?l41 ?c41 ?k41 ?a42 ?l42 ?c42 ?k42 ?a43 ?l43 ?c43 ?k43 ?a44 ?l44 ?c44 ?k44 ?jO ?dZ ?fu ?gJ ?M6 ?M7 ?M8 ?M9 ?M_ ?Nb ?Bu ?Bv ?W8 ?W9 ?W_ ?Xa ?Bw ?Hj ?Xb ?Nf ?Hl ?Xc ?Xd ?Xe ?Xf ?qC ?rW ?Xg ?Ng ?Bx ?Nh ?Ni ?Xh ?n_ ?oh ?ou ?BJ ?BK ?BL ?qD ?qF ?qG ?oA ?oE ?oF ?vZ ?wg ?wj ?fX ?vX ?kI ?jy ?oG ?qds ?qdt ?qdu ?Am ?Ao ?Nj ?BP ?BW ?BX ?BZ ?B_ ?qH ?qI ?qJ ?qK ?qL ?oH ?oJ ?oK ?oM ?oN ?wk ?wu ?wz ?wA ?rY ?Ca ?Cd ?dU ?dW ?gW
    (case M5=>k_is)
    (case nZ=>k_is)
    (case Bs=>k_is)
    (case qz=>k_is)
    (case n6=>k_is)
    (case Bt=>k_is)
    (case a1=>k_is)
    (case l1=>k_is)
    (case c1=>k_is)
    (case k1=>k_is)
    (case a2=>k_is)
    (case l2=>k_is)
    (case c2=>k_is)
    (case k2=>k_is)
    (case a3=>k_is)
    (case i3=>k_is)
    (case l3=>k_is)
    (case c3=>k_is)
    (case k3=>k_is)
    (case a4=>k_is)
    (case l4=>k_is)
    (case c4=>k_is)
    (case k4=>k_is)
    (case a5=>k_is)
    (case l5=>k_is)
    (case c5=>k_is)
    (case k5=>k_is)
    (case a6=>k_is)
    (case l6=>k_is)
    (case c6=>k_is)
    (case k6=>k_is)
    (case a7=>k_is)
    (case l7=>k_is)
    (case c7=>k_is)
    (case k7=>k_is)
    (case a8=>k_is)
    (case l8=>k_is)
    (case c8=>k_is)
    (case k8=>k_is)
    (case a9=>k_is)
    (case l9=>k_is)
    (case c9=>k_is)
    (case k9=>k_is)
    (case a10=>k_is)
    (case i10=>k_is)
    (case l10=>k_is)
    (case c10=>k_is)
    (case k10=>k_is)
    (case a11=>k_is)
    (case i11=>k_is)
    (case l11=>k_is)
    (case c11=>k_is)
    (case k11=>k_is)
    (case a12=>k_is)
    (case i12=>k_is)
    (case l12=>k_is)
    (case c12=>k_is)
    (case k12=>k_is)
    (case a13=>k_is)
    (case i13=>k_is)
    (case l13=>k_is)
    (case c13=>k_is)
    (case k13=>k_is)
    (case a14=>k_is)
    (case l14=>k_is)
    (case c14=>k_is)
    (case k14=>k_is)
    (case a15=>k_is)
    (case l15=>k_is)
    (case c15=>k_is)
    (case k15=>k_is)
    (case a16=>k_is)
    (case l16=>k_is)
    (case c16=>k_is)
    (case k16=>k_is)
    (case a17=>k_is)
    (case l17=>k_is)
    (case c17=>k_is)
    (case k17=>k_is)
    (case a18=>k_is)
    (case l18=>k_is)
    (case c18=>k_is)
    (case k18=>k_is)
    (case a19=>k_is)
    (case l19=>k_is)
    (case c19=>k_is)
    (case k19=>k_is)
    (case a20=>k_is)
    (case ZP=>k_is)
    (case c20=>k_is)
    (case k20=>k_is)
    (case a21=>k_is)
    (case l21=>k_is)
    (case c21=>k_is)
    (case k21=>k_is)
    (case a22=>k_is)
    (case l22=>k_is)
    (case c22=>k_is)
    (case k22=>k_is)
    (case a23=>k_is)
    (case l23=>k_is)
    (case c23=>k_is)
    (case k23=>k_is)
    (case a24=>k_is)
    (case l24=>k_is)
    (case c24=>k_is)
    (case k24=>k_is)
    (case a25=>k_is)
    (case l25=>k_is)
    (case c25=>k_is)
    (case k25=>k_is)
    (case a26=>k_is)
    (case l26=>k_is)
    (case c26=>k_is)
    (case k26=>k_is)
    (case a27=>k_is)
    (case l27=>k_is)
    (case c27=>k_is)
    (case k27=>k_is)
    (case a28=>k_is)
    (case l28=>k_is)
    (case c28=>k_is)
    (case k28=>k_is)
    (case a29=>k_is)
    (case l29=>k_is)
    (case c29=>k_is)
    (case k29=>k_is)
    (case a30=>k_is)
    (case l30=>k_is)
    (case c30=>k_is)
    (case k30=>k_is)
    (case a31=>k_is)
    (case l31=>k_is)
    (case c31=>k_is)
    (case k31=>k_is)
    (case a32=>k_is)
    (case l32=>k_is)
    (case c32=>k_is)
    (case k32=>k_is)
    (case a33=>k_is)
    (case l33=>k_is)
    (case c33=>k_is)
    (case k33=>k_is)
    (case a34=>k_is)
    (case l34=>k_is)
    (case c34=>k_is)
    (case k34=>k_is)
    (case a35=>k_is)
    (case l35=>k_is)
    (case c35=>k_is)
    (case k35=>k_is)
    (case a36=>k_is)
    (case l36=>k_is)
    (case c36=>k_is)
    (case k36=>k_is)
    (case a37=>k_is)
    (case l37=>k_is)
    (case c37=>k_is)
    (case k37=>k_is)
    (case a38=>k_is)
    (case l38=>k_is)
    (case c38=>k_is)
    (case k38=>k_is)
    (case a39=>k_is)
    (case l39=>k_is)
    (case c39=>k_is)
    (case k39=>k_is)
    (case a40=>k_is)
    (case l40=>k_is)
    (case c40=>k_is)
    (case k40=>k_is)
    (case a41=>k_is)
    (case l41=>k_is)
    (case c41=>k_is)
    (case k41=>k_is)
    (case a42=>k_is)
    (case l42=>k_is)
    (case c42=>k_is)
    (case k42=>k_is)
    (case a43=>k_is)
    (case l43=>k_is)
    (case c43=>k_is)
    (case k43=>k_is)
    (case a44=>k_is)
    (case l44=>k_is)
    (case c44=>k_is)
    (case k44=>k_is)
    (case jO=>k_is)
    (case dZ=>k_is)
    (case fu=>k_is)
    (case gJ=>k_is)
    (case M6=>k_is)
    (case M7=>k_is)
    (case M8=>k_is)
    (case M9=>k_is)
    (case M_=>k_is)
    (case Nb=>k_is)
    (case Bu=>k_is)
    (case Bv=>k_is)
    (case W8=>k_is)
    (case W9=>k_is)
    (case W_=>k_is)
    (case Xa=>k_is)
    (case Bw=>k_is)
    (case Hj=>k_is)
    (case Xb=>k_is)
    (case Nf=>k_is)
    (case Hl=>k_is)
    (case Xc=>k_is)
    (case Xd=>k_is)
    (case Xe=>k_is)
    (case Xf=>k_is)
    (case qC=>k_is)
    (case rW=>k_is)
    (case Xg=>k_is)
    (case Ng=>k_is)
    (case Bx=>k_is)
    (case Nh=>k_is)
    (case Ni=>k_is)
    (case Xh=>k_is)
    (case n_=>k_is)
    (case oh=>rfl)
    (case ou=>k_is)
    (case BJ=>k_is)
    (case BK=>rfl)
    (case BL=>k_is)
    (case qD=>k_is)
    (case qF=>rfl)
    (case qG=>k_is)
    (case oA=>k_is)
    (case oE=>rfl)
    (case oF=>k_is)
    (case vZ=>k_is)
    (case wg=>rfl)
    (case wj=>k_is)
    (case fX=>k_exc)
    (case vX=>k_exc)
    (case kI=>k_exc)
    (case jy=>k_exc)
    (case oG=>k_is)
    (case qds=>k_is)
    (case qdt=>k_is)
    (case qdu=>k_is)
    (case Am=>k_is)
    (case Ao=>k_is)
    (case Nj=>decide+kernel)
    (case BP=>rfl)
    (case BW=>k_is)
    (case BX=>k_is)
    (case BZ=>k_is)
    (case B_=>k_is)
    (case qH=>rfl)
    (case qI=>k_is)
    (case qJ=>k_is)
    (case qK=>k_is)
    (case qL=>k_is)
    (case oH=>rfl)
    (case oJ=>k_is)
    (case oK=>k_is)
    (case oM=>k_is)
    (case oN=>k_is)
    (case wk=>rfl)
    (case wu=>k_is)
    (case wz=>k_is)
    (case wA=>k_is)
    (case rY=>k_is)
    (case Ca=>k_is)
    (case Cd=>k_is)
    (case dU=>k_is)
    (case dW=>k_is)
    (case gW=>k_is)


