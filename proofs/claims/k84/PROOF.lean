import PyProof.Rows.All
import Wide.All
import OpenK.AllK
import Wide.FinOn
import Lean
import PyProof.EqAt
import PyProof.EqKinds
import PyProof.TupleCall
import PyProof.NeData
import PyProof.AttrMissHeap
import PyProof.FactsAll.enumerate_1
import KE.KDictOf
import PyProof.EnumMake
import PyProof.Rows.SumAny
import PyProof.Rows.StrJoin2
import PyProof.Rows.CountFlat
import PyProof.Rows.FoldWordsD
import PyProof.Rows.SeqMore2
import PyProof.Rows.MinMaxN
import PyProof.Rows.StrInSeq3
import PyProof.Rows.ReprR
import PyProof.StrLawsRepr
import PyProof.StrOps2
import PyProof.Rows.SeqMore
import PySem.Challenge.RW_pointways_k84_whole_counts_and_lists
set_option genSizeOfSpec false
noncomputable section
set_option Elab.async false
set_option linter.all false
set_option maxRecDepth 100000
namespace L2
open PySem PySem.Spec PyProof.Rows
abbrev Key:=Sum Int Str
def oN:Key→Value→Bool
  | .inl k,v=>Value.isInt k v
  | .inr x,v=>Value.isStrOf x v
def qce (w:World):Key→Int
  | .inl k=>hashInt k
  | .inr x=>hashStr w x
theorem cG:∀{k:Key} {v:Value},oN k v=true→(∃i t,k=Sum.inl i∧v=Value.int i t)∨(∃x t,k=Sum.inr x∧v=Value.str x t)
  | .inl i,v,h=>by
    obtain⟨t,e⟩:=Value.isInt_shape (k:=i) (v:=v) h;exact .inl ⟨i,t,rfl,e⟩
  | .inr x,v,h=>by
    obtain⟨t,e⟩:=Value.isStrOf_shape (x:=x) (v:=v) h;exact .inr ⟨x,t,rfl,e⟩
theorem yR (i:Int) (t:Tok):oN (.inl i) (.int i t)=true:=by simp[oN,Value.isInt]
theorem yS (x:Str) (t:Tok):oN (.inr x) (.str x t)=true:=by simp[oN,Value.isStrOf]
theorem Vd (a b:Int):decide ((Sum.inl a:Key)=Sum.inl b)=(a == b):=by
  by_cases e:a=b
  ·subst e;simp
  ·have h:¬(Sum.inl a:Key)=Sum.inl b:=fun q=>e (Sum.inl.inj q);rw[decide_eq_false h];exact(beq_eq_false_iff_ne.mpr e).symm
theorem Ve (a b:Str):decide ((Sum.inr a:Key)=Sum.inr b)=decide (a=b):=by
  by_cases e:a=b
  ·subst e;simp
  ·have h:¬(Sum.inr a:Key)=Sum.inr b:=fun q=>e (Sum.inr.inj q);rw[decide_eq_false h,decide_eq_false e]
theorem Vf (a:Int) (b:Str):decide ((Sum.inl a:Key)=Sum.inr b)=false:=decide_eq_false (fun q=>nomatch q)
theorem Vg (a:Str) (b:Int):decide ((Sum.inr a:Key)=Sum.inl b)=false:=decide_eq_false (fun q=>nomatch q)
def bA (prog:Program) (w:World):PySem.KeyKind prog w Key where
  is:=oN
  hash:=qce w
  inj:=fun v a b ha hb=>by
    rcases cG ha with⟨i,t,rfl,rfl⟩ | ⟨x,t,rfl,rfl⟩
    · rcases cG hb with⟨j,u,rfl,e⟩ | ⟨y,u,rfl,e⟩
      ·injection e with e1 _;rw[e1]
      ·exact nomatch e
    · rcases cG hb with⟨j,u,rfl,e⟩ | ⟨y,u,rfl,e⟩
      ·exact nomatch e
      ·injection e with e1 _;rw[e1]
  byValue:=fun k v h=>by
    rcases cG h with⟨i,t,rfl,rfl⟩ | ⟨x,t,rfl,rfl⟩ <;> rfl
  pyHash:=fun hv h=>by
    rcases cG hv with⟨i,t,rfl,rfl⟩ | ⟨x,t,rfl,rfl⟩
    ·exact wpAny_pyHash_int h
    ·exact wpAny_pyHash_str h
  eqBool:=fun hu hv h=>by
    rcases cG hu with⟨i,t,rfl,rfl⟩ | ⟨x,t,rfl,rfl⟩
    · rcases cG hv with⟨j,u,rfl,rfl⟩ | ⟨y,u,rfl,rfl⟩
      ·rw[Vd] at h;exact wpAny_eqBool_int h
      ·rw[Vf] at h;exact SeqAt.EqAt.int_str i t y u _ _ _ _ h
    · rcases cG hv with⟨j,u,rfl,rfl⟩ | ⟨y,u,rfl,rfl⟩
      ·rw[Vg] at h;exact SeqAt.EqAt.str_int x t j u _ _ _ _ h
      ·rw[Ve] at h;exact wpAny_eqBool_str h
  «strs»:=fun k x t v h=>by
    rcases cG h with⟨i,u,rfl,e⟩ | ⟨y,u,rfl,e⟩
    ·exact nomatch e
    ·injection e with e1 _;subst e1;cases v <;> rfl
theorem uK (prog:Program) (w:World) (i:Int) (t:Tok):(bA prog w).is (.inl i) (.int i t)=true:=yR i t
theorem Ce (prog:Program) (w:World) (x:Str) (t:Tok):(bA prog w).is (.inr x) (.str x t)=true:=yS x t
inductive V where
  | non | bl (b:Bool) | int (i:Int) | str (x:Str) | K8 (b:Array UInt8) | flt (b:UInt64) | ref (a:Addr) | ty (n:String)
  deriving DecidableEq
def RelV:V→Value→Prop
  | .non,u=>u=Value.none
  | .bl b,u=>u=Value.bool b
  | .int i,u=>∃t,u=Value.int i t
  | .str x,u=>∃t,u=Value.str x t
  | .K8 b,u=>∃t,u=Value.bytes b t
  | .flt b,u=>∃t,u=Value.float b t
  | .ref a,u=>u=Value.ref a
  | .ty n,u=>u=Value.type n
abbrev Vals:List V→List Value→Prop:=Paired RelV
theorem Vals.length {xs:List V} {us:List Value} (r:Vals xs us):xs.length=us.length:=Paired.length r
theorem Vals.get:∀{xs:List V} {us:List Value} {i:Nat} {x:V},Vals xs us→xs[i]? = some x→∃u,us[i]? = some u∧RelV x u
  | _,_,_,_,.nil,e=>by simp at e
  | _,_,0,_,.cons r _,e=>by simp at e;subst e;exact⟨_,rfl,r⟩
  | _,_,i+1,x,.cons _ t,e=>by
    obtain⟨u,h1,h2⟩:=Vals.get (i:=i) (x:=x) t (by simpa using e);exact⟨u,by simpa using h1,h2⟩
theorem Vals.set {x:V} {u:Value} (r:RelV x u):∀{xs:List V} {us:List Value} (i:Nat),Vals xs us→Vals (xs.set i x) (us.set i u)
  | _,_,_,.nil=>.nil
  | _,_,0,.cons _ t=>.cons r t
  | _,_,i+1,.cons q t=>.cons q (Vals.set r i t)
theorem Vals.append:∀{xs ys:List V} {us ws:List Value},Vals xs us→Vals ys ws→Vals (xs++ys) (us++ws)
  | _,_,_,_,.nil,s=>s
  | _,_,_,_,.cons r t,s=>.cons r (Vals.append t s)
theorem Vals.take:∀{xs:List V} {us:List Value} (n:Nat),Vals xs us→Vals (xs.take n) (us.take n)
  | _,_,0,_=>.nil
  | _,_,_+1,.nil=>.nil
  | _,_,n+1,.cons r t=>.cons r (Vals.take n t)
theorem Vals.drop:∀{xs:List V} {us:List Value} (n:Nat),Vals xs us→Vals (xs.drop n) (us.drop n)
  | _,_,0,r=>r
  | _,_,_+1,.nil=>.nil
  | _,_,n+1,.cons _ t=>Vals.drop n t
def oJ:Option V→Option Value→Prop
  | some v,some u=>RelV v u
  | none,none=>True
  | _,_=>False
def KV {κ:Type}:List (κ×V)→List (κ×Value)→Prop:=Paired fun(p:κ×V) (q:κ×Value)=>p.1=q.1∧RelV p.2 q.2
def kV:Key→V
  | .inl i=>.int i
  | .inr x=>.str x
inductive HO where
  | lst (xs:List V)
  | tup (xs:List V)
  | dK (kvs:List (Key×V)) | dT (kvs:List (List Key×V))
  | set (S:Int→Bool) (n:Nat)
  | ins (C dx:Addr) (fs:List (Str×V))
  | own (x:Addr)
  | xd (fs:List (Str×V))
  | met (f x:Addr)
  | rng (lo hi:Int)
  | Fp (o:Obj) (u:HO)
  | Vh (ps:Array Value)
  | ext (φ:Heap→Prop)
abbrev Hp:=Addr→Option HO
def upd (H:Hp) (a:Addr) (o:HO):Hp:=fun b=>if b=a then some o else H b
theorem ak {H:Hp} {a:Addr} {o:HO}:upd H a o a=some o:=by unfold upd;rw[if_pos rfl]
theorem aC {H:Hp} {a b:Addr} {o:HO} (h:b≠a):upd H a o b=H b:=by unfold upd;rw[if_neg h]
theorem qD {H:Hp} {a b:Addr} {o u:HO} (h:H a=some o) (h':H b=some u) (d:o≠u):a≠b:=by
  intro e;subst e;rw[h] at h';exact d (Option.some.inj h')
theorem aG {H:Hp} {a b:Addr} {o:HO} (h:H a=some o) (h':H b=none):a≠b:=by
  intro e;subst e;rw[h] at h';cases h'
section
variable (P:Program) (w:World)
def bZ (H:Hp) (h:Heap) (a:Addr):HO→Prop
  | .lst xs=>xs.length≤sizeLine∧∃(its:List Value) (n:Nat),Vals xs its∧h.get? a=some {cls:=.type "list",data:=.seq its.toArray n}
  | .tup xs=>xs.length≤sizeLine∧∃its:List Value,Vals xs its∧IsTup h a its.toArray
  | .dK kvs=>kvs.length≤sizeLine∧(a == sysModules)=false∧∃vs,KV kvs vs∧h.DictOf (bA P w) a vs
  | .dT kvs=>kvs.length≤sizeLine∧(a == sysModules)=false∧∃xs:List (List Key×Addr×Value),
      Paired (fun(p:List Key×V) (q:List Key×Addr×Value)=>p.1=q.1∧H q.2.1=some (.tup (p.1.map kV))∧RelV p.2 q.2.2) kvs xs∧
      ∃o es ep,h.get? a=some o∧o.ExactDict∧o.data = .dict es ep∧es.toList=xs.map (entryOfKey (tupleKind (bA P w)))∧(xs.map (·.1)).Nodup
  | .set S n=>h.SetOf (intKind P w) a S n
  | .ins C dx fs=>H dx=some (.own a)∧fs.length≤1000∧dx≠a∧h.get? a=some (W.instObj C dx)∧
      ∃mA,h.Ns1 dx mA∧(∀f,oJ (fs.lookup f) (mA f))∧PySem.Within mA (fs.map (·.1))
  | .own _=>∃o,h.get? a=some o
  | .xd fs=>∃mA,h.Ns1 a mA∧∀f,oJ (fs.lookup f) (mA f)
  | .rng lo hi=>∃t u v,h.get? a=some {cls:=.type "range",data:=.fields #[.int lo t,.int hi u,.int 1 v]}
  | .Fp o u=>h.get? a=some o∧bZ H h a u
  | .Vh ps=>h.get? a=some {cls:=.none,data:=.fields ps}
  | .met f x=>h.get? a=some (W.methodObj (.ref f) (.ref x))
  | .ext φ=>φ h∧(∃o,h.get? a=some o)∧∀h1 h2:Heap,φ h1→(∀o,h1.get? a=some o→h2.get? a=some o)→φ h2
def qP (H:Hp) (h:Heap):Prop:=∀a o,H a=some o→bZ P w H h a o
end
section
variable {P:Program} {w:World} {H H':Hp} {h h':Heap} {a:Addr} {o:HO}
theorem bZ.lt (x:bZ P w H h a o):a<h.objs.size:=by
  cases o with
  | lst xs=>obtain⟨_,_,_,_,e⟩:=x;exact Heap.lt_size e
  | tup xs=>obtain⟨_,_,_,p⟩:=x;exact p.lt
  | dK kvs=>obtain⟨_,_,_,_,o,_,_,e,_⟩:=x;exact Heap.lt_size e
  | dT kvs=>obtain⟨_,_,_,_,o,_,_,e,_⟩:=x;exact Heap.lt_size e
  | set S n=>obtain⟨o,_,_,_,e,_⟩:=x;exact Heap.lt_size e
  | ins C dx fs=>obtain⟨_,_,_,e,_⟩:=x;exact Heap.lt_size e
  | own y=>obtain⟨_,e⟩:=x;exact Heap.lt_size e
  | xd fs=>obtain⟨_,⟨_,_,_,e,_⟩,_⟩:=x;exact Heap.lt_size e
  | rng lo hi=>obtain⟨_,_,_,e⟩:=x;exact Heap.lt_size e
  | Fp ob u=>obtain⟨e,_⟩:=x;exact Heap.lt_size e
  | Vh ps=>exact Heap.lt_size (show h.get? a=some _ from x)
  | met f y=>exact Heap.lt_size (show h.get? a=some _ from x)
  | ext φ=>obtain⟨_,⟨_,e⟩,_⟩:=x;exact Heap.lt_size e
theorem Paired.Vi {α β:Type} {F G:α→β→Prop}:∀{l₁:List α} {l₂:List β},Paired F l₁ l₂→(∀a b,F a b→G a b)→Paired G l₁ l₂
  | _,_,.nil,_=>.nil
  | _,_,.cons r t,f=>.cons (f _ _ r) (Paired.Vi t f)
theorem bZ.stay (x:bZ P w H h a o) (k:∀b u,(b=a∨H b=some (.own a))→h.get? b=some u→h'.get? b=some u)
    (ho:∀b,H b=some (.own a)→H' b=some (.own a)) (ht:∀b xs,H b=some (.tup xs)→H' b=some (.tup xs)):bZ P w H' h' a o:=by
  induction o with
  | lst xs=>obtain⟨z,its,n,r,e⟩:=x;exact⟨z,its,n,r,k _ _ (.inl rfl) e⟩
  | tup xs=>obtain⟨z,its,r,ob,e,c⟩:=x;exact⟨z,its,r,ob,k _ _ (.inl rfl) e,c⟩
  | dK kvs=>obtain⟨z,y,vs,r,ob,es,ep,e,c⟩:=x;exact⟨z,y,vs,r,ob,es,ep,k _ _ (.inl rfl) e,c⟩
  | dT kvs=>
    obtain⟨z,y,xs,r,ob,es,ep,e,c⟩:=x;exact⟨z,y,xs,Paired.Vi r fun p q z=>⟨z.1,ht _ _ z.2.1,z.2.2⟩,ob,es,ep,k _ _ (.inl rfl) e,c⟩
  | set S n=>obtain⟨ob,es,ep,t,e,c⟩:=x;exact⟨ob,es,ep,t,k _ _ (.inl rfl) e,c⟩
  | ins C dx fs=>
    obtain⟨d,z,ne,e,mA,⟨od,es,ep,e2,c⟩,r⟩:=x;exact⟨ho _ d,z,ne,k _ _ (.inl rfl) e,mA,⟨od,es,ep,k _ _ (.inr d) e2,c⟩,r⟩
  | own y=>obtain⟨ob,e⟩:=x;exact⟨ob,k _ _ (.inl rfl) e⟩
  | xd fs=>obtain⟨mA,⟨od,es,ep,e,c⟩,r⟩:=x;exact⟨mA,⟨od,es,ep,k _ _ (.inl rfl) e,c⟩,r⟩
  | rng lo hi=>obtain⟨t,u,v,e⟩:=x;exact⟨t,u,v,k _ _ (.inl rfl) e⟩
  | Fp ob u ih=>obtain⟨e,q⟩:=x;exact⟨k _ _ (.inl rfl) e,ih q⟩
  | Vh ps=>
    have e:h.get? a=some {cls:=.none,data:=.fields ps}:=x;show h'.get? a=some {cls:=.none,data:=.fields ps};exact k a _ (.inl rfl) e
  | met f y=>
    have e:h.get? a=some (W.methodObj (.ref f) (.ref y)):=x;show h'.get? a=some (W.methodObj (.ref f) (.ref y));exact k a _ (.inl rfl) e
  | ext φ=>obtain⟨p,⟨o,e⟩,st⟩:=x;exact⟨st _ _ p fun o q=>k _ _ (.inl rfl) q,⟨o,k _ _ (.inl rfl) e⟩,st⟩
theorem qP.lt (x:qP P w H h) (e:H a=some o):a<h.objs.size:=(x a o e).lt
theorem qP.fresh (x:qP P w H h) (e:h.objs.size≤a):H a=none:=by
  cases q:H a with
  | none=>rfl
  | some u=>exact absurd (Nat.lt_of_lt_of_le (x.lt q) e) (Nat.lt_irrefl _)
theorem qP.kept (x:qP P w H h) (k:∀b u,h.get? b=some u→h'.get? b=some u):qP P w H h':=fun a o e=>
  (x a o e).stay (fun b u _ q=>k b u q) (fun _ q=>q) fun _ _ q=>q
theorem qP.laid (x:qP P w H h) (k:∀b u,h.get? b=some u→h'.get? b=some u) (hp:h.objs.size≤a) (new:bZ P w (upd H a o) h' a o):qP P w (upd H a o) h':=fun b u e=>by
  have hn:=x.fresh hp
  by_cases hb:b=a
  ·subst hb;rw[ak] at e;cases e;exact new
  ·rw[aC hb] at e;exact(x b u e).stay (fun c v _ q=>k c v q) (fun c q=>by rw[aC (aG q hn)];exact q) fun c xs q=>by rw[aC (aG q hn)];exact q
end
def Rd (H:Hp) (a:Addr) (u:HO):Prop:=H a=some u∨∃o,H a=some (.Fp o u)
theorem Rd.ok {P:Program} {w:World} {H:Hp} {h:Heap} {a:Addr} {u:HO} (r:Rd H a u) (x:qP P w H h):bZ P w H h a u:=by
  rcases r with r | ⟨o,r⟩
  ·exact x a u r
  ·obtain⟨_,q⟩:=x a _ r;exact q
def YW:Option HO→Prop
  | some (.lst _)=>True
  | some (.dK _)=>True
  | some (.dT _)=>True
  | some (.set _ _)=>True
  | some (.ins _ _ _)=>True
  | some (.ext _)=>True
  | _=>False
section
variable {P:Program} {w:World} {H:Hp} {h h':Heap} {x e:Addr} {o':HO}
theorem qP.write (ok:qP P w H h) (mu:YW (H x)) (he:e=x∨H e=some (.own x)) (k:∀b u,b≠e→h.get? b=some u→h'.get? b=some u) (heo:∃u,h'.get? e=some u)
    (new:bZ P w (upd H x o') h' x o'):qP P w (upd H x o') h':=fun b u q=>by
  have YX:∀c y,H c=some (.own y)→c≠x:=fun c y r z=>by subst z;rw[r] at mu;exact mu
  have qcf:∀c xs,H c=some (.tup xs)→c≠x:=fun c xs r z=>by subst z;rw[r] at mu;exact mu
  by_cases hb:b=x
  ·subst hb;rw[ak] at q;cases q;exact new
  · rw[aC hb] at q
    by_cases hbe:b=e
    · have q':H b=some (.own x):=by
        rcases he with z | z
        ·exact absurd (hbe.trans z) hb
        ·rw[hbe];exact z
      rw[q] at q';cases q';obtain⟨v,hv⟩:=heo;exact⟨v,by rw[hbe];exact hv⟩
    · refine(ok b u q).stay (fun c v hc r=>k c v ?_ r) (fun c r=>by rw[aC (YX c b r)];exact r) fun c xs r=>by rw[aC (qcf c xs r)];exact r
      rcases hc with rfl | hc
      ·exact hbe
      · rintro rfl
        rcases he with z | z
        ·exact YX c b hc z
        ·rw[hc] at z;cases z;exact hb rfl
end
structure Un (fs ex:List Addr) (H H':Hp) (h h':Heap):Prop where
  keep:∀b o,h.get? b=some o→H b=none→b∉fs→b∉ex→h'.get? b=some o
  slot:∀b o,h.get? b=some o→H b=none→b∈fs→b∉ex→∃sl,h'.get? b=some {o with slots:=sl}
  free:∀b o,h.get? b=some o→H b=none→b∉ex→H' b=none
  there:∀b o,h.get? b=some o→b∉ex→∃o',h'.get? b=some o'
  tups:∀b xs,H b=some (.tup xs)→H' b=some (.tup xs)
  vP:∀b o u,H b=some (.Fp o u)→H' b=some (.Fp o u)
  yt:∀b ps,H b=some (.Vh ps)→∃more,H' b=some (.Vh (ps++more))
section
variable {fs fs' ex ex':List Addr} {H H1 H2:Hp} {h h1 h2 h':Heap} {a x e:Addr} {o:HO}
theorem Un.any (u:Un fs ex H H1 h h1) {b:Addr} {ob:Obj} (q:h.get? b=some ob) (n:H b=none) (hx:b∉ex):∃sl,h1.get? b=some {ob with slots:=sl}:=by
  by_cases hb:b∈fs
  ·exact u.slot b ob q n hb hx
  ·exact⟨ob.slots,u.keep b ob q n hb hx⟩
theorem Un.kept (k:∀b u,h.get? b=some u→h'.get? b=some u):Un fs ex H H h h':=
  ⟨fun b ob q _ _ _=>k b ob q,fun b ob q _ _ _=>⟨ob.slots,k b ob q⟩,fun _ _ _ n _=>n,fun b ob q _=>⟨ob,k b ob q⟩,fun _ _ q=>q,fun _ _ _ q=>q,fun _ ps q=>⟨#[],by rw[q];simp⟩⟩
theorem Un.refl:Un fs ex H H h h:=Un.kept fun _ _ q=>q
theorem Un.laid (k:∀b u,h.get? b=some u→h'.get? b=some u) (hp:h.objs.size≤a) (hn:H a=none):Un fs ex H (upd H a o) h h' where
  keep:=fun b u q _ _ _=>k b u q
  slot:=fun b u q _ _ _=>⟨u.slots,k b u q⟩
  free:=fun b u q n _=>by rw[aC (Nat.ne_of_lt (Nat.lt_of_lt_of_le (Heap.lt_size q) hp))];exact n
  there:=fun b u q _=>⟨u,k b u q⟩
  tups:=fun b xs q=>by rw[aC (aG q hn)];exact q
  vP:=fun b u xs q=>by rw[aC (aG q hn)];exact q
  yt:=fun b ps q=>⟨#[],by rw[aC (aG q hn),q];simp⟩
theorem Un.write (mu:YW (H x)) (he:e=x∨H e=some (.own x)) (k:∀b u,b≠e→h.get? b=some u→h'.get? b=some u) (heo:∃u,h'.get? e=some u):Un fs ex H (upd H x o) h h':=by
  have hx:∀b,H b=none→b≠x:=fun b n z=>by subst z;rw[n] at mu;exact mu
  have hb:∀b,H b=none→b≠e:=fun b n z=>by
    subst z
    rcases he with r | r
    ·exact hx b n r
    ·rw[n] at r;cases r
  have hm:∀b u,H b=some u→¬YW (some u)→b≠x:=fun b u q nm z=>by subst z;rw[q] at mu;exact nm mu
  refine⟨fun b u q n _ _=>k b u (hb b n) q,fun b u q n _ _=>⟨u.slots,k b u (hb b n) q⟩,fun b u q n _=>by rw[aC (hx b n)];exact n,fun b u q _=>?_,
    fun b xs q=>by rw[aC (hm b _ q fun z=>z)];exact q,fun b u xs q=>by rw[aC (hm b _ q fun z=>z)];exact q,fun b ps q=>⟨#[],by rw[aC (hm b _ q fun z=>z),q];simp⟩⟩
  by_cases hbe:b=e
  ·subst hbe;exact heo
  ·exact⟨u,k b u hbe q⟩
end
def trk (h:Heap) (H:Hp):List Addr:=(List.range h.objs.size).filter fun a=>(H a).isSome
def zW (h:Heap) (H:Hp):Heap:=W.hideAll h (trk h H)
theorem Jp (h:Heap) (H:Hp):(zW h H).objs.size=h.objs.size:=W.hideAll_size _ _
theorem Li {h:Heap} {H:Hp} {b:Addr} {o:Obj} (e:h.get? b=some o) (n:H b=none):(zW h H).get? b=some o:=
  W.hideAll_get _ e fun hm=>by
    have q:(H b).isSome=true:=(List.mem_filter.mp hm).2;rw[n] at q;simp at q
theorem QG {h:Heap} {H:Hp} {b:Addr} {o:Obj} (e:(zW h H).get? b=some o):h.get? b=some o∧H b=none:=by
  have e':h.get? b=some o:=W.of_hideAll (trk h H) e;refine⟨e',?_⟩;cases q:H b with
  | none=>rfl
  | some x=>
    have hm:b∈trk h H:=List.mem_filter.mpr ⟨List.mem_range.mpr (Heap.lt_size e'),by simp[q]⟩;have z:(zW h H).get? b=none:=W.hideAll_none (trk h H) hm;rw[z] at e;cases e
def QH (g h:Heap) (L:Addr):List (Addr×Obj):=(List.range h.objs.size).filterMap fun a=>if a=L∨(g.get? a).isSome=true then none else (h.get? a).map fun o=>(a,o)
def rest (g h:Heap) (L d:Addr):List (Addr×Obj):=(QH g h L).filter fun p=>decide (p.1≠d)
structure Mod (K:W.Frag) (mg:Str→Option Value) (base:Heap):Prop where
  kin:K.In base
  glob:base.Ns mainGlobals mg
  blt:∃mb,base.Ns builtinsNs mb∧∀x:Str,x≠ "__name__" →mb x=bootBuiltins x
  nolimit:base.NoLimit
set_option genInjectivity false in
structure Cx where
  prog:Program
  w:World
  K:W.Frag
  mg:Str→Option Value
  base:Heap
  A:Around
  N:List Str
  s₀:Shared
  H₀:Hp
  env:Env
  outer:List Env
  stack:List Env
  ex:List Addr
  fn:Str→Bool
  calm:Bool
  pn:List (Addr×Obj)
  xe:Value→Shared→Prop
def frs (l:List Env):List Addr:=l.filterMap (·.frame)
abbrev Cx.fs (X:Cx):List Addr:=frs X.outer
def YZ (sc:Scope) (x:Str):Prop:=sc.names.lookup x=some .local∨sc.names.lookup x=some .cell∨sc.names.lookup x=some .free
def Loc (sc:Scope) (x:Str):Prop:=sc.names.lookup x=some .local∨sc.names.lookup x=some .cell
def Look (env:Env) (h:Heap) (m:Str→Option Value) (x:Str) (u:Value):Prop:=
  (env.kindOf x=some .local∧m x=some u)∨((env.kindOf x=some .cell∨env.kindOf x=some .free)∧∃c,env.cells.lookup x=some c∧h.IsCell c (some u))
structure Cx.Ok (X:Cx):Prop where
  mod:Mod X.K X.mg X.base
  kind:X.env.scope.kind = .function
  glob:X.env.globals=mainGlobals
  blt:X.env.builtins=builtinsNs
  above:X.s₀.heap.objs.size≤X.env.locals
  inj:∀x y c,X.env.cells.lookup x=some c→X.env.cells.lookup y=some c→x=y
  has:∀x,(X.env.kindOf x=some .cell∨X.env.kindOf x=some .free)→∃c,X.env.cells.lookup x=some c
  cab:∀x c,X.fn x=true→X.env.cells.lookup x=some c→X.s₀.heap.objs.size≤c
  hd:X.calm=true→X.A.handled=none
  frames:X.A.frames=some X.stack
  stk:X.stack=X.outer∨(X.stack=X.env::X.outer∧X.env.frame=some X.env.locals)
  QJ:∀b∈X.ex,b≠X.env.locals∧∀x c,X.env.cells.lookup x=some c→c≠b
  bs:∀b o,X.base.get? b=some o→X.s₀.heap.get? b=some o∧X.H₀ b=none
  Qv:X.base.objs.size≤X.s₀.heap.objs.size
  Jq:∀b o,X.base.get? b=some o→b∉X.ex
  Cg:∀b∈X.ex,b∉X.fs
  tM:X.s₀.heap.FunFrames X.base X.outer
  T4:∀b∈X.fs,X.H₀ b=none
structure Inv (X:Cx) (p_:List (Addr×Obj)) (σ:List (Option V)) (H:Hp) (s:Shared):Prop where
  ok:X.Ok
  os:s.os=X.s₀.os
  bare:AllBare s.gens
  base:Un X.fs X.ex X.H₀ H X.s₀.heap s.heap
  loc:∃m,s.heap.Ns X.env.locals m∧∀(i:Nat) (x:Str) (v:V),X.N[i]? = some x→σ[i]? = some (some v)→YZ X.env.scope x→∃u,RelV v u∧Look X.env s.heap m x u
  cell:∀x c,X.env.cells.lookup x=some c→∃v,s.heap.IsCell c v
  free:H X.env.locals=none
  oF:∀x c,X.env.cells.lookup x=some c→H c=none
  pin:∀p∈X.pn++p_,s.heap.get? p.1=some p.2∧H p.1=none∧p.1≠X.env.locals∧p.1∉X.fs∧∀v,p.2.data≠.cell v
  hok:qP X.prog X.w H s.heap
  len:σ.length=X.N.length
section
variable {X:Cx} {p_:List (Addr×Obj)} {σ:List (Option V)} {H H':Hp} {s:Shared} {h':Heap}
theorem Cx.Ok.qcg (ok:X.Ok) {b:Addr} {o:Obj} (e:X.base.get? b=some o):b∉X.fs:=fun hb=>by
  have:=(ok.tM.mem hb).1;rw[e] at this;cases this
theorem Inv.bs (I:Inv X p_ σ H s):∀b o,X.base.get? b=some o→s.heap.get? b=some o∧H b=none:=fun b o e=>
  ⟨I.base.keep b o (I.ok.bs b o e).1 (I.ok.bs b o e).2 (I.ok.qcg e) (I.ok.Jq b o e),I.base.free b o (I.ok.bs b o e).1 (I.ok.bs b o e).2 (I.ok.Jq b o e)⟩
theorem Inv.bk (I:Inv X p_ σ H s):∀b o,X.base.get? b=some o→s.heap.get? b=some o:=fun b o e=>(I.bs b o e).1
theorem Inv.mod (I:Inv X p_ σ H s):Mod X.K X.mg X.base:=I.ok.mod
theorem Inv.u_ (I:Inv X p_ σ H s):X.K.In s.heap:=I.ok.mod.kin.keeps I.bk
theorem Inv.lt (I:Inv X p_ σ H s):X.env.locals<s.heap.objs.size:=let ⟨_,hn,_⟩:=I.loc;hn.lt
theorem Inv.sz (I:Inv X p_ σ H s):X.s₀.heap.objs.size≤s.heap.objs.size:=Nat.le_trans I.ok.above (Nat.le_of_lt I.lt)
theorem Inv.qch (I:Inv X p_ σ H s) {a:Addr} (h:s.heap.objs.size≤a):a∉X.fs:=fun hb=>by
  obtain⟨_,o,ho,_⟩:=I.ok.tM.mem hb;exact absurd (Nat.lt_of_lt_of_le (Heap.lt_size ho) (Nat.le_trans I.sz h)) (Nat.lt_irrefl _)
theorem Inv.Qw (I:Inv X p_ σ H s):∀x c,X.env.cells.lookup x=some c→c≠X.env.locals:=fun x c e z=>by
  obtain⟨v,o,ho,hd⟩:=I.cell x c e;obtain⟨m,⟨o',es,ep,ho',hd',_⟩,_⟩:=I.loc;rw[z,ho'] at ho;cases ho;rw[hd'] at hd;cases hd
theorem Inv.tM (I:Inv X p_ σ H s):s.heap.FunFrames X.base X.outer:=by
  have all:∀(l:List Env),(∀b∈frs l,b∈X.fs)→X.s₀.heap.FunFrames X.base l→s.heap.FunFrames X.base l:=by
    intro l
    induction l with
    | nil=>intro _ _;trivial
    | cons env r ih=>
      intro hs hl;obtain⟨hk,⟨L,o,hf,hn,ho,hd⟩,hr⟩:=hl;have hL:L∈X.fs:=hs L (by unfold frs;rw[List.filterMap_cons,hf];exact List.mem_cons_self);obtain⟨sl,e⟩:=I.base.slot L o ho (I.ok.T4 L hL) hL fun z=>I.ok.Cg L z hL;exact⟨hk,⟨L,_,hf,hn,e,hd⟩,ih (fun b hb=>hs b (by unfold frs;rw[List.filterMap_cons,hf];exact List.mem_cons_of_mem _ hb)) hr⟩
  exact all X.outer (fun _ hb=>hb) I.ok.tM
theorem Inv.stack (I:Inv X p_ σ H s):s.heap.FunFrames X.base X.stack:=by
  rcases I.ok.stk with e | ⟨e,hf⟩
  ·rw[e];exact I.tM
  ·rw[e];obtain⟨m,hn,_⟩:=I.loc;refine .cons (by rw[I.ok.kind];decide) hf hn ?_ I.tM;exact Heap.get?_none_of_le (Nat.le_trans I.ok.Qv I.ok.above)
theorem Inv.zX (I:Inv X p_ σ H s):∀b∈frs X.stack,b∈X.env.locals::X.fs:=fun b hb=>by
  rcases I.ok.stk with e | ⟨e,hf⟩
  ·rw[e] at hb;exact List.mem_cons_of_mem _ hb
  ·rw[e] at hb;unfold frs at hb;rw[List.filterMap_cons,hf] at hb;exact hb
theorem Inv.HX (I:Inv X p_ σ H s):∀b∈frs X.stack,H b=none:=fun b hb=>by
  rcases List.mem_cons.mp (I.zX b hb) with e | hb
  ·rw[e];exact I.free
  ·obtain⟨_,o,ho,_⟩:=I.ok.tM.mem hb;exact I.base.free b o ho (I.ok.T4 b hb) fun z=>I.ok.Cg b z hb
theorem Inv.step {g':Array GenState} {t':Nat} {d':Drawn} {ch:List Addr} (I:Inv X p_ σ H s)
    (hch:∀b∈ch,(b∈X.ex∨X.s₀.heap.objs.size≤b)∧b≠X.env.locals∧(∀x c,X.env.cells.lookup x=some c→c≠b)∧∀p∈X.pn++p_,p.1≠b)
    (keep:∀b o,b≠X.env.locals→b∉X.fs→b∉ch→s.heap.get? b=some o→H b=none→h'.get? b=some o)
    (slot:∀b o,b≠X.env.locals→b∈X.fs→b∉ch→s.heap.get? b=some o→H b=none→∃sl,h'.get? b=some {o with slots:=sl}) (free:∀b o,b∉ch→s.heap.get? b=some o→H b=none→H' b=none)
    (there:∀b o,b∉ch→s.heap.get? b=some o→∃o',h'.get? b=some o')
    (tups:∀b xs,H b=some (.tup xs)→H' b=some (.tup xs)) (vP:∀b o u,H b=some (.Fp o u)→H' b=some (.Fp o u)) (yt:∀b ps,H b=some (.Vh ps)→∃more,H' b=some (.Vh (ps++more)))
    (ns:∀m,s.heap.Ns X.env.locals m→h'.Ns X.env.locals m) (hok:qP X.prog X.w H' h') (hg:AllBare g') :
    Inv X p_ σ H' {s with heap:=h',gens:=g',drawn:=d',toks:=t'}:=by
  have neL:∀b o,X.s₀.heap.get? b=some o→b≠X.env.locals:=fun b o e=>Nat.ne_of_lt (Nat.lt_of_lt_of_le (Heap.lt_size e) I.ok.above);have neC:∀b o,X.s₀.heap.get? b=some o→b∉X.ex→b∉ch:=fun b o e hx hb=>by
    rcases(hch b hb).1 with z | z
    ·exact hx z
    ·exact absurd (Nat.lt_of_lt_of_le (Heap.lt_size e) z) (Nat.lt_irrefl _)
  have cellK:∀x c,X.env.cells.lookup x=some c→∀v,s.heap.IsCell c v→h'.IsCell c v:=fun x c e v ⟨o,ho,hd⟩=>by
    have Y0:c∉ch:=fun z=>(hch c z).2.2.1 x c e rfl
    by_cases hc:c∈X.fs
    ·obtain⟨sl,q⟩:=slot c o (I.Qw x c e) hc Y0 ho (I.oF x c e);exact⟨_,q,hd⟩
    ·exact⟨o,keep c o (I.Qw x c e) hc Y0 ho (I.oF x c e),hd⟩
  refine⟨I.ok,I.os,hg,⟨fun b o e n hb hx=>?_,fun b o e n hb hx=>?_,fun b o e n hx=>?_,fun b o e hx=>?_,fun b xs e=>tups b xs (I.base.tups b xs e),fun b o xs e=>vP b o xs (I.base.vP b o xs e),fun b ps e=>?_⟩,?_,fun x c e=>?_,?_,fun x c e=>?_,fun p hp=>?_,hok,I.len⟩
  ·exact keep b o (neL b o e) hb (neC b o e hx) (I.base.keep b o e n hb hx) (I.base.free b o e n hx)
  ·obtain⟨sl,e1⟩:=I.base.slot b o e n hb hx;obtain⟨sl',e2⟩:=slot b _ (neL b o e) hb (neC b o e hx) e1 (I.base.free b o e n hx);exact⟨sl',e2⟩
  ·obtain⟨o',e1⟩:=I.base.there b o e hx;exact free b o' (neC b o e hx) e1 (I.base.free b o e n hx)
  ·obtain⟨o',e1⟩:=I.base.there b o e hx;exact there b o' (neC b o e hx) e1
  ·obtain⟨m1,e1⟩:=I.base.yt b ps e;obtain⟨m2,e2⟩:=yt b _ e1;exact⟨m1++m2,by rw[e2,Array.append_assoc]⟩
  · obtain⟨m,hn,hl⟩:=I.loc;refine⟨m,ns m hn,fun i x v e1 e2 e3=>?_⟩;obtain⟨u,r,l⟩:=hl i x v e1 e2 e3;refine⟨u,r,?_⟩
    rcases l with l | ⟨k,c,e,z⟩
    ·exact .inl l
    ·exact .inr ⟨k,c,e,cellK x c e _ z⟩
  ·obtain⟨v,z⟩:=I.cell x c e;exact⟨v,cellK x c e v z⟩
  ·obtain⟨m,⟨o,_,_,ho,_⟩,_⟩:=I.loc;exact free _ o (fun z=>(hch _ z).2.1 rfl) ho I.free
  ·obtain⟨v,o,ho,hd⟩:=I.cell x c e;exact free c o (fun z=>(hch c z).2.2.1 x c e rfl) ho (I.oF x c e)
  ·obtain⟨e,n,ne,nf,d⟩:=I.pin p hp;have Y0:p.1∉ch:=fun z=>(hch p.1 z).2.2.2 p hp rfl;exact⟨keep p.1 p.2 ne nf Y0 e n,free p.1 p.2 Y0 e n,ne,nf,d⟩
theorem Inv.un {t':Nat} (I:Inv X p_ σ H s) (u:Un X.fs [] H H' s.heap h') (hok:qP X.prog X.w H' h'):Inv X p_ σ H' {s with heap:=h',toks:=t'}:=by
  obtain⟨m,⟨o,es,ep,ho,r⟩,_⟩:=id I.loc;obtain⟨sl,hL⟩:=u.any ho I.free (by simp);exact I.step (g':=s.gens) (d':=s.drawn) (ch:=[]) (fun _ z=>nomatch z) (fun b o _ hb _ e n=>u.keep b o e n hb (by simp)) (fun b o _ hb _ e n=>u.slot b o e n hb (by simp)) (fun b o _ e n=>u.free b o e n (by simp)) (fun b o _ e=>u.there b o e (by simp)) u.tups u.vP u.yt (fun m' hm=>by
    obtain⟨o',es',ep',ho',r'⟩:=hm;rw[ho] at ho';cases ho';exact⟨_,es',ep',hL,r'⟩) hok I.bare
theorem Inv.call {g':Array GenState} {t':Nat} {d':Drawn} {ch:List Addr} (I:Inv X p_ σ H s) (u:Un (frs X.stack) ch H H' s.heap h') (hok:qP X.prog X.w H' h') (hg:AllBare g')
    (hch:∀b∈ch,(b∈X.ex∨X.s₀.heap.objs.size≤b)∧b≠X.env.locals∧(∀x c,X.env.cells.lookup x=some c→c≠b)∧∀p∈X.pn++p_,p.1≠b) :
    Inv X p_ σ H' {s with heap:=h',gens:=g',drawn:=d',toks:=t'}:=by
  obtain⟨m,⟨o,es,ep,ho,r⟩,_⟩:=id I.loc;obtain⟨sl,hL⟩:=u.any ho I.free fun z=>(hch _ z).2.1 rfl;exact I.step (ch:=ch) hch (fun b o hL hb hc e n=>u.keep b o e n (fun z=>(List.mem_cons.mp (I.zX b z)).elim hL hb) hc) (fun b o _ _ hc e n=>u.any e n hc) (fun b o hc e n=>u.free b o e n hc) (fun b o hc e=>u.there b o e hc) u.tups u.vP u.yt (fun m' hm=>by
    obtain⟨o',es',ep',ho',r'⟩:=hm;rw[ho] at ho';cases ho';exact⟨_,es',ep',hL,r'⟩) hok hg
theorem Inv.turned {t':Nat} {it:Addr} (I:Inv X p_ σ H s) (k:∀b o,b≠it→s.heap.get? b=some o→h'.get? b=some o) (hn:H it=none) (hL:it≠X.env.locals)
    (h1:it∈X.ex∨X.s₀.heap.objs.size≤it) (h2:∀x c,X.env.cells.lookup x=some c→c≠it) (h3:∀p∈X.pn++p_,p.1≠it):Inv X p_ σ H {s with heap:=h',toks:=t'}:=by
  have nit:∀b u,H b=some u→b≠it:=fun b u e z=>by rw[z,hn] at e;cases e
  refine I.step (g':=s.gens) (d':=s.drawn) (ch:=[it]) (fun b hb=>?_) (fun b o _ _ hc e _=>k b o (fun z=>hc (by simp[z])) e) (fun b o _ _ hc e _=>⟨o.slots,k b o (fun z=>hc (by simp[z])) e⟩) (fun _ _ _ _ n=>n)
    (fun b o hc e=>⟨o,k b o (fun z=>hc (by simp[z])) e⟩) (fun _ _ e=>e) (fun _ _ _ e=>e) (fun b ps e=>⟨#[],by rw[e];simp⟩) (fun m hm=>?_) (fun b u e=>?_) I.bare
  · have e:b=it:=by simpa using hb
    subst e;exact⟨h1,hL,h2,h3⟩
  ·obtain⟨o,es,ep,ho,r⟩:=hm;exact⟨o,es,ep,k _ o (Ne.symm hL) ho,r⟩
  · refine(I.hok b u e).stay (fun c v hc q=>k c v ?_ q) (fun _ q=>q) fun _ _ q=>q
    rcases hc with z | z
    ·rw[z];exact nit b u e
    ·exact nit c _ z
theorem Inv.tok (I:Inv X p_ σ H s) (t:Nat):Inv X p_ σ H {s with toks:=t}:=I.un (h':=s.heap) (t':=t) Un.refl I.hok
theorem Inv.kept {t':Nat} (I:Inv X p_ σ H s) (k:∀b u,s.heap.get? b=some u→h'.get? b=some u):Inv X p_ σ H {s with heap:=h',toks:=t'}:=I.un (Un.kept k) (I.hok.kept k)
theorem Inv.laid {a:Addr} {o:HO} {t':Nat} (I:Inv X p_ σ H s) (k:∀b u,s.heap.get? b=some u→h'.get? b=some u) (hp:s.heap.objs.size≤a) (new:bZ X.prog X.w (upd H a o) h' a o) :
    Inv X p_ σ (upd H a o) {s with heap:=h',toks:=t'}:=I.un (Un.laid k hp (I.hok.fresh hp)) (I.hok.laid k hp new)
theorem Inv.write {x e:Addr} {o:HO} {t':Nat} (I:Inv X p_ σ H s) (mu:YW (H x)) (he:e=x∨H e=some (.own x)) (k:∀b u,b≠e→s.heap.get? b=some u→h'.get? b=some u) (heo:∃u,h'.get? e=some u)
    (new:bZ X.prog X.w (upd H x o) h' x o):Inv X p_ σ (upd H x o) {s with heap:=h',toks:=t'}:=I.un (Un.write mu he k heo) (I.hok.write mu he k heo new)
theorem Inv.HY {H_:List (Addr×Obj)} (I:Inv X p_ σ H s) (h:∀p∈H_,s.heap.get? p.1=some p.2∧H p.1=none∧p.1≠X.env.locals∧p.1∉X.fs∧∀v,p.2.data≠.cell v):Inv X H_ σ H s:=
  ⟨I.ok,I.os,I.bare,I.base,I.loc,I.cell,I.free,I.oF,fun p hp=>(List.mem_append.mp hp).elim (fun z=>I.pin p (List.mem_append_left _ z)) (h p),I.hok,I.len⟩
theorem Ci {N:List Str} (hN:N.Nodup) {i j:Nat} {x:Str} (a:N[i]? = some x) (b:N[j]? = some x):i=j:=by
  obtain⟨h1,e1⟩:=List.getElem?_eq_some_iff.mp a;obtain⟨h2,e2⟩:=List.getElem?_eq_some_iff.mp b;exact(List.getElem_inj hN).mp (e1.trans e2.symm)
theorem tO {M:Model} {A:Around} {E:Value→Shared→Prop} {i:Nat} {x:Str} {v:V} {u:Value} {Q:Unit→Shared→Prop} (I:Inv X p_ σ H s) (hN:X.N.Nodup) (hi:X.N[i]? = some x) (hx:Loc X.env.scope x) (r:RelV v u)
    (h:∀s',Inv X p_ (σ.set i (some v)) H s'→(∃a,Heap.SameBut a s.heap s'.heap∧(a=X.env.locals∨X.env.cells.lookup x=some a))→Q () s') (hf:X.fn x=true∨X.env.scope.names.lookup x=some .local:=by first | exact .inl rfl | exact .inr rfl | assumption):wpAny M A (storeName X.env x u) Q E s:=by
  obtain⟨m,hn,hl⟩:=id I.loc;have hcls:(X.env.scope.kind == .class || (X.env.scope.kind == .module && X.env.locals != X.env.globals))=false:=by rw[I.ok.kind];rfl
  have hiσ:i<σ.length:=by rw[I.len];exact(List.getElem?_eq_some_iff.mp hi).1
  have Qw:=I.Qw;have tracked:∀{a:Addr} {h':Heap},(∃o,s.heap.get? a=some o∧H a=none)→Heap.SameBut a s.heap h'→qP X.prog X.w H h':=fun {a h'} ha hs b ob e=>by
    obtain⟨_,_,hfree⟩:=ha;refine(I.hok b ob e).stay (fun c w' hc q=>(hs.2 c ?_).trans q) (fun _ q=>q) fun _ _ q=>q;rintro rfl
    rcases hc with rfl | hc
    ·rw[hfree] at e;cases e
    ·rw[hfree] at hc;cases hc
  rcases hx with hk | hk
  · refine wpAny_storeName_local hk hn (fun h' hn' hs=>?_) hcls;obtain⟨oL,_,_,hoL,_⟩:=id hn;refine h _ ⟨I.ok,I.os,I.bare,⟨fun b o e n hb hx=>?_,fun b o e n hb hx=>?_,I.base.free,fun b o e hx=>?_,I.base.tups,I.base.vP,I.base.yt⟩,⟨_,hn',fun j y v' e1 e2 e3=>?_⟩,fun y c e=>?_,I.free,I.oF,fun p hp=>?_,tracked ⟨oL,hoL,I.free⟩ hs,by simpa using I.len⟩ ⟨_,hs,.inl rfl⟩
    ·exact(hs.2 b (Nat.ne_of_lt (Nat.lt_of_lt_of_le (Heap.lt_size e) I.ok.above))).trans (I.base.keep b o e n hb hx)
    ·obtain⟨sl,e1⟩:=I.base.slot b o e n hb hx;exact⟨sl,(hs.2 b (Nat.ne_of_lt (Nat.lt_of_lt_of_le (Heap.lt_size e) I.ok.above))).trans e1⟩
    ·obtain⟨o',e1⟩:=I.base.there b o e hx;exact⟨o',(hs.2 b (Nat.ne_of_lt (Nat.lt_of_lt_of_le (Heap.lt_size e) I.ok.above))).trans e1⟩
    · by_cases hj:j=i
      ·subst hj;rw[hi] at e1;cases e1;rw[List.getElem?_set_self hiσ] at e2;cases e2;exact⟨u,r,.inl ⟨hk,by simp⟩⟩
      · rw[List.getElem?_set_ne (Ne.symm hj)] at e2;obtain⟨u',r',q⟩:=hl j y v' e1 e2 e3;refine⟨u',r',?_⟩
        rcases q with⟨k,e⟩ | ⟨k,c,e,z⟩
        ·refine .inl ⟨k,?_⟩;have:y≠x:=fun e=>hj (Ci hN e1 (e▸hi));simp[this,e]
        ·exact .inr ⟨k,c,e,z.sameBut hs (Qw y c e)⟩
    ·obtain⟨w',z⟩:=I.cell y c e;exact⟨w',z.sameBut hs (Qw y c e)⟩
    ·obtain⟨e,n,ne,nf,d⟩:=I.pin p hp;exact⟨(hs.2 p.1 ne).trans e,n,ne,nf,d⟩
  · have hfn:X.fn x=true:=by
      rcases hf with z | z
      ·exact z
      ·rw[z] at hk;cases hk
    obtain⟨c,hc⟩:=I.ok.has x (.inl hk);obtain⟨w',z⟩:=I.cell x c hc;refine wpAny_storeName_cell I.ok.kind hk hc z (fun h' hc' hs=>?_);obtain⟨oc,hoc,qci⟩:=id z;refine h {s with heap:=h'} ⟨I.ok,I.os,I.bare,⟨fun b o e n hb hx=>?_,fun b o e n hb hx=>?_,I.base.free,fun b o e hx=>?_,I.base.tups,I.base.vP,I.base.yt⟩,⟨m,hn.sameBut hs (Ne.symm (Qw x c hc)),fun j y v' e1 e2 e3=>?_⟩,fun y c' e=>?_,I.free,I.oF,fun p hp=>?_,tracked ⟨oc,hoc,I.oF x c hc⟩ hs,by simpa using I.len⟩ ⟨c,hs,.inr hc⟩
    ·exact(hs.2 b (Nat.ne_of_lt (Nat.lt_of_lt_of_le (Heap.lt_size e) (I.ok.cab x c hfn hc)))).trans (I.base.keep b o e n hb hx)
    ·obtain⟨sl,e1⟩:=I.base.slot b o e n hb hx;exact⟨sl,(hs.2 b (Nat.ne_of_lt (Nat.lt_of_lt_of_le (Heap.lt_size e) (I.ok.cab x c hfn hc)))).trans e1⟩
    ·obtain⟨o',e1⟩:=I.base.there b o e hx;exact⟨o',(hs.2 b (Nat.ne_of_lt (Nat.lt_of_lt_of_le (Heap.lt_size e) (I.ok.cab x c hfn hc)))).trans e1⟩
    · by_cases hj:j=i
      ·subst hj;rw[hi] at e1;cases e1;rw[List.getElem?_set_self hiσ] at e2;cases e2;exact⟨u,r,.inr ⟨.inl hk,c,hc,hc'⟩⟩
      · rw[List.getElem?_set_ne (Ne.symm hj)] at e2;obtain⟨u',r',q⟩:=hl j y v' e1 e2 e3;refine⟨u',r',?_⟩
        rcases q with q | ⟨k,c',e,z'⟩
        ·exact .inl q
        ·refine .inr ⟨k,c',e,z'.sameBut hs ?_⟩;rintro rfl;exact hj (Ci hN e1 (I.ok.inj _ _ _ e hc▸hi))
    · by_cases hcc:c'=c
      ·subst hcc;exact⟨_,hc'⟩
      ·obtain⟨w2,z2⟩:=I.cell y c' e;exact⟨w2,z2.sameBut hs hcc⟩
    ·obtain⟨e,n,ne,nf,d⟩:=I.pin p hp;refine⟨(hs.2 p.1 ?_).trans e,n,ne,nf,d⟩;intro q;rw[q,hoc] at e;have q':oc=p.2:=Option.some.inj e;exact d w' (by rw[← q'];exact qci)
theorem vQ {M:Model} {A:Around} {E:Value→Shared→Prop} {i:Nat} {x:Str} {v:V} {u:Value} {Q:Unit→Shared→Prop} (I:Inv X p_ σ H s) (hN:X.N.Nodup) (hi:X.N[i]? = some x) (hx:Loc X.env.scope x) (r:RelV v u)
    (h:∀s',Inv X p_ (σ.set i (some v)) H s'→Q () s') (hf:X.fn x=true∨X.env.scope.names.lookup x=some .local:=by first | exact .inl rfl | exact .inr rfl | assumption):wpAny M A (storeName X.env x u) Q E s:=
  tO I hN hi hx r (fun s' I' _=>h s' I') hf
theorem Inv.call' {s':Shared} {ch:List Addr} (I:Inv X p_ σ H s) (ho:s'.os=s.os) (u:Un (frs X.stack) ch H H' s.heap s'.heap) (hok:qP X.prog X.w H' s'.heap) (hg:AllBare s'.gens)
    (hch:∀b∈ch,(b∈X.ex∨X.s₀.heap.objs.size≤b)∧b≠X.env.locals∧(∀x c,X.env.cells.lookup x=some c→c≠b)∧∀p∈X.pn++p_,p.1≠b):Inv X p_ σ H' s':=by
  obtain⟨h',g',d',t',o'⟩:=s';have e:o'=s.os:=ho;subst e;exact I.call (g':=g') (t':=t') (d':=d') u hok hg hch
end
abbrev XK:=Value→Option Addr→Hp→Prop
abbrev St:=List (Option V)
abbrev VK:=V→Hp→Prop
abbrev TE:=St→Hp→VK→Prop
abbrev TT:=St→Hp→(Bool→Hp→Prop)→Prop
abbrev TA:=St→Hp→(List V→Hp→Prop)→Prop
structure Ends where
  nx:St→Hp→Prop
  rt:VK
  bk:St→Hp→Prop:=fun _ _=>False
  ct:St→Hp→Prop:=fun _ _=>False
abbrev TS:=Ends→St→Hp→Prop
def EP (X:Cx) (p_:List (Addr×Obj)) (σ:St) (Q:VK) (u:Value) (s':Shared):Prop:=∃v H',Inv X p_ σ H' s'∧RelV v u∧Q v H'
def TP (X:Cx) (p_:List (Addr×Obj)) (σ:St) (Q:Bool→Hp→Prop) (b:Bool) (s':Shared):Prop:=∃H',Inv X p_ σ H' s'∧Q b H'
def AP (X:Cx) (p_:List (Addr×Obj)) (σ:St) (Q:List V→Hp→Prop) (us:List Value) (s':Shared):Prop:=∃vs H',Inv X p_ σ H' s'∧Vals vs us∧Q vs H'
def SP (X:Cx) (p_:List (Addr×Obj)) (D:Ends) (f:Flow) (s':Shared):Prop:=
  match f with
  | .next=>∃σ' H',Inv X p_ σ' H' s'∧D.nx σ' H'
  | .brk=>∃σ' H',Inv X p_ σ' H' s'∧D.bk σ' H'
  | .cont=>∃σ' H',Inv X p_ σ' H' s'∧D.ct σ' H'
  | .ret u=>∃v σ' H',Inv X p_ σ' H' s'∧RelV v u∧D.rt v H'
def PE (X:Cx) (e:Expr) (t:TE):Prop:=
  ∀(p_:List (Addr×Obj)) (s:Shared) (σ:St) (H:Hp) (Q:VK),Inv X p_ σ H s→t σ H Q→wpAny (model X.prog X.w) X.A (eval e X.env) (EP X p_ σ Q) X.xe s
def PT (X:Cx) (e:Expr) (t:TT):Prop:=
  ∀(p_:List (Addr×Obj)) (s:Shared) (σ:St) (H:Hp) (Q:Bool→Hp→Prop),Inv X p_ σ H s→t σ H Q→wpAny (model X.prog X.w) X.A (isTrue e X.env (eval e X.env)) (TP X p_ σ Q) X.xe s
def PW (X:Cx) (e:Expr) (t:TT):Prop:=
  ∀(whole:Sem Value) (p_:List (Addr×Obj)) (s:Shared) (σ:St) (H:Hp) (Q:Bool→Hp→Prop),Inv X p_ σ H s→t σ H Q→wpAny (model X.prog X.w) X.A (isTrue e X.env whole) (TP X p_ σ Q) X.xe s
theorem PW.pt {X:Cx} {e:Expr} {t:TT} (h:PW X e t):PT X e t:=h _
def PA (X:Cx) (es:List Expr) (t:TA):Prop:=
  ∀(pos:Pos) (p_:List (Addr×Obj)) (s:Shared) (σ:St) (H:Hp) (Q:List V→Hp→Prop),Inv X p_ σ H s→t σ H Q→wpAny (model X.prog X.w) X.A (spliced (backTo pos (starEach es X.env))) (AP X p_ σ Q) X.xe s
def PS (X:Cx) (st:Stmt) (t:TS):Prop:=
  ∀(p_:List (Addr×Obj)) (s:Shared) (σ:St) (H:Hp) (D:Ends),Inv X p_ σ H s→t D σ H→wpAny (model X.prog X.w) X.A (exec st X.env) (SP X p_ D) X.xe s
def Ia (X:Cx) (st:List Stmt) (t:TS):Prop:=
  ∀(p_:List (Addr×Obj)) (s:Shared) (σ:St) (H:Hp) (D:Ends),Inv X p_ σ H s→t D σ H→wpAny (model X.prog X.w) X.A (execs st X.env) (SP X p_ D) X.xe s
theorem bN {α:Type} {t:Sem α} {Q Q':α→Shared→Prop} {M:Model} {A:Around} {E:Value→Shared→Prop} {s:Shared} (h:wpAny M A t Q E s) (hQ:∀a s,Q a s→Q' a s):wpAny M A t Q' E s:=wpAny_mono h hQ fun _ _ x=>x
section
variable {X:Cx}
def Vj (i:Nat):TE:=fun σ H Q=>∃v,σ[i]? = some (some v)∧Q v H
def tC (v:V):TE:=fun _ H Q=>Q v H
theorem Vk {i:Nat} {x:Str} {pos:Pos} (hN:X.N[i]? = some x) (hv:YZ X.env.scope x) (hd:(x == ("__debug__" : Str))=false:=by decide) (hcd:(x == ("__classdict__" : Str))=false:=by decide):PE X (.Name x pos) (Vj i):=by
  intro p_ s σ H Q I h;obtain⟨v,e,h⟩:=h;obtain⟨m,hn,hl⟩:=I.loc;obtain⟨u,r,l⟩:=hl i x v hN e hv;have fin:EP X p_ σ Q u s:=⟨v,H,I,r,h⟩
  rcases l with⟨hk,hm⟩ | ⟨hk,c,hc,hcell⟩
  ·exact wpAny_Name (wpAny_loadName_local I.ok.kind hk hn hm fin) hd
  · rcases hk with hk | hk
    ·exact wpAny_Name (wpAny_loadName_cell I.ok.kind hk hc hcell fin) hd
    ·exact wpAny_Name (wpAny_loadName_free I.ok.kind hk hc hcell fin hcd) hd
theorem aH {i j pos}:PE X (.Constant (.int i) j pos) (tC (.int i)):=fun _ _ _ H _ I h=>wpAny_Constant_int ⟨.int i,H,I.tok _,⟨_,rfl⟩,h⟩
theorem uL {b j pos}:PE X (.Constant (.bool b) j pos) (tC (.bl b)):=fun _ _ _ H _ I h=>Constant_bool ⟨.bl b,H,I,rfl,h⟩
theorem FJ {j pos}:PE X (.Constant .none j pos) (tC .non):=fun _ _ _ H _ I h=>Constant_none ⟨.non,H,I,rfl,h⟩
theorem vR {x j pos}:PE X (.Constant (.str x) j pos) (tC (.str x)):=fun _ _ _ H _ I h=>Calls.Constant_str ⟨.str x,H,I.tok _,⟨_,rfl⟩,h⟩
def Gl (X:Cx) (x:Str):Prop:=X.env.kindOf x=some .globalImplicit
theorem zY {E:Value→Shared→Prop} {p_:List (Addr×Obj)} {s:Shared} {σ:St} {H:Hp} {x:Str} {u:Value} {pos:Pos} {Q:Value→Shared→Prop} (I:Inv X p_ σ H s) (hg:Gl X x) (hm:X.mg x=some u) (h:Q u s)
    (hd:(x == ("__debug__" : Str))=false:=by decide):wpAny (model X.prog X.w) X.A (eval (.Name x pos) X.env) Q E s:=
  Calls.Name_function_global I.ok.kind hg (Calls.loadGlobal_global (by rw[I.ok.glob];exact I.mod.glob.keeps I.bk) hm h) hd
theorem mZ {E:Value→Shared→Prop} {p_:List (Addr×Obj)} {s:Shared} {σ:St} {H:Hp} {x:Str} {u:Value} {pos:Pos} {Q:Value→Shared→Prop} (I:Inv X p_ σ H s) (hg:Gl X x) (hm:X.mg x=none) (hv:bootBuiltins x=some u) (h:Q u s)
    (hn:x≠ "__name__" :=by decide) (hd:(x == ("__debug__" : Str))=false:=by decide):wpAny (model X.prog X.w) X.A (eval (.Name x pos) X.env) Q E s:=by
  obtain⟨mb,h1,h2⟩:=I.mod.blt;exact Calls.Name_function_global I.ok.kind hg (Calls.loadGlobal_builtin (by rw[I.ok.glob];exact I.mod.glob.keeps I.bk) hm (by rw[I.ok.blt];exact h1.keeps I.bk) ((h2 x hn).trans hv) h) hd
theorem rH {x:Str} {v:V} {u:Value} {pos:Pos} (hg:Gl X x) (hm:X.mg x=some u) (r:RelV v u) (hd:(x == ("__debug__" : Str))=false:=by decide):PE X (.Name x pos) (tC v):=
  fun _ _ _ H _ I h=>zY I hg hm ⟨v,H,I,r,h⟩ hd
theorem m5 {x:Str} {v:V} {u:Value} {pos:Pos} (hg:Gl X x) (hm:X.mg x=none) (hv:bootBuiltins x=some u) (r:RelV v u) (hn:x≠ "__name__" :=by decide) (hd:(x == ("__debug__" : Str))=false:=by decide):PE X (.Name x pos) (tC v):=
  fun _ _ _ H _ I h=>mZ I hg hm hv ⟨v,H,I,r,h⟩ hn hd
variable {a b:Expr} {ta tb:TE} {pos:Pos}
def PC (X:Cx) (op:CmpOp) (a b:Expr) (t:TE):Prop:=
  ∀(p_:List (Addr×Obj)) (s:Shared) (σ:St) (H:Hp) (Q:VK),Inv X p_ σ H s→t σ H Q→
    wpAny (model X.prog X.w) X.A (eval a X.env) (fun v s₁=>wpAny (model X.prog X.w) X.A (eval b X.env) (fun u s₂=>wpAny (model X.prog X.w) X.A (compareOp op v u) (EP X p_ σ Q) X.xe s₂) X.xe s₁) X.xe s
theorem Cj (b:Expr) {op:CmpOp} (h:op≠.In) (h2:op≠.NotIn):behindInMarks op b=false:=by
  have e1:(op == CmpOp.In)=false:=by cases op <;> first | rfl | exact absurd rfl h
  have e2:(op == CmpOp.NotIn)=false:=by cases op <;> first | rfl | exact absurd rfl h2
  cases b <;> simp[behindInMarks,e1,e2]
def tB (t:TE):TT:=fun σ H Q=>t σ H fun x H1=>∃c,x = .bl c∧Q c H1
theorem Vl {op:CmpOp} {t:TE} (h:PC X op a b t) (h1:behindInMarks op b=false:=by first | exact Cj _ (by decide) (by decide) | rfl):PT X (.Compare a [op] [b] pos) (tB t):=by
  intro p_ s σ H Q I hw;refine wpAny_isTrue_Compare1 (bN (h p_ s σ H _ I hw) fun v s1 h1=>bN h1 fun u s2 h2=>bN h2 fun c s3 zz=>?_) h1;obtain⟨x,H1,I1,r1,q1⟩:=zz;obtain⟨d,rfl,q⟩:=q1;cases r1;exact wpAny_truthy_bool ⟨H1,I1,q⟩
theorem Vm {e:Expr} {t:TE} (h:PE X e t) (he:∀whole,isTrue e X.env whole=(do let v ← whole;standAt e.pos;holding [v] (truthy v)):=by intro _;rfl):PT X e (tB t):=by
  intro p_ s σ H Q I hw;refine isTrue_plain (bN (h p_ s σ H _ I hw) fun v s1 zz=>?_) (he _);obtain⟨x,H1,I1,r1,q1⟩:=zz;obtain⟨d,rfl,q⟩:=q1;cases r1;exact wpAny_truthy_bool ⟨H1,I1,q⟩
variable {tA tB':TT} {rest:List Expr}
def Y4 (t u:TT):TT:=fun σ H Q=>t σ H fun c H1=>if c=true then u σ H1 Q else Q false H1
def tOr (t u:TT):TT:=fun σ H Q=>t σ H fun c H1=>if c=true then Q true H1 else u σ H1 Q
def Y5 (t:TT):TT:=fun σ H Q=>t σ H fun c H1=>Q (!c) H1
theorem vm (ha:PT X a tA):PW X (.BoolOp .And [a] pos) tA:=by
  intro wh p_ s σ H Q I h;refine isTrue_and (bN (ha p_ s σ H Q I h) fun c s1 e=>?_);cases c with
  | true=>exact isTrue_and_nil e
  | false=>exact e
theorem tQ (ha:PT X a tA):PW X (.BoolOp .Or [a] pos) tA:=by
  intro wh p_ s σ H Q I h;refine isTrue_or (bN (ha p_ s σ H Q I h) fun c s1 e=>?_);cases c with
  | false=>exact isTrue_or_nil e
  | true=>exact e
theorem tR (ha:PT X a tA) (hb:PW X (.BoolOp .And (b::rest) pos) tB'):PW X (.BoolOp .And (a::b::rest) pos) (Y4 tA tB'):=by
  intro wh p_ s σ H Q I h;refine isTrue_and (bN (ha p_ s σ H _ I h) fun c s1 zz=>?_);obtain⟨H1,I1,q1⟩:=zz;cases c with
  | true=>exact hb wh p_ s1 σ H1 Q I1 q1
  | false=>exact⟨H1,I1,q1⟩
theorem uM (ha:PT X a tA) (hb:PW X (.BoolOp .Or (b::rest) pos) tB'):PW X (.BoolOp .Or (a::b::rest) pos) (tOr tA tB'):=by
  intro wh p_ s σ H Q I h;refine isTrue_or (bN (ha p_ s σ H _ I h) fun c s1 zz=>?_);obtain⟨H1,I1,q1⟩:=zz;cases c with
  | true=>exact⟨H1,I1,q1⟩
  | false=>exact hb wh p_ s1 σ H1 Q I1 q1
theorem iC (ha:PT X a tA):PT X (.UnaryOp .Not a pos) (Y5 tA):=by
  intro p_ s σ H Q I h;exact isTrue_not (ha p_ s σ H (fun c H1=>Q (!c) H1) I h)
def Lj (ta tb:TE):TE:=fun σ H Q=>ta σ H fun x H1=>∃c,x = .bl c∧if c=true then tb σ H1 Q else Q (.bl false) H1
theorem zZ {op} {t:TE} (h:PE X a t):PE X (.BoolOp op [a] pos) t:=fun p_ s σ H Q I hw=>BoolOp_one (h p_ s σ H Q I hw)
theorem Vn (ha:PE X a ta) (hb:PE X (.BoolOp .And (b::rest) pos) tb):PE X (.BoolOp .And (a::b::rest) pos) (Lj ta tb):=by
  intro p_ s σ H Q I h;refine BoolOp_and (bN (ha p_ s σ H _ I h) fun v s1 zz=>?_);obtain⟨x,H1,I1,r1,q1⟩:=zz;obtain⟨c,rfl,q1⟩:=q1;cases r1;refine wpAny_truthy_bool ?_;cases c with
  | true=>exact hb p_ s1 σ H1 Q I1 q1
  | false=>exact⟨.bl false,H1,I1,rfl,q1⟩
def tIf (t:TT) (ta tb:TE):TE:=fun σ H Q=>t σ H fun c H1=>if c=true then ta σ H1 Q else tb σ H1 Q
theorem Ck {c:Expr} (hc:PT X c tA) (ha:PE X a ta) (hb:PE X b tb):PE X (.IfExp c a b pos) (tIf tA ta tb):=by
  intro p_ s σ H Q I h;refine wpAny_IfExp (bN (hc p_ s σ H _ I h) fun d s1 zz=>?_);obtain⟨H1,I1,q1⟩:=zz;cases d with
  | true=>exact ha p_ s1 σ H1 Q I1 q1
  | false=>exact hb p_ s1 σ H1 Q I1 q1
end
def aR (K:W.Frag) (H:Hp) (a:Addr) (xs:List V):Prop:=
  Rd H a (.lst xs)∨
    ∃(o:Obj) (its:Array Value) (n:Nat),K.lookup a=some o∧o.cls = .type "list" ∧o.dict=none∧o.data = .seq its n∧its.size≤sizeLine∧Vals xs its.toList
def eO (K:W.Frag) (H:Hp) (a:Addr) (xs:List V):Prop:=
  Rd H a (.tup xs)∨
    ∃(o:Obj) (its:Array Value) (n:Nat),K.lookup a=some o∧o.cls = .type "tuple" ∧o.data = .seq its n∧its.size≤sizeLine∧Vals xs its.toList
def qcj:Value→Option V
  | .none=>some .non
  | .bool b=>some (.bl b)
  | .int i _=>some (.int i)
  | .str x _=>some (.str x)
  | .bytes b _=>some (.K8 b)
  | .float b _=>some (.flt b)
  | .ref a=>some (.ref a)
  | .type n=>some (.ty n)
  | _=>none
theorem RelV.abs {x:V} {u:Value} (r:RelV x u):qcj u=some x:=by
  cases x with
  | non=>cases r;rfl
  | bl _=>cases r;rfl
  | int _=>obtain⟨t,rfl⟩:=r;rfl
  | str _=>obtain⟨t,rfl⟩:=r;rfl
  | K8 _=>obtain⟨t,rfl⟩:=r;rfl
  | flt _=>obtain⟨t,rfl⟩:=r;rfl
  | ref _=>cases r;rfl
  | ty _=>cases r;rfl
theorem RelV.inj {x y:V} {u:Value} (r:RelV x u) (q:RelV y u):x=y:=Option.some.inj (r.abs.symm.trans q.abs)
theorem Vals.inj:∀{xs ys:List V} {us:List Value},Vals xs us→Vals ys us→xs=ys
  | _,_,_,.nil,.nil=>rfl
  | _,_,_,.cons r t,.cons r' t'=>by rw[r.inj r',Vals.inj t t']
section
variable {X:Cx} {p_:List (Addr×Obj)} {σ:St} {H:Hp} {s:Shared} {a:Addr} {xs ys:List V}
theorem aR.of {K:W.Frag} (h:H a=some (.lst xs)):aR K H a xs:=.inl (.inl h)
theorem eO.of {K:W.Frag} (h:H a=some (.tup xs)):eO K H a xs:=.inl (.inl h)
theorem Inv.list (I:Inv X p_ σ H s) (h:aR X.K H a xs):∃its:List Value,Vals xs its∧PlainL s.heap a its.toArray∧xs.length≤sizeLine:=by
  rcases h with h | ⟨o,its,n,hk,hc,hd,hs,hz,r⟩
  ·obtain⟨z,its,n,r,e⟩:=h.ok I.hok;exact⟨its,r,⟨_,n,e,rfl,rfl,rfl⟩,z⟩
  ·refine⟨its.toList,r,⟨o,n,I.u_ a o hk,hc,hd,by simpa using hs⟩,?_⟩;have e:=r.length;simp only[Array.length_toList] at e;omega
theorem Inv.tuple (I:Inv X p_ σ H s) (h:eO X.K H a xs):∃its:List Value,Vals xs its∧IsTup s.heap a its.toArray∧xs.length≤sizeLine:=by
  rcases h with h | ⟨o,its,n,hk,hc,hs,hz,r⟩
  ·obtain⟨z,its,r,p⟩:=h.ok I.hok;exact⟨its,r,p,z⟩
  ·refine⟨its.toList,r,⟨o,I.u_ a o hk,hc,n,by simpa using hs⟩,?_⟩;have e:=r.length;simp only[Array.length_toList] at e;omega
theorem Inv.rJ (I:Inv X p_ σ H s) (h:aR X.K H a xs) (h':aR X.K H a ys):xs=ys:=by
  obtain⟨its,r,⟨o,n,e,_,_,d⟩,_⟩:=I.list h;obtain⟨its',r',⟨o',n',e',_,_,d'⟩,_⟩:=I.list h';rw[e] at e';cases e';rw[d] at d';injection d' with d1 _;have:its=its':=by simpa using congrArg Array.toList d1
  subst this;exact r.inj r'
theorem Inv.Jr (I:Inv X p_ σ H s) (h:eO X.K H a xs) (h':eO X.K H a ys):xs=ys:=by
  obtain⟨its,r,⟨o,e,_,n,d⟩,_⟩:=I.tuple h;obtain⟨its',r',⟨o',e',_,n',d'⟩,_⟩:=I.tuple h';rw[e] at e';cases e';rw[d] at d';injection d' with d1 _;have:its=its':=by simpa using congrArg Array.toList d1
  subst this;exact r.inj r'
end
abbrev Cx.wish (X:Cx) (E:Value→Shared→Prop):Cx:={X with xe:=E}
abbrev Cx.Y6 (X:Cx):Cx:=X.wish fun _ _=>False
theorem Cx.Ok.wish {X:Cx} (ok:X.Ok) (E:Value→Shared→Prop):(X.wish E).Ok:=
  ⟨ok.mod,ok.kind,ok.glob,ok.blt,ok.above,ok.inj,ok.has,ok.cab,ok.hd,ok.frames,ok.stk,ok.QJ,ok.bs,ok.Qv,ok.Jq,ok.Cg,ok.tM,ok.T4⟩
theorem Cx.Ok.oO {X:Cx} {E:Value→Shared→Prop} (ok:(X.wish E).Ok):X.Ok:=
  ⟨ok.mod,ok.kind,ok.glob,ok.blt,ok.above,ok.inj,ok.has,ok.cab,ok.hd,ok.frames,ok.stk,ok.QJ,ok.bs,ok.Qv,ok.Jq,ok.Cg,ok.tM,ok.T4⟩
section
variable {X:Cx} {p_:List (Addr×Obj)} {σ:St} {H:Hp} {s:Shared} {E:Value→Shared→Prop}
theorem Inv.wish (I:Inv X p_ σ H s) (E:Value→Shared→Prop):Inv (X.wish E) p_ σ H s:=⟨I.ok.wish E,I.os,I.bare,I.base,I.loc,I.cell,I.free,I.oF,I.pin,I.hok,I.len⟩
theorem Inv.oO (I:Inv (X.wish E) p_ σ H s):Inv X p_ σ H s:=⟨I.ok.oO,I.os,I.bare,I.base,I.loc,I.cell,I.free,I.oF,I.pin,I.hok,I.len⟩
theorem SP.oO {D:Ends} {f:Flow} {s':Shared} (h:SP (X.wish E) p_ D f s'):SP X p_ D f s':=by
  cases f with
  | next=>obtain⟨σ',H',I,q⟩:=h;exact⟨σ',H',I.oO,q⟩
  | brk=>obtain⟨σ',H',I,q⟩:=h;exact⟨σ',H',I.oO,q⟩
  | cont=>obtain⟨σ',H',I,q⟩:=h;exact⟨σ',H',I.oO,q⟩
  | ret u=>obtain⟨v,σ',H',I,r,q⟩:=h;exact⟨v,σ',H',I.oO,r,q⟩
theorem Ia.Y6 {st:List Stmt} {t:TS} (h:Ia X.Y6 st t):Ia X st t:=fun p_ s σ H D I hw=>
  wpAny_mono (h p_ s σ H D (I.wish _) hw) (fun _ _ q=>q.oO) fun _ _ z=>False.elim z
end
section
variable {X:Cx} {st:Stmt} {rest:List Stmt} {t u:TS} {e:Expr} {te:TE} {pos:Pos}
def T5:TS:=fun D σ H=>D.nx σ H
def Y7 (t u:TS):TS:=fun D σ H=>t {D with nx:=u D} σ H
theorem bT:Ia X [] T5:=fun _ _ σ H _ I h=>wpAny_execs_nil ⟨σ,H,I,h⟩
theorem aA (h1:PS X st t) (h2:Ia X rest u):Ia X (st::rest) (Y7 t u):=by
  intro p_ s σ H D I h;refine wpAny_execs_cons (bN (h1 p_ s σ H {D with nx:=u D} I h) fun f s1 q=>?_);cases f with
  | next=>
    obtain⟨σ',H',I',q⟩:=q;exact h2 p_ s1 σ' H' D I' q
  | ret v=>exact q
  | brk=>exact q
  | cont=>exact q
theorem aF (h1:PS X st t):Ia X [st] t:=by
  intro p_ s σ H D I h;refine wpAny_execs_cons (bN (h1 p_ s σ H D I h) fun f s1 q=>?_);cases f with
  | next=>exact wpAny_execs_nil q
  | ret v=>exact q
  | brk=>exact q
  | cont=>exact q
theorem Inv.quiet {p_:List (Addr×Obj)} {σ:St} {H:Hp} {s:Shared} (I:Inv X p_ σ H s):interactive X.env=false:=by simp[interactive,I.ok.kind]
def T6 (te:TE):TS:=fun D σ H=>te σ H fun _ H1=>D.nx σ H1
theorem fM (he:PE X e te) (hs:swapsWith e none pos.line X.env=pure false:=by rfl):PS X (.Expr e pos) (T6 te):=by
  intro p_ s σ H D I h;refine wpAny_Expr_any (bN (he p_ s σ H _ I h) fun v s1 zz=>?_) I.quiet hs;obtain⟨x,H1,I1,r1,q1⟩:=zz;exact⟨σ,H1,I1,q1⟩
def Y8 (te:TE):TS:=fun D σ H=>te σ H D.rt
theorem aY (he:PE X e te):PS X (.Return (some e) pos) (Y8 te):=by
  intro p_ s σ H D I h;refine wpAny_Return_some (bN (he p_ s σ H _ I h) fun v s1 zz=>?_);obtain⟨x,H1,I1,r1,q1⟩:=zz;exact⟨x,σ,H1,I1,r1,q1⟩
def Y9 (c:TT) (t u:TS):TS:=fun D σ H=>c σ H fun b H1=>if b=true then t D σ H1 else u D σ H1
theorem eU {c:Expr} {a b:List Stmt} {tc:TT} (hc:PT X c tc) (ha:Ia X a t) (hb:Ia X b u):PS X (.If c a b pos) (Y9 tc t u):=by
  intro p_ s σ H D I h;refine wpAny_If (bN (hc p_ s σ H _ I h) fun d s1 zz=>?_);obtain⟨H1,I1,q1⟩:=zz;cases d with
  | true=>exact ha p_ s1 σ H1 D I1 q1
  | false=>exact hb p_ s1 σ H1 D I1 q1
def Lk:TS:=fun _ _ _=>False
theorem vU:PS X st Lk:=fun _ _ _ _ _ _ h=>h.elim
end
abbrev TG:=V→St→Hp→(St→Hp→Prop)→Prop
abbrev B_:=List V→St→Hp→(St→Hp→Prop)→Prop
def PG (X:Cx) (target:Expr) (t:TG):Prop:=
  ∀(p_:List (Addr×Obj)) (s:Shared) (σ:St) (H:Hp) (v:V) (u:Value) (Q:St→Hp→Prop),Inv X p_ σ H s→RelV v u→t v σ H Q→
    wpAny (model X.prog X.w) X.A (assign target X.env u) (fun _ s'=>∃σ' H',Inv X p_ σ' H' s'∧Q σ' H') X.xe s
def mJ (X:Cx) (ts:List Expr) (t:B_):Prop:=
  ∀(p_:List (Addr×Obj)) (s:Shared) (σ:St) (H:Hp) (vs:List V) (us:List Value) (Q:St→Hp→Prop),Inv X p_ σ H s→Vals vs us→t vs σ H Q→
    wpAny (model X.prog X.w) X.A (assignInOrder ((assignEach ts X.env).map (·.2)) us) (fun _ s'=>∃σ' H',Inv X p_ σ' H' s'∧Q σ' H') X.xe s
abbrev Js:=V→V→V→Hp→(Hp→Prop)→Prop
def Jt (X:Cx) (t:Js):Prop:=
  ∀(p_:List (Addr×Obj)) (s:Shared) (σ:St) (H:Hp) (o i v:V) (ov iv u:Value) (Q:Hp→Prop),Inv X p_ σ H s→RelV o ov→RelV i iv→RelV v u→t o i v H Q→
    wpAny (model X.prog X.w) X.A (setItem ov iv u) (fun _ s'=>∃H',Inv X p_ σ H' s'∧Q H') X.xe s
abbrev QK:=V→V→Hp→VK→Prop
def Yt (X:Cx) (op:Operator) (t:QK):Prop:=
  ∀(p_:List (Addr×Obj)) (s:Shared) (σ:St) (H:Hp) (x y:V) (v u:Value) (Q:VK),Inv X p_ σ H s→RelV x v→RelV y u→t x y H Q→
    wpAny (model X.prog X.w) X.A (inplaceOp op v u) (EP X p_ σ Q) X.xe s
section
variable {X:Cx} {pos:Pos}
def Cm (i:Nat):TG:=fun v σ H Q=>Q (σ.set i (some v)) H
theorem aM {i:Nat} {x:Str} (hN:X.N.Nodup) (hi:X.N[i]? = some x) (hx:Loc X.env.scope x) (hf:X.fn x=true∨X.env.scope.names.lookup x=some .local:=by first | exact .inl rfl | exact .inr rfl | assumption):PG X (.Name x pos) (Cm i):=by
  intro p_ s σ H v u Q I r h;exact wpAny_assign_Name (vQ I hN hi hx r (fun s' I'=>⟨_,H,I',h⟩) hf)
def Vo:B_:=fun vs σ H Q=>vs=[]∧Q σ H
def Ln (t:TG) (u:B_):B_:=fun vs σ H Q=>∃v r,vs=v::r∧t v σ H fun σ' H'=>u r σ' H' Q
theorem iK:mJ X [] Vo:=by
  intro p_ s σ H vs us Q I r h;obtain⟨e,h⟩:=h;subst e;cases r;exact assignInOrder_nil ⟨σ,H,I,h⟩
theorem bK {e:Expr} {es:List Expr} {t:TG} {u:B_} (h1:PG X e t) (h2:mJ X es u)
    (hs:(assignEach (e::es) X.env).map (·.2)=assign e X.env::(assignEach es X.env).map (·.2):=by rfl):mJ X (e::es) (Ln t u):=by
  intro p_ s σ H vs us Q I r h;obtain⟨v,vr,e1,h⟩:=h;subst e1;cases r with
  | cons r rr=>
    rw[hs];refine assignInOrder_cons (bN (h1 p_ s σ H _ _ _ I r h) fun _ s1 zz=>?_);obtain⟨σ1,H1,I1,q1⟩:=zz;exact h2 p_ s1 σ1 H1 _ _ Q I1 rr q1
def QL (K:W.Frag) (n:Nat) (t:B_):TG:=fun v σ H Q=>∃a xs,v = .ref a∧eO K H a xs∧xs.length=n∧t xs σ H Q
theorem Vp {es:List Expr} {k:Nat} {t:B_} {n:Nat} (hc:X.calm=true) (h:mJ X es t)
    (hn:(assignEach es X.env).length=n:=by rfl) (hst:(assignEach es X.env).findIdx? (·.1)=none:=by rfl):PG X (.Tuple es k pos) (QL X.K n t):=by
  intro p_ s σ H v u Q I r hw;obtain⟨a,xs,e1,hq,hl,hw⟩:=hw;subst e1;cases r;obtain⟨its,rv,ht,hz⟩:=I.tuple hq;refine assign_Tuple_tuple (I.ok.hd hc) ht (by simp[hn,← hl,rv.length]) hst fun h' hx=>?_;have I1:Inv X p_ σ H {s with heap:=h'}:=I.kept (t':=s.toks) fun b o e=>hx b o (Nat.ne_of_lt (Heap.lt_size e)) e;exact h p_ _ σ H xs _ Q I1 (by simpa using rv) hw
def Y_ (to ti:TE) (t:Js):TG:=fun v σ H Q=>to σ H fun o H1=>ti σ H1 fun i H2=>t o i v H2 fun H3=>Q σ H3
theorem Lq {o i:Expr} {to ti:TE} {t:Js} (ho:PE X o to) (hi:PE X i ti) (hs:Jt X t)
    (ha:∀v,assign (.Subscript o i pos) X.env v=(do
      let ov ← holding [v] (eval o X.env)
      let iv ← holding [v,ov] (eval i X.env)
      standAt pos
      holding [v,ov,iv] (setItem ov iv v)
      release [v,ov,iv] []):=by intro _;rfl):PG X (.Subscript o i pos) (Y_ to ti t):=by
  intro p_ s σ H v u Q I r h;rw[ha];refine wpAny_bind (wpAny_holding (bN (ho p_ s σ H _ I h) fun ov s1 zz=>?_));obtain⟨x,H1,I1,r1,q1⟩:=zz;refine wpAny_bind (wpAny_holding (bN (hi p_ s1 σ H1 _ I1 q1) fun iv s2 zz=>?_));obtain⟨y,H2,I2,r2,q2⟩:=zz;refine wpAny_bind (wpAny_standAt (wpAny_bind (wpAny_holding (bN (hs p_ s2 σ H2 x y v ov iv u _ I2 r1 r2 r q2) fun _ s3 zz=>?_))));obtain⟨H3,I3,q3⟩:=zz;exact wpAny_release ⟨σ,H3,I3,q3⟩
def Lr (te:TE) (g:TG):TS:=fun D σ H=>te σ H fun x H1=>g x σ H1 D.nx
theorem Ls {tg e:Expr} {te:TE} {g:TG} (he:PE X e te) (hg:PG X tg g) (hs:swapsWithSole [tg] e pos.line X.env=pure false:=by rfl) (hw:swappedStores [tg] e X.env=pure none:=by rfl)
    (h1:(assignEach [tg] X.env).map (·.2)=[assign tg X.env]:=by rfl):PS X (.Assign [tg] e pos) (Lr te g):=by
  intro p_ s σ H D I h;refine wpAny_Assign_stores (bN (he p_ s σ H _ I h) fun v s1 zz=>?_) hs hw;obtain⟨x,H1,I1,r1,q1⟩:=zz;rw[h1];exact bN (hg p_ s1 σ H1 x v _ I1 r1 q1) fun _ s2 q=>q
theorem bB {i:Nat} {x:Str} {e:Expr} {te:TE} {pos':Pos} (hN:X.N.Nodup) (hi:X.N[i]? = some x) (hx:Loc X.env.scope x) (he:PE X e te) (hs:swapsWith e (some (.Name x pos')) pos.line X.env=pure false:=by rfl) (hf:X.fn x=true∨X.env.scope.names.lookup x=some .local:=by first | exact .inl rfl | exact .inr rfl | assumption) :
    PS X (.Assign [.Name x pos'] e pos) (Lr te (Cm i)):=by
  intro p_ s σ H D I h;refine wpAny_Assign_Name (bN (he p_ s σ H _ I h) fun v s1 zz=>?_) hs;obtain⟨y,H1,I1,r1,q1⟩:=zz;exact vQ I1 hN hi hx r1 (fun s2 I2=>⟨_,H1,I2,q1⟩) hf
def Vq (i:Nat) (te:TE) (ti:QK):TS:=fun D σ H=>∃x,σ[i]? = some (some x)∧te σ H fun y H1=>ti x y H1 fun z H2=>D.nx (σ.set i (some z)) H2
theorem Vr {i:Nat} {x:Str} {e:Expr} {te:TE} {op:Operator} {ti:QK} {pos':Pos} (hN:X.N.Nodup) (hi:X.N[i]? = some x) (hx:Loc X.env.scope x) (he:PE X e te) (ho:Yt X op ti) (hf:X.fn x=true∨X.env.scope.names.lookup x=some .local:=by first | exact .inl rfl | exact .inr rfl | assumption) :
    PS X (.AugAssign (.Name x pos') op e pos) (Vq i te ti):=by
  intro p_ s σ H D I h;obtain⟨v,e1,h⟩:=h;obtain⟨m,hn,hl⟩:=I.loc;have vis:YZ X.env.scope x:=by rcases hx with k | k;exact .inl k;exact .inr (.inl k)
  obtain⟨u,r,l⟩:=hl i x v hi e1 vis;refine wpAny_AugAssign_Name ?_;have go:wpAny (model X.prog X.w) X.A (eval e X.env) (fun w s₂=>wpAny (model X.prog X.w) X.A (inplaceOp op u w) (fun r s₃=>wpAny (model X.prog X.w) X.A (storeName X.env x r) (fun _=>SP X p_ D .next) X.xe s₃) X.xe s₂) X.xe s:=by
    refine bN (he p_ s σ H _ I h) fun w s1 zz=>?_;obtain⟨y,H1,I1,r1,q1⟩:=zz;refine bN (ho p_ s1 σ H1 v y u w _ I1 r r1 q1) fun z s2 zz=>?_;obtain⟨zv,H2,I2,r2,q2⟩:=zz;exact vQ I2 hN hi hx r2 (fun s3 I3=>⟨_,H2,I3,q2⟩) hf
  rcases l with⟨hk,hm⟩ | ⟨hk,c,hc,hcell⟩
  ·exact wpAny_loadName_local I.ok.kind hk hn hm go
  · rcases hk with hk | hk
    ·exact wpAny_loadName_cell I.ok.kind hk hc hcell go
    · rcases hx with k | k
      ·have:X.env.scope.names.lookup x=some .free:=hk;rw[k] at this;cases this
      ·have:X.env.scope.names.lookup x=some .free:=hk;rw[k] at this;cases this
def ipI (f:Int→Int→Int):QK:=fun x y H Q=>∃i j,x = .int i∧y = .int j∧Q (.int (f i j)) H
theorem Vs:Yt X .Add (ipI fun i j=>i+j):=by
  intro p_ s σ H x y v u Q I r1 r2 h;obtain⟨i,j,e1,e2,q⟩:=h;subst e1;subst e2;obtain⟨t,rfl⟩:=r1;obtain⟨t',rfl⟩:=r2;exact iadd_int ⟨.int _,H,I.tok _,⟨_,rfl⟩,q⟩
end
section
variable {X:Cx} {pos:Pos}
def z6 (c:TT) (tb:TS):TS:=fun D σ H=>∃fW:Nat→St→Hp→Prop,(∃m,fW m σ H)∧∀m σ H,fW m σ H→
  c σ H fun b H1=>if b=true then ∃N:St→Hp→Prop,(∀σ' H',N σ' H'→∃m',m'<m∧fW m' σ' H')∧tb {D with nx:=N,ct:=N,bk:=D.nx} σ H1 else D.nx σ H1
theorem Lw {c:Expr} {body:List Stmt} {tc:TT} {tb:TS} (hp:PassesOwn (model X.prog X.w) X.A X.env X.xe) (hc:PT X c tc) (hb:Ia X body tb):PS X (.While c body [] pos) (z6 tc tb):=by
  intro p_ s σ H D I h;obtain⟨fW,⟨m0,w0⟩,turn⟩:=h;refine wpAny_While (codeAny_whileLoop (fun n s'=>∃σ' H',Inv X p_ σ' H' s'∧fW n σ' H') ?_ m0 ⟨σ,H,I,w0⟩);rintro n s1 ⟨σ1,H1,I1,w1⟩;refine wpAny_passesOwn hp (bN (hc p_ s1 σ1 H1 _ I1 (turn n σ1 H1 w1)) fun b s2 zz=>?_);obtain⟨H2,I2,q2⟩:=zz;cases b with
  | true=>
    obtain⟨N,hN,q2⟩:=q2;rw[if_pos rfl];refine wpAny_passesOwn hp (bN (hb p_ s2 σ1 H2 _ I2 q2) fun f s3 q3=>?_);cases f with
    | next=>
      obtain⟨σ3,H3,I3,n3⟩:=q3;obtain⟨m',hm,w3⟩:=hN σ3 H3 n3;exact⟨m',hm,σ3,H3,I3,w3⟩
    | cont=>
      obtain⟨σ3,H3,I3,n3⟩:=q3;obtain⟨m',hm,w3⟩:=hN σ3 H3 n3;exact⟨m',hm,σ3,H3,I3,w3⟩
    | brk=>exact q3
    | ret v=>exact q3
  | false=>
    rw[if_neg Bool.false_ne_true];exact wpAny_execs_nil ⟨σ1,H2,I2,q2⟩
end
structure It where
  go:Nat→Hp→Prop
  K9:Nat→Hp→V→Hp→Prop
  stop:Nat→Hp→Prop
def jO (X:Cx) (p_:List (Addr×Obj)) (H:Hp) (b:Addr):Prop:=
  H b=none∧b≠X.env.locals∧b∉X.fs∧(b∈X.ex∨X.s₀.heap.objs.size≤b)∧(∀x c,X.env.cells.lookup x=some c→c≠b)∧∀p∈X.pn++p_,p.1≠b
theorem Inv.vV {X:Cx} {p_:List (Addr×Obj)} {σ:St} {H H':Hp} {s:Shared} {b:Addr} (I:Inv X p_ σ H s) (hb:s.heap.objs.size≤b) (hn:H' b=none):jO X p_ H' b:=by
  refine⟨hn,Nat.ne_of_gt (Nat.lt_of_lt_of_le I.lt hb),I.qch hb,.inr (Nat.le_trans I.sz hb),fun x c e z=>?_,fun p hp z=>?_⟩
  ·obtain⟨v,q⟩:=I.cell x c e;exact absurd (Nat.lt_of_lt_of_le q.lt (by rw[z];exact hb)) (Nat.lt_irrefl _)
  ·exact absurd (Nat.lt_of_lt_of_le (Heap.lt_size (I.pin p hp).1) (by rw[z];exact hb)) (Nat.lt_irrefl _)
structure Turn (P:Program) (w:World) (K:W.Frag) (tg:Expr) (J:It) (fp:List Addr) (it:Addr) (tn:Nat→Heap→Prop):Prop where
  mem:it∈fp
  obj:∀i h,tn i h→∀b∈fp,∃o,h.get? b=some o∧∀v,o.data≠.cell v
  keep:∀i h h',tn i h→(∀b∈fp,∀o,h.get? b=some o→h'.get? b=some o)→tn i h'
  item:∀(X:Cx),X.prog=P→X.w=w→X.K=K→X.calm=true→∀(i:Nat) (p_:List (Addr×Obj)) (s:Shared) (σ:St) (H:Hp) (E:Value→Shared→Prop),Inv X p_ σ H s→(∀b∈fp,jO X p_ H b)→tn i s.heap→J.go i H→
    wpAny (model P w) X.A (pyNext (.ref it)) (fun r s1=>∃u,r=some u∧
      wpAny (model P w) X.A (letOwnedTupleGo tg (.ref it) u) (fun _ s2=>∃x H',Inv X p_ σ H' s2∧RelV x u∧J.K9 i H x H'∧tn (i+1) s2.heap∧∀b∈fp,H' b=none) E s1) E s
  done:∀(X:Cx),X.prog=P→X.w=w→X.K=K→X.calm=true→∀(i:Nat) (p_:List (Addr×Obj)) (s:Shared) (σ:St) (H:Hp) (E:Value→Shared→Prop),Inv X p_ σ H s→(∀b∈fp,jO X p_ H b)→tn i s.heap→J.stop i H→
    wpAny (model P w) X.A (pyNext (.ref it)) (fun r s1=>r=none∧Inv X p_ σ H s1) E s
  self:∀(A:Around) (i:Nat) (s:Shared) (Q:Value→Shared→Prop) (E:Value→Shared→Prop),tn i s.heap→Q (.ref it) s→wpAny (model P w) A (pyIter (.ref it)) Q E s
abbrev TI:=St→Hp→(It→Hp→Prop)→Prop
def PIE (X:Cx) (p_:List (Addr×Obj)) (σ:St) (tg:Expr) (R:It→Hp→Prop) (itv:Value) (s2:Shared):Prop:=
  ∃(it:Addr) (fp:List Addr) (tn:Nat→Heap→Prop) (J:It) (H':Hp),itv = .ref it∧Inv X p_ σ H' s2∧Turn X.prog X.w X.K tg J fp it tn∧tn 0 s2.heap∧(∀b∈fp,jO X p_ H' b)∧R J H'
def PI (X:Cx) (tg iter:Expr) (wi:TI):Prop:=
  ∀(p_:List (Addr×Obj)) (s:Shared) (σ:St) (H:Hp) (R:It→Hp→Prop),Inv X p_ σ H s→wi σ H R→
    wpAny (model X.prog X.w) X.A (eval iter X.env) (fun v s1=>wpAny (model X.prog X.w) X.A (pyIter v) (PIE X p_ σ tg R) X.xe s1) X.xe s
theorem Lx {M:Model} {A:Around} {E:Value→Shared→Prop} {s:Shared} {tg:Expr} {it:Addr} {u:Value} {o:Obj} {n:String} {vs:Array Value} {Q:Unit→Shared→Prop} (ho:s.heap.get? it=some o) (hc:o.cls = .type n) (hd:o.data = .fields vs)
    (hn : ["enumerate", "zip", "dict_itemiterator", "dict_reverseitemiterator", "odict_iterator", "itertools.zip_longest", "itertools.pairwise"].contains n=false) (hQ:Q () s):wpAny M A (letOwnedTupleGo tg (.ref it) u) Q E s:=by
  unfold letOwnedTupleGo;cases tg <;> first
    | exact wpAny_pure hQ
    | (cases u <;> first
        | exact wpAny_pure hQ
        | (refine wpAny_bind (wpAny_load ho ?_)
           rw[hc,hd];show wpAny M A (if (["enumerate", "zip", "dict_itemiterator", "dict_reverseitemiterator", "odict_iterator", "itertools.zip_longest", "itertools.pairwise"].contains n && vs[0]? == some (rawInt _))=true then _ else _) Q E s
           rw[if_neg (by intro h;rw[hn,Bool.false_and] at h;cases h)];exact wpAny_pure hQ))
def K_ (K:W.Frag) (a:Addr):It:=
  ⟨fun i H=>∃xs x,aR K H a xs∧xs[i]? = some x,fun i H x H'=>H'=H∧∀xs,aR K H a xs→xs[i]? = some x,fun i H=>∃xs,aR K H a xs∧xs.length≤i⟩
def QM (K:W.Frag) (a:Addr):It:=
  ⟨fun i H=>∃xs x,eO K H a xs∧xs[i]? = some x,fun i H x H'=>H'=H∧∀xs,eO K H a xs→xs[i]? = some x,fun i H=>∃xs,eO K H a xs∧xs.length≤i⟩
def Fq (lo:Int) (n:Nat):It:=⟨fun i _=>i<n,fun i H x H'=>H'=H∧x = .int (lo+i),fun i _=>n≤i⟩
theorem yU {P:Program} {w:World} {K:W.Frag} {tg:Expr} (a it:Addr):Turn P w K tg (K_ K a) [it] it (fun i h=>h.IsListIter it a i) where
  mem:=by simp
  obj:=fun i h st b hb=>by
    have e:b=it:=by simpa using hb
    subst e;obtain⟨o,e,c,d⟩:=st;exact⟨o,e,fun v z=>by rw[d] at z;cases z⟩
  keep:=fun i h h' st k=>st.at fun o e=>k it (by simp) o e
  item:=by
    intro X hP hw hK hc i p_ s σ H E I hf st hg;subst hP hw hK;obtain⟨xs,x,hq,hx⟩:=hg;obtain⟨its,rv,p,hz⟩:=I.list hq;obtain⟨u,hu,ru⟩:=rv.get hx;obtain⟨f0,f1,f2,f3,f4,f5⟩:=hf it (by simp);refine wpAny_pyNext_list_item st p.isList (x:=u) (by simpa using hu) fun h' st' sb=>?_;have I1:Inv X p_ σ H {s with heap:=h'}:=I.turned (t':=s.toks) (fun b o hb e=>(sb.2 b hb).trans e) f0 f1 f3 f4 f5;obtain⟨o,e,c,d⟩:=id st';exact⟨u,rfl,Lx (s:={s with heap:=h'}) e c d (by decide) ⟨x,H,I1,ru,⟨rfl,fun ys hy=>by rw[I.rJ hy hq];exact hx⟩,st',fun b hb=>(hf b hb).1⟩⟩
  done:=by
    intro X hP hw hK hc i p_ s σ H E I hf st hg;subst hP hw hK;obtain⟨xs,hq,hx⟩:=hg;obtain⟨its,rv,p,hz⟩:=I.list hq;obtain⟨f0,f1,f2,f3,f4,f5⟩:=hf it (by simp);have hl:=rv.length;exact wpAny_pyNext_list_end (I.ok.hd hc) st p.isList (by simp;omega) fun h' eb=>⟨rfl,I.turned (t':=s.toks) (fun b o hb e=>eb b o hb e) f0 f1 f3 f4 f5⟩
  self:=fun _ _ _ _ _ st h=>wpAny_pyIter_listiter st h
theorem vW {P:Program} {w:World} {K:W.Frag} {tg:Expr} (a it:Addr):Turn P w K tg (QM K a) [it] it (fun i h=>h.IsTupleIter it a i) where
  mem:=by simp
  obj:=fun i h st b hb=>by
    have e:b=it:=by simpa using hb
    subst e;obtain⟨o,e,c,d⟩:=st;exact⟨o,e,fun v z=>by rw[d] at z;cases z⟩
  keep:=fun i h h' st k=>st.at fun o e=>k it (by simp) o e
  item:=by
    intro X hP hw hK hc i p_ s σ H E I hf st hg;subst hP hw hK;obtain⟨xs,x,hq,hx⟩:=hg;obtain⟨its,rv,p,hz⟩:=I.tuple hq;obtain⟨u,hu,ru⟩:=rv.get hx;obtain⟨f0,f1,f2,f3,f4,f5⟩:=hf it (by simp);refine wpAny_pyNext_tuple_item st (show s.heap.IsTuple a its.toArray from p) (x:=u) (by simpa using hu) fun h' st' sb=>?_;have I1:Inv X p_ σ H {s with heap:=h'}:=I.turned (t':=s.toks) (fun b o hb e=>(sb.2 b hb).trans e) f0 f1 f3 f4 f5;obtain⟨o,e,c,d⟩:=id st';exact⟨u,rfl,Lx (s:={s with heap:=h'}) e c d (by decide) ⟨x,H,I1,ru,⟨rfl,fun ys hy=>by rw[I.Jr hy hq];exact hx⟩,st',fun b hb=>(hf b hb).1⟩⟩
  done:=by
    intro X hP hw hK hc i p_ s σ H E I hf st hg;subst hP hw hK;obtain⟨xs,hq,hx⟩:=hg;obtain⟨its,rv,p,hz⟩:=I.tuple hq;obtain⟨f0,f1,f2,f3,f4,f5⟩:=hf it (by simp);have hl:=rv.length;exact wpAny_pyNext_tuple_end (I.ok.hd hc) st (show s.heap.IsTuple a its.toArray from p) (by simp;omega) fun h' eb=>⟨rfl,I.turned (t':=s.toks) (fun b o hb e=>eb b o hb e) f0 f1 f3 f4 f5⟩
  self:=fun _ _ _ _ _ st h=>wpAny_pyIter_tupleiter st h
theorem FN {P:Program} {w:World} {K:W.Frag} {tg:Expr} (it:Addr) (lo:Int) (n:Nat):Turn P w K tg (Fq lo n) [it] it (fun i h=>IsRangeIter h it (lo+(i:Nat) * 1) ((n:Int) - (i:Nat)) 1) where
  mem:=by simp
  obj:=fun i h st b hb=>by
    have e:b=it:=by simpa using hb
    subst e;exact⟨_,st,fun v z=>by
      have z':Data.fields _=Data.cell v:=z;cases z'⟩
  keep:=fun i h h' st k=>k it (by simp) _ st
  item:=by
    intro X hP hw hK hc i p_ s σ H E I hf st hg;subst hP hw hK;obtain⟨f0,f1,f2,f3,f4,f5⟩:=hf it (by simp);have fW:=Walks.range (prog:=X.prog) (w:=X.w) (I.ok.hd hc) it lo 1 n;refine fW.item i s _ _ hg st fun v h' tk hv st' kk=>?_;obtain⟨t,rfl⟩:=hv;have I1:Inv X p_ σ H {s with heap:=h',toks:=tk}:=I.turned (fun b o hb e=>kk b o (by simpa using hb) e) f0 f1 f3 f4 f5;refine⟨_,rfl,Lx (s:={s with heap:=h',toks:=tk}) (n:= "range_iterator") st' rfl rfl (by decide) ⟨.int (lo+i),H,I1,⟨t,?_⟩,⟨rfl,rfl⟩,st',fun b hb=>(hf b hb).1⟩⟩;rw[Int.mul_one]
  done:=by
    intro X hP hw hK hc i p_ s σ H E I hf st hg;subst hP hw hK;obtain⟨f0,f1,f2,f3,f4,f5⟩:=hf it (by simp);exact wpAny_pyNext_range_end (I.ok.hd hc) st (by have:n≤i:=hg;omega) fun h' eb=>⟨rfl,I.turned (t':=s.toks) (fun b o hb e=>eb b o hb e) f0 f1 f3 f4 f5⟩
  self:=fun _ _ _ _ _ st h=>wpAny_pyIter_rangeiter st h
section
variable {X:Cx} {tg:Expr}
def Ib (K:W.Frag) (tl:TE):TI:=fun σ H R=>tl σ H fun x H1=>∃a,x = .ref a∧(∃xs,aR K H1 a xs)∧R (K_ K a) H1
def Vt (K:W.Frag) (tl:TE):TI:=fun σ H R=>tl σ H fun x H1=>∃a,x = .ref a∧(∃xs,eO K H1 a xs)∧R (QM K a) H1
theorem QS {l:Expr} {tl:TE} (hl:PE X l tl):PI X tg l (Ib X.K tl):=by
  intro p_ s σ H R I h;refine bN (hl p_ s σ H _ I h) fun v s1 zz=>?_;obtain⟨x,H1,I1,r1,q1⟩:=zz;obtain⟨a,e,⟨xs,hq⟩,q⟩:=q1;subst e;cases r1;obtain⟨its,rv,p,hz⟩:=I1.list hq;refine wpAny_pyIter_list p.isList ?_;refine⟨s1.heap.objs.size,[s1.heap.objs.size],_,_,H1,rfl,I1.kept (t':=s1.toks) fun b o e=>Heap.get?_push_of_some _ e,yU a _,⟨_,Heap.get?_push_size _ rfl,rfl,rfl⟩,fun b hb=>?_,q⟩;have e:b=s1.heap.objs.size:=by simpa using hb
  subst e;exact I1.vV (Nat.le_refl _) (I1.hok.fresh (Nat.le_refl _))
theorem Vu {l:Expr} {tl:TE} (hl:PE X l tl):PI X tg l (Vt X.K tl):=by
  intro p_ s σ H R I h;refine bN (hl p_ s σ H _ I h) fun v s1 zz=>?_;obtain⟨x,H1,I1,r1,q1⟩:=zz;obtain⟨a,e,⟨xs,hq⟩,q⟩:=q1;subst e;cases r1;obtain⟨its,rv,p,hz⟩:=I1.tuple hq;refine wpAny_pyIter_tuple (show s1.heap.IsTuple a its.toArray from p) ?_;refine⟨s1.heap.objs.size,[s1.heap.objs.size],_,_,H1,rfl,I1.kept (t':=s1.toks) fun b o e=>Heap.get?_push_of_some _ e,vW a _,⟨_,Heap.get?_push_size _ rfl,rfl,rfl⟩,fun b hb=>?_,q⟩;have e:b=s1.heap.objs.size:=by simpa using hb
  subst e;exact I1.vV (Nat.le_refl _) (I1.hok.fresh (Nat.le_refl _))
theorem Cp {p_:List (Addr×Obj)} {σ:St} {H:Hp} {s:Shared} {R:It→Hp→Prop} {E:Value→Shared→Prop} {lo hi:Int} {t u v:Tok} {tk:Nat} (I:Inv X p_ σ H s) (h1 : -(2 ^ 62)≤lo) (h2:lo<2 ^ 62) (h3 : -(2 ^ 62)≤hi) (h4:hi<2 ^ 62)
    (q:R (Fq lo (hi - lo).toNat) H):wpAny (model X.prog X.w) X.A (pyIter (.ref s.heap.objs.size)) (PIE X p_ σ tg R) E {s with heap:=s.heap.push {cls:=.type "range",data:=.fields #[.int lo t,.int hi u,.int 1 v]},toks:=tk}:=by
  refine wpAny_pyIter_range (IsRange.new ..) (small_one h1 h2 h3 h4) ?_;have I1:Inv X p_ σ H {s with heap:=s.heap.push {cls:=.type "range",data:=.fields #[.int lo t,.int hi u,.int 1 v]},toks:=tk}:=I.kept fun b o e=>Heap.get?_push_of_some _ e;refine⟨(s.heap.push {cls:=.type "range",data:=.fields #[.int lo t,.int hi u,.int 1 v]}).objs.size,[(s.heap.push {cls:=.type "range",data:=.fields #[.int lo t,.int hi u,.int 1 v]}).objs.size],_,_,H,rfl,
    I1.kept (t':=tk) fun b o e=>Heap.get?_push_of_some _ e,FN _ lo (hi - lo).toNat,?_,fun b hb=>?_,q⟩
  · have e1:lo+((0:Nat):Int) * 1=lo:=by simp
    have e2:(((hi - lo).toNat:Nat):Int) - ((0:Nat):Int)=Builtin.Range.rangeSize lo hi 1:=by rw[rangeSize_one];split <;> omega
    show IsRangeIter _ _ (lo+((0:Nat):Int) * 1) ((((hi - lo).toNat:Nat):Int) - ((0:Nat):Int)) 1;rw[e1,e2];exact Heap.get?_push_size _ rfl
  · have e:b=(s.heap.push {cls:=.type "range",data:=.fields #[.int lo t,.int hi u,.int 1 v]}).objs.size:=by simpa using hb
    subst e;exact I1.vV (Nat.le_refl _) (I1.hok.fresh (Nat.le_refl _))
def Ly (ta:TA):TI:=fun σ H R=>ta σ H fun vs H1=>∃j:Int,vs=[.int j]∧-(2 ^ 62)≤j∧j<2 ^ 62∧R (Fq 0 j.toNat) H1
def Lz (ta:TA):TI:=fun σ H R=>ta σ H fun vs H1=>∃i j:Int,vs=[.int i,.int j]∧(-(2 ^ 62)≤i∧i<2 ^ 62∧-(2 ^ 62)≤j∧j<2 ^ 62)∧R (Fq i (j - i).toNat) H1
theorem jL {a:Expr} {ta:TA} {p pos:Pos} (hg:Gl X "range") (hm:X.mg "range" = none) (ha:PA X [a] ta) (hs:starEach [a] X.env=[(false,eval a X.env)]:=by rfl):PI X tg (.Call (.Name "range" p) [a] [] pos) (Ly ta):=by
  intro p_ s σ H R I h;refine Call_ (mZ I hg hm boot_range (PyProof.Rows.callWith_type1 (bN (ha pos p_ s σ H _ I h) fun us s1 zz=>?_) hs rfl));obtain⟨vs,H1,I1,r1,q1⟩:=zz;obtain⟨j,e,q1,q2,q⟩:=q1;subst e;cases r1 with
  | cons r rr=>
    cases rr;obtain⟨t,rfl⟩:=r;exact call_range_1 (Cp I1 (by omega) (by omega) q1 q2 (by simpa using q))
theorem Ju {a b:Expr} {ta:TA} {p pos:Pos} (hg:Gl X "range") (hm:X.mg "range" = none) (ha:PA X [a,b] ta) (hs:starEach [a,b] X.env=[(false,eval a X.env),(false,eval b X.env)]:=by rfl) (hs2:starEach [b] X.env=[(false,eval b X.env)]:=by rfl) :
    PI X tg (.Call (.Name "range" p) [a,b] [] pos) (Lz ta):=by
  intro p_ s σ H R I h;refine Call_ (mZ I hg hm boot_range (PyProof.Rows.callWith_type1 (bN (ha pos p_ s σ H _ I h) fun us s1 zz=>?_) (by rw[hs,hs2]) (by rw[hs2];rfl)));obtain⟨vs,H1,I1,r1,q1⟩:=zz;obtain⟨i,j,e,⟨q1,q2,q3,q4⟩,q⟩:=q1;subst e;cases r1 with
  | cons r rr=>
    cases rr with
    | cons r' rr=>
      cases rr;obtain⟨t,rfl⟩:=r;obtain⟨t',rfl⟩:=r';exact call_range_2 (Cp I1 q1 q2 q3 q4 q)
def Za (wi:TI) (g:TG) (tb:TS):TS:=fun D σ H=>wi σ H fun J H1=>∃fW:Nat→Nat→St→Hp→Prop,(∃m,fW 0 m σ H1)∧∀i m σ H,fW i m σ H→
  (J.stop i H∧D.nx σ H)∨(J.go i H∧∃N:St→Hp→Prop,(∀σ' H',N σ' H'→∃m',m'<m∧fW (i+1) m' σ' H')∧∀x H',J.K9 i H x H'→g x σ H' fun σ2 H2=>tb {D with nx:=N,ct:=N,bk:=D.nx} σ2 H2)
def oR (fp:List Addr) (h:Heap):List (Addr×Obj):=fp.filterMap fun b=>(h.get? b).map fun o=>(b,o)
theorem dz {fp:List Addr} {h:Heap} {b:Addr} {o:Obj} (hb:b∈fp) (e:h.get? b=some o):(b,o)∈oR fp h:=List.mem_filterMap.mpr ⟨b,hb,by rw[e];rfl⟩
theorem Jv {fp:List Addr} {h:Heap} {p:Addr×Obj} (hp:p∈oR fp h):p.1∈fp∧h.get? p.1=some p.2:=by
  obtain⟨b,hb,e⟩:=List.mem_filterMap.mp hp;cases q:h.get? b with
  | none=>rw[q] at e;cases e
  | some o=>
    rw[q] at e;have e':(b,o)=p:=Option.some.inj e;subst e';exact⟨hb,q⟩
theorem Inv.pinned {p_:List (Addr×Obj)} {σ:St} {H:Hp} {s:Shared} {fp:List Addr} (I:Inv X p_ σ H s) (hf:∀b∈fp,jO X p_ H b) (ho:∀b∈fp,∃o,s.heap.get? b=some o∧∀v,o.data≠.cell v):Inv X (p_++oR fp s.heap) σ H s:=
  I.HY fun p hp=>(List.mem_append.mp hp).elim (fun z=>I.pin p (List.mem_append_right _ z)) fun z=>by
    obtain⟨hb,e⟩:=Jv z;obtain⟨f0,f1,f2,_⟩:=hf p.1 hb;obtain⟨o,e',d⟩:=ho p.1 hb;rw[e] at e';cases e';exact⟨e,f0,f1,f2,d⟩
theorem Inv.jP {p_ pl:List (Addr×Obj)} {σ:St} {H:Hp} {s:Shared} (I:Inv X (p_++pl) σ H s):Inv X p_ σ H s:=I.HY fun p hp=>I.pin p (List.mem_append_right _ (List.mem_append_left _ hp))
theorem eV {iter:Expr} {body:List Stmt} {wi:TI} {g:TG} {tb:TS} {pos:Pos} (hp:PassesOwn (model X.prog X.w) X.A X.env X.xe) (hc:X.calm=true) (hi:PI X tg iter wi) (hg:PG X tg g) (hb:Ia X body tb)
    (hs:∀x,foldedSetIterable iter X.env x=pure x:=by intro _;rfl):PS X (.For tg iter body [] pos) (Za wi g tb):=by
  intro p_ s σ H D I h;refine wpAny_For (bN (hi p_ s σ H _ I h) fun v s1 h1=>bN h1 fun itv s2 h2=>?_) hs;obtain⟨it,fp,tn,J,H2,e,I2,T,st2,f2,fW,⟨m0,w0⟩,turn⟩:=h2;subst e;have stat:∀{H':Hp},(∀b∈fp,H' b=none)→∀b∈fp,jO X p_ H' b:=fun hn b hb=>⟨hn b hb,(f2 b hb).2⟩;refine codeAny_forLoop_any (fun n s'=>∃i σ' H',Inv X p_ σ' H' s'∧tn i s'.heap∧(∀b∈fp,H' b=none)∧fW i n σ' H') ?_ m0 ⟨0,σ,H2,I2,st2,fun b hb=>(f2 b hb).1,w0⟩;rintro n s3 ⟨i,σ3,H3,I3,st3,Ie,w3⟩
  rcases turn i n σ3 H3 w3 with⟨stop,qn⟩ | ⟨go,N,hN,step⟩
  ·refine wpAny_passesOwn hp (bN (T.done X rfl rfl rfl hc i p_ s3 σ3 H3 X.xe I3 (stat Ie) st3 stop) fun r s4 zz=>?_);obtain⟨hr,I4⟩:=zz;subst hr;exact wpAny_execs_nil ⟨σ3,H3,I4,qn⟩
  · refine wpAny_passesOwn hp (bN (T.item X rfl rfl rfl hc i p_ s3 σ3 H3 X.xe I3 (stat Ie) st3 go) fun r s4 zz=>?_);obtain⟨u,hr,h4⟩:=zz;subst hr;refine wpAny_passesOwn hp (bN h4 fun _ s5 zz=>?_);obtain⟨x,H5,I5,r5,y5,z7,QT⟩:=zz;have QV:=I5.pinned (stat QT) (T.obj _ _ z7);refine wpAny_passesOwn hp (bN (hg _ s5 σ3 H5 x u _ QV r5 (step x H5 y5)) fun _ s6 zz=>?_);obtain⟨σ6,H6,I6,q6⟩:=zz;refine wpAny_passesOwn hp (bN (hb _ s6 σ6 H6 _ I6 q6) fun f s7 q7=>?_);have again:∀{σ7:St} {H7:Hp},Inv X (p_++oR fp s5.heap) σ7 H7 s7→N σ7 H7→∃m,m<n∧∃i σ' H',Inv X p_ σ' H' s7∧tn i s7.heap∧(∀b∈fp,H' b=none)∧fW i m σ' H':=fun {σ7 H7} I7 n7=>by
      obtain⟨m',hm,w7⟩:=hN σ7 H7 n7;refine⟨m',hm,i+1,σ7,H7,I7.jP,T.keep _ _ _ z7 fun b hb o e=>(I7.pin (b,o) (List.mem_append_right _ (List.mem_append_right _ (dz hb e)))).1,fun b hb=>?_,w7⟩;obtain⟨o,e,d⟩:=T.obj _ _ z7 b hb;exact(I7.pin (b,o) (List.mem_append_right _ (List.mem_append_right _ (dz hb e)))).2.1
    cases f with
    | next=>obtain⟨σ7,H7,I7,n7⟩:=q7;exact again I7 n7
    | cont=>obtain⟨σ7,H7,I7,n7⟩:=q7;exact again I7 n7
    | brk=>obtain⟨σ7,H7,I7,q7⟩:=q7;exact⟨σ7,H7,I7.jP,q7⟩
    | ret v=>obtain⟨x7,σ7,H7,I7,r7,q7⟩:=q7;exact⟨x7,σ7,H7,I7.jP,r7,q7⟩
end
theorem LC {K:W.Frag} {a:Addr} {xs:List V} {g:TG} {tb:TS} {D:Ends} {σ:St} {H:Hp} (Pv:Nat→St→Hp→Prop) (h0:Pv 0 σ H) (hl:∀i σ H,i≤xs.length→Pv i σ H→aR K H a xs)
    (hs:∀i x σ H,xs[i]? = some x→Pv i σ H→g x σ H fun σ2 H2=>tb {D with nx:=Pv (i+1),ct:=Pv (i+1),bk:=D.nx} σ2 H2) (hd:∀σ H,Pv xs.length σ H→D.nx σ H) :
    ∃fW:Nat→Nat→St→Hp→Prop,(∃m,fW 0 m σ H)∧∀i m σ H,fW i m σ H→
      ((K_ K a).stop i H∧D.nx σ H)∨((K_ K a).go i H∧∃N:St→Hp→Prop,(∀σ' H',N σ' H'→∃m',m'<m∧fW (i+1) m' σ' H')∧∀x H',(K_ K a).K9 i H x H'→g x σ H' fun σ2 H2=>tb {D with nx:=N,ct:=N,bk:=D.nx} σ2 H2):=by
  refine⟨fun i m σ H=>m=xs.length - i∧i≤xs.length∧Pv i σ H,⟨xs.length,by simp,Nat.zero_le _,h0⟩,?_⟩;rintro i m σ H ⟨rfl,hi,p⟩;have q:=hl i σ H hi p
  by_cases hlt:i<xs.length
  ·refine .inr ⟨⟨xs,xs[i],q,by simp[hlt]⟩,Pv (i+1),fun σ' H' p'=>⟨xs.length - (i+1),by omega,rfl,hlt,p'⟩,fun x H' y=>?_⟩;obtain⟨e,y⟩:=y;subst e;exact hs i x σ _ (y xs q) p
  · have e:i=xs.length:=by omega
    subst e;exact .inl ⟨⟨xs,q,Nat.le_refl _⟩,hd σ H p⟩
theorem QW {K:W.Frag} {a:Addr} {xs:List V} {g:TG} {tb:TS} {D:Ends} {σ:St} {H:Hp} (Pv:Nat→St→Hp→Prop) (h0:Pv 0 σ H) (hl:∀i σ H,i≤xs.length→Pv i σ H→eO K H a xs)
    (hs:∀i x σ H,xs[i]? = some x→Pv i σ H→g x σ H fun σ2 H2=>tb {D with nx:=Pv (i+1),ct:=Pv (i+1),bk:=D.nx} σ2 H2) (hd:∀σ H,Pv xs.length σ H→D.nx σ H) :
    ∃fW:Nat→Nat→St→Hp→Prop,(∃m,fW 0 m σ H)∧∀i m σ H,fW i m σ H→
      ((QM K a).stop i H∧D.nx σ H)∨((QM K a).go i H∧∃N:St→Hp→Prop,(∀σ' H',N σ' H'→∃m',m'<m∧fW (i+1) m' σ' H')∧∀x H',(QM K a).K9 i H x H'→g x σ H' fun σ2 H2=>tb {D with nx:=N,ct:=N,bk:=D.nx} σ2 H2):=by
  refine⟨fun i m σ H=>m=xs.length - i∧i≤xs.length∧Pv i σ H,⟨xs.length,by simp,Nat.zero_le _,h0⟩,?_⟩;rintro i m σ H ⟨rfl,hi,p⟩;have q:=hl i σ H hi p
  by_cases hlt:i<xs.length
  ·refine .inr ⟨⟨xs,xs[i],q,by simp[hlt]⟩,Pv (i+1),fun σ' H' p'=>⟨xs.length - (i+1),by omega,rfl,hlt,p'⟩,fun x H' y=>?_⟩;obtain⟨e,y⟩:=y;subst e;exact hs i x σ _ (y xs q) p
  · have e:i=xs.length:=by omega
    subst e;exact .inl ⟨⟨xs,q,Nat.le_refl _⟩,hd σ H p⟩
theorem Jw {lo:Int} {n:Nat} {g:TG} {tb:TS} {D:Ends} {σ:St} {H:Hp} (Pv:Nat→St→Hp→Prop) (h0:Pv 0 σ H)
    (hs:∀i σ H,i<n→Pv i σ H→g (.int (lo+i)) σ H fun σ2 H2=>tb {D with nx:=Pv (i+1),ct:=Pv (i+1),bk:=D.nx} σ2 H2) (hd:∀σ H,Pv n σ H→D.nx σ H) :
    ∃fW:Nat→Nat→St→Hp→Prop,(∃m,fW 0 m σ H)∧∀i m σ H,fW i m σ H→
      ((Fq lo n).stop i H∧D.nx σ H)∨((Fq lo n).go i H∧∃N:St→Hp→Prop,(∀σ' H',N σ' H'→∃m',m'<m∧fW (i+1) m' σ' H')∧∀x H',(Fq lo n).K9 i H x H'→g x σ H' fun σ2 H2=>tb {D with nx:=N,ct:=N,bk:=D.nx} σ2 H2):=by
  refine⟨fun i m σ H=>m=n - i∧i≤n∧Pv i σ H,⟨n,by simp,Nat.zero_le _,h0⟩,?_⟩;rintro i m σ H ⟨rfl,hi,p⟩
  by_cases hlt:i<n
  ·refine .inr ⟨hlt,Pv (i+1),fun σ' H' p'=>⟨n - (i+1),by omega,rfl,hlt,p'⟩,fun x H' y=>?_⟩;obtain⟨e,y⟩:=y;subst e y;exact hs i σ _ hlt p
  · have e:i=n:=by omega
    subst e;exact .inl ⟨Nat.le_refl _,hd σ H p⟩
theorem LK {c:TT} {tb:TS} {D:Ends} {σ:St} {H:Hp} (Pv:St→Hp→Prop) (μ:St→Hp→Nat) (h0:Pv σ H)
    (hs:∀σ H,Pv σ H→c σ H fun b H1=>if b=true then tb {D with nx:=fun σ' H'=>Pv σ' H'∧μ σ' H'<μ σ H,ct:=fun σ' H'=>Pv σ' H'∧μ σ' H'<μ σ H,bk:=D.nx} σ H1 else D.nx σ H1)
    (mono:∀σ H Q Q',(∀b H1,Q b H1→Q' b H1)→c σ H Q→c σ H Q'):z6 c tb D σ H:=by
  refine⟨fun m σ H=>m=μ σ H∧Pv σ H,⟨_,rfl,h0⟩,?_⟩;rintro m σ H ⟨rfl,p⟩;refine mono σ H _ _ (fun b H1 q=>?_) (hs σ H p);cases b with
  | true=>exact⟨_,fun σ' H' ⟨p',l⟩=>⟨_,l,rfl,p'⟩,q⟩
  | false=>exact q
abbrev R2:=V→V→Hp→VK→Prop
def fP (X:Cx) (f:Value→Value→Sem Value) (r:R2):Prop:=
  ∀(p_:List (Addr×Obj)) (s:Shared) (σ:St) (H:Hp) (x y:V) (v u:Value) (Q:VK),Inv X p_ σ H s→RelV x v→RelV y u→r x y H Q→
    wpAny (model X.prog X.w) X.A (f v u) (EP X p_ σ Q) X.xe s
def Vv (X:Cx) (f:Value→Sem Value) (r:V→Hp→VK→Prop):Prop:=
  ∀(p_:List (Addr×Obj)) (s:Shared) (σ:St) (H:Hp) (x:V) (v:Value) (Q:VK),Inv X p_ σ H s→RelV x v→r x H Q→
    wpAny (model X.prog X.w) X.A (f v) (EP X p_ σ Q) X.xe s
def bQ (X:Cx) (f:Value) (r:List V→Hp→VK→Prop):Prop:=
  ∀(p_:List (Addr×Obj)) (s:Shared) (σ:St) (H:Hp) (xs:List V) (us:List Value) (Q:VK),Inv X p_ σ H s→Vals xs us→r xs H Q→
    wpAny (model X.prog X.w) X.A (call f us) (EP X p_ σ Q) X.xe s
def T7 (r:R2) (ta tb:TE):TE:=fun σ H Q=>ta σ H fun x H1=>tb σ H1 fun y H2=>r x y H2 Q
def tUn (r:V→Hp→VK→Prop) (ta:TE):TE:=fun σ H Q=>ta σ H fun x H1=>r x H1 Q
def rI (C:Int→Int→Prop) (g:Int→Int→V):R2:=fun x y H Q=>∃i j,x = .int i∧y = .int j∧C i j∧Q (g i j) H
def QX (g:Int→Int→V):R2:=fun x y H Q=>∃i j,x = .int i∧y = .int j∧Q (g i j) H
def rU (g:Int→V):V→Hp→VK→Prop:=fun x H Q=>∃i,x = .int i∧Q (g i) H
section
variable {X:Cx} {a b c:Expr} {ta tb tc:TE} {pos:Pos}
theorem Vw (ha:PE X a ta) (hb:PE X b tb) {p_:List (Addr×Obj)} {s:Shared} {σ:St} {H:Hp} {R:V→V→Hp→Prop} (I:Inv X p_ σ H s)
    (h:ta σ H fun x H1=>tb σ H1 fun y H2=>R x y H2) {Q:Value→Shared→Prop} {f:Value→Value→Sem Value}
    (hf:∀v u s2 x y H2,Inv X p_ σ H2 s2→RelV x v→RelV y u→R x y H2→wpAny (model X.prog X.w) X.A (f v u) Q X.xe s2) :
    wpAny (model X.prog X.w) X.A (eval a X.env) (fun v s₁=>wpAny (model X.prog X.w) X.A (eval b X.env) (fun u s₂=>wpAny (model X.prog X.w) X.A (f v u) Q X.xe s₂) X.xe s₁) X.xe s:=by
  refine bN (ha p_ s σ H _ I h) fun v s1 zz=>?_;obtain⟨x,H1,I1,r1,q1⟩:=zz;refine bN (hb p_ s1 σ H1 _ I1 q1) fun u s2 zz=>?_;obtain⟨y,H2,I2,r2,q2⟩:=zz;exact hf v u s2 x y H2 I2 r1 r2 q2
theorem bU {op:Operator} {r:R2} (ho:fP X (binaryOp op) r) (ha:PE X a ta) (hb:PE X b tb):PE X (.BinOp a op b pos) (T7 r ta tb):=by
  intro p_ s σ H Q I h;exact wpAny_BinOp (Vw ha hb I h fun v u s2 x y H2 I2 rx ry q=>ho p_ s2 σ H2 x y v u Q I2 rx ry q)
theorem Zb {op:UnaryOp} {r:V→Hp→VK→Prop} (ho:Vv X (unaryOp op) r) (ha:PE X a ta):PE X (.UnaryOp op a pos) (tUn r ta):=by
  intro p_ s σ H Q I h;refine UnaryOp_ (bN (ha p_ s σ H _ I h) fun v s1 zz=>?_);obtain⟨x,H1,I1,r1,q1⟩:=zz;exact ho p_ s1 σ H1 x v Q I1 r1 q1
theorem Yu {f:Value→Value→Sem Value} {C:Int→Int→Prop} {g:Int→Int→Int}
    (rule:∀(i j:Int) (t u:Tok) (s:Shared) (Q:Value→Shared→Prop) (E:Value→Shared→Prop),C i j→Q (.int (g i j) s.toks) {s with toks:=s.toks+1}→wpAny (model X.prog X.w) X.A (f (.int i t) (.int j u)) Q E s) :
    fP X f (rI C fun i j=>.int (g i j)):=by
  intro p_ s σ H x y v u Q I rx ry h;obtain⟨i,j,rfl,rfl,hc,q⟩:=h;obtain⟨t,rfl⟩:=rx;obtain⟨t',rfl⟩:=ry;exact rule i j t t' s _ _ hc ⟨.int (g i j),H,I.tok _,⟨_,rfl⟩,q⟩
theorem Vx {f:Value→Value→Sem Value} {g:Int→Int→Int}
    (rule:∀(i j:Int) (t u:Tok) (s:Shared) (Q:Value→Shared→Prop) (E:Value→Shared→Prop),Q (.int (g i j) s.toks) {s with toks:=s.toks+1}→wpAny (model X.prog X.w) X.A (f (.int i t) (.int j u)) Q E s) :
    fP X f (QX fun i j=>.int (g i j)):=by
  intro p_ s σ H x y v u Q I rx ry h;obtain⟨i,j,rfl,rfl,q⟩:=h;obtain⟨t,rfl⟩:=rx;obtain⟨t',rfl⟩:=ry;exact rule i j t t' s _ _ ⟨.int (g i j),H,I.tok _,⟨_,rfl⟩,q⟩
theorem Vy {f:Value→Value→Sem Value} {g:Int→Int→Bool}
    (rule:∀(i j:Int) (t u:Tok) (s:Shared) (Q:Value→Shared→Prop) (E:Value→Shared→Prop),Q (.bool (g i j)) s→wpAny (model X.prog X.w) X.A (f (.int i t) (.int j u)) Q E s) :
    fP X f (QX fun i j=>.bl (g i j)):=by
  intro p_ s σ H x y v u Q I rx ry h;obtain⟨i,j,rfl,rfl,q⟩:=h;obtain⟨t,rfl⟩:=rx;obtain⟨t',rfl⟩:=ry;exact rule i j t t' s _ _ ⟨.bl (g i j),H,I,rfl,q⟩
@[simp] def Jx (i j:Int):Prop:=0<j∧j<1073741824
@[simp] def QZ (i j:Int):Prop:=0≤j∧j≤1000000∧i.natAbs<2 ^ 64
@[simp] def Q0 (i j:Int):Prop:=(-(2 ^ 64)<i∧i<2 ^ 64)∨(-(2 ^ 64)<j∧j<2 ^ 64)
theorem Q0.ok {i j:Int} (h:Q0 i j):IntMulOk i j:=by
  rcases h with⟨h1,h2⟩ | ⟨h1,h2⟩
  ·exact .of_left (intBits_le_64 h1 h2)
  ·exact .of_right (intBits_le_64 h1 h2)
theorem two_pow_nn (k:Nat):(0:Int)≤2 ^ k:=by
  rw[two_pow_cast];exact Int.natCast_nonneg _
theorem Vz:fP X (binaryOp .Add) (QX fun i j=>.int (i+j)):=Vx fun _ _ _ _ _ _ _ q=>add_int q
theorem VB:fP X (binaryOp .Sub) (QX fun i j=>.int (i - j)):=Vx fun _ _ _ _ _ _ _ q=>sub_int q
theorem VD:fP X (binaryOp .Mult) (rI Q0 fun i j=>.int (i * j)):=Yu fun _ _ _ _ _ _ _ hc q=>mul_int q hc.ok
theorem Q5:fP X (binaryOp .FloorDiv) (rI Jx fun i j=>.int (i / j)):=Yu fun i j _ _ _ _ _ hc q=>by
  have h1:(0:Int)<j:=hc.1;have h2:j<1073741824:=hc.2;exact floordiv_int (by omega) (by rw[Int.fdiv_eq_ediv_of_nonneg i (by omega)];exact q) (.inl (PyProof.noPylong_small (by omega)))
theorem VF:fP X (binaryOp .Mod) (rI (fun _ j=>0<j) fun i j=>.int (i % j)):=Yu fun i j _ _ _ _ _ hc q=>by
  have h1:(0:Int)<j:=hc;exact mod_int' (by omega) (by rw[Int.fmod_eq_emod_of_nonneg i (by omega)];exact q)
theorem VG:fP X (binaryOp .Pow) (rI QZ fun i j=>.int (i ^ j.toNat)):=Yu fun _ _ _ _ _ _ _ hc q=>pow_int_small hc.1 hc.2.1 hc.2.2 q
theorem VH:fP X (binaryOp .LShift) (rI QZ fun i j=>.int (i * 2 ^ j.toNat)):=Yu fun _ _ _ _ _ _ _ hc q=>lshift_int_small hc.1 hc.2.1 hc.2.2 q
theorem VJ:fP X (binaryOp .RShift) (rI (fun _ j=>0≤j) fun i j=>.int (i / 2 ^ j.toNat)):=Yu fun i j _ _ _ _ _ hc q=>
  rshift_int hc (by rw[Int.fdiv_eq_ediv_of_nonneg i (two_pow_nn _)];exact q)
theorem VL:fP X (binaryOp .BitAnd) (QX fun i j=>.int (Builtin.bitAnd i j)):=Vx fun _ _ _ _ _ _ _ q=>and_int q
theorem unI {f:Value→Sem Value} {g:Int→Int}
    (rule:∀(i:Int) (t:Tok) (s:Shared) (Q:Value→Shared→Prop) (E:Value→Shared→Prop),Q (.int (g i) s.toks) {s with toks:=s.toks+1}→wpAny (model X.prog X.w) X.A (f (.int i t)) Q E s) :
    Vv X f (rU fun i=>.int (g i)):=by
  intro p_ s σ H x v Q I rx h;obtain⟨i,rfl,q⟩:=h;obtain⟨t,rfl⟩:=rx;exact rule i t s _ _ ⟨.int (g i),H,I.tok _,⟨_,rfl⟩,q⟩
theorem VN:Vv X (unaryOp .USub) (rU fun i=>.int (-i)):=unI fun _ _ _ _ _ q=>neg_int q
end
def vd:V→V→Bool
  | .non,.non=>true | .non,.int _=>true | .int _,.non=>true | .non,.bl _=>true | .bl _,.non=>true | .non,.str _=>true | .str _,.non=>true
  | .int _,.int _=>true | .bl _,.bl _=>true | .str _,.str _=>true | .K8 _,.K8 _=>true
  | .int _,.str _=>true | .str _,.int _=>true | .bl _,.str _=>true | .str _,.bl _=>true
  | _,_=>false
def rEq:R2:=fun x y H Q=>vd x y=true∧Q (.bl (decide (x=y))) H
def rNe:R2:=fun x y H Q=>vd x y=true∧Q (.bl (!decide (x=y))) H
theorem Ig {i j:Int}:decide (V.int i=V.int j)=(i == j):=by
  rw[Bool.eq_iff_iff];simp
theorem LQ {i j:Bool}:decide (V.bl i=V.bl j)=(i == j):=by
  rw[Bool.eq_iff_iff];simp
theorem Ih {i j:Str}:decide (V.str i=V.str j)=(i == j):=by
  rw[Bool.eq_iff_iff];simp
theorem Ii {i j:Array UInt8}:decide (V.K8 i=V.K8 j)=(i.toList == j.toList):=by
  rw[Bool.eq_iff_iff];cases i;cases j;simp
section
variable {X:Cx} {a b c:Expr} {ta tb tc:TE} {pos:Pos}
theorem bL {p_:List (Addr×Obj)} {σ:St} {H:Hp} {s:Shared} {Q:VK} {k k':Bool} (I:Inv X p_ σ H s) (q:Q (.bl k) H) (e:k=k'):EP X p_ σ Q (.bool k') s:=by
  subst e;exact⟨.bl k,H,I,rfl,q⟩
theorem Zc:fP X (compareOp .Eq) rEq:=by
  intro p_ s σ H x y v u Q I rx ry h;obtain⟨hs,q⟩:=h;cases x with
  | non=>
    cases rx;cases y with
    | non=>cases ry;exact PySem.EqNone.eq_none_none (bL I q (by simp))
    | bl j=>cases ry;exact PySem.EqNone.eq_none_bool (bL I q (by simp))
    | int j=>obtain⟨t',rfl⟩:=ry;exact PySem.EqNone.eq_none_int (bL I q (by simp))
    | str j=>obtain⟨t',rfl⟩:=ry;exact PySem.EqNone.eq_none_str (bL I q (by simp))
    | _=>exact absurd (show false=true from hs) Bool.false_ne_true
  | bl i=>
    cases rx;cases y with
    | non=>cases ry;exact PySem.EqNone.eq_bool_none (bL I q (by simp))
    | bl j=>cases ry;exact eq_bool (bL I q LQ)
    | str j=>obtain⟨t',rfl⟩:=ry;exact PySem.EqMixed.eq_bool_str (bL I q (by simp))
    | _=>exact absurd (show false=true from hs) Bool.false_ne_true
  | int i=>
    obtain⟨t,rfl⟩:=rx;cases y with
    | non=>cases ry;exact PySem.EqNone.eq_int_none (bL I q (by simp))
    | int j=>obtain⟨t',rfl⟩:=ry;exact eq_int (bL I q Ig)
    | str j=>obtain⟨t',rfl⟩:=ry;exact PySem.EqMixed.eq_int_str (bL I q (by simp))
    | _=>exact absurd (show false=true from hs) Bool.false_ne_true
  | str i=>
    obtain⟨t,rfl⟩:=rx;cases y with
    | non=>cases ry;exact PySem.EqNone.eq_str_none (bL I q (by simp))
    | bl j=>cases ry;exact PySem.EqMixed.eq_str_bool (bL I q (by simp))
    | int j=>obtain⟨t',rfl⟩:=ry;exact PySem.EqMixed.eq_str_int (bL I q (by simp))
    | str j=>obtain⟨t',rfl⟩:=ry;exact eq_str (bL I q Ih)
    | _=>exact absurd (show false=true from hs) Bool.false_ne_true
  | K8 i=>
    obtain⟨t,rfl⟩:=rx;cases y with
    | K8 j=>obtain⟨t',rfl⟩:=ry;exact W.eq_bytes (bL I q Ii)
    | _=>exact absurd (show false=true from hs) Bool.false_ne_true
  | _=>cases y <;> exact absurd (show false=true from hs) Bool.false_ne_true
theorem Zd:fP X (compareOp .NotEq) rNe:=by
  intro p_ s σ H x y v u Q I rx ry h;obtain⟨hs,q⟩:=h;cases x with
  | non=>
    cases rx;cases y with
    | non=>cases ry;exact PySem.EqNone.ne_none_none (bL I q (by simp))
    | bl j=>cases ry;exact PySem.EqNone.ne_none_bool (bL I q (by simp))
    | int j=>obtain⟨t',rfl⟩:=ry;exact PySem.EqNone.ne_none_int (bL I q (by simp))
    | str j=>obtain⟨t',rfl⟩:=ry;exact PySem.EqNone.ne_none_str (bL I q (by simp))
    | _=>exact absurd (show false=true from hs) Bool.false_ne_true
  | bl i=>
    cases rx;cases y with
    | non=>cases ry;exact PySem.EqNone.ne_bool_none (bL I q (by simp))
    | bl j=>cases ry;exact ne_bool (bL I q (congrArg not LQ))
    | str j=>obtain⟨t',rfl⟩:=ry;exact PySem.EqMixed.ne_bool_str (bL I q (by simp))
    | _=>exact absurd (show false=true from hs) Bool.false_ne_true
  | int i=>
    obtain⟨t,rfl⟩:=rx;cases y with
    | non=>cases ry;exact PySem.EqNone.ne_int_none (bL I q (by simp))
    | int j=>obtain⟨t',rfl⟩:=ry;exact ne_int (bL I q (congrArg not Ig))
    | str j=>obtain⟨t',rfl⟩:=ry;exact PySem.EqMixed.ne_int_str (bL I q (by simp))
    | _=>exact absurd (show false=true from hs) Bool.false_ne_true
  | str i=>
    obtain⟨t,rfl⟩:=rx;cases y with
    | non=>cases ry;exact PySem.EqNone.ne_str_none (bL I q (by simp))
    | bl j=>cases ry;exact PySem.EqMixed.ne_str_bool (bL I q (by simp))
    | int j=>obtain⟨t',rfl⟩:=ry;exact PySem.EqMixed.ne_str_int (bL I q (by simp))
    | str j=>obtain⟨t',rfl⟩:=ry;exact ne_str (bL I q (congrArg not Ih))
    | _=>exact absurd (show false=true from hs) Bool.false_ne_true
  | K8 i=>
    obtain⟨t,rfl⟩:=rx;cases y with
    | K8 j=>obtain⟨t',rfl⟩:=ry;exact W.ne_bytes (bL I q (congrArg not Ii))
    | _=>exact absurd (show false=true from hs) Bool.false_ne_true
  | _=>cases y <;> exact absurd (show false=true from hs) Bool.false_ne_true
theorem Ze:fP X (compareOp .Lt) (QX fun i j=>.bl (decide (i<j))):=Vy fun _ _ _ _ _ _ _ q=>lt_int q
theorem Zf:fP X (compareOp .LtE) (QX fun i j=>.bl (decide (i≤j))):=Vy fun _ _ _ _ _ _ _ q=>le_int q
theorem Zg:fP X (compareOp .Gt) (QX fun i j=>.bl (decide (j<i))):=Vy fun _ _ _ _ _ _ _ q=>gt_int q
theorem Jy:fP X (compareOp .In) (fun x y H Q=>∃i j,x = .str i∧y = .str j∧Q (.bl (!(Builtin.Str.occurrences j i 0 j.length 1).isEmpty)) H):=by
  intro p_ s σ H x y v u Q I rx ry h;obtain⟨i,j,rfl,rfl,q⟩:=h;obtain⟨t,rfl⟩:=rx;obtain⟨t',rfl⟩:=ry;exact in_str (bL I q rfl)
theorem LR:fP X (compareOp .Is) (fun x y H Q=>y = .non∧Q (.bl (decide (x = .non))) H):=by
  intro p_ s σ H x y v u Q I rx ry h;obtain⟨rfl,q⟩:=h;cases ry;refine is_none_gen (bL I q ?_);cases x <;> first
    | (cases rx;rfl)
    | (obtain⟨t,rfl⟩:=rx;rfl)
theorem fP.or {f:Value→Value→Sem Value} {r r':R2} (h:fP X f r) (h':fP X f r'):fP X f (fun x y H Q=>r x y H Q∨r' x y H Q):=by
  intro p_ s σ H x y v u Q I rx ry q
  rcases q with q | q
  ·exact h p_ s σ H x y v u Q I rx ry q
  ·exact h' p_ s σ H x y v u Q I rx ry q
theorem bV (b:Expr) {op:CmpOp} (h:op≠.In:=by decide) (h2:op≠.NotIn:=by decide):behindInMarks op b=false:=by
  have e1:(op == CmpOp.In)=false:=by cases op <;> first | rfl | exact absurd rfl h
  have e2:(op == CmpOp.NotIn)=false:=by cases op <;> first | rfl | exact absurd rfl h2
  cases b <;> simp[behindInMarks,e1,e2]
theorem gM {op:CmpOp} {r:R2} (ho:fP X (compareOp op) r) (ha:PE X a ta) (hb:PE X b tb) (hm:behindInMarks op b=false):PE X (.Compare a [op] [b] pos) (T7 r ta tb):=by
  intro p_ s σ H Q I h;exact wpAny_Compare1 (Vw ha hb I h fun v u s2 x y H2 I2 rx ry q=>ho p_ s2 σ H2 x y v u Q I2 rx ry q) hm
def Ij (t:TE):TT:=fun σ H Q=>t σ H fun x H'=>∃k,x = .bl k∧Q k H'
theorem Q6 {op:CmpOp} {r:R2} (ho:fP X (compareOp op) r) (ha:PE X a ta) (hb:PE X b tb) (hm:behindInMarks op b=false):PT X (.Compare a [op] [b] pos) (Ij (T7 r ta tb)):=by
  intro p_ s σ H Q I h;refine wpAny_isTrue_Compare1 (bN (ha p_ s σ H _ I h) fun v s1 ⟨x,H1,I1,r1,q1⟩=>bN (hb p_ s1 σ H1 _ I1 q1) fun u s2 ⟨y,H2,I2,r2,q2⟩=>
    bN (ho p_ s2 σ H2 x y v u _ I2 r1 r2 q2) fun c s3 ⟨z,H3,I3,r3,k,e,q3⟩=>?_) hm
  subst e;cases r3;exact wpAny_truthy_bool ⟨H3,I3,q3⟩
def FP (r r':R2) (ta tb tc:TE):TE:=fun σ H Q=>ta σ H fun x H1=>tb σ H1 fun y H2=>r x y H2 fun z H3=>∃k,z = .bl k∧
  (if k=true then tc σ H3 fun w' H4=>r' y w' H4 Q else Q (.bl false) H3)
theorem L_ {op op':CmpOp} {r r':R2} (ho:fP X (compareOp op) r) (ho':fP X (compareOp op') r') (ha:PE X a ta) (hb:PE X b tb) (hc:PE X c tc)
    (hm:lastMarks [op,op'] [b,c]=false:=by with_unfolding_all rfl):PT X (.Compare a [op,op'] [b,c] pos) (Ij (FP r r' ta tb tc)):=by
  intro p_ s σ H Q I h;refine isTrue_chain (bN (ha p_ s σ H _ I h) fun v s1 ⟨x,H1,I1,r1,q1⟩=>test_link (bN (hb p_ s1 σ H1 _ I1 q1) fun u s2 ⟨y,H2,I2,r2,q2⟩=>
    bN (ho p_ s2 σ H2 x y v u _ I2 r1 r2 q2) fun d s3 ⟨z,H3,I3,r3,k,e,q3⟩=>?_)) hm
  subst e;cases r3;refine wpAny_truthy_bool ?_;cases k with
  | false=>
    obtain⟨k',e',q'⟩:=q3;cases e';exact ite_ff ⟨H3,I3,q'⟩
  | true=>
    refine ite_tt (test_last (bN (hc p_ s3 σ H3 _ I3 q3) fun w' s4 ⟨z',H4,I4,r4,q4⟩=>bN (ho' p_ s4 σ H4 y z' u w' _ I4 r2 r4 q4) fun d' s5 ⟨z2,H5,I5,r5,k2,e2,q5⟩=>?_));subst e2;cases r5;exact wpAny_truthy_bool ⟨H5,I5,q5⟩
theorem qQ:(sizeLine:Nat)<2 ^ 63:=by rw[sizeLine_eq];decide
theorem FQ:fP X (binaryOp .Add) (fun x y H Q=>∃i j,x = .str i∧y = .str j∧i.length+j.length≤sizeLine∧Q (.str (i++j)) H):=by
  intro p_ s σ H x y v u Q I rx ry h;obtain⟨i,j,rfl,rfl,hz,q⟩:=h;obtain⟨t,rfl⟩:=rx;obtain⟨t',rfl⟩:=ry;exact add_str (fun t' tk=>⟨.str (i++j),H,I.tok _,⟨_,rfl⟩,q⟩) hz
theorem vals1 {x:V} {us:List Value} (r:Vals [x] us):∃u,us=[u]∧RelV x u:=by
  cases r with
  | cons r1 r2=>cases r2;exact⟨_,rfl,r1⟩
theorem vals2 {x y:V} {us:List Value} (r:Vals [x,y] us):∃u w',us=[u,w']∧RelV x u∧RelV y w':=by
  cases r with
  | cons r1 r2=>
    cases r2 with
    | cons r3 r4=>cases r4;exact⟨_,_,rfl,r1,r3⟩
theorem Ma:bQ X (.builtin "abs") (fun xs H Q=>∃i,xs=[.int i]∧Q (.int (if i<0 then -i else i)) H):=by
  intro p_ s σ H xs us Q I r h;obtain⟨i,rfl,q⟩:=h;obtain⟨u,rfl,t,rfl⟩:=vals1 r;exact call_abs_int fun u tk=>⟨.int (if i<0 then -i else i),H,I.tok _,⟨_,rfl⟩,q⟩
theorem Jz (hc:X.calm=true):bQ X (.builtin "max") (fun xs H Q=>∃i j,xs=[.int i,.int j]∧Q (.int (if j > i then j else i)) H):=by
  intro p_ s σ H xs us Q I r h;obtain⟨i,j,rfl,q⟩:=h;obtain⟨u,w',rfl,⟨t,rfl⟩,⟨t',rfl⟩⟩:=vals2 r;refine max_two_ints (I.ok.hd hc) fun h' tk k=>⟨_,H,I.kept k,?_,q⟩
  by_cases hj:j > i
  ·rw[if_pos hj,if_pos hj];exact⟨_,rfl⟩
  ·rw[if_neg hj,if_neg hj];exact⟨_,rfl⟩
theorem JB (hc:X.calm=true):bQ X (.builtin "min") (fun xs H Q=>∃i j,xs=[.int i,.int j]∧Q (.int (if j<i then j else i)) H):=by
  intro p_ s σ H xs us Q I r h;obtain⟨i,j,rfl,q⟩:=h;obtain⟨u,w',rfl,⟨t,rfl⟩,⟨t',rfl⟩⟩:=vals2 r;refine min_two_ints (I.ok.hd hc) fun h' tk k=>⟨_,H,I.kept k,?_,q⟩
  by_cases hj:j<i
  ·rw[if_pos hj,if_pos hj];exact⟨_,rfl⟩
  ·rw[if_neg hj,if_neg hj];exact⟨_,rfl⟩
theorem JC:bQ X (.type "int") (fun xs H Q=>(∃i,xs=[.int i]∧Q (.int i) H)∨∃k,xs=[.bl k]∧Q (.int (if k then 1 else 0)) H):=by
  intro p_ s σ H xs us Q I r h
  rcases h with⟨i,rfl,q⟩ | ⟨k,rfl,q⟩
  ·obtain⟨u,rfl,t,rfl⟩:=vals1 r;exact call_int_int ⟨.int i,H,I,⟨_,rfl⟩,q⟩
  ·obtain⟨u,rfl,r1⟩:=vals1 r;cases r1;exact call_int_bool ⟨.int (if k then 1 else 0),H,I.tok _,⟨_,rfl⟩,q⟩
theorem Cq:bQ X (.builtin "divmod") (fun xs H Q=>∃i j,xs=[.int i,.int j]∧Jx i j∧∀p,H p=none→Q (.ref p) (upd H p (.tup [.int (i / j),.int (i % j)]))):=by
  intro p_ s σ H xs us Q I r h;obtain⟨i,j,rfl,⟨h1,h2⟩,q⟩:=h;obtain⟨u,w',rfl,⟨t,rfl⟩,⟨t',rfl⟩⟩:=vals2 r;refine divmod_int (by omega) ?_ (.inl (PyProof.noPylong_small (by omega)));rw[Int.fdiv_eq_ediv_of_nonneg i (by omega),Int.fmod_eq_emod_of_nonneg i (by omega)];have hn:H s.heap.objs.size=none:=I.hok.fresh (Nat.le_refl _);refine⟨.ref s.heap.objs.size,_,?_,rfl,q _ hn⟩;refine I.laid (fun b o e=>Heap.get?_push_of_some _ e) (Nat.le_refl _) ⟨by simp only[List.length_cons,List.length_nil];rw[sizeLine_eq];decide,[.int (i / j) s.toks,.int (i % j) (s.toks+1)],.cons ⟨_,rfl⟩ (.cons ⟨_,rfl⟩ .nil),?_⟩;exact⟨_,Heap.get?_push_size s.heap rfl,rfl,0,rfl⟩
end
structure FT (h:Heap) (x dx C:Addr) (mA:Str→Option Value):Prop where
  obj:h.get? x=some (W.instObj C dx)
  ns:h.Ns1 dx mA
  ne:dx≠x
theorem JD {h:Heap} {dx:Addr} {mA:Str→Option Value} (n:h.Ns1 dx mA):∃od,h.get? dx=some od∧∀name,W.lookIn name od=some (mA name):=by
  obtain⟨o,es,ep,ho,hd,hk,_,hm⟩:=n;refine⟨o,ho,fun name=>?_⟩;have e:=hm name;unfold nsFind findBy at e;rw[← Array.find?_toList] at e;unfold W.lookIn;rw[hd];dsimp only;split
  ·rename_i y q;rw[q] at e;exact congrArg some e
  · rename_i q;rw[q] at e;have a:es.toList.any (·.refKey)=false:=by
      rw[List.any_eq_false];intro y hy;obtain⟨z,t,hkey⟩:=hk y (Array.mem_toList_iff.mp hy);simp[DictEntry.refKey,hkey]
    have a':¬es.toList.any (·.refKey)=true:=by rw[a];exact Bool.false_ne_true
    rw[if_neg a'];exact congrArg some e
theorem FT.look {h:Heap} {x dx C:Addr} {mA:Str→Option Value} (I:FT h x dx C mA):∃od,W.InstAt h x (W.instObj C dx) C (some od)∧∀name,W.lookIn name od=some (mA name):=
  let ⟨od,ho,hl⟩:=JD I.ns
  ⟨od,⟨I.obj,rfl,rfl,ho⟩,hl⟩
section
variable {prog:Program} {w:World} {A:Around} {E:Value→Shared→Prop} {s:Shared} {K:W.Frag} {x dx C f:Addr} {mA:Str→Option Value} {name:Str} {v:Value}
theorem get_map {expr:Bool} {Q:Value→Shared→Prop} (X:K.In s.heap) (I:FT s.heap x dx C mA) (hg:W.plainGet K C name=true) (hh:W.hasDictIn K C=true)
    (ha:W.findIn K (.ref C) name=some none) (hv:mA name=some v) (hv':W.handedIn v=true) (h:Q v {s with toks:=s.toks+1}) :
    wpAny (model prog w) A (getAttr (.ref x) name expr) Q E s:=by
  obtain⟨od,J,hl⟩:=I.look;exact W.get_value X J (W.plainGet_of hg).1 (W.findObj_own hh ha rfl (by rw[hl,hv])) hv' h
theorem Mf {pl:Sem Bool} {Q:Value×List Value→Shared→Prop} (X:K.In s.heap) (I:FT s.heap x dx C mA) (hg:W.plainGet K C name=true)
    (hf:W.findIn K (.ref C) name=some (some (.ref f))) (ht:W.isFn K (.ref f)=true) (hv:mA name=none) (h:Q (.ref f,[.ref x]) s) :
    wpAny (model prog w) A (getMethod (.ref x) name pl) Q E s:=by
  obtain⟨od,J,hl⟩:=I.look;exact W.method_fn X J (W.plainGet_of hg).1 (W.plainGet_of hg).2 hf (beq_iff_eq.mp ht) (by show(W.lookIn name od).map (·.isSome)=some false;rw[hl,hv];rfl) h
theorem Q7 {ns:List Str} {Q:Unit→Shared→Prop} (X:K.In s.heap) (I:FT s.heap x dx C mA)
    (hs:W.findIn K (.ref C) "__setattr__" = some (some (.builtin "object.__setattr__"))) (hp:W.plainOver K C=true) (ht:W.takerIn K C name=some none) (hh:W.hasDictIn K C=true)
    (hw:PySem.Within mA ns) (hsz:ns.length≤sizeLine)
    (h:∀h',FT h' x dx C (fun y=>if y=name then some v else mA y)→Heap.SameBut dx s.heap h'→Q () {s with heap:=h',toks:=s.toks+2}) :
    wpAny (model prog w) A (setAttr (.ref x) name v) Q E s:=by
  obtain⟨od,J,hl⟩:=I.look;refine W.set_plain X J hs (W.osa_open (s:={s with toks:=s.toks+1}) (r:=none) X J hp ht fun b=>?_);obtain⟨cd,hc,hd'⟩:=W.any_some hh;have hx:s.heap.get? x=some ⟨.ref C,some dx,.plain,#[]⟩:=I.obj;refine wpAny_bind (wpAny_pure (wpAny_bind (wpAny_bind (wpAny_loadPart hx (wpAny_bind (W.Looks.here (s:={s with toks:=s.toks+1}) (W.looks_clsIn X hc) ?_))))));rw[hd'];refine wpAny_pure (a:=some dx) (wpAny_bind (wpAny_pure (wpAny_bind ?_)));refine wpAny_nsSet1 (s:={s with toks:=s.toks+1}) I.ns fun h' hn2 hs2=>?_;obtain⟨oD,esD,epD,hoD,hdD,hcD⟩:=hn2.count (PySem.Within.cons name v hw);refine wpAny_bind (wpAny_lookBehind hoD (by rw[hdD];exact pastItsLine_dict (Nat.le_trans hcD (by rw[List.length_cons];omega))) ?_);exact wpAny_pure (h _ ⟨(hs2.2 _ (Ne.symm I.ne)).trans I.obj,hn2,I.ne⟩ hs2)
theorem Mg {R:Result→Shared→Prop} {vs:List Value} {kw:List (Str×Value)} (X:K.In s.heap) (hm:W.makesIn K C=true)
    (hi:W.findIn K (.ref C) "__init__" = some (some (.ref f))) (hf:W.typeIn K (.ref f)=some (.type "function"))
    (h:codeAny (model prog w) (A.under (.builtin "type.__call__" ⟨.ref C::vs,kw⟩)) (.call (.ref f) ⟨.ref (s.heap.objs.size+1)::vs,kw⟩) (W.InitBack (s.heap.objs.size+1) R)
      {s with heap:=(s.heap.push W.emptyDict).push (W.instObj C s.heap.objs.size)}) :
    codeAny (model prog w) A (.call (.ref C) ⟨vs,kw⟩) R s:=by
  obtain⟨hh,g,d,t,os⟩:=s;exact W.make_core (W.makes_of X hm) (W.looks_findIn X hi) (fun self=>W.bind_fn X self hf) (.inl rfl) h
end
def mK (f:Str) (v:V):List (Str×V)→List (Str×V)
  | []=>[(f,v)]
  | (g,x)::r=>if g=f then (g,v)::r else (g,x)::mK f v r
theorem uN (f g:Str) (v:V):∀fs:List (Str×V),(mK f v fs).lookup g=if g=f then some v else fs.lookup g
  | []=>by
    show List.lookup g [(f,v)]=_
    by_cases h:g=f
    ·have hb:(g == f)=true:=beq_iff_eq.mpr h;simp only[List.lookup,hb,if_pos h]
    ·have hb:(g == f)=false:=beq_eq_false_iff_ne.mpr h;simp only[List.lookup,hb,if_neg h]
  | (k,x)::r=>by
    have ih:=uN f g v r;rw[show mK f v ((k,x)::r)=(if k=f then (k,v)::r else (k,x)::mK f v r) from rfl]
    by_cases hk:k=f
    · rw[if_pos hk]
      by_cases h:g=k
      ·have hb:(g == k)=true:=beq_iff_eq.mpr h;simp only[List.lookup,hb,if_pos (h.trans hk)]
      ·have hb:(g == k)=false:=beq_eq_false_iff_ne.mpr h;simp only[List.lookup,hb,if_neg (fun e:g=f=>h (e.trans hk.symm))]
    · rw[if_neg hk]
      by_cases h:g=k
      ·have hb:(g == k)=true:=beq_iff_eq.mpr h;simp only[List.lookup,hb,if_neg (fun e:g=f=>hk (h.symm.trans e))]
      ·have hb:(g == k)=false:=beq_eq_false_iff_ne.mpr h;simp only[List.lookup,hb];exact ih
theorem tU (f:Str) (v:V):∀fs:List (Str×V),f∈(mK f v fs).map (·.1)∧∀g,g∈fs.map (·.1)→g∈(mK f v fs).map (·.1)
  | []=>⟨by simp[mK],fun g h=>by simp at h⟩
  | (k,x)::r=>by
    obtain⟨i1,i2⟩:=tU f v r;rw[show mK f v ((k,x)::r)=(if k=f then (k,v)::r else (k,x)::mK f v r) from rfl]
    by_cases hk:k=f
    ·rw[if_pos hk];subst hk;exact⟨by simp,fun g h=>by simpa using h⟩
    · rw[if_neg hk];refine⟨?_,fun g h=>?_⟩
      ·rw[List.map_cons];exact List.mem_cons_of_mem _ i1
      · rw[List.map_cons] at h ⊢
        rcases List.mem_cons.mp h with e | e
        ·exact List.mem_cons.mpr (.inl e)
        ·exact List.mem_cons_of_mem _ (i2 g e)
theorem uO (f:Str) (v:V):∀fs:List (Str×V),(mK f v fs).length≤fs.length+1
  | []=>by simp[mK]
  | (k,x)::r=>by
    have ih:=uO f v r;rw[show mK f v ((k,x)::r)=(if k=f then (k,v)::r else (k,x)::mK f v r) from rfl]
    by_cases hk:k=f
    ·rw[if_pos hk,List.length_cons,List.length_cons];omega
    ·rw[if_neg hk,List.length_cons,List.length_cons];omega
theorem oJ.some_of {v:V} {o:Option Value} (r:oJ (some v) o):∃u,o=some u∧RelV v u:=by
  cases o with
  | none=>exact(show False from r).elim
  | some u=>exact⟨u,rfl,r⟩
theorem oJ.none_of {o:Option Value} (r:oJ none o):o=none:=by
  cases o with
  | none=>rfl
  | some u=>exact(show False from r).elim
theorem JF {v:V} {u:Value} (r:RelV v u):W.handedIn u=true:=by
  cases v with
  | non=>cases (show u=Value.none from r);rfl
  | bl b=>cases (show u=Value.bool b from r);rfl
  | int i=>obtain⟨t,e⟩:=(show ∃t,u=Value.int i t from r);cases e;rfl
  | str x=>obtain⟨t,e⟩:=(show ∃t,u=Value.str x t from r);cases e;rfl
  | K8 b=>obtain⟨t,e⟩:=(show ∃t,u=Value.bytes b t from r);cases e;rfl
  | flt b=>obtain⟨t,e⟩:=(show ∃t,u=Value.float b t from r);cases e;rfl
  | ref a=>cases (show u=Value.ref a from r);rfl
  | ty n=>cases (show u=Value.type n from r);rfl
section
variable {P:Program} {w:World} {H H':Hp} {h h':Heap} {a C dx:Addr} {fs fs':List (Str×V)}
theorem rK (hok:qP P w H h) (e:H a=some (.ins C dx fs)):∃mA,FT h a dx C mA∧(∀f,oJ (fs.lookup f) (mA f))∧PySem.Within mA (fs.map (·.1))∧fs.length≤1000∧H dx=some (.own a):=by
  obtain⟨d,z,ne,ob,mA,n,r,q⟩:=(show bZ P w H h a (.ins C dx fs) from hok a _ e);exact⟨mA,⟨ob,n,ne⟩,r,q,z,d⟩
end
structure Cls (K:W.Frag) (C:Addr):Prop where
  pg:W.plainGet K C Str.empty=true
  hd:W.hasDictIn K C=true
  po:W.plainOver K C=true
  sa:W.findIn K (.ref C) "__setattr__" = some (some (.builtin "object.__setattr__"))
theorem Cls.get {K:W.Frag} {C:Addr} (c:Cls K C) (f:Str):W.plainGet K C f=true:=c.pg
def jt (K:W.Frag) (C:Addr) (f:Str):Prop:=W.findIn K (.ref C) f=some none
theorem jt.taker {K:W.Frag} {C:Addr} {f:Str} (n:jt K C f):W.takerIn K C f=some none:=by
  unfold W.takerIn;rw[show W.findIn K (.ref C) f=some none from n];rfl
structure Meth (K:W.Frag) (C:Addr) (m:Str) (f:Addr):Prop where
  at_:W.findIn K (.ref C) m=some (some (.ref f))
  fn:W.isFn K (.ref f)=true
  kp:W.keepIn K (.ref f)=true
section
variable {X:Cx} {p_:List (Addr×Obj)} {σ:St} {H:Hp} {s:Shared} {a C dx:Addr} {fs:List (Str×V)} {f:Str} {v:V} {A:Around} {E:Value→Shared→Prop}
theorem FW {b:Bool} {Q:Value→Shared→Prop} (I:Inv X p_ σ H s) (e:H a=some (.ins C dx fs)) (c:Cls X.K C) (n:jt X.K C f) (l:fs.lookup f=some v)
    (h:∀u s',Inv X p_ σ H s'→RelV v u→Q u s'):wpAny (model X.prog X.w) A (getAttr (.ref a) f b) Q E s:=by
  obtain⟨mA,O,r,_,_,_⟩:=rK I.hok e;obtain⟨u,hu,ru⟩:=oJ.some_of (v:=v) (o:=mA f) (by rw[← l];exact r f);exact get_map I.u_ O (c.get f) c.hd n hu (JF ru) (h u _ (I.tok _) ru)
theorem FZ {m:Str} {g:Addr} {pl:Sem Bool} {Q:Value×List Value→Shared→Prop} (I:Inv X p_ σ H s) (e:H a=some (.ins C dx fs)) (c:Cls X.K C) (k:Meth X.K C m g) (l:fs.lookup m=none)
    (h:Q (.ref g,[.ref a]) s):wpAny (model X.prog X.w) A (getMethod (.ref a) m pl) Q E s:=by
  obtain⟨mA,O,r,_,_,_⟩:=rK I.hok e;have hn:mA m=none:=oJ.none_of (by rw[← l];exact r m);exact Mf I.u_ O (c.get m) k.at_ k.fn hn h
theorem Ga {y:V} {u:Value} {Q:Unit→Shared→Prop} (I:Inv X p_ σ H s) (e:H a=some (.ins C dx fs)) (c:Cls X.K C) (n:jt X.K C f) (hl:fs.length<1000) (ry:RelV y u)
    (h:∀s',Inv X p_ σ (upd H a (.ins C dx (mK f y fs))) s'→Q () s'):wpAny (model X.prog X.w) A (setAttr (.ref a) f u) Q E s:=by
  obtain⟨mA,O,r,wi,_,ho⟩:=rK I.hok e;have hz:(fs.map (·.1)).length≤sizeLine:=by rw[List.length_map,sizeLine_eq];omega
  refine Q7 I.u_ O c.sa c.po n.taker c.hd wi hz fun h' O' sb=>h _ ?_;have hd:∃o,h'.get? dx=some o:=let ⟨o,_,_,e',_⟩:=O'.ns;⟨o,e'⟩;refine I.write (x:=a) (e:=dx) (by rw[e];exact True.intro) (.inr ho) (fun b q hb z=>(sb.2 b hb).trans z) hd ?_;refine⟨by rw[aC O.ne];exact ho,?_,O.ne,O'.obj,_,O'.ns,fun g=>?_,fun g hg=>?_⟩
  ·have:=uO f y fs;omega
  · show oJ ((mK f y fs).lookup g) (if g=f then some u else mA g)
    rw[uN]
    by_cases q:g=f
    ·rw[if_pos q,if_pos q];exact ry
    ·rw[if_neg q,if_neg q];exact r g
  · by_cases q:g=f
    ·rw[q];exact(tU f y fs).1
    · refine(tU f y fs).2 g (wi g fun z=>hg ?_);show(if g=f then some u else mA g)=none
      rw[if_neg q];exact z
theorem Inv.made (I:Inv X p_ σ H s):Inv X p_ σ (upd (upd H s.heap.objs.size (.own (s.heap.objs.size+1))) (s.heap.objs.size+1) (.ins C s.heap.objs.size []))
    {s with heap:=(s.heap.push W.emptyDict).push (W.instObj C s.heap.objs.size)}:=by
  have e1:(s.heap.push W.emptyDict).get? s.heap.objs.size=some W.emptyDict:=Heap.get?_push_size s.heap rfl;have e2:((s.heap.push W.emptyDict).push (W.instObj C s.heap.objs.size)).get? (s.heap.objs.size+1)=some (W.instObj C s.heap.objs.size):=by
    have:=Heap.get?_push_size (s.heap.push W.emptyDict) (o:=W.instObj C s.heap.objs.size) rfl
    rwa [Heap.size_push] at this
  have e3:(s.heap.push W.emptyDict).Ns s.heap.objs.size (fun _=>none):=⟨W.emptyDict,#[],_,e1,rfl,(fun e he=>absurd he (by simp)),fun _=>rfl⟩;have I1:=I.laid (a:=s.heap.objs.size) (o:=.own (s.heap.objs.size+1)) (h':=s.heap.push W.emptyDict) (t':=s.toks) (fun b u q=>Heap.get?_push_of_some _ q) (Nat.le_refl _) ⟨_,e1⟩;refine I1.laid (a:=s.heap.objs.size+1) (o:=.ins C s.heap.objs.size []) (t':=s.toks) (fun b u q=>Heap.get?_push_of_some _ q) (Nat.le_of_eq (Heap.size_push _ _)) ?_;have ne:s.heap.objs.size≠s.heap.objs.size+1:=Nat.ne_of_lt (Nat.lt_succ_self _);refine⟨by rw[aC ne,ak],Nat.zero_le _,ne,e2,fun _=>none,(Heap.Ns1.of_empty e3).at fun o q=>Heap.get?_push_of_some _ q,fun _=>True.intro,fun y hy=>absurd rfl hy⟩
theorem Q8 {prog:Program} {w:World} {env:Env} {e:Expr} {f:Str} {pos:Pos} {s:Shared} {Q:Value→Shared→Prop} (hb:attributeBase e f env (eval e env)=eval e env)
    (h:wpAny (model prog w) A (eval e env) (fun o s₁=>wpAny (model prog w) A (getAttr o f true) Q E s₁) E s):wpAny (model prog w) A (eval (.Attribute e f pos) env) Q E s:=
  Attribute_any_ h (by rw[arm_eval_Attribute,hb])
end
def Q9 (K:W.Frag) (ta:TE) (f:Str):TE:=fun σ H Q=>ta σ H fun x H1=>∃a C dx fs v,x = .ref a∧H1 a=some (.ins C dx fs)∧Cls K C∧jt K C f∧fs.lookup f=some v∧Q v H1
def VP (K:W.Frag) (ta tv:TE) (f:Str):TS:=fun D σ H=>tv σ H fun y H1=>ta σ H1 fun x H2=>∃a C dx fs,x = .ref a∧H2 a=some (.ins C dx fs)∧Cls K C∧jt K C f∧fs.length<1000∧
  D.nx σ (upd H2 a (.ins C dx (mK f y fs)))
section
variable {X:Cx} {o e value:Expr} {f:Str} {pos pos' tpos:Pos} {ta tv:TE}
theorem VR (he:PE X e ta) (hb:attributeBase e f X.env (eval e X.env)=eval e X.env):PE X (.Attribute e f pos) (Q9 X.K ta f):=by
  intro p_ s σ H Q I h;refine Q8 hb (bN (he p_ s σ H _ I h) fun u s1 zz=>?_);obtain⟨x,H1,I1,rx,a,C,dx,fs,v,ex,ea,c,n,l,q⟩:=zz;subst ex;obtain rfl:u=Value.ref a:=rx;exact FW I1 ea c n l fun u' s2 I2 ru=>⟨v,H1,I2,ru,q⟩
theorem V0 (ha:PE X o ta) (hv:PE X value tv) (hs:swapsWith value (some (.Attribute o f pos')) pos.line X.env=pure false):PS X (.Assign [.Attribute o f pos'] value pos) (VP X.K ta tv f):=by
  intro p_ s σ H D I h;refine plainObj_wpAny_Assign_Attribute (bN (hv p_ s σ H _ I h) fun u s1 ⟨y,H1,I1,ry,q⟩=>bN (ha p_ s1 σ H1 _ I1 q) fun ov s2 ⟨x,H2,I2,rx,a,C,dx,fs,ex,ea,c,n,l,q2⟩=>?_) hs;subst ex;obtain rfl:ov=Value.ref a:=rx;exact Ga I2 ea c n l ry fun s3 I3=>⟨σ,_,I3,q2⟩
end
section
variable {X:Cx} {p_:List (Addr×Obj)} {σ:St} {H:Hp} {s:Shared} {A:Around} {E:Value→Shared→Prop} {Q:Value→Shared→Prop} {c:Value} {b:Bool}
inductive jB (K:W.Frag) (H:Hp):V→Value→Prop where
  | non:jB K H .non (.type "NoneType")
  | bl (x:Bool):jB K H (.bl x) (.type "bool")
  | int (i:Int):jB K H (.int i) (.type "int")
  | str (x:Str):jB K H (.str x) (.type "str")
  | flt (x:UInt64):jB K H (.flt x) (.type "float")
  | lst {a:Addr} {xs:List V} (e:H a=some (.lst xs)):jB K H (.ref a) (.type "list")
  | Fp {a:Addr} {o:Obj} {xs:List V} (e:H a=some (.Fp o (.lst xs))):jB K H (.ref a) (.type "list")
  | tup {a:Addr} {xs:List V} (e:H a=some (.tup xs)):jB K H (.ref a) (.type "tuple")
  | dK {a:Addr} {kvs:List (Key×V)} (e:H a=some (.dK kvs)):jB K H (.ref a) (.type "dict")
  | dT {a:Addr} {kvs:List (List Key×V)} (e:H a=some (.dT kvs)):jB K H (.ref a) (.type "dict")
  | ins {a C dx:Addr} {fs:List (Str×V)} (e:H a=some (.ins C dx fs)) (cl:Cls K C) (ha:W.findIn K (.ref C) "__class__" = some (some (.builtin "object.__class__")))
      (hn:W.specialIn K (.builtin "object.__class__") "__get__" = some (some (.builtin "getset_descriptor.__get__"))) (htk:W.takesIn K (.builtin "object.__class__")=some true)
      (hm:W.mroIn K C (.type "object")=some true):jB K H (.ref a) (.ref C)
theorem JG {x:V} {u t:Value} (I:Inv X p_ σ H s) (rx:RelV x u) (ty:jB X.K H x t) (e:W.kitOne X.K t c=some b) (h:∀tk,Q (.bool b) {s with toks:=tk}) :
    wpAny (model X.prog X.w) A (call (.builtin "isinstance") [u,c]) Q E s:=by
  cases ty with
  | non=>cases (show u=Value.none from rx);exact W.kia_one W.kitx_none I.u_ True.intro e (fun z=>nomatch z) h
  | bl y=>cases (show u=Value.bool y from rx);exact W.kia_one W.kitx_bool I.u_ True.intro e (fun z=>nomatch z) h
  | int i=>obtain⟨t,q⟩:=(show ∃t,u=Value.int i t from rx);cases q;exact W.kia_one W.kitx_int I.u_ True.intro e (fun z=>nomatch z) h
  | str y=>obtain⟨t,q⟩:=(show ∃t,u=Value.str y t from rx);cases q;exact W.kia_one W.kitx_str I.u_ True.intro e (fun z=>nomatch z) h
  | flt y=>obtain⟨t,q⟩:=(show ∃t,u=Value.float y t from rx);cases q;exact W.kia_one W.kitx_float I.u_ True.intro e (fun z=>nomatch z) h
  | @lst a xs ea=>
    cases (show u=Value.ref a from rx);obtain⟨_,_,n,_,h1⟩:=(show bZ X.prog X.w H s.heap a (.lst xs) from I.hok a _ ea);exact W.kia_one W.kitx_list I.u_ ⟨_,h1,rfl⟩ e (fun z=>nomatch z) h
  | @Fp a ob xs ea=>
    cases (show u=Value.ref a from rx);obtain⟨_,_,_,n,_,h1⟩:=(show bZ X.prog X.w H s.heap a (.Fp ob (.lst xs)) from I.hok a _ ea);exact W.kia_one W.kitx_list I.u_ ⟨_,h1,rfl⟩ e (fun z=>nomatch z) h
  | @tup a xs ea=>
    cases (show u=Value.ref a from rx);obtain⟨_,_,_,p⟩:=(show bZ X.prog X.w H s.heap a (.tup xs) from I.hok a _ ea);obtain⟨o,h1,h2,_⟩:=p;exact W.kia_one W.kitx_tuple I.u_ ⟨o,h1,h2⟩ e (fun z=>nomatch z) h
  | @dK a kvs ea=>
    cases (show u=Value.ref a from rx);obtain⟨_,_,vs,_,p⟩:=(show bZ X.prog X.w H s.heap a (.dK kvs) from I.hok a _ ea);obtain⟨o,es,ep,h1,h2,_⟩:=p;exact W.kia_one W.kitx_dict I.u_ ⟨o,h1,h2.1⟩ e (fun z=>nomatch z) h
  | @dT a kvs ea=>
    cases (show u=Value.ref a from rx);obtain⟨_,_,xs,_,o,es,ep,h1,h2,_⟩:=(show bZ X.prog X.w H s.heap a (.dT kvs) from I.hok a _ ea);exact W.kia_one W.kitx_dict I.u_ ⟨o,h1,h2.1⟩ e (fun z=>nomatch z) h
  | @ins a C dx fs ea cl ha hn htk hm=>
    cases (show u=Value.ref a from rx);obtain⟨mA,O,_⟩:=rK I.hok ea;obtain⟨od,J,_⟩:=O.look;exact W.kia_one (W.kitx_own (cl.get _) cl.hd ha hn htk hm) I.u_ J e (fun z=>nomatch z) h
end
structure ig (k:Nat) (A:Around):Prop where
  hd:A.handled=none
  dp:A.depth+3 * k+5<recursionLimit
  un:A.units+16 * k+200<cLine
  gd:A.guards=some []
theorem ig.mono {j k:Nat} {A:Around} (r:ig k A) (h:j≤k):ig j A:=⟨r.hd,by have:=r.dp;omega,by have:=r.un;omega,r.gd⟩
theorem ig.d {j k:Nat} {A:Around} (r:ig k A) (h:j≤k:=by decide):ig j A:=r.mono h
theorem ig.deeper {k:Nat} {A:Around} (r:ig (k+1) A) (env:Env):ig k (A.deeper env):=
  ⟨r.hd,by have:=r.dp;show A.depth+1+3 * k+5<_;omega,by have:=r.un;show A.units+3+16 * k+200<_;omega,r.gd⟩
theorem Gb {A:Around} {C:Addr} {us:List Value} {kw:List (Str×Value)}:(A.under (.builtin "type.__call__" ⟨.ref C::us,kw⟩)).depth=A.depth+1:=by
  first | rfl | simp[Around.under,Code.weight,Code.isCreation,Code.isGuard,Code.isCaller,Code.frames,Code.isFrame,guardIds]
theorem Gd {A:Around} {C:Addr} {us:List Value} {kw:List (Str×Value)}:(A.under (.builtin "type.__call__" ⟨.ref C::us,kw⟩)).units=A.units+1:=by
  first | rfl | simp[Around.under,Code.cUnits,Code.frames,Code.isFrame]
theorem Cr {A:Around} {C:Addr} {us:List Value} {kw:List (Str×Value)}:(A.under (.builtin "type.__call__" ⟨.ref C::us,kw⟩)).guards=A.guards:=by
  first | rfl | simp[Around.under,Code.isGuard,guardIds]
theorem ig.make {k:Nat} {A:Around} (r:ig (k+1) A) (C:Addr) (us:List Value) (kw:List (Str×Value)):ig k (A.under (.builtin "type.__call__" ⟨.ref C::us,kw⟩)):=
  ⟨r.hd,by have:=r.dp;rw[Gb];omega,by have:=r.un;rw[Gd];omega,by rw[Cr];exact r.gd⟩
theorem ig.depth {k:Nat} {A:Around} (r:ig k A):A.depth<recursionLimit:=by have:=r.dp;omega
theorem ig.units {k:Nat} {A:Around} (r:ig k A):A.units+64<cLine:=by have:=r.un;omega
def Mh:TA:=fun _ H Q=>Q [] H
def Ik (ta:TE) (tr:TA):TA:=fun σ H Q=>ta σ H fun x H1=>tr σ H1 fun xs H2=>Q (x::xs) H2
section
variable {X:Cx} {e:Expr} {es:List Expr} {te:TE} {t:TA} {pos:Pos}
theorem ao:PA X [] Mh:=fun _ _ _ _ H Q I h=>Calls.spliced_nil ⟨[],H,I,.nil,h⟩
theorem aj (ha:PE X e te) (hr:PA X es t) (hs:starEach (e::es) X.env=(false,eval e X.env)::starEach es X.env:=by rfl):PA X (e::es) (Ik te t):=by
  intro pos p_ s σ H Q I h;rw[hs];show wpAny _ _ (spliced ((false,eval e X.env)::backTo pos (starEach es X.env))) _ _ s;refine Calls.spliced_cons (bN (ha p_ s σ H _ I h) fun u s1 zz=>?_);obtain⟨x,H1,I1,r1,q1⟩:=zz;refine bN (hr pos p_ s1 σ H1 _ I1 q1) fun us s2 zz=>?_;obtain⟨xs,H2,I2,r2,q2⟩:=zz;exact⟨x::xs,H2,I2,.cons r1 r2,q2⟩
def Zh (t:TA):TE:=fun σ H Q=>t σ H fun xs H1=>xs.length≤sizeLine∧∀p,H1 p=none→Q (.ref p) (upd H1 p (.tup xs))
def Zi (t:TA):TE:=fun σ H Q=>t σ H fun xs H1=>xs.length≤sizeLine∧∀p,H1 p=none→Q (.ref p) (upd H1 p (.lst xs))
theorem lR {x1} (h:PA X es t):PE X (.Tuple es x1 pos) (Zh t):=by
  intro p_ s σ H Q I hq;refine wpAny_Tuple_spliced (bN (h pos p_ s σ H _ I hq) fun us s1 zz=>?_);obtain⟨xs,H1,I1,r,z,q⟩:=zz;refine⟨by rw[← r.length];exact z,?_⟩;have hf:H1 s1.heap.objs.size=none:=I1.hok.fresh (Nat.le_refl _);refine⟨.ref s1.heap.objs.size,upd H1 s1.heap.objs.size (.tup xs),I1.laid (t':=s1.toks) (fun b u e=>Heap.get?_push_of_some _ e) (Nat.le_refl _) ?_,rfl,q _ hf⟩;exact⟨z,us,r,⟨_,Heap.get?_push_size _ rfl,rfl,_,rfl⟩⟩
theorem bW (h:PA X es t):PE X (.List es pos) (Zi t):=by
  intro p_ s σ H Q I hq;refine wpAny_List_spliced (bN (h pos p_ s σ H _ I hq) fun us s1 zz=>?_);obtain⟨xs,H1,I1,r,z,q⟩:=zz;refine⟨by rw[← r.length];exact z,?_⟩;have hf:H1 s1.heap.objs.size=none:=I1.hok.fresh (Nat.le_refl _);refine⟨.ref s1.heap.objs.size,upd H1 s1.heap.objs.size (.lst xs),I1.laid (t':=s1.toks) (fun b u e=>Heap.get?_push_of_some _ e) (Nat.le_refl _) ?_,rfl,q _ hf⟩;exact⟨z,us,0,r,Heap.get?_push_size _ rfl⟩
end
abbrev Sp:=List V→Hp→VK→XK→Prop
abbrev Qx:=List Env→Hp→Shared→XK→Value→Shared→Prop
structure Ge (P:Program) (w:World) (K:W.Frag) (mg:Str→Option Value) (base:Heap) (A:Around) (outer:List Env) (s:Shared) (H:Hp):Prop where
  frames:A.frames=some outer
  mod:Mod K mg base
  bs:∀b o,base.get? b=some o→s.heap.get? b=some o∧H b=none
  Qv:base.objs.size≤s.heap.objs.size
  tM:s.heap.FunFrames base outer
  T4:∀b∈frs outer,H b=none
  hok:qP P w H s.heap
  bare:AllBare s.gens
def CE (outer:List Env) (P:Program) (w:World) (H:Hp) (s:Shared) (Q:VK) (u:Value) (s':Shared):Prop:=
  ∃v H',s'.os=s.os∧AllBare s'.gens∧Un (frs outer) [] H H' s.heap s'.heap∧qP P w H' s'.heap∧RelV v u∧Q v H'
def CR (CX:Qx) (outer:List Env) (P:Program) (w:World) (H:Hp) (s:Shared) (Q:VK) (E:XK) (r:Result) (s':Shared):Prop:=
  match r with
  | .ok (.ret u)=>CE outer P w H s Q u s'
  | .ok _=>False
  | .error e=>CX outer H s E e s'
structure c7 (P:Program) (w:World) (K:W.Frag) (mg:Str→Option Value) (base:Heap) (CX:Qx) (k:Nat) (f:Addr) (fd:FuncData) (ps:List Str) (sp:Sp):Prop where
  len:∀vs H Q E,sp vs H Q E→vs.length=ps.length
  run:∀(A:Around) (outer:List Env) (s:Shared) (H:Hp) (args:Args) (us:List Value) (vs:List V) (Q:VK) (E:XK),ig k A→Ge P w K mg base A outer s H→BindsTo s fd args (ps.zip us)→Vals vs us→sp vs H Q E→
    codeAny (model P w) A (.call (.ref f) args) (CR CX outer P w H s Q E) s
theorem Ge.make {P:Program} {w:World} {K:W.Frag} {mg:Str→Option Value} {base:Heap} {A:Around} {outer:List Env} {s:Shared} {H:Hp} (e:Ge P w K mg base A outer s H) (C:Addr) (us:List Value) (kw:List (Str×Value)) :
    Ge P w K mg base (A.under (.builtin "type.__call__" ⟨.ref C::us,kw⟩)) outer s H:=⟨by first | exact e.frames | (simpa [Around.under,Code.envs,Code.isFrame,pushEnvs] using e.frames),e.mod,e.bs,e.Qv,e.tM,e.T4,e.hok,e.bare⟩
section
variable {X:Cx} {p_:List (Addr×Obj)} {σ:St} {H:Hp} {s s':Shared}
theorem Inv.env0 (I:Inv X p_ σ H s):Ge X.prog X.w X.K X.mg X.base X.A X.stack s H:=
  ⟨I.ok.frames,I.ok.mod,I.bs,Nat.le_trans I.ok.Qv I.sz,I.stack,I.HX,I.hok,I.bare⟩
theorem Inv.after {Q:VK} {u:Value} (I:Inv X p_ σ H s) (h:CE X.stack X.prog X.w H s Q u s'):EP X p_ σ Q u s':=by
  obtain⟨v,H',os,bare,un,hok,r,q⟩:=h;obtain⟨hh,g,d,t,os'⟩:=s';obtain rfl:os'=s.os:=os;exact⟨v,H',I.call (h':=hh) (g':=g) (d':=d) (t':=t) (ch:=[]) un hok bare (fun b z=>absurd z (by simp)),r,q⟩
end
def Mi (sp:Sp) (tK:List V) (E:XK) (t:TA):TE:=fun σ H Q=>t σ H fun vs H1=>sp (vs++tK) H1 Q E
def Mj (C:Addr) (m:Str) (sp:Sp) (tK:List V) (E:XK) (ta:TE) (t:TA):TE:=fun σ H Q=>ta σ H fun x H1=>∃a dx fs,x = .ref a∧H1 a=some (.ins C dx fs)∧fs.lookup m=none∧
  t σ H1 fun vs H2=>sp (x::(vs++tK)) H2 Q E
def Ml (C:Addr) (sp:Sp) (tK:List V) (E:XK) (t:TA):TE:=fun σ H Q=>t σ H fun vs H1=>∀x dx,H1 x=none→H1 dx=none→dx≠x→
  sp (.ref x::(vs++tK)) (upd (upd H1 dx (.own x)) x (.ins C dx [])) (fun v H2=>v = .non∧Q (.ref x) H2) E
def Binds (K:W.Frag) (fd:FuncData) (ps:List Str) (ds:List Value):Prop:=
  ∀(s:Shared) (us:List Value),K.In s.heap→(us++ds).length=ps.length→BindsTo s fd ⟨us,[]⟩ (ps.zip (us++ds))
theorem Binds.all {K:W.Frag} {fd:FuncData} {ps:List Str} (h:∀us:List Value,us.length=ps.length→bindArgs fd ⟨us,[]⟩=pure (ps.zip us)):Binds K fd ps []:=fun s us _ hl=>by
  rw[List.append_nil] at hl ⊢;exact .of_eq (h us hl)
def Passes (CX:Qx) (X:Cx) (E:XK):Prop:=∀(p_:List (Addr×Obj)) (σ:St) (H:Hp) (s:Shared) (e:Value) (s':Shared),Inv X p_ σ H s→CX X.stack H s E e s'→X.xe e s'
section
variable {X:Cx} {CX:Qx} {k:Nat} {f C:Addr} {fd:FuncData} {ps:List Str} {sp:Sp} {tK:List V} {ds:List Value} {E:XK} {x m:Str} {p pos apos:Pos} {e o:Expr} {es:List Expr} {ta:TE} {t:TA}
theorem Mp {p_:List (Addr×Obj)} {σ:St} {H:Hp} {s:Shared} {Q:VK} {us:List Value} {vs:List V} (F:c7 X.prog X.w X.K X.mg X.base CX k f fd ps sp) (hr:ig k X.A) (hb:Binds X.K fd ps ds) (hd:Vals tK ds) (hx:Passes CX X E)
    (I:Inv X p_ σ H s) (r:Vals vs us) (h:sp (vs++tK) H Q E):wpAny (model X.prog X.w) X.A (call (.ref f) us) (EP X p_ σ Q) X.xe s:=by
  have r2:Vals (vs++tK) (us++ds):=r.append hd;have hl:(us++ds).length=ps.length:=by rw[← r2.length];exact F.len _ _ _ _ h
  refine wpAny_call (codeAny_mono (F.run X.A X.stack s H ⟨us,[]⟩ (us++ds) (vs++tK) Q E hr I.env0 (hb s us I.u_ hl) r2 h) fun r s' hq=>?_);cases r with
  | error e=>exact hx p_ σ H s e s' I hq
  | ok fl=>
    cases fl with
    | ret u=>exact I.after hq
    | next=>exact False.elim hq
    | brk=>exact False.elim hq
    | cont=>exact False.elim hq
theorem aN (F:c7 X.prog X.w X.K X.mg X.base CX k f fd ps sp) (hr:ig k X.A) (hg:Gl X x) (hm:X.mg x=some (.ref f)) (hk:W.keepIn X.K (.ref f)=true) (hb:Binds X.K fd ps ds) (hd:Vals tK ds) (hx:Passes CX X E)
    (ha:PA X (e::es) t) (hdb:(x == ("__debug__" : Str))=false:=by decide) (he:starEach (e::es) X.env=(false,eval e X.env)::starEach es X.env:=by rfl) (hpl:(backTo pos (starEach es X.env)).any (·.1)=false:=by rfl) :
    PE X (.Call (.Name x p) (e::es) [] pos) (Mi sp tK E t):=by
  intro p_ s σ H Q I h;refine wpAny_Call_Name_kw (zY I hg hm ?_ hdb);refine W.callWith_K (h₀:=X.base) I.ok.mod.kin hk (bN (ha pos p_ s σ H _ I h) fun us s1 zz=>?_) he hpl;obtain⟨vs,H1,I1,r,q⟩:=zz;refine⟨I1.u_,?_⟩;exact Mp F hr hb hd hx I1 r q
theorem fX {pl:Sem Bool} (he:PE X o ta) (c:Cls X.K C) (hm:Meth X.K C m f) (F:c7 X.prog X.w X.K X.mg X.base CX k f fd ps sp) (hr:ig k X.A) (hb:Binds X.K fd ps ds) (hd:Vals tK ds) (hx:Passes CX X E)
    (ht:eval (.Call (.Attribute o m apos) [] [] pos) X.env=(do
      let ov ← eval o X.env
      standAt apos.atName
      let (f,first) ← holding [ov] (getMethod ov m pl)
      callWith pos f first (backTo pos (starEach [] X.env)) (backToKw pos (keywordEach [] X.env))):=by rfl) :
    PE X (.Call (.Attribute o m apos) [] [] pos) (Mj C m sp tK E ta Mh):=by
  intro p_ s σ H Q I h;refine W.methodCall_KW (pl:=pl) (bN (he p_ s σ H _ I h) fun u s1 zz=>?_) ht;obtain⟨x,H1,I1,rx,a,dx,fs,ex,ea,l,q⟩:=zz;subst ex;obtain rfl:u=Value.ref a:=rx;refine FZ I1 ea c hm l ?_;exact W.callWith_K0 (first:=[.ref a]) I1.u_ hm.kp (Mp (us:=[.ref a]) (vs:=[.ref a]) F hr hb hd hx I1 (.cons rfl .nil) q)
structure Mk (K:W.Frag) (C f:Addr):Prop where
  makes:W.makesIn K C=true
  init:W.findIn K (.ref C) "__init__" = some (some (.ref f))
  fn:W.isFn K (.ref f)=true
  kp:W.keepIn K (.ref C)=true
theorem Mq {p_:List (Addr×Obj)} {σ:St} {H:Hp} {s:Shared} {Q:VK} {us:List Value} {vs:List V} (M:Mk X.K C f) (F:c7 X.prog X.w X.K X.mg X.base CX k f fd ps sp) (hr:ig (k+1) X.A) (hb:Binds X.K fd ps ds) (hd:Vals tK ds)
    (hx:Passes CX X E) (I:Inv X p_ σ H s) (r:Vals vs us)
    (h:∀x dx,H x=none→H dx=none→dx≠x→sp (.ref x::(vs++tK)) (upd (upd H dx (.own x)) x (.ins C dx [])) (fun v H2=>v = .non∧Q (.ref x) H2) E) :
    wpAny (model X.prog X.w) X.A (call (.ref C) us) (EP X p_ σ Q) X.xe s:=by
  have hq:=h (s.heap.objs.size+1) s.heap.objs.size (I.hok.fresh (Nat.le_succ _)) (I.hok.fresh (Nat.le_refl _)) (Nat.ne_of_lt (Nat.lt_succ_self _));have I2:=Inv.made (C:=C) I;have r2:Vals (V.ref (s.heap.objs.size+1)::(vs++tK)) (Value.ref (s.heap.objs.size+1)::(us++ds)):=.cons rfl (r.append hd);have hl:(Value.ref (s.heap.objs.size+1)::us++ds).length=ps.length:=by
    have e:=r2.length;rw[F.len _ _ _ _ hq] at e;exact e.symm
  refine wpAny_call (Mg (f:=f) I.u_ M.makes M.init (beq_iff_eq.mp M.fn) (codeAny_mono (F.run _ X.stack _ _ ⟨Value.ref (s.heap.objs.size+1)::us,[]⟩ (Value.ref (s.heap.objs.size+1)::(us++ds)) _ _ E (hr.make C us [])
    (I2.env0.make C us []) (hb _ (Value.ref (s.heap.objs.size+1)::us) I2.u_ hl) r2 hq) fun r s' hq'=>?_))
  cases r with
  | error e=>exact hx p_ σ _ _ e s' I2 hq'
  | ok fl=>
    cases fl with
    | ret u=>
      obtain⟨v,H',I3,rv,ev,q3⟩:=I2.after hq';subst ev;exact⟨rv,⟨V.ref (s.heap.objs.size+1),H',I3,rfl,q3⟩⟩
    | next=>exact False.elim hq'
    | brk=>exact False.elim hq'
    | cont=>exact False.elim hq'
theorem vo (M:Mk X.K C f) (F:c7 X.prog X.w X.K X.mg X.base CX k f fd ps sp) (hr:ig (k+1) X.A) (hg:Gl X x) (hm:X.mg x=some (.ref C)) (hb:Binds X.K fd ps ds) (hd:Vals tK ds) (hx:Passes CX X E)
    (ha:PA X (e::es) t) (hdb:(x == ("__debug__" : Str))=false:=by decide) (he:starEach (e::es) X.env=(false,eval e X.env)::starEach es X.env:=by rfl) (hpl:(backTo pos (starEach es X.env)).any (·.1)=false:=by rfl) :
    PE X (.Call (.Name x p) (e::es) [] pos) (Ml C sp tK E t):=by
  intro p_ s σ H Q I h;refine wpAny_Call_Name_kw (zY I hg hm ?_ hdb);refine W.callWith_K (h₀:=X.base) I.ok.mod.kin M.kp (bN (ha pos p_ s σ H _ I h) fun us s1 zz=>?_) he hpl;obtain⟨vs,H1,I1,r,q⟩:=zz;refine⟨I1.u_,?_⟩;exact Mq M F hr hb hd hx I1 r q
end
structure aV (N P:List Str) (sc:Scope):Prop where
  kind:sc.kind = .function
  co:sc.isCoroutine=false
  gen:sc.isGenerator=false
  nd:N.Nodup
  pre:N.take P.length=P
  par:∀x∈P,sc.names.lookup x=some .local∨sc.names.lookup x=some .cell
  V1:∀y∈sc.names,y.2≠.free
theorem yV {kindOf:Str→Option NameKind} {x:Str}:∀{binds:List (Str×Value)} {m:Str→Option Value},(∀v,(x,v)∉binds)→bindL kindOf binds m x=m x
  | [],_,_=>rfl
  | (n,v)::r,m,h=>by
    unfold bindL;rw[yV fun w hw=>h w (List.mem_cons_of_mem _ hw)];split
    · have:x≠n:=by rintro rfl;exact h v List.mem_cons_self
      simp[this]
    ·rfl
theorem yW {kindOf:Str→Option NameKind} {x:Str}:∀{binds:List (Str×Value)} {m:Str→Option Value},(∀v,(x,v)∉binds)→bindC kindOf binds m x=m x
  | [],_,_=>rfl
  | (n,v)::r,m,h=>by
    unfold bindC;rw[yW fun w hw=>h w (List.mem_cons_of_mem _ hw)];split
    ·rfl
    · have:x≠n:=by rintro rfl;exact h v List.mem_cons_self
      simp[this]
theorem yX {kindOf:Str→Option NameKind} {x:Str} {v:Value}:∀{P:List Str} {vs:List Value} {i:Nat} {m:Str→Option Value},P.Nodup→P[i]? = some x→vs[i]? = some v→kindOf x=some .local→
    bindL kindOf (P.zip vs) m x=some v
  | [],_,_,_,_,h,_,_=>by simp at h
  | _::_,[],_,_,_,_,h,_=>by simp at h
  | p::P,w::vs,0,m,nd,h1,h2,hk=>by
    simp at h1 h2;subst h1;subst h2;show bindL kindOf ((p,w)::P.zip vs) m p=_;unfold bindL;rw[yV fun v hv=>(List.nodup_cons.mp nd).1 (List.of_mem_zip hv).1,if_pos hk];simp
  | p::P,w::vs,i+1,m,nd,h1,h2,hk=>by
    show bindL kindOf ((p,w)::P.zip vs) m x=_;unfold bindL;exact yX (i:=i) (List.nodup_cons.mp nd).2 (by simpa using h1) (by simpa using h2) hk
theorem yZ {kindOf:Str→Option NameKind} {x:Str} {v:Value}:∀{P:List Str} {vs:List Value} {i:Nat} {m:Str→Option Value},P.Nodup→P[i]? = some x→vs[i]? = some v→kindOf x≠some .local→
    bindC kindOf (P.zip vs) m x=some v
  | [],_,_,_,_,h,_,_=>by simp at h
  | _::_,[],_,_,_,_,h,_=>by simp at h
  | p::P,w::vs,0,m,nd,h1,h2,hk=>by
    simp at h1 h2;subst h1;subst h2;show bindC kindOf ((p,w)::P.zip vs) m p=_;unfold bindC;rw[yW fun v hv=>(List.nodup_cons.mp nd).1 (List.of_mem_zip hv).1,if_neg hk];simp
  | p::P,w::vs,i+1,m,nd,h1,h2,hk=>by
    show bindC kindOf ((p,w)::P.zip vs) m x=_;unfold bindC;exact yZ (i:=i) (List.nodup_cons.mp nd).2 (by simpa using h1) (by simpa using h2) hk
def start (N:List Str) (vs:List V):St:=vs.map some++List.replicate (N.length - vs.length) none
def au (CX:Qx) (P:Program) (w:World) (K:W.Frag) (mg:Str→Option Value) (base:Heap) (N:List Str) (qual:Str) (scope:Scope) (f:Addr) (cd:Value) (A:Around) (outer:List Env) (s:Shared) (H:Hp) (E:XK):Cx where
  prog:=P
  w:=w
  K:=K
  mg:=mg
  base:=base
  A:=A.deeper (envOfC qual scope s.heap.objs.size f cd)
  N:=N
  s₀:=s
  H₀:=H
  env:=envOfC qual scope s.heap.objs.size f cd
  outer:=outer
  stack:=envOfC qual scope s.heap.objs.size f cd::outer
  ex:=[]
  calm:=true
  fn:=fun _=>true
  pn:=[]
  xe:=fun e s'=>wpAny (model P w) (A.deeper (envOfC qual scope s.heap.objs.size f cd)) (leaving (envOfC qual scope s.heap.objs.size f cd) e) (fun _ s''=>CX outer H s E e s'') (fun e' s''=>CX outer H s E e' s'') s'
theorem Cu {sc:Scope} {n:Nat} {x:Str} (h:sc.names.lookup x=some .cell):∃c,(cellsFrom n sc.names []).lookup x=some c:=by
  have q:=W.cellsFrom_some sc.names n [] (.inl h);exact Option.isSome_iff_exists.mp q
theorem JH {CX:Qx} {P:Program} {w:World} {K:W.Frag} {mg:Str→Option Value} {base:Heap} {N ps:List Str} {qual:Str} {scope:Scope} {f:Addr} {cd:Value} {A:Around} {outer:List Env} {s s1:Shared} {H:Hp} {E:XK} {us:List Value} {vs:List V}
    (S:aV N ps scope) (hd:A.handled=none) (e0:Ge P w K mg base A outer s H) (hl:vs.length=ps.length) (r:Vals vs us)
    (x:InCallC s s.heap.objs.size (bindL (envOfC qual scope s.heap.objs.size f cd).kindOf (ps.zip us) fun _=>none) (cellsFrom (s.heap.objs.size+1) scope.names []) (bindC (envOfC qual scope s.heap.objs.size f cd).kindOf (ps.zip us) fun _=>none) s1) :
    Inv (au CX P w K mg base N qual scope f cd A outer s H E) [] (start N vs) H s1:=by
  have hpl:ps.length≤N.length:=by have:=congrArg List.length S.pre;rw[List.length_take] at this;omega
  obtain⟨h1,tk,rfl,hk⟩:=x.done;have Zj:∀b:Addr,b∉(au CX P w K mg base N qual scope f cd A outer s H E).ex:=fun b z=>absurd (show b∈([]:List Addr) from z) (by simp);refine⟨⟨e0.mod,S.kind,rfl,rfl,Nat.le_refl _,fun y z c h1 h2=>?_,fun y hy=>?_,fun y c _ h=>?_,fun _=>hd,Around.frames_deeper e0.frames,.inr ⟨rfl,rfl⟩,fun b z=>absurd z (Zj b),e0.bs,e0.Qv,fun b _ _=>Zj b,fun b z=>absurd z (Zj b),e0.tM,e0.T4⟩,
    rfl,e0.bare,Un.kept hk,⟨_,x.toInCall.ns,fun i y v h1 h2 h3=>?_⟩,fun y c h=>⟨_,x.cell y c h⟩,e0.hok.fresh (Nat.le_refl _),fun y c h=>?_,fun p hp=>absurd (show p∈([]:List (Addr×Obj)) from hp) (by simp),e0.hok.kept hk,?_⟩
  ·exact name_of_addr x.apart (PySem.mem_of_lookup h1) (PySem.mem_of_lookup h2)
  · have hy:scope.names.lookup y=some .cell∨scope.names.lookup y=some .free:=hy
    rcases hy with hy | hy
    ·exact Cu hy
    ·exact absurd rfl (S.V1 _ (PySem.mem_of_lookup hy))
  ·exact Nat.le_of_lt (x.above y c (PySem.mem_of_lookup h))
  · have hi:i<vs.length:=by
      unfold start at h2
      by_cases hi:i<vs.length
      ·exact hi
      ·rw[List.getElem?_append_right (by simpa using hi)] at h2;rw[List.getElem?_replicate] at h2;split at h2 <;> cases h2
    have ha:vs[i]? = some v:=by
      unfold start at h2;rw[List.getElem?_append_left (by simpa using hi),List.getElem?_map] at h2;cases e:vs[i]? with
      | none=>rw[e] at h2;cases h2
      | some a=>rw[e] at h2;cases h2;rfl
    obtain⟨u,hu,rv⟩:=r.get ha;have hp:ps[i]? = some y:=by
      rw[← S.pre,List.getElem?_take_of_lt (by omega)];exact h1
    have ndP:ps.Nodup:=by rw[← S.pre];exact S.nd.sublist (List.take_sublist _ _)
    refine⟨u,rv,?_⟩
    rcases S.par y (List.mem_of_getElem? hp) with k | k
    ·exact .inl ⟨k,yX ndP hp hu k⟩
    ·obtain⟨c,e⟩:=Cu (n:=s.heap.objs.size+1) k;refine .inr ⟨.inl k,c,e,?_⟩;have q:=x.cell y c e;rw[yZ ndP hp hu (by show scope.names.lookup y≠_;rw[k];decide)] at q;exact q
  ·exact e0.hok.fresh (Nat.le_of_lt (x.above y c (PySem.mem_of_lookup h)))
  ·unfold start;show _=N.length;rw[List.length_append,List.length_map,List.length_replicate];omega
theorem Zk {CX:Qx} {P:Program} {w:World} {K:W.Frag} {mg:Str→Option Value} {base:Heap} {k:Nat} {f:Addr} {name qual:Str} {params:Arguments} {body:List Stmt} {scope:Scope} {dV kV doc pm cdv ct oc:Value} {an od:Option Addr}
    {osl:Array (Option Value)} {N ps:List Str} {sp:Sp} (lk:K.lookup f=some ⟨oc,od,.func (W.fnOf name qual params body scope dV kV doc pm an cdv ct),osl⟩) (hcd:W.codeIn K cdv qual=true) (S:aV N ps scope)
    (len:∀vs H Q E,sp vs H Q E→vs.length=ps.length)
    (hbody:∀(A:Around) (outer:List Env) (s:Shared) (H:Hp) (vs:List V) (Q:VK) (E:XK),ig k (A.deeper (envOfC qual scope s.heap.objs.size f cdv))→sp vs H Q E→
      ∃t,Ia (au CX P w K mg base N qual scope f cdv A outer s H E) body t∧t {nx:=fun _ H'=>Q .non H',rt:=Q} (start N vs) H) :
    c7 P w K mg base CX (k+1) f (W.fnOf name qual params body scope dV kV doc pm an cdv ct) ps sp:=by
  refine⟨len,fun A outer s H args us vs Q E hr e0 hb r hsp=>?_⟩;have hl:=len _ _ _ _ hsp;have KX:K.In s.heap:=e0.mod.kin.keeps fun b o e=>(e0.bs b o e).1;have lim:s.heap.NoLimit:=e0.mod.nolimit.keeps fun b o e=>(e0.bs b o e).1;have hkind:∀y∈ps.zip us,scope.names.lookup y.1=some .local∨(scope.names.lookup y.1=some .cell∧((cellsFrom (s.heap.objs.size+1) scope.names []).lookup y.1).isSome=true):=fun⟨n,v⟩ hy=>by
    rcases S.par n (List.of_mem_zip hy).1 with q | q
    ·exact .inl q
    ·exact .inr ⟨q,W.cellsFrom_some _ _ _ (.inl q)⟩
  refine codeAny_call_function hr.depth (KX _ _ lk) rfl S.co S.gen rfl (W.codeRec_of KX hcd) (hb _ _ _ _ ?_);refine wpAny_newFunctionEnv_cells S.kind hkind fun env he s1 x=>?_;subst he;refine⟨lim.keeps x.toInCall.keep,codeAny_func ?_⟩;obtain⟨t,ht,hq⟩:=hbody A outer s H vs Q E (hr.deeper _) hsp;have I:Inv (au CX P w K mg base N qual scope f cdv A outer s H E) [] (start N vs) H s1:=JH S hr.hd e0 hl r x;refine wpAny_mono (ht [] s1 (start N vs) H _ I hq) (fun fl s' hs=>?_) fun e s' hs=>hs;have fin:∀{σ':St} {H':Hp} {v:V} {u:Value},Inv (au CX P w K mg base N qual scope f cdv A outer s H E) [] σ' H' s'→RelV v u→Q v H'→CE outer P w H s Q u s':=
    fun {σ' H' v u} J rv q=>⟨v,H',J.os,J.bare,J.base,J.hok,rv,q⟩
  cases fl with
  | ret u=>
    obtain⟨v,σ',H',J,rv,q⟩:=hs;exact fin J rv q
  | next=>
    obtain⟨σ',H',J,q⟩:=hs;exact fin (v:=V.non) (u:=Value.none) J rfl q
  | brk=>
    obtain⟨_,_,_,q⟩:=hs;exact False.elim q
  | cont=>
    obtain⟨_,_,_,q⟩:=hs;exact False.elim q
section
variable {X:Cx} {x:Str} {p pos:Pos} {e:Expr} {es:List Expr} {t:TA} {id T:String} {r:List V→Hp→VK→Prop}
def Zm (r:List V→Hp→VK→Prop) (t:TA):TE:=fun σ H Q=>t σ H fun vs H1=>r vs H1 Q
theorem aL (hc:bQ X (.builtin id) r) (hg:Gl X x) (hm:X.mg x=none) (hv:bootBuiltins x=some (.builtin id)) (ha:PA X (e::es) t) (hn:x≠ "__name__" :=by decide) (hdb:(x == ("__debug__" : Str))=false:=by decide)
    (he:starEach (e::es) X.env=(false,eval e X.env)::starEach es X.env:=by rfl) (hpl:(backTo pos (starEach es X.env)).any (·.1)=false:=by rfl):PE X (.Call (.Name x p) (e::es) [] pos) (Zm r t):=by
  intro p_ s σ H Q I h;refine wpAny_Call_Name_kw (mZ I hg hm hv ?_ hn hdb);refine PyProof.Rows.callWith_builtin1 (bN (ha pos p_ s σ H _ I h) fun us s1 zz=>?_) he hpl;obtain⟨vs,H1,I1,r1,q1⟩:=zz;exact hc p_ s1 σ H1 vs us Q I1 r1 q1
theorem cX (hc:bQ X (.type T) r) (hg:Gl X x) (hm:X.mg x=none) (hv:bootBuiltins x=some (.type T)) (ha:PA X (e::es) t) (hn:x≠ "__name__" :=by decide) (hdb:(x == ("__debug__" : Str))=false:=by decide)
    (he:starEach (e::es) X.env=(false,eval e X.env)::starEach es X.env:=by rfl) (hpl:(backTo pos (starEach es X.env)).any (·.1)=false:=by rfl):PE X (.Call (.Name x p) (e::es) [] pos) (Zm r t):=by
  intro p_ s σ H Q I h;refine wpAny_Call_Name_kw (mZ I hg hm hv ?_ hn hdb);refine PyProof.Rows.callWith_type1 (bN (ha pos p_ s σ H _ I h) fun us s1 zz=>?_) he hpl;obtain⟨vs,H1,I1,r1,q1⟩:=zz;exact hc p_ s1 σ H1 vs us Q I1 r1 q1
end
end L2
namespace HT
open PySem PyProof.Rows
section
variable {prog:Program} {w:World} {A:Around} {E:Value→Shared→Prop} {s:Shared}
def vX (n d:Nat):Option Int→Nat
  | none=>d
  | some v=>if v<0 then (v+(n:Int)).toNat else min v.toNat n
end
end HT
namespace L2
open PySem PySem.Spec PyProof.Rows
abbrev TO:=St→Hp→(Option Int→Hp→Prop)→Prop
def PO (X:Cx) (e:Option Expr) (t:TO):Prop:=
  ∀(p_:List (Addr×Obj)) (s:Shared) (σ:St) (H:Hp) (Q:Option Int→Hp→Prop),Inv X p_ σ H s→t σ H Q→
    wpAny (model X.prog X.w) X.A (evalPart e X.env) (fun u s'=>∃o H',Inv X p_ σ H' s'∧IsPart u o∧Q o H') X.xe s
def Il:TO:=fun _ H Q=>Q none H
def Mr (t:TE):TO:=fun σ H Q=>t σ H fun x H1=>∃i,x = .int i∧Q (some i) H1
section
variable {X:Cx} {e:Expr} {te:TE} {lo hi:Option Expr} {tl th:TO} {pos p2:Pos}
theorem Q_:PO X none Il:=by
  intro p_ s σ H Q I h;rw[evalPart_none];exact wpAny_pure ⟨none,H,I,.none,h⟩
theorem z8 (h:PE X e te):PO X (some e) (Mr te):=by
  intro p_ s σ H Q I hw;rw[evalPart_some];refine bN (h p_ s σ H _ I hw) fun u s1 zz=>?_;obtain⟨x,H1,I1,r1,q1⟩:=zz;obtain⟨i,rfl,q⟩:=q1;obtain⟨t,rfl⟩:=r1;exact⟨some i,H1,I1,.int i t,q⟩
def V2 (X:Cx) (r:V→Option Int→Option Int→Hp→VK→Prop):Prop:=
  ∀(p_:List (Addr×Obj)) (s:Shared) (σ:St) (H:Hp) (x:V) (v vl vu:Value) (lo hi:Option Int) (sl:Addr) (Q:VK),Inv X p_ σ H s→RelV x v→s.heap.IsSliceOf sl vl vu .none→IsPart vl lo→IsPart vu hi→r x lo hi H Q→
    ∃T id,typeLookup (.type T) "__getitem__" = pure (some (.builtin id))∧s.TypeIs v T∧wpAny (model X.prog X.w) X.A (getItem v (.ref sl)) (EP X p_ σ Q) X.xe s
def tSl (r:V→Option Int→Option Int→Hp→VK→Prop) (te:TE) (tl th:TO):TE:=fun σ H Q=>te σ H fun x H1=>tl σ H1 fun l H2=>th σ H2 fun u H3=>r x l u H3 Q
theorem Cv {r:V→Option Int→Option Int→Hp→VK→Prop} (hr:V2 X r) (he:PE X e te) (hl:PO X lo tl) (hu:PO X hi th):PE X (.Subscript e (.Slice lo hi none p2) pos) (tSl r te tl th):=by
  intro p_ s σ H Q I h;refine Subscript_ (bN (he p_ s σ H _ I h) fun v s1 zz=>?_);obtain⟨x,H1,I1,r1,q1⟩:=zz;refine wpAny_Slice (bN (hl p_ s1 σ H1 _ I1 q1) fun vl s2 ⟨l,H2,I2,pl,q2⟩=>bN (hu p_ s2 σ H2 _ I2 q2) fun vu s3 ⟨u,H3,I3,pu,q3⟩=>?_);rw[evalPart_none];refine wpAny_pure ?_;have I4:Inv X p_ σ H3 {s3 with heap:=s3.heap.push {cls:=.type "slice",data:=.fields #[vl,vu,.none]}}:=I3.kept (t':=s3.toks) fun b ob q=>Heap.get?_push_of_some _ q;obtain⟨T,id,hT,ht,hg⟩:=hr p_ {s3 with heap:=s3.heap.push {cls:=.type "slice",data:=.fields #[vl,vu,.none]}} σ H3 x v vl vu l u s3.heap.objs.size Q I4 r1 (Heap.IsSliceOf.new ..) pl pu q3;show wpAny (model X.prog X.w) X.A (subscriptTail e (.Slice lo hi none p2) v (.ref s3.heap.objs.size)) (EP X p_ σ Q) X.xe {s3 with heap:=s3.heap.push {cls:=.type "slice",data:=.fields #[vl,vu,.none]}};exact tail_any (ops:=[.ref s3.heap.objs.size,v]) ht hT hg (by with_unfolding_all rfl)
def vY (xs:List V) (lo hi:Option Int):List V:=(xs.drop (HT.vX xs.length 0 lo)).take (HT.vX xs.length xs.length hi - HT.vX xs.length 0 lo)
theorem Cw (xs:List V) (lo hi:Option Int):(vY xs lo hi).length≤xs.length:=by
  unfold vY;rw[List.length_take,List.length_drop];omega
end
def Qy (n:Nat) (i:Int):Option Nat:=if 0≤i then (if i<n then some i.toNat else none) else if -(n:Int)≤i then some (i+n).toNat else none
def yu {α:Type} (xs:List α) (i:Int):Option α:=(Qy xs.length i).bind fun j=>xs[j]?
theorem Im {n:Nat} {i:Int} {j:Nat} (h:Qy n i=some j):seqIndex? i n=some j∧j<n∧-(n:Int)≤i∧i<n:=by
  unfold Qy at h
  by_cases h0:0≤i
  · rw[if_pos h0] at h
    by_cases h1:i<n
    ·rw[if_pos h1] at h;have e:i.toNat=j:=Option.some.inj h;exact⟨by rw[seqIndex_of h0 h1,e],by omega,by omega,h1⟩
    ·rw[if_neg h1] at h;cases h
  · rw[if_neg h0] at h
    by_cases h1 : -(n:Int)≤i
    ·rw[if_pos h1] at h;have e:(i+n).toNat=j:=Option.some.inj h;exact⟨by rw[seqIndex_neg (by omega) h1,e],by omega,h1,by omega⟩
    ·rw[if_neg h1] at h;cases h
theorem z9 {α:Type} {xs:List α} {i:Int} {v:α} (h:yu xs i=some v):∃j,seqIndex? i xs.length=some j∧xs[j]? = some v∧j<xs.length∧-(xs.length:Int)≤i∧i<xs.length:=by
  unfold yu at h;cases e:Qy xs.length i with
  | none=>rw[e] at h;cases h
  | some j=>
    rw[e] at h;obtain⟨h1,h2,h3,h4⟩:=Im e;exact⟨j,h1,h,h2,h3,h4⟩
theorem bC {α:Type} {xs:List α} {j:Nat} {v:α} (h:xs[j]? = some v):yu xs (j:Int)=some v:=by
  have hj:j<xs.length:=(List.getElem?_eq_some_iff.mp h).1;have e:Qy xs.length (j:Int)=some j:=by
    unfold Qy;rw[if_pos (by omega),if_pos (by omega)];simp
  unfold yu;rw[e];exact h
def Ra (b:Expr):Prop:=∀o i,subscripted b false o i=operate [o,i] (getItem o i)
def Ms (X:Cx) (r:R2):Prop:=
  ∀(value slice:Expr) (p_:List (Addr×Obj)) (s:Shared) (σ:St) (H:Hp) (x y:V) (v u:Value) (Q:VK),Inv X p_ σ H s→RelV x v→RelV y u→r x y H Q→
    subscripted slice false v u=operate [v,u] (getItem v u)→wpAny (model X.prog X.w) X.A (subscriptTail value slice v u) (EP X p_ σ Q) X.xe s
def JK (X:Cx) (id:String) (r:V→List V→Hp→VK→Prop):Prop:=
  ∀(p_:List (Addr×Obj)) (s:Shared) (σ:St) (H:Hp) (x:V) (xs:List V) (v:Value) (us:List Value) (Q:VK),Inv X p_ σ H s→RelV x v→Vals xs us→r x xs H Q→
    wpAny (model X.prog X.w) X.A (call (.builtin id) (v::us)) (EP X p_ σ Q) X.xe s
section
variable {X:Cx} {a b:Expr} {ta tb:TE} {pos:Pos}
theorem cH {r:R2} (hr:Ms X r) (ha:PE X a ta) (hb:PE X b tb) (hs:Ra b):PE X (.Subscript a b pos) (T7 r ta tb):=by
  intro p_ s σ H Q I h;exact Subscript_ (Vw ha hb I h fun v u s2 x y H2 I2 rx ry q=>hr a b p_ s2 σ H2 x y v u Q I2 rx ry q (hs _ _))
def qck (K:W.Frag):R2:=fun x y H Q=>∃p xs i v,x = .ref p∧y = .int i∧aR K H p xs∧yu xs i=some v∧Q v H
def qcl (K:W.Frag):R2:=fun x y H Q=>∃p xs i v,x = .ref p∧y = .int i∧eO K H p xs∧yu xs i=some v∧Q v H
def Zn:R2:=fun x y H Q=>∃z i c,x = .str z∧y = .int i∧z.length≤sizeLine∧yu z.cps.toList i=some c∧Q (.str ⟨#[c]⟩) H
theorem Rb:Ms X (qck X.K):=by
  intro value slice p_ s σ H x y v u Q I rx ry h hs;obtain⟨p,xs,i,z,rfl,rfl,hq,he,q⟩:=h;cases rx;obtain⟨t,rfl⟩:=ry;obtain⟨its,r,pl,hz⟩:=I.list hq;obtain⟨j,h1,h2,h3,h4,h5⟩:=z9 he;obtain⟨w,ew,Mt⟩:=r.get h2;have hl:=r.length;have hn:=qQ;have fin:EP X p_ σ Q w s:=⟨z,H,I,Mt,q⟩
  by_cases h0:0≤i
  · have hj:i.toNat=j:=by
      rw[seqIndex_of h0 h5] at h1;exact Option.some.inj h1
    exact item_listR pl.isList h0 (by omega) (by rw[hj];simpa using ew) fin hs
  · have hj:(i+(its.toArray.size:Int)).toNat=j:=by
      rw[seqIndex_neg (by omega) h4] at h1;rw[List.size_toArray,← hl];exact Option.some.inj h1
    exact subscriptTail_builtinR (x:=w) pl.isList.typeIs slot_list_getitem.lookup
      (wpAny_getItem_list_neg (Q:=fun r s'=>r=w∧EP X p_ σ Q r s') pl.isList (by omega) (by rw[List.size_toArray] <;> omega) (by omega) (by rw[hj];simpa using ew) ⟨rfl,fin⟩) hs
theorem V3:Ms X (qcl X.K):=by
  intro value slice p_ s σ H x y v u Q I rx ry h hs;obtain⟨p,xs,i,z,rfl,rfl,hq,he,q⟩:=h;cases rx;obtain⟨t,rfl⟩:=ry;obtain⟨its,r,pl,hz⟩:=I.tuple hq;obtain⟨j,h1,h2,h3,h4,h5⟩:=z9 he;obtain⟨w,ew,Mt⟩:=r.get h2;have hl:=r.length;have hn:=qQ;have fin:EP X p_ σ Q w s:=⟨z,H,I,Mt,q⟩;exact subscriptTail_builtinR (x:=w) pl.typeIs slot_tuple_getitem.lookup
    (getItem_tuple (j:=j) (Q:=fun r s'=>r=w∧EP X p_ σ Q r s') pl (by omega) (by omega) (by rw[List.size_toArray,← hl];exact h1) (by simpa using ew) ⟨rfl,fin⟩) hs
theorem V5:Ms X Zn:=by
  intro value slice p_ s σ H x y v u Q I rx ry h hs;obtain⟨z,i,c,rfl,rfl,hz,he,q⟩:=h;obtain⟨t,rfl⟩:=rx;obtain⟨t',rfl⟩:=ry;obtain⟨j,h1,h2,h3,h4,h5⟩:=z9 he;have hl:z.cps.toList.length=z.length:=by simp[Str.length]
  rw[hl] at h1 h4 h5;have hn:=qQ;exact tail_any (typeIs_str s z t) slot_str_getitem.lookup (getItem_str (c:=c) (by
    have e1:decide (i < -(2 ^ 63:Int))=false:=decide_eq_false (by omega);have e2:decide (i≥2 ^ 63)=false:=decide_eq_false (by omega);rw[e1,e2,Bool.or_false]) (by rw[h1];simpa using h2) ⟨.str ⟨#[c]⟩,H,I.tok _,⟨_,rfl⟩,q⟩) hs
theorem Gf (its:List Value) (n j:Nat) (u:Value):Obj.mapSeq (·.setIfInBounds j u) {cls:=.type "list",data:=.seq its.toArray n}={cls:=.type "list",data:=.seq (its.set j u).toArray n}:=by
  simp[Obj.mapSeq]
theorem Inv.lst {p_:List (Addr×Obj)} {σ:St} {H:Hp} {s:Shared} {p:Addr} {xs:List V} (I:Inv X p_ σ H s) (h:H p=some (.lst xs)) :
    ∃(its:List Value) (n:Nat),Vals xs its∧s.heap.get? p=some {cls:=.type "list",data:=.seq its.toArray n}∧xs.length≤sizeLine:=by
  obtain⟨z,its,n,r,e⟩:=I.hok p _ h;exact⟨its,n,r,e,z⟩
theorem Inv.V7 {p_:List (Addr×Obj)} {σ:St} {H:Hp} {s:Shared} {p:Addr} {xs ys:List V} {its its':List Value} {n n':Nat} {f:Obj→Obj} (I:Inv X p_ σ H s) (h:H p=some (.lst xs))
    (ho:s.heap.get? p=some {cls:=.type "list",data:=.seq its.toArray n}) (hf:f {cls:=.type "list",data:=.seq its.toArray n}={cls:=.type "list",data:=.seq its'.toArray n'}) (r:Vals ys its') (hz:ys.length≤sizeLine) (t:Nat) :
    Inv X p_ σ (upd H p (.lst ys)) {s with heap:=s.heap.update p f,toks:=t}:=by
  have e:(s.heap.update p f).get? p=some {cls:=.type "list",data:=.seq its'.toArray n'}:=by
    rw[Heap.get?_update_self f ho (by rw[hf] <;> rfl),hf]
  refine I.write (x:=p) (e:=p) (by rw[h];trivial) (.inl rfl) (fun b u hb q=>(Heap.get?_update_other _ _ (Ne.symm hb)).trans q) ⟨_,e⟩ ?_;exact⟨hz,its',n',r,e⟩
def T8:V→V→V→Hp→(Hp→Prop)→Prop:=fun o i v H Q=>∃p xs k j,o = .ref p∧i = .int k∧H p=some (.lst xs)∧Qy xs.length k=some j∧Q (upd H p (.lst (xs.set j v)))
theorem set_list:Jt X T8:=by
  intro p_ s σ H o i v ov iv u Q I ro ri rv h;obtain⟨p,xs,k,j,rfl,rfl,hp,hj,q⟩:=h;cases ro;obtain⟨t,rfl⟩:=ri;obtain⟨its,n,r,ho,hz⟩:=I.lst hp;obtain⟨h1,h2,h3,h4⟩:=Im hj;have hl:=r.length;have hn:=qQ;have I':Inv X p_ σ (upd H p (.lst (xs.set j v))) {s with heap:=s.heap.update p (Obj.mapSeq (·.setIfInBounds j u))}:=
    I.V7 hp ho (Gf its n j u) (r.set rv j) (by rw[List.length_set];exact hz) s.toks
  by_cases h0:0≤k
  · have hk:k.toNat=j:=by
      rw[seqIndex_of h0 h4] at h1;exact Option.some.inj h1
    exact W.ki_setAt ho h0 (by omega) (by rw[List.size_toArray,← hl];exact h4) (by rw[hk];exact⟨_,I',q⟩)
  · have hk:(k+(its.toArray.size:Int)).toNat=j:=by
      rw[seqIndex_neg (by omega) h3] at h1;rw[List.size_toArray,← hl];exact Option.some.inj h1
    exact W.ki_setBack ho (by omega) (by rw[List.size_toArray,← hl];exact h3) (by omega) (by rw[hk];exact⟨_,I',q⟩)
theorem z_ (lo hi:Option Int) (n:Nat):(sliceBounds lo hi none n).1=((HT.vX n 0 lo:Nat):Int)∧(sliceBounds lo hi none n).2.1=((HT.vX n n hi:Nat):Int)∧(sliceBounds lo hi none n).2.2=1:=by
  refine⟨?_,?_,rfl⟩
  · cases lo with
    | none=>simp[sliceBounds,HT.vX]
    | some i=>
      simp only[sliceBounds,HT.vX,Option.getD_none,show(1:Int) > 0 by decide,if_true]
      by_cases h:i<0
      ·simp only[h,if_true] <;> omega
      ·simp only[h,if_false] <;> omega
  · cases hi with
    | none=>simp[sliceBounds,HT.vX]
    | some i=>
      simp only[sliceBounds,HT.vX,Option.getD_none,show(1:Int) > 0 by decide,if_true]
      by_cases h:i<0
      ·simp only[h,if_true] <;> omega
      ·simp only[h,if_false] <;> omega
theorem yx (its:List Value) (lo hi:Option Int):slicePick its.toArray lo hi none=((its.drop (HT.vX its.length 0 lo)).take (HT.vX its.length its.length hi - HT.vX its.length 0 lo)).toArray:=by
  obtain⟨h1,h2,h3⟩:=z_ lo hi its.toArray.size;unfold slicePick;rw[h1,h2,h3];simp only[sliceRange_one,pick_run,List.size_toArray] <;> rfl
def Rf (K:W.Frag):V→Option Int→Option Int→Hp→VK→Prop:=fun x lo hi H Q=>∃a xs,x = .ref a∧aR K H a xs∧∀p,H p=none→Q (.ref p) (upd H p (.lst (vY xs lo hi)))
theorem Rg:V2 X (Rf X.K):=by
  intro p_ s σ H x v vl vu lo hi sl Q I rx hs pl pu h;obtain⟨a,xs,rfl,hx,q⟩:=h;cases rx;obtain⟨its,r,ht,hz⟩:=I.list hx;have hlen:=r.length;refine⟨"list",_,slot_list_getitem.lookup,ht.isList.typeIs,?_⟩;refine wpAny_getItem_list_slice ht.isList hs pl pu .none (by simp) ?_ (by rw[List.size_toArray] <;> omega);rw[yx,← hlen];refine⟨.ref s.heap.objs.size,_,I.laid (t':=s.toks) (o:=.lst (vY xs lo hi)) (fun b ob q=>Heap.get?_push_of_some _ q) (Nat.le_refl _) ?_,rfl,q _ (I.hok.fresh (Nat.le_refl _))⟩;exact⟨Nat.le_trans (Cw xs lo hi) hz,_,0,(r.drop (HT.vX xs.length 0 lo)).take (HT.vX xs.length xs.length hi - HT.vX xs.length 0 lo),Heap.get?_push_size _ rfl⟩
def iy:V→Bool
  | .non=>true
  | .bl _=>true
  | .int _=>true
  | .str _=>true
  | _=>false
def Mu:V→V→Bool
  | .non,.non=>true
  | .bl a,.bl b=>a == b
  | .bl a,.int b=>(if a then 1 else 0) == b
  | .int a,.bl b=>a == (if b then 1 else 0)
  | .int a,.int b=>a == b
  | .str a,.str b=>a == b
  | _,_=>false
theorem V8 {A:Around} {s:Shared} {y x:V} {u v:Value} (ry:RelV y u) (rx:RelV x v) (fy:iy y=true) (fx:iy x=true):SeqAt.EqAt A s u v (Mu y x):=by
  cases y with
  | non=>
    cases ry;cases x with
    | non=>cases rx;exact SeqAt.EqAt.same _
    | bl b=>cases rx;exact SeqAt.EqAt.none_bool b
    | int b=>obtain⟨t,rfl⟩:=rx;exact SeqAt.EqAt.none_int b t
    | str b=>obtain⟨t,rfl⟩:=rx;exact SeqAt.EqAt.none_str b t
    | _=>exact absurd (show false=true from fx) Bool.false_ne_true
  | bl a=>
    cases ry;cases x with
    | non=>cases rx;exact SeqAt.EqAt.bool_none a
    | bl b=>cases rx;exact SeqAt.EqAt.bool_bool a b
    | int b=>obtain⟨t,rfl⟩:=rx;exact SeqAt.EqAt.bool_int a b t
    | str b=>obtain⟨t,rfl⟩:=rx;exact SeqAt.EqAt.bool_str a b t
    | _=>exact absurd (show false=true from fx) Bool.false_ne_true
  | int a=>
    obtain⟨t',rfl⟩:=ry;cases x with
    | non=>cases rx;exact SeqAt.EqAt.int_none a t'
    | bl b=>cases rx;exact SeqAt.EqAt.int_bool a t' b
    | int b=>obtain⟨t,rfl⟩:=rx;exact SeqAt.EqAt.int_int a t' b t
    | str b=>obtain⟨t,rfl⟩:=rx;exact SeqAt.EqAt.int_str a t' b t
    | _=>exact absurd (show false=true from fx) Bool.false_ne_true
  | str a=>
    obtain⟨t',rfl⟩:=ry;cases x with
    | non=>cases rx;exact SeqAt.EqAt.str_none a t'
    | bl b=>cases rx;exact SeqAt.EqAt.str_bool a t' b
    | int b=>obtain⟨t,rfl⟩:=rx;exact SeqAt.EqAt.str_int a t' b t
    | str b=>obtain⟨t,rfl⟩:=rx;exact SeqAt.EqAt.str_str a t' b t
    | _=>exact absurd (show false=true from fx) Bool.false_ne_true
  | _=>exact absurd (show false=true from fy) Bool.false_ne_true
def Gg (x:V) (u:Value):Bool:=match u with
  | .none=>Mu .non x
  | .bool b=>Mu (.bl b) x
  | .int i _=>Mu (.int i) x
  | .str z _=>Mu (.str z) x
  | _=>false
theorem Mv {x y:V} {u:Value} (r:RelV y u) (f:iy y=true):Gg x u=Mu y x:=by
  cases y with
  | non=>cases r;rfl
  | bl b=>cases r;rfl
  | int i=>obtain⟨t,rfl⟩:=r;rfl
  | str z=>obtain⟨t,rfl⟩:=r;rfl
  | _=>exact absurd (show false=true from f) Bool.false_ne_true
theorem rM {x:V}:∀{xs:List V} {us:List Value},Vals xs us→xs.all iy=true→us.any (Gg x)=xs.any fun y=>Mu y x
  | _,_,.nil,_=>rfl
  | y::xs,u::us,.cons r t,f=>by
    rw[List.all_cons,Bool.and_eq_true] at f;rw[List.any_cons,List.any_cons,Mv r f.1,rM t f.2]
theorem oU {A:Around} {s:Shared} {x:V} {v:Value} (rx:RelV x v) (fx:iy x=true):∀{xs:List V} {us:List Value},Vals xs us→xs.all iy=true→∀u∈us,SeqAt.EqAt A s u v (Gg x u)
  | _,_,.nil,_=>fun u hu=>by cases hu
  | y::xs,u::us,.cons r t,f=>fun u' hu=>by
    rw[List.all_cons,Bool.and_eq_true] at f
    rcases List.mem_cons.mp hu with rfl | hu
    ·rw[Mv r f.1];exact V8 r rx f.1 fx
    ·exact oU rx fx t f.2 u' hu
def inV (x:V) (xs:List V):Bool:=xs.any fun y=>Mu y x
def rIn (K:W.Frag) (neg:Bool):R2:=fun x y H Q=>∃p xs,y = .ref p∧(aR K H p xs∨eO K H p xs)∧iy x=true∧xs.all iy=true∧Q (.bl (if neg then !inV x xs else inV x xs)) H
theorem JL:fP X (compareOp .In) (rIn X.K false):=by
  intro p_ s σ H x y v u Q I rx ry h;obtain⟨p,xs,rfl,hq,fx,fs,q⟩:=h;cases ry
  rcases hq with hq | hq
  ·obtain⟨its,r,pl,hz⟩:=I.list hq;refine SeqAt.in_listAt (Gg x) pl.isList (fun w hw=>oU rx fx r fs w (by simpa using hw)) ⟨.bl _,H,I,rfl,?_⟩;rw[show its.toArray.any (Gg x)=its.any (Gg x) by simp,rM r fs];exact q
  ·obtain⟨its,r,pl,hz⟩:=I.tuple hq;refine SeqAt.in_tupleAt (Gg x) pl (fun w hw=>oU rx fx r fs w (by simpa using hw)) ⟨.bl _,H,I,rfl,?_⟩;rw[show its.toArray.any (Gg x)=its.any (Gg x) by simp,rM r fs];exact q
theorem Aa:fP X (compareOp .NotIn) (rIn X.K true):=by
  intro p_ s σ H x y v u Q I rx ry h;obtain⟨p,xs,rfl,hq,fx,fs,q⟩:=h;cases ry
  rcases hq with hq | hq
  ·obtain⟨its,r,pl,hz⟩:=I.list hq;refine SeqAt.notIn_listAt (Gg x) pl.isList (fun w hw=>oU rx fx r fs w (by simpa using hw)) ⟨.bl _,H,I,rfl,?_⟩;rw[show its.toArray.any (Gg x)=its.any (Gg x) by simp,rM r fs];exact q
  ·obtain⟨its,r,pl,hz⟩:=I.tuple hq;refine SeqAt.notIn_tupleAt (Gg x) pl (fun w hw=>oU rx fx r fs w (by simpa using hw)) ⟨.bl _,H,I,rfl,?_⟩;rw[show its.toArray.any (Gg x)=its.any (Gg x) by simp,rM r fs];exact q
theorem Ab:fP X (compareOp .NotIn) (fun x y H Q=>∃i j,x = .str i∧y = .str j∧Q (.bl (!(!(Builtin.Str.occurrences j i 0 j.length 1).isEmpty))) H):=by
  intro p_ s σ H x y v u Q I rx ry h;obtain⟨i,j,rfl,rfl,q⟩:=h;obtain⟨t,rfl⟩:=rx;obtain⟨t',rfl⟩:=ry;exact notIn_str ⟨.bl _,H,I,rfl,q⟩
theorem Ac:bQ X (.builtin "len") (fun xs H Q=>∃p ys,xs=[.ref p]∧(aR X.K H p ys∨eO X.K H p ys)∧Q (.int ys.length) H):=by
  intro p_ s σ H xs us Q I r h;obtain⟨p,ys,rfl,hq,q⟩:=h;obtain⟨u,rfl,rx⟩:=vals1 r;cases rx;have hn:=qQ
  rcases hq with hq | hq
  ·obtain⟨its,r',pl,hz⟩:=I.list hq;have hlen:=r'.length;exact Calls.call_len_list pl.isList (by simp only[List.size_toArray] <;> omega) ⟨.int ys.length,H,I.tok _,⟨s.toks+1,by rw[List.size_toArray,hlen]⟩,q⟩
  ·obtain⟨its,r',pl,hz⟩:=I.tuple hq;have hlen:=r'.length;exact len_tuple pl (by simp only[List.size_toArray] <;> omega) ⟨.int ys.length,H,I.tok _,⟨s.toks+1,by rw[List.size_toArray,hlen]⟩,q⟩
theorem Ad:bQ X (.builtin "len") (fun xs H Q=>∃z,xs=[.str z]∧z.length≤sizeLine∧Q (.int z.length) H):=by
  intro p_ s σ H xs us Q I r h;obtain⟨z,rfl,hz,q⟩:=h;obtain⟨u,rfl,t,rfl⟩:=vals1 r;have hn:=qQ;exact len_str (by omega) ⟨.int z.length,H,I.tok _,⟨_,rfl⟩,q⟩
theorem Ae:bQ X (.type "list") (fun xs H Q=>∃p ys,xs=[.ref p]∧(aR X.K H p ys∨eO X.K H p ys)∧∀l,H l=none→Q (.ref l) (upd H l (.lst ys))):=by
  intro p_ s σ H xs us Q I r h;obtain⟨p,ys,rfl,hq,q⟩:=h;obtain⟨u,rfl,rx⟩:=vals1 r;cases rx;have fin:∀(its:List Value),Vals ys its→ys.length≤sizeLine→∀(h':Heap) (c':Nat),(∀b o',s.heap.get? b=some o'→h'.get? b=some o')→
      h'.get? s.heap.objs.size=some {cls:=.type "list",dict:=none,data:=.seq its.toArray c',slots:=#[]}→EP X p_ σ Q (.ref s.heap.objs.size) {s with heap:=h'}:=fun its r' hz h' c' kp e=>
    ⟨.ref s.heap.objs.size,_,I.laid (t':=s.toks) kp (Nat.le_refl _) (show bZ X.prog X.w _ h' _ (.lst ys) from⟨hz,its,c',r',e⟩),rfl,q _ (I.hok.fresh (Nat.le_refl _))⟩
  rcases hq with hq | hq
  ·obtain⟨its,r',pl,hz⟩:=I.list hq;have hlen:=r'.length;obtain⟨o,ho,hc,n,hd⟩:=pl.isList;exact call_list_seq p (.inl rfl) ho hc hd (fun h' c' kp e=>fin its r' hz h' c' kp e) (by simp only[List.size_toArray] <;> omega)
  ·obtain⟨its,r',pl,hz⟩:=I.tuple hq;have hlen:=r'.length;obtain⟨o,ho,hc,n,hd⟩:=pl;exact call_list_seq p (.inr rfl) ho hc hd (fun h' c' kp e=>fin its r' hz h' c' kp e) (by simp only[List.size_toArray] <;> omega)
theorem yC:bQ X (.type "tuple") (fun xs H Q=>∃p ys,xs=[.ref p]∧((aR X.K H p ys∧∀l,H l=none→Q (.ref l) (upd H l (.tup ys)))∨(eO X.K H p ys∧Q (.ref p) H))):=by
  intro p_ s σ H xs us Q I r h;obtain⟨p,ys,rfl,h⟩:=h;obtain⟨u,rfl,rx⟩:=vals1 r;cases rx
  rcases h with⟨hq,q⟩ | ⟨hq,q⟩
  · obtain⟨its,r',pl,hz⟩:=I.list hq;have hlen:=r'.length;refine call_tuple_list pl.isList (fun h' kp=>?_) (by simp only[List.size_toArray] <;> omega);have I1:Inv X p_ σ H {s with heap:=h'}:=I.kept (t':=s.toks) kp;have I2:Inv X p_ σ (upd H h'.objs.size (.tup ys)) {s with heap:=h'.push {cls:=.type "tuple",data:=.seq its.toArray}}:=
      I1.laid (t':=s.toks) (fun b o e=>Heap.get?_push_of_some _ e) (Nat.le_refl _) (show bZ X.prog X.w _ _ _ (.tup ys) from⟨hz,its,r',IsTup.new _ _⟩)
    exact⟨.ref h'.objs.size,_,I2,rfl,q _ (I1.hok.fresh (Nat.le_refl _))⟩
  ·obtain⟨its,r',pl,hz⟩:=I.tuple hq;exact call_tuple_same pl ⟨.ref p,H,I,rfl,q⟩
def Rh (K:W.Frag) (T:String) (x:V) (H:Hp):Prop:=match x with
  | .str _=>T = "str"
  | .int _=>T = "int"
  | .ref p=>(T = "list" ∧∃xs,aR K H p xs)∨(T = "tuple" ∧∃o,K.lookup p=some o∧o.cls = .type "tuple" ∧o.dict=none)∨
      (T = "dict" ∧((∃kvs,H p=some (.dK kvs))∨∃kvs,H p=some (.dT kvs)))∨(T = "set" ∧∃S n,H p=some (.set S n))
  | _=>False
theorem Mw {p_:List (Addr×Obj)} {σ:St} {H:Hp} {s:Shared} {T:String} {x:V} {v:Value} (I:Inv X p_ σ H s) (r:RelV x v) (ty:Rh X.K T x H) :
    s.TypeIs v T∧∀a,v = .ref a→∃ob,s.heap.get? a=some ob∧ob.dict=none:=by
  cases x with
  | str z=>
    obtain⟨t,rfl⟩:=r;cases (show T = "str" from ty);exact⟨typeIs_str s z t,fun _ e=>nomatch e⟩
  | int i=>
    obtain⟨t,rfl⟩:=r;cases (show T = "int" from ty);exact⟨typeIs_int s i t,fun _ e=>nomatch e⟩
  | ref p=>
    cases r
    rcases ty with⟨rfl,xs,hq⟩ | ⟨rfl,o,hk,hc,hd⟩ | ⟨rfl,hk⟩ | ⟨rfl,S,n,hk⟩
    ·obtain⟨its,_,pl,_⟩:=I.list hq;refine⟨pl.isList.typeIs,fun a e=>?_⟩;cases e;obtain⟨o,n,e,c,hd,_⟩:=pl;exact⟨o,e,hd⟩
    ·refine⟨⟨o,I.u_ p o hk,hc⟩,fun a e=>?_⟩;cases e;exact⟨o,I.u_ _ o hk,hd⟩
    · have z:∃o,s.heap.get? p=some o∧o.ExactDict:=by
        rcases hk with⟨kvs,hk⟩ | ⟨kvs,hk⟩
        ·obtain⟨_,_,_,_,o,_,_,e,ex,_⟩:=I.hok p _ hk;exact⟨o,e,ex⟩
        ·obtain⟨_,_,_,_,o,_,_,e,ex,_⟩:=I.hok p _ hk;exact⟨o,e,ex⟩
      obtain⟨o,e,ex⟩:=z;refine⟨⟨o,e,ex.1⟩,fun a e2=>?_⟩;cases e2;exact⟨o,e,ex.2.1⟩
    ·obtain⟨o,_,_,_,e,ex,_⟩:=I.hok p _ hk;refine⟨⟨o,e,ex.1⟩,fun a e2=>?_⟩;cases e2;exact⟨o,e,ex.2.1⟩
  | _=>exact False.elim ty
def V9 (K:W.Frag) (T:String) (r:V→List V→Hp→VK→Prop) (to:TE):TE:=fun σ H Q=>to σ H fun x H1=>Rh K T x H1∧r x [] H1 Q
def tBM (K:W.Frag) (T:String) (r:V→List V→Hp→VK→Prop) (to:TE) (t:TA):TE:=fun σ H Q=>to σ H fun x H1=>Rh K T x H1∧t σ H1 fun xs H2=>r x xs H2 Q
variable {o e:Expr} {es:List Expr} {to:TE} {t:TA} {name:Str} {apos cpos:Pos} {T id:String} {r:V→List V→Hp→VK→Prop}
theorem V_ (pa:PlainAttrs T) (slot:Slot T name id) (hty:typeOf (.builtin id)=pure (.type "method_descriptor")) (hm:JK X id r) (ho:PE X o to)
    (hbase:attributeBase o name X.env (eval o X.env)=eval o X.env:=by rfl) (hline:(apos.endLine == cpos.line)=true:=by rfl):PE X (.Call (.Attribute o name apos) [] [] cpos) (V9 X.K T r to):=by
  intro p_ s σ H Q I h;refine wpAny_Call_method0_late hbase hline (bN (ho p_ s σ H _ I h) fun v s1 zz=>?_);obtain⟨x,H1,I1,r1,ty,q1⟩:=zz;obtain⟨h1,h2⟩:=Mw I1 r1 ty;exact⟨T,id,pa,slot,hty,h1,h2,Calls.callWith_builtin rfl (PySem.evalArgs_none (hm p_ s1 σ H1 x [] v [] Q I1 r1 .nil q1))⟩
theorem Zo (pa:PlainAttrs T) (slot:Slot T name id) (hty:typeOf (.builtin id)=pure (.type "method_descriptor")) (hm:JK X id r) (ho:PE X o to) (ha:PA X (e::es) t)
    (hbase:attributeBase o name X.env (eval o X.env)=eval o X.env:=by rfl)
    (hfew:((backTo cpos (starEach (e::es) X.env)).all (fun x=>!x.1) && (backToKw cpos (keywordEach [] X.env)).all (fun x=>x.1.isSome)
      && decide ((e::es).length+([]:List Keyword).length+(if ([]:List Keyword).isEmpty then 0 else 1)<30))=true:=by rfl)
    (hline:(apos.endLine == cpos.line)=true:=by rfl) (hs:starEach (e::es) X.env=(false,eval e X.env)::starEach es X.env:=by rfl) (hplain:(backTo cpos (starEach es X.env)).any (·.1)=false:=by rfl) :
    PE X (.Call (.Attribute o name apos) (e::es) [] cpos) (tBM X.K T r to t):=by
  intro p_ s σ H Q I h;refine wpAny_Call_method_late hbase hfew hline rfl (bN (ho p_ s σ H _ I h) fun v s1 zz=>?_);obtain⟨x,H1,I1,r1,ty,q1⟩:=zz;obtain⟨h1,h2⟩:=Mw I1 r1 ty;refine⟨T,id,pa,slot,hty,h1,h2,?_⟩;have hA:=ha cpos p_ s1 σ H1 _ I1 q1;rw[hs] at hA ⊢;refine Calls.callWith_builtin (by show(false || (backTo cpos (starEach es X.env)).any (·.1))=false;rw[hplain] <;> rfl) (Calls.evalArgs_plain ?_)
  refine bN hA fun us s2 zz=>?_;obtain⟨vs,H2,I2,r2,q2⟩:=zz;exact hm p_ s2 σ H2 x vs v us Q I2 r1 r2 q2
end
def MtM (X:Cx) (id:String) (r:V→List V→Hp→VK→Prop):Prop:=
  ∀(p_:List (Addr×Obj)) (s:Shared) (σ:St) (H:Hp) (x:V) (xs:List V) (v:Value) (us:List Value) (Q:VK),Inv X p_ σ H s→RelV x v→Vals xs us→r x xs H Q→
    wpAny (model X.prog X.w) X.A (call (.builtin id) (v::us)) (EP X p_ σ Q) X.xe s
theorem Vals.one {x:V} {us:List Value} (h:Vals [x] us):∃u,us=[u]∧RelV x u:=vals1 h
theorem Vals.two {x y:V} {us:List Value} (h:Vals [x,y] us):∃u v,us=[u,v]∧RelV x u∧RelV y v:=vals2 h
theorem Vals.zero:∀{us:List Value},Vals [] us→us=[]
  | _,.nil=>rfl
section
variable {X:Cx} {p_:List (Addr×Obj)} {σ:St} {H:Hp} {s:Shared} {l b:Addr} {xs ys zs:List V}
theorem Inv.Wa {its its':List Value} {n:Nat} {f:Array Value→Array Value} {t':Nat} (I:Inv X p_ σ H s) (hH:H l=some (.lst xs))
    (e:s.heap.get? l=some {cls:=.type "list",data:=.seq its.toArray n}) (hf:f its.toArray=its'.toArray) (hv:Vals ys its') (hz:ys.length≤sizeLine) :
    Inv X p_ σ (upd H l (.lst ys)) {s with heap:=s.heap.update l (Obj.mapSeq f),toks:=t'}:=by
  have q:=PySem.IsL.update e f;rw[hf] at q;refine I.write (x:=l) (e:=l) (by rw[hH];exact trivial) (.inl rfl) (fun b' u hb hu=>(Heap.get?_update_other s.heap (Obj.mapSeq f) (Ne.symm hb)).trans hu) ⟨_,q⟩ ?_;exact⟨hz,its',_,hv,q⟩
theorem Inv.Ri {its:List Value} {t':Nat} (I:Inv X p_ σ H s) (hv:Vals ys its) (hz:ys.length≤sizeLine) :
    Inv X p_ σ (upd H s.heap.objs.size (.lst ys)) {s with heap:=s.heap.push {cls:=.type "list",data:=.seq its.toArray},toks:=t'}:=
  I.laid (fun _ _ q=>Heap.get?_push_of_some _ q) (Nat.le_refl _) ⟨hz,its,0,hv,Heap.get?_push_size _ rfl⟩
theorem Inv.fresh (I:Inv X p_ σ H s):H s.heap.objs.size=none:=I.hok.fresh (Nat.le_refl _)
theorem Inv.Gh (I:Inv X p_ σ H s) (hH:H l=some (.lst xs)):xs.length≤sizeLine∧∃(its:List Value) (n:Nat),Vals xs its∧xs.length=its.length∧s.heap.get? l=some {cls:=.type "list",data:=.seq its.toArray n}:=by
  obtain⟨z,its,n,r,e⟩:=I.hok l _ hH;exact⟨z,its,n,r,r.length,e⟩
end
section
variable {X:Cx}
def Af:V→List V→Hp→VK→Prop:=fun x vs H Q=>∃l xs y,x = .ref l∧vs=[y]∧H l=some (.lst xs)∧xs.length<sizeLine∧Q .non (upd H l (.lst (xs++[y])))
theorem tV:MtM X "list.append" Af:=by
  intro p_ s σ H x vs v us Q I rx rv h;obtain⟨l,xs,y,rfl,rfl,hH,hz,q⟩:=h;cases rx;obtain⟨u,rfl,ru⟩:=rv.one;obtain⟨z,its,n,r,hl,e⟩:=I.Gh hH;refine call_meets F.slot_list_append ⟨_,e,rfl⟩ F.entry_list_append (F.args_list_append_2 _ _) (PySem.list_append l its.toArray n u (by rw[List.size_toArray];omega)) ⟨e,?_⟩;refine⟨.non,_,I.Wa (its':=its++[u]) hH e (by simp) (r.append (.cons ru .nil)) ?_,rfl,q⟩;rw[List.length_append,List.length_singleton];omega
def Gi:V→List V→Hp→VK→Prop:=fun x vs H Q=>∃l xs,x = .ref l∧vs=[]∧H l=some (.lst xs)∧Q .non (upd H l (.lst []))
theorem Mx:MtM X "list.clear" Gi:=by
  intro p_ s σ H x vs v us Q I rx rv h;obtain⟨l,xs,rfl,rfl,hH,q⟩:=h;cases rx;have hus:=rv.zero;subst hus;obtain⟨z,its,n,r,hl,e⟩:=I.Gh hH;refine call_meets F.slot_list_clear ⟨_,e,rfl⟩ F.entry_list_clear (F.args_list_clear_1 _) (AutoSeq1.list_clear_list_0 l its.toArray n (by rw[List.size_toArray];omega)) ⟨e,?_⟩;exact⟨.non,_,I.Wa (its':=[]) (ys:=[]) hH e rfl .nil (Nat.zero_le _),rfl,q⟩
def Zq:R2:=fun x y H Q=>∃l b xs zs,x = .ref l∧y = .ref b∧H l=some (.lst xs)∧H b=some (.lst zs)∧xs.length+zs.length≤sizeLine∧∀p,H p=none→Q (.ref p) (upd H p (.lst (xs++zs)))
theorem Wb:fP X (binaryOp .Add) Zq:=by
  intro p_ s σ H x y v u Q I rx ry h;obtain⟨l,b,xs,zs,rfl,rfl,hH,hB,hz,q⟩:=h;cases rx;cases ry;obtain⟨z,its,n,r,hl,e⟩:=I.Gh hH;obtain⟨z2,its2,n2,r2,hl2,e2⟩:=I.Gh hB;refine PySem.P.add_list e e2 ?_ (by rw[List.size_toArray,List.size_toArray];omega);have ea:its.toArray++its2.toArray=(its++its2).toArray:=by simp
  rw[ea];exact⟨.ref _,_,I.Ri (t':=s.toks) (r.append r2) (by rw[List.length_append];omega),rfl,q _ I.fresh⟩
end
end L2
namespace Att
open PySem PySem.W PySem.Calls PyProof.Rows
theorem vf {P:Params} {h:Heap}:∀(ns:List Int) (vs:List Value),WellAll P h vs (ns.map WData.int)→IntsAre vs ns:=by
  intro ns
  induction ns with
  | nil=>
    intro vs w;rw[List.map_nil] at w;cases w;exact .nil
  | cons n ns ih=>
    intro vs w;rw[List.map_cons] at w;cases w with
    | cons a b=>
      cases a;exact .cons _ _ (ih _ b)
theorem JM {l:OpenLaw} {n:Nat} (hn:l.most=some n) {P:Params} {h:Heap} {args:List WData} {vals:List Value}
    (hpre:l.row.toRowW.claim.pre args=true) (hwl:WellAll P h vals args) :
    ∃a vs ns,vals=[Value.ref a]∧args=[WData.list (ns.map WData.int)]∧h.get? a=some {cls:=.type "list",data:=.seq vs.toArray}∧IntsAre vs ns∧ns.length≤n:=by
  have hsh:WShape.hasAll [] args [.list .int]=true:=(pre_splitW hpre).1;have hc:l.pre.holds [] {args:=args}=true:=(pre_splitW hpre).2;obtain⟨d,r,rfl,h1,h2⟩:=hasAllW_cons hsh;obtain rfl:=hasAllW_nil h2;obtain⟨xs,rfl,h3⟩:=hasW_list h1;obtain⟨ns,rfl⟩:=items_int h3;have hlen:ns.length≤n:=by
    unfold OpenLaw.pre at hc;have h4:(WTm.not (.lt (.lit (.int (n:Int))) (.len (.arg 0)))).holds [] {args:=[.list (ns.map .int)]}=true:=by
      have h4:=(holds_andW hc).1;rw[hn] at h4;exact h4
    have h5:=condW_of h4 (w_not (w_lt w_lit (w_len_list (w_arg rfl))));rw[List.length_map] at h5;refine Nat.le_of_not_lt fun q=>?_;have q':(n:Int)<((ns.length:Nat):Int):=by omega
    first
      | (rw[decide_eq_true q'] at h5;exact absurd h5 (by decide))
      | (simp at h5;omega)
  cases hwl with
  | cons w1 w2=>
    cases w2;cases w1 with
    | list ho hall=>exact⟨_,_,ns,rfl,rfl,ho,vf ns _ hall,hlen⟩
theorem JN (l:OpenLaw) (args:List WData):l.row.toRowW.claim.post args (.bool true) args=true:=
  postW_of (r:=l.row.toRowW) (X:=(true == true))
    (show WShape.has [] (.bool true) .bool=true by first | rfl | decide | simp[WShape.has,WShape.arms,WShape.armsAll])
    (show(WTm.eq .res (.lit (.bool true))).value [] {args:=args,res:=some (.bool true),after:=args}=some (.bool (true == true)) from w_eq_bool (w_res rfl) w_lit) rfl
theorem Cy {l:OpenLaw} {n:Nat} {q:Program} {loose:List Str} {XP:(Str→Option Value)→Heap→Prop} {YP:World→Heap→Prop} {d:DefRec}
    (hn:l.most=some n) (hdf:d.params.defaults=[])
    (call:∀(w:World) (s₀ s₁:Shared) (mg mb:Str→Option Value) (fa:Addr) (o:Obj) (pm cd doc:Value) (a:Addr) (vs:List Value) (ns:List Int),
      Ground q loose [] XP w s₀ mg mb s₁.heap→YP w s₁.heap→
      s₁.heap.get? fa=some o→o.data = .func (docDef d.name d.params d.body d.scope pm cd doc)→s₁.heap.CodeRec cd d.name→mg d.name=some (.ref fa)→
      s₁.heap.get? a=some {cls:=.type "list",data:=.seq vs.toArray}→IntsAre vs ns→ns.length≤n→s₁.gens = #[]→
      codeAny (model l.prog w) callerA (.call (.ref fa) ⟨[.ref a],[]⟩) (fun r s'=>r = .ok (.ret (.bool true))∧OldK s₁.heap s'.heap∧s'.os=s₁.os∧AllBare s'.gens) s₁) :
    WalkO q loose XP YP l.row.toRowW d [] (fun f vs=>PySem.call f vs):=by
  intro w s₀ s₁ mg mb G Y fa o pm cd doc dV kV ho hd hcd hD hmg hg args vals as hpre hlay hrd hwl hlo;obtain rfl:dV = .none:=Dflts.none hD hdf;obtain rfl:kV = .none:=Dflts.noKw hD;obtain⟨a,vs,ns,rfl,rfl,hobj,hints,hlen⟩:=JM hn hpre hwl;refine enter_call (codeAny_mono (call w s₀ s₁ mg mb fa o pm cd doc a vs ns G Y ho (fd_plain hd) hcd hmg hobj hints hlen hg) fun r s' hq=>?_);obtain⟨rfl,h2,h3,h4⟩:=hq;exact⟨.inl ⟨.bool true,.bool true,[],rfl,fun _=>rfl,.bool true,JN l _,fun _=>⟨List.Pairwise.nil,fun _ hm=>(nomatch hm)⟩⟩,h2,h3,h4⟩
end Att
namespace L2
open PySem PySem.Spec PyProof.Rows
theorem za:∀{vs:List Value} {ns:List Int},IntsAre vs ns→Vals (ns.map V.int) vs
  | _,_,.nil=>.nil
  | _,_,.cons n t h=>.cons ⟨t,rfl⟩ (za h)
def Only (H:Hp):Prop:=∀b,H b=none∨∃o xs,H b=some (.Fp o (.lst xs))
theorem Mz {P:Program} {w:World} {K:W.Frag} {mg mb:Str→Option Value} {CX:Qx} {k:Nat} {fa a:Addr} {fd:FuncData} {x:Str} {sp:Sp} {s₁:Shared} {vs:List Value} {ns:List Int}
    (KX:K.In s₁.heap) (hns:s₁.heap.Ns mainGlobals mg) (hb:s₁.heap.Ns builtinsNs mb) (hbb:∀x:Str,x≠ "__name__" →mb x=bootBuiltins x) (hlim:s₁.heap.NoLimit) (hg:s₁.gens = #[])
    (ha:s₁.heap.get? a=some {cls:=.type "list",data:=.seq vs.toArray}) (hi:IntsAre vs ns) (hl:ns.length≤sizeLine) (hr:ig k callerA)
    (F:∀base:Heap,K.In base→base.Ns mainGlobals mg→c7 P w K mg base CX k fa fd [x] sp) (hbind:∀(s:Shared) (u:Value),BindsTo s fd ⟨[u],[]⟩ [(x,u)])
    (hsp:∀H:Hp,Only H→aR K H a (ns.map V.int)→sp [.ref a] H (fun v _=>v = .bl true) fun _ _ _=>False)
    (hCX:∀H e s',CX [] H s₁ (fun _ _ _=>False) e s'→False) :
    codeAny (model P w) callerA (.call (.ref fa) ⟨[.ref a],[]⟩) (fun r s'=>r = .ok (.ret (.bool true))∧OldK s₁.heap s'.heap∧s'.os=s₁.os∧AllBare s'.gens) s₁:=by
  have rv:=za hi;have lenV:=hi.length;have core:∀H:Hp,Only H→aR K H a (ns.map V.int)→qP P w H s₁.heap→(∀b,H b≠none→b=a)→(H a≠none→K.lookup a=none)→
      codeAny (model P w) callerA (.call (.ref fa) ⟨[.ref a],[]⟩) (fun r s'=>r = .ok (.ret (.bool true))∧OldK s₁.heap s'.heap∧s'.os=s₁.os∧AllBare s'.gens) s₁:=by
    intro H hO hS hok hA hK;have Io:∀{b:Addr} {o:Obj},s₁.heap.get? b=some o→H b=none→(zW s₁.heap H).get? b=some o:=fun e n=>Li e n;have Zj:∀{b:Addr} {o:Obj} {es:Array DictEntry} {ep:Nat},s₁.heap.get? b=some o→o.data = .dict es ep→H b=none:=fun {b o es ep} e d=>by
      cases q:H b with
      | none=>rfl
      | some u=>
        have e':b=a:=hA b (by rw[q];simp);subst e';rw[ha] at e;cases e;have d':Data.seq vs.toArray _=Data.dict es ep:=d;cases d'
    have nsK:∀{b:Addr} {m:Str→Option Value},s₁.heap.Ns b m→(zW s₁.heap H).Ns b m:=fun {b m} ⟨o,es,ep,e,d,r⟩=>⟨o,es,ep,Io e (Zj e d),d,r⟩;have hKb:K.In (zW s₁.heap H):=fun b o e=>Io (KX b o e) (by
      cases q:H b with
      | none=>rfl
      | some u=>
        have e':b=a:=hA b (by rw[q];simp);subst e';rw[hK (by rw[q];simp)] at e;cases e)
    have hM:Mod K mg (zW s₁.heap H):=⟨hKb,nsK hns,⟨mb,nsK hb,hbb⟩,let ⟨mc,h1,h2⟩:=hlim;⟨mc,nsK h1,h2⟩⟩;have e0:Ge P w K mg (zW s₁.heap H) callerA [] s₁ H:=⟨rfl,hM,fun b o e=>QG e,Nat.le_of_eq (Jp _ _),trivial,fun b hb=>absurd (show b∈([]:List Addr) from hb) (by simp),hok,.of_eq hg⟩;refine codeAny_mono ((F _ hKb (nsK hns)).run callerA [] s₁ H ⟨[.ref a],[]⟩ [.ref a] [.ref a] _ _ hr e0 (hbind s₁ (.ref a)) (.cons rfl .nil) (hsp H hO hS)) fun r s' h=>?_;cases r with
    | error e=>exact(hCX H e s' h).elim
    | ok fl=>
      cases fl with
      | next=>exact False.elim h
      | brk=>exact False.elim h
      | cont=>exact False.elim h
      | ret u=>
        obtain⟨v,H',os,bare,un,hok',r',q⟩:=h;have q':v = .bl true:=q;subst q';obtain rfl:u=Value.bool true:=r';refine⟨rfl,OldK.of_keep fun b o e=>?_,os,bare⟩;cases q:H b with
        | none=>exact un.keep b o e q (by intro z;exact absurd (show b∈([]:List Addr) from z) (by simp)) (by simp)
        | some u=>
          rcases hO b with z | ⟨ob,xs,z⟩
          ·rw[q] at z;cases z
          ·have z2:=un.vP b ob _ z;obtain⟨e1,_⟩:=hok b _ z;obtain⟨e2,_⟩:=hok' b _ z2;rw[e] at e1;cases e1;exact e2
  cases hk:K.lookup a with
  | some o=>
    have e:=KX a o hk;rw[ha] at e;cases e;refine core (fun _=>none) (fun _=>.inl rfl) (.inr ⟨_,vs.toArray,_,hk,rfl,rfl,rfl,by rw[List.size_toArray,lenV];exact hl,by simpa using rv⟩) (fun b u z=>by have z':(none:Option HO)=some u:=z;cases z') (fun b z=>absurd rfl z) fun z=>absurd rfl z
  | none=>
    refine core (fun b=>if b=a then some (.Fp {cls:=.type "list",data:=.seq vs.toArray} (.lst (ns.map V.int))) else none) (fun b=>?_) (.inl (.inr ⟨{cls:=.type "list",data:=.seq vs.toArray},if_pos rfl⟩)) (fun b u z=>?_) (fun b z=>?_) fun _=>hk
    · by_cases hb:b=a
      ·exact .inr ⟨_,_,if_pos hb⟩
      ·exact .inl (if_neg hb)
    · by_cases hb:b=a
      ·have z':=(if_pos hb).symm.trans z;cases z';subst hb;exact⟨ha,by rw[List.length_map];exact hl,vs,_,rv,ha⟩
      ·have z':=(if_neg hb).symm.trans z;cases z'
    · by_cases hb:b=a
      ·exact hb
      ·exact absurd (if_neg hb) z
theorem Rj {l:W.OpenLaw} {n k:Nat} {q:Program} {loose:List Str} {XP:(Str→Option Value)→Heap→Prop} {YP:World→Heap→Prop} {d:DefRec} {K:Params→W.Frag} {CX:World→Qx} {sp:World→Sp} {x:Str}
    (hn:l.most=some n) (hn2:n≤sizeLine) (hdf:d.params.defaults=[]) (hr:ig k callerA)
    (hY:∀(w:World) (h:Heap),YP w h→(K w.params).In h)
    (F:∀(w:World) (mg:Str→Option Value) (fa:Addr) (h:Heap),(K w.params).In h→h.Ns mainGlobals mg→mg d.name=some (.ref fa)→
      ∃fd:FuncData,(∀(s:Shared) (u:Value),BindsTo s fd ⟨[u],[]⟩ [(x,u)])∧
        ∀base:Heap,(K w.params).In base→base.Ns mainGlobals mg→c7 l.prog w (K w.params) mg base (CX w) k fa fd [x] (sp w))
    (hsp:∀(w:World) (H:Hp) (a:Addr) (ns:List Int),ns.length≤n→Only H→aR (K w.params) H a (ns.map V.int)→sp w [.ref a] H (fun v _=>v = .bl true) fun _ _ _=>False)
    (hCX:∀(w:World) (H:Hp) (s:Shared) (e:Value) (s':Shared),CX w [] H s (fun _ _ _=>False) e s'→False) :
    W.WalkO q loose XP YP l.row.toRowW d [] (fun f vs=>PySem.call f vs):=by
  refine Att.Cy hn hdf fun w s₀ s₁ mg mb fa o pm cd doc a vs ns G Y ho hd hcd hmg hobj hints hlen hg=>?_;have KX:=hY w _ Y;obtain⟨fd,hb,hF⟩:=F w mg fa _ KX G.T.g hmg;exact Mz KX G.T.g G.T.b G.T.builtins G.T.nolimit hg hobj hints (Nat.le_trans hlen hn2) hr hF hb (fun H hO hS=>hsp w H a ns hlen hO hS) fun H e s'=>hCX w H s₁ e s'
def inClass (s:Stmt) (j:Nat):Stmt:=match s with
  | .ClassDef _ _ _ body _ _ _ _ _ _ _=>body.getD j (.Pass ⟨0,0,0,0⟩)
  | _=>.Pass ⟨0,0,0,0⟩
def pQ (s:Stmt):Arguments:=match s with
  | .FunctionDef _ a _ _ _ _ _ _ _ _=>a
  | _=>{posonlyargs:=[],args:=[],vararg:=none,kwonlyargs:=[],kw_defaults:=[],kwarg:=none,defaults:=[]}
def kE (s:Stmt):List Stmt:=match s with
  | .FunctionDef _ _ b _ _ _ _ _ _ _=>b
  | _=>[]
def aD (s:Stmt):Scope:=match s with
  | .FunctionDef _ _ _ _ _ _ sc _ _ _=>sc
  | _=>{kind:=.function,names:=[],isGenerator:=false,isCoroutine:=false}
abbrev mY:Qx:=fun _ _ _ _ _ _=>False
abbrev E0:XK:=fun _ _ _=>False
theorem aU {X:Cx}:Passes mY X E0:=fun _ _ _ _ _ _ _ h=>h.elim
structure fL (K:W.Frag) (x qual:Str) (st:Stmt) (f:Addr) (fd:FuncData):Prop where
  ex:∃(oc:Value) (od:Option Addr) (kV doc pm:Value) (an:Option Addr) (cdv ct:Value) (osl:Array (Option Value)),
    fd=W.fnOf x qual (pQ st) (kE st) (aD st) .none kV doc pm an cdv ct∧K.lookup f=some ⟨oc,od,.func fd,osl⟩∧W.codeIn K cdv qual=true
  kp:W.keepIn K (.ref f)=true
section
variable {P:Program} {w:World} {K:W.Frag} {mg:Str→Option Value} {base:Heap}
theorem fL.ok {x qual:Str} {st:Stmt} {f:Addr} {fd:FuncData} {N ps:List Str} {k:Nat} {sp:Sp} (F:fL K x qual st f fd) (S:aV N ps (aD st)) (len:∀vs H Q E,sp vs H Q E→vs.length=ps.length)
    (hbody:∀(cdv:Value) (A:Around) (outer:List Env) (s:Shared) (H:Hp) (vs:List V) (Q:VK) (E:XK),ig k (A.deeper (envOfC qual (aD st) s.heap.objs.size f cdv))→sp vs H Q E→
      ∃t,Ia (au mY P w K mg base N qual (aD st) f cdv A outer s H E).Y6 (kE st) t∧t {nx:=fun _ H'=>Q .non H',rt:=Q} (start N vs) H):c7 P w K mg base mY (k+1) f fd ps sp:=by
  obtain⟨oc,od,kV,doc,pm,an,cdv,ct,osl,rfl,lk,hcd⟩:=F.ex;refine Zk lk hcd S len fun A outer s H vs Q E hr hsp=>?_;obtain⟨t,h,q⟩:=hbody cdv A outer s H vs Q E hr hsp;exact⟨t,h.Y6,q⟩
theorem fL.binds {x qual:Str} {st:Stmt} {f:Addr} {fd:FuncData} {ps:List Str} (F:fL K x qual st f fd)
    (h:∀(kV doc pm:Value) (an:Option Addr) (cdv ct:Value) (us:List Value),us.length=ps.length→bindArgs (W.fnOf x qual (pQ st) (kE st) (aD st) .none kV doc pm an cdv ct) ⟨us,[]⟩=pure (ps.zip us)):Binds K fd ps []:=by
  obtain⟨oc,od,kV,doc,pm,an,cdv,ct,osl,rfl,lk,hcd⟩:=F.ex;exact .all (h kV doc pm an cdv ct)
theorem MF {x qual:Str} {st:Stmt} {f:Addr} {oc:Value} {od an:Option Addr} {osl:Array (Option Value)} {kV doc pm cdv ct:Value} (l:K.lookup f=some ⟨oc,od,.func (W.fnOf x qual (pQ st) (kE st) (aD st) .none kV doc pm an cdv ct),osl⟩)
    (c:W.codeIn K cdv qual=true) (k:W.keepIn K (.ref f)=true):fL K x qual st f (W.fnOf x qual (pQ st) (kE st) (aD st) .none kV doc pm an cdv ct):=⟨⟨oc,od,kV,doc,pm,an,cdv,ct,osl,rfl,l,c⟩,k⟩
end
theorem oG {A:Around} {k:Nat} (hr:ig k A):A.units+1<cLine:=Nat.lt_of_le_of_lt (Nat.add_le_add_left (by decide:1≤64) _) hr.units
def Same (H H':Hp):Prop:=∀b o,H b=some o→H' b=some o
theorem Same.refl (H:Hp):Same H H:=fun _ _ h=>h
theorem Same.trans {H H1 H2:Hp} (a:Same H H1) (b:Same H1 H2):Same H H2:=fun c o h=>b c o (a c o h)
theorem Same.free {H H':Hp} (e:Same H H') {l:Addr} (h:H' l=Option.none):H l=Option.none:=by
  cases q:H l with
  | none=>rfl
  | some o=>
    rw[e l o q] at h;cases h
theorem Same.seq {K:W.Frag} {H H':Hp} {a:Addr} {xs:List V} (e:Same H H') (h:aR K H a xs):aR K H' a xs:=by
  rcases h with(h | ⟨o,h⟩) | h
  ·exact .inl (.inl (e _ _ h))
  ·exact .inl (.inr ⟨o,e _ _ h⟩)
  ·exact .inr h
def lU (env:Env) (cs:List (Str×Addr)) (p:Str×NameKind):List (Str×Addr):=if p.2 == .free then (p.1,(env.cells.lookup p.1).getD 0)::cs else cs
def yD (env:Env) (names:List (Str×NameKind)):List (Str×Addr):=names.foldl (lU env) []
theorem uP {α β:Type} (f:α→β→Sem (ForInStep β)) (g:β→α→β):∀(l:List α) (b:β),(∀x∈l,∀b,f x b=pure (.yield (g b x)))→forIn l b f=pure (l.foldl g b)
  | [],_,_=>rfl
  | x::l,b,h=>by
    rw[List.forIn_cons,h x List.mem_cons_self,pure_bind];exact uP f g l (g b x) fun y hy=>h y (List.mem_cons_of_mem _ hy)
theorem gk {sc:Scope} {env:Env} (h:∀x,(x,NameKind.free)∈sc.names→∃c,env.cells.lookup x=some c):closureFor sc env=pure (yD env sc.names):=by
  simp only[closureFor];rw[uP _ (lU env) sc.names [] (fun p hp cs=>by
    obtain⟨n,k⟩:=p;cases k with
    | free=>
      obtain⟨c,hc⟩:=h n hp;simp only[lU,cellOf,hc,beq_self_eq_true,if_true,Option.getD_some,pure_bind]
    | _=>simp only[lU];rfl)]
  rfl
theorem rN {env:Env}:∀(names:List (Str×NameKind)) (acc:List (Str×Addr)) (x:Str) (c:Addr),(∀x,(x,NameKind.free)∈names→∃c,env.cells.lookup x=some c)→(∀x c,(x,c)∈acc→env.cells.lookup x=some c)→
    (x,c)∈names.foldl (lU env) acc→env.cells.lookup x=some c
  | [],_,x,c,_,h,m=>h x c m
  | (n,k)::r,acc,x,c,hf,h,m=>by
    refine rN r (lU env acc (n,k)) x c (fun y hy=>hf y (List.mem_cons_of_mem _ hy)) (fun y d hy=>?_) m;unfold lU at hy;split at hy
    · rename_i hk;have hk':k = .free:=by simpa using hk
      subst hk';obtain⟨e,he⟩:=hf n List.mem_cons_self
      rcases List.mem_cons.mp hy with z | z
      ·cases z;show env.cells.lookup n=some _;rw[he];rfl
      ·exact h y d z
    ·exact h y d hy
theorem tW {env:Env} {x:Str}:∀(names:List (Str×NameKind)) (acc:List (Str×Addr)),((x,NameKind.free)∈names∨(acc.lookup x).isSome=true)→((names.foldl (lU env) acc).lookup x).isSome=true
  | [],_,h=>h.elim (fun z=>nomatch z) id
  | (n,k)::r,acc,h=>by
    refine tW r (lU env acc (n,k)) ?_
    by_cases hm:(x,NameKind.free)∈r
    ·exact .inl hm
    · refine .inr ?_;unfold lU
      rcases h with h | h
      · rcases List.mem_cons.mp h with z | z
        ·cases z;simp[List.lookup_cons]
        ·exact absurd z hm
      · split
        ·simp only[List.lookup_cons];cases x == n <;> simp[h]
        ·exact h
def vZ (env:Env) (sc:Scope) (C:Addr):List (Str×Addr):=cellsFrom (C+1) sc.names (yD env sc.names)
theorem fY {x:Str}:∀(names:List (Str×NameKind)) (n:Nat) (acc:List (Str×Addr)),(x,NameKind.cell)∈names∨(acc.lookup x).isSome=true→((cellsFrom n names acc).lookup x).isSome=true
  | [],_,_,h=>h.elim (fun z=>nomatch z) id
  | (y,k)::r,n,acc,h=>by
    unfold cellsFrom;split
    · refine fY r (n+1) ((y,n)::acc) ?_
      by_cases hm:(x,NameKind.cell)∈r
      ·exact .inl hm
      · refine .inr ?_
        rcases h with h | h
        · rcases List.mem_cons.mp h with z | z
          ·cases z;simp[List.lookup_cons]
          ·exact absurd z hm
        ·simp only[List.lookup_cons];cases x == y <;> simp[h]
    · rename_i hk;refine fY r n acc ?_
      rcases h with h | h
      · rcases List.mem_cons.mp h with z | z
        ·cases z;exact absurd rfl hk
        ·exact .inl z
      ·exact .inr h
theorem Gj:∀(names:List (Str×NameKind)) (h:Heap) (acc:List (Str×Addr)) (x:Str) (c:Addr),(x,c)∈cellsFrom h.objs.size names acc→(x,c)∈acc∨(h.objs.size≤c∧(pushCells h names).IsCell c none)
  | [],_,_,_,_,m=>.inl m
  | (n,k)::r,h,acc,x,c,m=>by
    unfold cellsFrom at m;unfold pushCells;split at m
    · rename_i hk;rw[if_pos hk];have m':(x,c)∈cellsFrom (h.push {cls:=.type "cell",data:=.cell none}).objs.size r ((n,h.objs.size)::acc):=by rw[Heap.size_push];exact m
      rcases Gj r (h.push {cls:=.type "cell",data:=.cell none}) _ x c m' with z | ⟨z1,z2⟩
      · rcases List.mem_cons.mp z with e | e
        ·cases e;exact .inr ⟨Nat.le_refl _,⟨_,pushCells_keeps _ _ _ _ (Heap.get?_push_size _ rfl),rfl⟩⟩
        ·exact .inl e
      ·rw[Heap.size_push] at z1;exact .inr ⟨by omega,z2⟩
    ·rename_i hk;rw[if_neg hk];exact Gj r h acc x c m
theorem Gk {n0:Nat} {x:Str}:∀(names:List (Str×NameKind)) (n:Nat) (acc:List (Str×Addr)) (c:Addr),((x,NameKind.cell)∈names∨∀d,acc.lookup x=some d→n0≤d)→n0≤n→(cellsFrom n names acc).lookup x=some c→n0≤c
  | [],_,_,c,h,_,e=>h.elim (fun z=>nomatch z) fun z=>z c e
  | (y,k)::r,n,acc,c,h,hn,e=>by
    unfold cellsFrom at e;split at e
    · refine Gk r (n+1) ((y,n)::acc) c ?_ (by omega) e
      by_cases hm:(x,NameKind.cell)∈r
      ·exact .inl hm
      · refine .inr fun d hd=>?_
        by_cases hxy:x=y
        · subst hxy;have hnd:n=d:=by simpa [List.lookup_cons] using hd
          rw[← hnd];exact hn
        · have hb:(x == y)=false:=by simpa using hxy
          simp only[List.lookup_cons,hb] at hd
          rcases h with h | h
          · rcases List.mem_cons.mp h with z | z
            ·cases z;exact absurd rfl hxy
            ·exact absurd z hm
          ·exact h d hd
    · rename_i hk;refine Gk r n acc c ?_ hn e
      rcases h with h | h
      · rcases List.mem_cons.mp h with z | z
        ·cases z;exact absurd rfl hk
        ·exact .inl z
      ·exact .inr h
theorem Gm:∀(names:List (Str×NameKind)) (n:Nat) (acc:List (Str×Addr)),(∀y d,(y,d)∈acc→d<n)→(∀y z d,(y,d)∈acc→(z,d)∈acc→y=z)→
    ∀y z d,(y,d)∈cellsFrom n names acc→(z,d)∈cellsFrom n names acc→y=z
  | [],_,_,_,h=>h
  | (x,k)::r,n,acc,hl,h=>by
    unfold cellsFrom;split
    · refine Gm r (n+1) ((x,n)::acc) (fun y d hm=>?_) fun y z d h1 h2=>?_
      · rcases List.mem_cons.mp hm with e | e
        ·cases e;exact Nat.lt_succ_self _
        ·exact Nat.lt_succ_of_lt (hl y d e)
      · rcases List.mem_cons.mp h1 with e1 | e1 <;> rcases List.mem_cons.mp h2 with e2 | e2
        ·cases e1;cases e2;rfl
        ·cases e1;exact absurd (hl z n e2) (Nat.lt_irrefl _)
        ·cases e2;exact absurd (hl y n e1) (Nat.lt_irrefl _)
        ·exact h y z d e1 e2
    ·exact Gm r n acc hl h
abbrev oV:Value→Shared→Prop:=fun _ _=>False
theorem Cz {prog:Program} {w:World} {A:Around} {R:Result→Shared→Prop} {s:Shared} {elt target iter:Expr} {ifs:List Expr} {scope:Scope} {pos:Pos} {it acc:Value} {env:Env} (I:Nat→Shared→Prop)
    (turn:∀n s,I n s→wpAny (model prog w) A (pyNext it) (fun r s₁=>match r with
      | none=>R (.ok .next) s₁
      | some v=>wpAny (model prog w) A (letOwnedTupleGo target it v) (fun _ s₂=>wpAny (model prog w) A (assign target env v) (fun _ s₃=>
          wpAny (model prog w) A (forIn ifs true fun c r=>if r=true then do let ok ← isTrue c env (eval c env);pure (ForInStep.yield ok) else pure (ForInStep.yield r)) (fun ok s₄=>
            if ok=true then wpAny (model prog w) A (eval elt env) (fun x s₅=>
              wpAny (model prog w) A (call (.builtin "list.append") [acc,x]) (fun _ s₆=>∃m,m<n∧I m s₆) oV s₅) oV s₄
            else ∃m,m<n∧I m s₄) oV s₃) oV s₂) oV s₁) oV s)
    (n:Nat) (h:I n s):codeAny (model prog w) A (.compLoop (.ListComp elt [⟨target,iter,ifs,0⟩] scope pos) 0 it acc env) R s:=by
  refine codeAny_loop rfl I (fun n s hI=>?_) n h;show wpAny _ A ((compTurn (.ListComp elt [⟨target,iter,ifs,0⟩] scope pos) 0 it acc env).onRaise (fun x=>do noteFrame x env;theTreesLotGoes x)) _ _ s
  refine wpAny_noted ?_;rw[compTurn_list];refine wpAny_bind (wpAny_standAt (wpAny_bind (wpAny_mono (turn n s hI) (fun r s₁ h₁=>?_) fun _ _ h'=>h'.elim)));cases r with
  | none=>exact wpAny_pure h₁
  | some v=>
    refine wpAny_bind (wpAny_mono h₁ (fun _ s₂ h₂=>?_) fun _ _ h'=>h'.elim);refine wpAny_bind (wpAny_mono h₂ (fun _ s₃ h₃=>wpAny_bind (wpAny_mono h₃ (fun ok s₄ h₄=>?_) fun _ _ h'=>h'.elim)) fun _ _ h'=>h'.elim);cases ok with
    | false=>exact wpAny_pure ⟨rfl,h₄⟩
    | true=>
      exact wpAny_bind (wpAny_bind (wpAny_mono h₄ (fun x s₅ h₅=>wpAny_bind (wpAny_mono h₅ (fun _ s₆ h₆=>wpAny_pure (wpAny_pure ⟨rfl,h₆⟩)) fun _ _ h'=>h'.elim)) fun _ _ h'=>h'.elim))
def aQ (X:Cx) (sc:Scope) (N:List Str) (C:Addr) (s:Shared) (H:Hp) (fp:List Addr) (pn:List (Addr×Obj)):Cx:=
  {X with env:=compEnvC sc (vZ X.env sc C) C X.env,N:=N,s₀:=s,H₀:=H,outer:=X.stack,ex:=fp,fn:=fun x=>sc.names.any fun p=>p.1 == x && p.2 == .cell,pn:=pn,xe:=oV}
theorem oW {sc:Scope} {env:Env} (x:Str):(relabel sc env).names.lookup x=(sc.names.lookup x).map fun k=>if (k == NameKind.free && env.scope.kind == .function && env.kindOf x == some .cell)=true then NameKind.cell else k:=by
  unfold relabel;show List.lookup x (sc.names.map _)=_
  induction sc.names with
  | nil=>rfl
  | cons p r ih=>
    obtain⟨n,k⟩:=p;rw[List.map_cons];have e1:(if (k == NameKind.free && env.scope.kind == .function && env.kindOf n == some .cell)=true then (n,NameKind.cell) else (n,k))=(n,if (k == NameKind.free && env.scope.kind == .function && env.kindOf n == some .cell)=true then NameKind.cell else k):=by split <;> rfl
    show List.lookup x ((if (k == NameKind.free && env.scope.kind == .function && env.kindOf n == some .cell)=true then (n,NameKind.cell) else (n,k))::_)=_
    rw[e1]
    by_cases hx:x=n
    ·subst hx;simp only[List.lookup_cons,beq_self_eq_true,Option.map_some]
    · have hb:(x == n)=false:=by simpa using hx
      simp only[List.lookup_cons,hb];exact ih
structure aO (ps sc:Scope) (pN own:List Str) (caps:List Nat) (N:List Str):Prop where
  kind:sc.kind = .function
  uniq:∀p∈sc.names,sc.names.lookup p.1=some p.2
  nd:N.Nodup
  names:N=own++caps.map fun j=>pN.getD j ""
  free:∀p∈sc.names,p.2 = .free→ps.names.lookup p.1=some .cell∨ps.names.lookup p.1=some .free
  qcm:∀j∈caps,j<pN.length∧sc.names.lookup (pN.getD j "")=some .free
def stC (own:List Str) (caps:List Nat) (σ:St):St:=own.map (fun _=>none)++caps.map fun j=>(σ[j]?).getD none
section
variable {X:Cx} {p_:List (Addr×Obj)} {σ:St} {H:Hp} {s:Shared} {ps sc:Scope} {own pN:List Str} {caps:List Nat} {N:List Str} {fp:List Addr}
theorem aO.cells (S:aO ps sc pN own caps N) (hps:X.env.scope=ps) (ok:X.Ok):∀x,(x,NameKind.free)∈sc.names→∃c,X.env.cells.lookup x=some c:=fun x hx=>by
  refine ok.has x ?_;show X.env.scope.names.lookup x=_∨X.env.scope.names.lookup x=_;rw[hps];exact S.free (x,.free) hx rfl
theorem wg (hfr:∀x,(x,NameKind.free)∈sc.names→∃c,X.env.cells.lookup x=some c) {C:Addr} {x:Str} {c:Addr} {h:Heap} (hC:C+1=h.objs.size) (m:(x,c)∈vZ X.env sc C):X.env.cells.lookup x=some c∨(h.objs.size≤c∧(pushCells h sc.names).IsCell c none):=by
  unfold vZ at m;rw[hC] at m
  rcases Gj sc.names h _ x c m with z | z
  ·exact .inl (rN sc.names [] x c hfr (fun _ _ z=>nomatch z) z)
  ·exact .inr z
theorem vp (I:Inv X p_ σ H s) (hps:X.env.scope=ps) (S:aO ps sc pN own caps N) (hf:∀b∈fp,jO X p_ H b) (ho:∀b∈fp,∃o,s.heap.get? b=some o∧∀v,o.data≠.cell v) :
    (aQ X sc N s.heap.objs.size s H fp (X.pn++p_)).Ok where
  mod:=I.ok.mod
  kind:=S.kind
  glob:=I.ok.glob
  blt:=I.ok.blt
  above:=Nat.le_refl _
  inj:=fun x y c h1 h2=>by
    have cl:∀y d,(y,d)∈yD X.env sc.names→X.env.cells.lookup y=some d:=fun y d m=>rN sc.names [] y d (S.cells hps I.ok) (fun _ _ z=>nomatch z) m;refine Gm sc.names (s.heap.objs.size+1) (yD X.env sc.names) (fun y d m=>?_) (fun y z d m1 m2=>I.ok.inj y z d (cl y d m1) (cl z d m2)) x y c (PySem.mem_of_lookup h1) (PySem.mem_of_lookup h2);obtain⟨v,q⟩:=I.cell y d (cl y d m);exact Nat.lt_succ_of_lt q.lt
  has:=fun x hx=>by
    have hx1:(relabel sc X.env).names.lookup x=some .cell∨(relabel sc X.env).names.lookup x=some .free:=hx;have hx':(x,NameKind.cell)∈sc.names∨(x,NameKind.free)∈sc.names:=by
      rw[oW] at hx1;cases e:sc.names.lookup x with
      | none=>rw[e] at hx1;simp at hx1
      | some k=>
        rw[e] at hx1;have hm:=PySem.mem_of_lookup e;cases k with
        | free=>exact .inr hm
        | cell=>exact .inl hm
        | _=>simp at hx1
    have q:((cellsFrom (s.heap.objs.size+1) sc.names (yD X.env sc.names)).lookup x).isSome=true:=by
      rcases hx' with z | z
      ·exact fY sc.names _ _ (.inl z)
      ·exact fY sc.names _ _ (.inr (tW sc.names [] (.inl z)))
    exact Option.isSome_iff_exists.mp q
  cab:=fun x c hx h=>by
    have hx':(x,NameKind.cell)∈sc.names:=by
      have hx:(sc.names.any fun p=>p.1 == x && p.2 == .cell)=true:=hx;obtain⟨⟨a,b⟩,hm,he⟩:=List.any_eq_true.mp hx;simp at he;obtain⟨rfl,rfl⟩:=he;exact hm
    exact Gk (n0:=s.heap.objs.size) sc.names (s.heap.objs.size+1) (yD X.env sc.names) c (.inl hx') (Nat.le_succ _) h
  hd:=I.ok.hd
  frames:=I.ok.frames
  stk:=.inl rfl
  QJ:=fun b hb=>by
    obtain⟨o,e,_⟩:=ho b hb;refine⟨Nat.ne_of_lt (Heap.lt_size e),fun x c h z=>?_⟩;subst z
    rcases wg (S.cells hps I.ok) (h:=s.heap.push {cls:=.type "dict",data:=.dict #[]}) (by rw[Heap.size_push]) (PySem.mem_of_lookup h) with q | ⟨q,_⟩
    ·exact(hf c hb).2.2.2.2.1 x c q rfl
    ·rw[Heap.size_push] at q;exact absurd (Nat.lt_of_lt_of_le (Nat.lt_of_lt_of_le (Heap.lt_size e) (Nat.le_succ _)) q) (Nat.lt_irrefl _)
  bs:=I.bs
  Qv:=Nat.le_trans I.ok.Qv I.sz
  Jq:=fun b o e hb=>by
    rcases(hf b hb).2.2.2.1 with z | z
    ·exact I.ok.Jq b o e z
    ·exact absurd (Nat.lt_of_lt_of_le (Heap.lt_size e) (Nat.le_trans I.ok.Qv z)) (Nat.lt_irrefl _)
  Cg:=fun b hb z=>by
    rcases List.mem_cons.mp (I.zX b z) with q | q
    ·exact(hf b hb).2.1 q
    ·exact(hf b hb).2.2.1 q
  tM:=I.stack
  T4:=I.HX
def blockAt (sc:Scope) (s:Shared):Shared:={s with heap:=pushCells (s.heap.push {cls:=.type "dict",data:=.dict #[]}) sc.names}
theorem wj (I:Inv X p_ σ H s) (hps:X.env.scope=ps) (hpN:X.N=pN) (S:aO ps sc pN own caps N) (hf:∀b∈fp,jO X p_ H b) (ho:∀b∈fp,∃o,s.heap.get? b=some o∧∀v,o.data≠.cell v) :
    Inv (aQ X sc N s.heap.objs.size s H fp (X.pn++p_)) [] (stC own caps σ) H (blockAt sc s):=by
  have hk:∀b o,s.heap.get? b=some o→(blockAt sc s).heap.get? b=some o:=fun b o e=>pushCells_keeps _ _ b o (Heap.get?_push_of_some _ e);have hns:(blockAt sc s).heap.Ns s.heap.objs.size fun _=>none:=(Heap.Ns.new s.heap (.type "dict")).keeps (pushCells_keeps _ _);have hcl:∀x c,(vZ X.env sc s.heap.objs.size).lookup x=some c→X.env.cells.lookup x=some c∨(s.heap.objs.size+1≤c∧(blockAt sc s).heap.IsCell c none):=fun x c e=>by
    rcases wg (S.cells hps I.ok) (h:=s.heap.push {cls:=.type "dict",data:=.dict #[]}) (by rw[Heap.size_push]) (PySem.mem_of_lookup e) with q | ⟨q,r⟩
    ·exact .inl q
    ·rw[Heap.size_push] at q;exact .inr ⟨q,r⟩
  refine⟨vp I hps S hf ho,rfl,I.bare,Un.kept hk,⟨_,hns,fun i x v e1 e2 e3=>?_⟩,fun x c e=>?_,I.hok.fresh (Nat.le_refl _),fun x c e=>?_,fun p hp=>?_,I.hok.kept hk,?_⟩
  · have e1':N[i]? = some x:=e1;rw[S.names] at e1';unfold stC at e2
    by_cases hi:i<own.length
    · rw[List.getElem?_append_left (by simpa using hi),List.getElem?_map] at e2;cases q:own[i]? with
      | none=>rw[q] at e2;cases e2
      | some y=>rw[q] at e2;cases e2
    · rw[List.getElem?_append_right (by omega),List.getElem?_map] at e1';rw[List.getElem?_append_right (by simp;omega),List.getElem?_map] at e2;simp only[List.length_map] at e2;cases q:caps[i - own.length]? with
      | none=>rw[q] at e2;cases e2
      | some j=>
        rw[q] at e1' e2;have Zr:pN.getD j "" = x:=Option.some.inj e1';have e2':(σ[j]?).getD none=some v:=Option.some.inj e2;have hj:σ[j]? = some (some v):=by
          cases z:σ[j]? with
          | none=>rw[z] at e2';cases e2'
          | some o=>rw[z] at e2';exact congrArg some e2'
        obtain⟨hlt,hfree⟩:=S.qcm j (List.mem_of_getElem? q);rw[Zr] at hfree;have hNj:X.N[j]? = some x:=by
          rw[hpN,← Zr];simp[List.getD,List.getElem?_eq_getElem hlt]
        have Zt:=S.free (x,.free) (PySem.mem_of_lookup hfree) rfl;have vis:YZ X.env.scope x:=by rw[hps];exact .inr Zt
        obtain⟨m,hn,hl⟩:=I.loc;obtain⟨u,r,l⟩:=hl j x v hNj hj vis;refine⟨u,r,.inr ?_⟩;have hkind:(relabel sc X.env).names.lookup x=some .cell∨(relabel sc X.env).names.lookup x=some .free:=by
          rw[oW,hfree];show some (if _ then _ else _)=_∨some (if _ then _ else _)=_
          split
          ·exact .inl rfl
          ·exact .inr rfl
        refine⟨hkind,?_⟩;have hcell:X.env.kindOf x=some .cell∨X.env.kindOf x=some .free:=by
          show X.env.scope.names.lookup x=_∨X.env.scope.names.lookup x=_;rw[hps];exact Zt
        rcases l with⟨hloc,_⟩ | ⟨_,c,hc,hcv⟩
        ·rcases hcell with z | z <;> (rw[hloc] at z;cases z)
        · have q2:((vZ X.env sc s.heap.objs.size).lookup x).isSome=true:=fY sc.names _ _ (.inr (tW sc.names [] (.inl (PySem.mem_of_lookup hfree))));obtain⟨d,hd⟩:=Option.isSome_iff_exists.mp q2;refine⟨d,hd,?_⟩
          rcases hcl x d hd with z | ⟨z,_⟩
          ·rw[hc] at z;cases z;exact hcv.keeps hk
          ·
            exfalso;have hnc:(x,NameKind.cell)∉sc.names:=fun hm=>by
              have:=S.uniq _ hm;rw[hfree] at this;cases this
            have hmem:=PySem.mem_of_lookup hd;have Wc:∀(names:List (Str×NameKind)) (n:Nat) (acc:List (Str×Addr)),(x,NameKind.cell)∉names→(cellsFrom n names acc).lookup x=acc.lookup x:=by
              intro names
              induction names with
              | nil=>intro _ _ _;rfl
              | cons p r ih=>
                intro n acc hm;obtain⟨y,k⟩:=p;unfold cellsFrom;split
                · rename_i hkk;have hkk':k = .cell:=by simpa using hkk
                  subst hkk';rw[ih _ _ fun z=>hm (List.mem_cons_of_mem _ z)];have hxy:(x == y)=false:=by
                    cases hb:x == y with
                    | false=>rfl
                    | true=>exact absurd (by rw[beq_iff_eq.mp hb];exact List.mem_cons_self) hm
                  simp only[List.lookup_cons,hxy]
                ·exact ih _ _ fun z=>hm (List.mem_cons_of_mem _ z)
            have e5:(yD X.env sc.names).lookup x=some d:=(Wc sc.names _ _ hnc).symm.trans hd;have e6:=rN sc.names [] x d (S.cells hps I.ok) (fun _ _ z=>nomatch z) (PySem.mem_of_lookup e5);rw[hc] at e6;cases e6;exact absurd (Nat.lt_of_lt_of_le (Nat.lt_of_lt_of_le hcv.lt (Nat.le_succ _)) z) (Nat.lt_irrefl _)
  · rcases hcl x c e with z | ⟨_,z⟩
    ·obtain⟨v,q⟩:=I.cell x c z;exact⟨v,q.keeps hk⟩
    ·exact⟨_,z⟩
  · rcases hcl x c e with z | ⟨z,_⟩
    ·exact I.oF x c z
    ·exact I.hok.fresh (by omega)
  · rw[List.append_nil] at hp;obtain⟨e,n,ne,nf,d⟩:=I.pin p hp;refine⟨hk _ _ e,n,Nat.ne_of_lt (Heap.lt_size e),fun z=>?_,d⟩
    rcases List.mem_cons.mp (I.zX p.1 z) with q | q
    ·exact ne q
    ·exact nf q
  ·show(stC own caps σ).length=N.length;rw[S.names];simp[stC]
theorem tX (I:Inv X p_ σ H s) (hf:∀b∈fp,jO X p_ H b) {C:Addr} {pn:List (Addr×Obj)} {H_:List (Addr×Obj)} {σ':St} {H':Hp} {s':Shared} (I':Inv (aQ X sc N C s H fp pn) H_ σ' H' s'):Inv X p_ σ H' s':=
  I.call' (ch:=fp) I'.os I'.base I'.hok I'.bare fun b hb=>⟨(hf b hb).2.2.2.1,(hf b hb).2.1,(hf b hb).2.2.2.2.1,(hf b hb).2.2.2.2.2⟩
end
def La (X:Cx) (ifs:List Expr) (t:TT):Prop:=
  ∀(p_:List (Addr×Obj)) (s:Shared) (σ:St) (H:Hp) (Q:Bool→Hp→Prop),Inv X p_ σ H s→t σ H Q→
    wpAny (model X.prog X.w) X.A (forIn ifs true fun c r=>if r=true then do let ok ← isTrue c X.env (eval c X.env);pure (ForInStep.yield ok) else pure (ForInStep.yield r)) (TP X p_ σ Q) X.xe s
def Zu:TT:=fun _ H Q=>Q true H
theorem cR {X:Cx}:La X [] Zu:=fun _ _ _ H _ I h=>wpAny_tests_nil ⟨H,I,h⟩
theorem rO {X:Cx} {c:Expr} {t:TT} (h:PT X c t):La X [c] t:=fun p_ s σ H Q I hw=>wpAny_tests_one (h p_ s σ H Q I hw)
def jC (own:List Str) (caps:List Nat) (J:It) (g:TG) (tt:TT) (te:TE) (D:Addr) (σ:St) (H:Hp) (Q:Hp→Prop):Prop:=
  ∃fW:Nat→Nat→St→Hp→Prop,(∃m,fW 0 m (stC own caps σ) H)∧∀i m σ' H',fW i m σ' H'→
    (J.stop i H'∧Q H')∨(J.go i H'∧∃N:St→Hp→Prop,(∀σ2 H2,N σ2 H2→∃m',m'<m∧fW (i+1) m' σ2 H2)∧∀x H2,J.K9 i H' x H2→g x σ' H2 fun σ2 H3=>tt σ2 H3 fun b H4=>
      if b=true then te σ2 H4 fun y H5=>∃ys,H5 D=some (.lst ys)∧ys.length<sizeLine∧N σ2 (upd H5 D (.lst (ys++[y]))) else N σ2 H4)
def MJ (own:List Str) (caps:List Nat) (wi:TI) (g:TG) (tt:TT) (te:TE):TE:=fun σ H Q=>wi σ H fun J H1=>∀D,H1 D=none→jC own caps J g tt te D σ (upd H1 D (.lst [])) (Q (.ref D))
theorem m6 {M:Model} {A:Around} {E:Value→Shared→Prop} {s:Shared} {sc:Scope} {g:Addr} {cl:List (Str×Addr)} {qual:Str} {env:Env} {Q:Env→Shared→Prop}
    (h:Q (newEnv sc s.heap.objs.size g (cellsFrom (s.heap.objs.size+1) sc.names cl) qual none .none (some env) builtinsNs) (blockAt sc s)):wpAny M A (newFunctionEnv sc g cl [] qual none .none (some env)) Q E s:=by
  simp only[newFunctionEnv,Option.isSome_some,if_true];refine wpAny_bind (wpAny_alloc ?_);refine wpAny_bind (wpAny_layCells _ (fun name kind cells=>by cases hkc:kind == NameKind.cell <;> simp[hkc]) _ _ _ _ ?_);rw[show({s with heap:=s.heap.push {cls:=.type "dict",data:=.dict #[]}}:Shared).heap.objs.size=s.heap.objs.size+1 from Heap.size_push ..];rw[List.forIn_nil];exact wpAny_bind (wpAny_pure (wpAny_pure h))
def mL (X:Cx) (p_:List (Addr×Obj)) (σ:St) (Q:Hp→Prop) (C:Addr) (r:Result) (s':Shared):Prop:=
  ∃H',r = .ok .next∧Inv X p_ σ H' s'∧(∃m,s'.heap.Ns C m)∧jO X p_ H' C∧Q H'
section
variable {X:Cx} {ps sc:Scope} {own pN:List Str} {caps:List Nat} {N:List Str}
theorem wk {p_:List (Addr×Obj)} {σ:St} {H:Hp} {s:Shared} {E:Value→Shared→Prop} {elt tg iter:Expr} {ifs:List Expr} {pos:Pos} {J:It} {fp:List Addr} {it D:Addr} {tn:Nat→Heap→Prop} {g:TG} {tt:TT} {te:TE} {Q:Hp→Prop}
    (I:Inv X p_ σ H s) (hps:X.env.scope=ps) (hpN:X.N=pN) (S:aO ps sc pN own caps N) (T:Turn X.prog X.w X.K tg J fp it tn) (st:tn 0 s.heap) (hf:∀b∈fp,jO X p_ H b) (hc:X.calm=true)
    (hg:∀C s H fp pn,PG (aQ X sc N C s H fp pn) tg g) (ht:∀C s H fp pn,La (aQ X sc N C s H fp pn) ifs tt) (he:∀C s H fp pn,PE (aQ X sc N C s H fp pn) elt te)
    (h:jC own caps J g tt te D σ H Q) :
    wpAny (model X.prog X.w) X.A (newFunctionEnv sc X.env.globals (yD X.env sc.names) [] X.env.qual none .none (some X.env)) (fun cenv s4=>
      codeAny (model X.prog X.w) X.A (.compStart (.ListComp elt [⟨tg,iter,ifs,0⟩] sc pos) 0 (.ref it) (.ref D) {cenv with scope:=relabel sc X.env}) (mL X p_ σ Q cenv.locals) s4) E s:=by
  obtain⟨fW,⟨m0,w0⟩,turn⟩:=h;refine m6 ?_;have ho:=T.obj 0 _ st;have I0:=wj I hps hpN S hf ho;have ok':=vp I hps S hf ho;have hk:∀b o,s.heap.get? b=some o→(blockAt sc s).heap.get? b=some o:=fun b o e=>pushCells_keeps _ _ b o (Heap.get?_push_of_some _ e);have st0:tn 0 (blockAt sc s).heap:=T.keep 0 _ _ st fun b _ o e=>hk b o e;have stat:∀{H':Hp},(∀b∈fp,H' b=none)→∀b∈fp,jO (aQ X sc N s.heap.objs.size s H fp (X.pn++p_)) [] H' b:=fun hn b hb=>
    ⟨hn b hb,(ok'.QJ b hb).1,ok'.Cg b hb,.inl hb,(ok'.QJ b hb).2,fun p hp=>(hf b hb).2.2.2.2.2 p (by rw[List.append_nil] at hp;exact hp)⟩
  have loop:codeAny (model X.prog X.w) X.A (.compLoop (.ListComp elt [⟨tg,iter,ifs,0⟩] sc pos) 0 (.ref it) (.ref D) (aQ X sc N s.heap.objs.size s H fp (X.pn++p_)).env) (mL X p_ σ Q s.heap.objs.size) (blockAt sc s):=by
    refine Cz (fun n s'=>∃i σ' H',Inv (aQ X sc N s.heap.objs.size s H fp (X.pn++p_)) [] σ' H' s'∧tn i s'.heap∧(∀b∈fp,H' b=none)∧fW i n σ' H') ?_ m0 ⟨0,_,H,I0,st0,fun b hb=>(hf b hb).1,w0⟩;rintro n s3 ⟨i,σ3,H3,I3,st3,Ie,w3⟩
    rcases turn i n σ3 H3 w3 with⟨stop,qn⟩ | ⟨go,N',hN,step⟩
    ·refine bN (T.done (aQ X sc N s.heap.objs.size s H fp (X.pn++p_)) rfl rfl rfl hc i [] s3 σ3 H3 oV I3 (stat Ie) st3 stop) fun r s4 zz=>?_;obtain⟨hr,I4⟩:=zz;subst hr;obtain⟨m,hn,_⟩:=I4.loc;exact⟨H3,rfl,tX I hf I4,⟨m,hn⟩,I.vV (Nat.le_refl _) I4.free,qn⟩
    · refine bN (T.item (aQ X sc N s.heap.objs.size s H fp (X.pn++p_)) rfl rfl rfl hc i [] s3 σ3 H3 oV I3 (stat Ie) st3 go) fun r s4 zz=>?_;obtain⟨u,hr,h4⟩:=zz;subst hr;refine bN h4 fun _ s5 zz=>?_;obtain⟨x,H5,I5,r5,y5,z7,QT⟩:=zz;have QV:=I5.pinned (stat QT) (T.obj _ _ z7);refine bN (hg _ _ _ _ _ _ s5 σ3 H5 x u _ QV r5 (step x H5 y5)) fun _ s6 zz=>?_;obtain⟨σ6,H6,I6,q6⟩:=zz;refine bN (ht _ _ _ _ _ _ s6 σ6 H6 _ I6 q6) fun b s7 zz=>?_;obtain⟨H7,I7,q7⟩:=zz;have again:∀{σ8:St} {H8:Hp} {s8:Shared},Inv (aQ X sc N s.heap.objs.size s H fp (X.pn++p_)) ([]++oR fp s5.heap) σ8 H8 s8→N' σ8 H8→
          ∃m,m<n∧∃i σ' H',Inv (aQ X sc N s.heap.objs.size s H fp (X.pn++p_)) [] σ' H' s8∧tn i s8.heap∧(∀b∈fp,H' b=none)∧fW i m σ' H':=fun {σ8 H8 s8} I8 n8=>by
        obtain⟨m',hm,w8⟩:=hN σ8 H8 n8;refine⟨m',hm,i+1,σ8,H8,I8.jP,T.keep _ _ _ z7 fun b hb o e=>(I8.pin (b,o) (List.mem_append_right _ (List.mem_append_right _ (dz hb e)))).1,fun b hb=>?_,w8⟩;obtain⟨o,e,d⟩:=T.obj _ _ z7 b hb;exact(I8.pin (b,o) (List.mem_append_right _ (List.mem_append_right _ (dz hb e)))).2.1
      cases b with
      | false=>
        rw[if_neg Bool.false_ne_true] at q7 ⊢;exact again I7 q7
      | true=>
        rw[if_pos rfl] at q7 ⊢;refine bN (he _ _ _ _ _ _ s7 σ6 H7 _ I7 q7) fun v s8 zz=>?_;obtain⟨y,H8,I8,r8,ys,hD,hz,n8⟩:=zz;refine bN (tV (X:=aQ X sc N s.heap.objs.size s H fp (X.pn++p_)) _ s8 σ6 H8 (.ref D) [y] (.ref D) [v] (fun _ H9=>N' σ6 H9) I8 rfl (.cons r8 .nil) ⟨D,ys,y,rfl,rfl,hD,hz,n8⟩) fun _ s9 zz=>?_;obtain⟨_,H9,I9,_,n9⟩:=zz;exact again I9 n9
  exact codeAny_compStart_list loop (T.self X.A 0 _ _ _ st0 loop)
variable {elt tg iter:Expr} {ifs:List Expr} {pos:Pos} {wi:TI} {g:TG} {tt:TT} {te:TE}
theorem aO.locs (S:aO ps sc pN own caps N):∀x∈sc.names,x.2 = .local→sc.names.lookup x.1=some .local:=fun x hx e=>by rw[← e];exact S.uniq x hx
theorem eF (hps:X.env.scope=ps) (hpN:X.N=pN) (S:aO ps sc pN own caps N) (hc:X.calm=true) (hi:PI X tg iter wi)
    (hg:∀C s H fp pn,PG (aQ X sc N C s H fp pn) tg g) (ht:∀C s H fp pn,La (aQ X sc N C s H fp pn) ifs tt) (he:∀C s H fp pn,PE (aQ X sc N C s H fp pn) elt te)
    (hs:∀x,foldedSetIterable iter X.env x=pure x:=by intro _;rfl):PE X (.ListComp elt [⟨tg,iter,ifs,0⟩] sc pos) (MJ own caps wi g tt te):=by
  intro p_ s σ H Q I h;rw[eval_ListComp];refine wpAny_comprehension_free (use:=none) rfl hs (gk (S.cells hps I.ok)) S.kind S.locs (bN (hi p_ s σ H _ I h) fun v s1 h1=>bN h1 fun itv s2 h2=>?_);obtain⟨it,fp,tn,J,H2,e,I2,T,st2,f2,q⟩:=h2;subst e;have fr:H2 s2.heap.objs.size=none:=I2.fresh;refine wpAny_newObj_type ?_;have I3:Inv X p_ σ (upd H2 s2.heap.objs.size (.lst [])) {s2 with heap:=s2.heap.push {cls:=.type "list",data:=.seq ([]:List Value).toArray},toks:=s2.toks}:=I2.Ri (its:=[]) (ys:=[]) .nil (Nat.zero_le _);have f3:∀b∈fp,jO X p_ (upd H2 s2.heap.objs.size (.lst [])) b:=fun b hb=>by
    obtain⟨o,e,_⟩:=T.obj 0 _ st2 b hb;exact⟨by rw[aC (Nat.ne_of_lt (Heap.lt_size e))];exact(f2 b hb).1,(f2 b hb).2⟩
  refine bN (wk (iter:=iter) (pos:=pos) I3 hps hpN S T (T.keep 0 _ _ st2 fun b _ o e=>Heap.get?_push_of_some _ e) f3 hc hg ht he (q _ fr)) fun cenv s4 h4=>?_;refine codeAny_mono h4 fun r s5 ⟨H5,hr,I5,⟨m,hn⟩,f5,q5⟩=>?_;subst hr;refine⟨m,hn,fun h' hs'=>?_⟩;have I6:Inv X p_ σ H5 {s5 with heap:=h',toks:=s5.toks}:=I5.turned (it:=cenv.locals) (fun b o hb e=>(hs'.2 b hb).trans e) f5.1 f5.2.1 f5.2.2.2.1 f5.2.2.2.2.1 f5.2.2.2.2.2;exact⟨.ref s2.heap.objs.size,H5,I6,rfl,q5⟩
theorem iD {i:Nat} {y:Str} {py spos:Pos} (hN:X.N.Nodup) (hy:X.N[i]? = some y) (hl:X.env.scope.names.lookup y=some .local) (hps:X.env.scope=ps) (hpN:X.N=pN) (S:aO ps sc pN own caps N) (hc:X.calm=true) (hi:PI X tg iter wi)
    (hg:∀C s H fp pn,PG (aQ X sc N C s H fp pn) tg g) (ht:∀C s H fp pn,La (aQ X sc N C s H fp pn) ifs tt) (he:∀C s H fp pn,PE (aQ X sc N C s H fp pn) elt te)
    (hsw:swapsWith (.ListComp elt [⟨tg,iter,ifs,0⟩] sc pos) (some (.Name y py)) spos.line X.env=pure true:=by rfl)
    (hs:∀x,foldedSetIterable iter X.env x=pure x:=by intro _;rfl):PS X (.Assign [.Name y py] (.ListComp elt [⟨tg,iter,ifs,0⟩] sc pos) spos) (Lr (MJ own caps wi g tt te) (Cm i)):=by
  intro p_ s σ H D0 I h;rw[exec_Assign_Name_used _ _ _ _ hsw];refine wpAny_bind (wpAny_standAt (wpAny_bind ?_));show wpAny _ X.A (do let _ ← comprehension (.ListComp elt [⟨tg,iter,ifs,0⟩] sc pos) sc X.env _ (newList []) false (eval iter X.env) (some (assign (.Name y py) X.env))) _ _ s
  refine wpAny_bind (wpAny_mono (wpAny_comprehension_free (use:=some (assign (.Name y py) X.env)) (Q:=fun _ s'=>SP X p_ D0 .next s') rfl hs (gk (S.cells hps I.ok)) S.kind S.locs
    (bN (hi p_ s σ H _ I h) fun v s1 h1=>bN h1 fun itv s2 h2=>?_)) (fun _ s' hq=>wpAny_pure (wpAny_pure hq)) fun _ _ e=>e)
  obtain⟨it,fp,tn,J,H2,e,I2,T,st2,f2,q⟩:=h2;subst e;have fr:H2 s2.heap.objs.size=none:=I2.fresh;refine wpAny_newObj_type ?_;have I3:Inv X p_ σ (upd H2 s2.heap.objs.size (.lst [])) {s2 with heap:=s2.heap.push {cls:=.type "list",data:=.seq ([]:List Value).toArray},toks:=s2.toks}:=I2.Ri (its:=[]) (ys:=[]) .nil (Nat.zero_le _);have f3:∀b∈fp,jO X p_ (upd H2 s2.heap.objs.size (.lst [])) b:=fun b hb=>by
    obtain⟨o,e,_⟩:=T.obj 0 _ st2 b hb;exact⟨by rw[aC (Nat.ne_of_lt (Heap.lt_size e))];exact(f2 b hb).1,(f2 b hb).2⟩
  refine bN (wk (iter:=iter) (pos:=pos) I3 hps hpN S T (T.keep 0 _ _ st2 fun b _ o e=>Heap.get?_push_of_some _ e) f3 hc hg ht he (q _ fr)) fun cenv s4 h4=>?_;refine codeAny_mono h4 fun r s5 ⟨H5,hr,I5,⟨m,hn⟩,f5,q5⟩=>?_;subst hr;show wpAny _ X.A (assign (.Name y py) X.env (.ref s2.heap.objs.size)) _ _ _;refine wpAny_assign_Name (tO I5 hN hy (.inl hl) (v:=.ref s2.heap.objs.size) rfl (fun s6 I6 hsb=>?_) (.inr hl));obtain⟨a,sb,ha⟩:=hsb;have hne:cenv.locals≠a:=by
    rcases ha with z | z
    ·rw[z];exact f5.2.1
    ·exact fun e=>f5.2.2.2.2.1 y a z e.symm
  refine⟨m,hn.sameBut sb hne,fun h' hs'=>?_⟩;have I7:Inv X p_ (σ.set i (some (.ref s2.heap.objs.size))) H5 {s6 with heap:=h',toks:=s6.toks}:=I6.turned (it:=cenv.locals) (fun b o hb e=>(hs'.2 b hb).trans e) f5.1 f5.2.1 f5.2.2.2.1 f5.2.2.2.2.1 f5.2.2.2.2.2;exact⟨_,H5,I7,q5⟩
end
section
variable {X:Cx} {p_:List (Addr×Obj)} {σ:St} {H:Hp} {s:Shared} {h':Heap}
theorem Inv.vq {t':Nat} {ch:List Addr} (I:Inv X p_ σ H s) (k:∀b o,b∉ch→s.heap.get? b=some o→h'.get? b=some o) (hf:∀b∈ch,jO X p_ H b):Inv X p_ σ H {s with heap:=h',toks:=t'}:=by
  refine I.step (g':=s.gens) (d':=s.drawn) (ch:=ch) (fun b hb=>⟨(hf b hb).2.2.2.1,(hf b hb).2.1,(hf b hb).2.2.2.2.1,(hf b hb).2.2.2.2.2⟩) (fun b o _ _ hc e _=>k b o hc e) (fun b o _ _ hc e _=>⟨o.slots,k b o hc e⟩) (fun _ _ _ _ n=>n)
    (fun b o hc e=>⟨o,k b o hc e⟩) (fun _ _ e=>e) (fun _ _ _ e=>e) (fun b ps e=>⟨#[],by rw[e];simp⟩) (fun m hm=>?_) (fun b u e=>?_) I.bare
  ·obtain⟨o,es,ep,ho,r⟩:=hm;exact⟨o,es,ep,k _ o (fun z=>(hf _ z).2.1 rfl) ho,r⟩
  · refine(I.hok b u e).stay (fun c v hc q=>k c v (fun z=>?_) q) (fun _ q=>q) fun _ _ q=>q;have hn:=(hf c z).1
    rcases hc with y | y
    ·rw[y,e] at hn;cases hn
    ·rw[y] at hn;cases hn
end
def Its (x:Str):It:=⟨fun i _=>i<x.cps.size,fun i H v H'=>H'=H∧∃c,x.cps[i]? = some c∧v = .str ⟨#[c]⟩,fun i _=>x.cps.size≤i⟩
theorem MK {P:Program} {w:World} {K:W.Frag} {tg:Expr} (x:Str) (t:Tok) (it:Addr):Turn P w K tg (Its x) [it] it (fun i h=>h.IsStrIter it (strIterType x) x t i) where
  mem:=by simp
  obj:=fun i h st b hb=>by
    have e:b=it:=by simpa using hb
    subst e;obtain⟨o,e,c,d⟩:=st;exact⟨o,e,fun v z=>by rw[d] at z;cases z⟩
  keep:=fun i h h' st k=>by
    obtain⟨o,e,c,d⟩:=st;exact⟨o,k it (by simp) o e,c,d⟩
  item:=by
    intro X hP hw hK hc i p_ s σ H E I hf st hg;subst hP hw hK;obtain⟨f0,f1,f2,f3,f4,f5⟩:=hf it (by simp);have hx:x.cps[i]? = some (x.cps[i]'hg):=Array.getElem?_eq_getElem hg;have fin:∀h',h'.IsStrIter it (strIterType x) x t (i+1)→Heap.SameBut it s.heap h'→∃u,(some (Value.str ⟨#[x.cps[i]'hg]⟩ s.toks))=some u∧
        wpAny (model X.prog X.w) X.A (letOwnedTupleGo tg (.ref it) u) (fun _ s2=>∃y H',Inv X p_ σ H' s2∧RelV y u∧(Its x).K9 i H y H'∧s2.heap.IsStrIter it (strIterType x) x t (i+1)∧∀b∈[it],H' b=none) E {s with heap:=h',toks:=s.toks+1}:=fun h' st' sb=>by
      have I1:Inv X p_ σ H {s with heap:=h',toks:=s.toks+1}:=I.turned (fun b o hb e=>(sb.2 b hb).trans e) f0 f1 f3 f4 f5;refine⟨_,rfl,?_⟩;have res:∃y H',Inv X p_ σ H' {s with heap:=h',toks:=s.toks+1}∧RelV y (Value.str ⟨#[x.cps[i]'hg]⟩ s.toks)∧(Its x).K9 i H y H'∧h'.IsStrIter it (strIterType x) x t (i+1)∧∀b∈[it],H' b=none:=
        ⟨.str ⟨#[x.cps[i]'hg]⟩,H,I1,⟨_,rfl⟩,⟨rfl,_,hx,rfl⟩,st',fun b hb=>(hf b hb).1⟩
      unfold letOwnedTupleGo;cases tg <;> exact wpAny_pure res
    by_cases ha:x.cps.all (· < 128)=true
    · have ey:strIterType x = "str_ascii_iterator" :=by unfold strIterType;rw[if_pos ha]
      rw[ey] at st;exact wpAny_pyNext_ascii_item st hx fun h' st' sb=>fin h' (by rw[ey];exact st') sb
    · have ey:strIterType x = "str_iterator" :=by unfold strIterType;rw[if_neg ha]
      rw[ey] at st;exact wpAny_pyNext_wide_item st hx fun h' st' sb=>fin h' (by rw[ey];exact st') sb
  done:=by
    intro X hP hw hK hc i p_ s σ H E I hf st hg;subst hP hw hK;obtain⟨f0,f1,f2,f3,f4,f5⟩:=hf it (by simp);have hx:x.cps[i]? = none:=Array.getElem?_eq_none hg
    by_cases ha:x.cps.all (· < 128)=true
    · have ey:strIterType x = "str_ascii_iterator" :=by unfold strIterType;rw[if_pos ha]
      rw[ey] at st;exact wpAny_pyNext_ascii_end (I.ok.hd hc) st hx fun h' eb=>⟨rfl,I.turned (t':=s.toks) (fun b o hb e=>eb b o hb e) f0 f1 f3 f4 f5⟩
    · have ey:strIterType x = "str_iterator" :=by unfold strIterType;rw[if_neg ha]
      rw[ey] at st;exact wpAny_pyNext_wide_end (I.ok.hd hc) st hx fun h' eb=>⟨rfl,I.turned (t':=s.toks) (fun b o hb e=>eb b o hb e) f0 f1 f3 f4 f5⟩
  self:=fun A i s Q E st h=>by
    by_cases ha:x.cps.all (· < 128)=true
    · have ey:strIterType x = "str_ascii_iterator" :=by unfold strIterType;rw[if_pos ha]
      rw[ey] at st;exact wpAny_pyIter_striter_ascii st h
    · have ey:strIterType x = "str_iterator" :=by unfold strIterType;rw[if_neg ha]
      rw[ey] at st;exact wpAny_pyIter_striter_wide st h
section
variable {X:Cx} {tg:Expr}
def Wd (tl:TE):TI:=fun σ H R=>tl σ H fun x H1=>∃z,x = .str z∧R (Its z) H1
theorem Wf {l:Expr} {tl:TE} (hl:PE X l tl):PI X tg l (Wd tl):=by
  intro p_ s σ H R I h;refine bN (hl p_ s σ H _ I h) fun v s1 zz=>?_;obtain⟨x,H1,I1,r1,q1⟩:=zz;obtain⟨z,e,q⟩:=q1;subst e;obtain⟨t,rfl⟩:=r1;refine wpAny_pyIter_strU ?_;refine⟨s1.heap.objs.size,[s1.heap.objs.size],_,_,H1,rfl,I1.kept (t':=s1.toks) fun b o e=>Heap.get?_push_of_some _ e,MK z t _,⟨_,Heap.get?_push_size _ rfl,rfl,rfl⟩,fun b hb=>?_,q⟩;have e:b=s1.heap.objs.size:=by simpa using hb
  subst e;exact I1.vV (Nat.le_refl _) (I1.hok.fresh (Nat.le_refl _))
end
def T9 (K:W.Frag) (a b:Addr):It:=
  ⟨fun i H=>∃xs ys x y,aR K H a xs∧aR K H b ys∧xs[i]? = some x∧ys[i]? = some y,
   fun i H v H'=>∃t x y,v = .ref t∧H t=none∧H'=upd H t (.tup [x,y])∧(∀xs,aR K H a xs→xs[i]? = some x)∧∀ys,aR K H b ys→ys[i]? = some y,
   fun i H=>∃xs ys,aR K H a xs∧aR K H b ys∧(xs.length≤i∨ys.length≤i)⟩
structure Zv (z TI TO i1 i2 a b:Addr) (i:Nat) (h:Heap):Prop where
  hz:IsZip h z TI TO .none
  hI:IsPair h TI (.ref i1) (.ref i2)
  hO:∃p q,IsPair h TO p q
  h1:h.IsListIter i1 a i
  h2:h.IsListIter i2 b i
theorem b_ {h:Heap} {a b:Addr} {o u:Obj} {T U:String} (ha:h.get? a=some o) (hb:h.get? b=some u) (ca:o.cls = .type T) (cb:u.cls = .type U) (hne:T≠U):a≠b:=fun e=>by
  subst e;rw[ha] at hb;cases hb;rw[ca] at cb;injection cb with e2;exact hne e2
theorem MN {P:Program} {w:World} {K:W.Frag} {es:List Expr} {k:Nat} {pos:Pos} {z TI TO i1 i2 a b:Addr} (n12:i1≠i2) (nT:TI≠TO) :
    Turn P w K (.Tuple es k pos) (T9 K a b) [z,TI,TO,i1,i2] z (Zv z TI TO i1 i2 a b) where
  mem:=by simp
  obj:=fun i h st c hc=>by
    simp only[List.mem_cons,List.not_mem_nil,or_false] at hc
    rcases hc with rfl | rfl | rfl | rfl | rfl
    ·exact⟨_,st.hz,fun v e=>nomatch e⟩
    ·exact⟨_,st.hI,fun v e=>nomatch e⟩
    ·obtain⟨p,q,e⟩:=st.hO;exact⟨_,e,fun v e=>nomatch e⟩
    ·obtain⟨o,e,_,d⟩:=st.h1;exact⟨o,e,fun v y=>by rw[d] at y;cases y⟩
    ·obtain⟨o,e,_,d⟩:=st.h2;exact⟨o,e,fun v y=>by rw[d] at y;cases y⟩
  keep:=fun i h h' st kk=>by
    obtain⟨p,q,e⟩:=st.hO;exact⟨kk z (by simp) _ st.hz,kk TI (by simp) _ st.hI,⟨p,q,kk TO (by simp) _ e⟩,st.h1.at fun o e=>kk i1 (by simp) o e,st.h2.at fun o e=>kk i2 (by simp) o e⟩
  item:=by
    intro X hP hw hK hc i p_ s σ H E I hf st hg;subst hP hw hK;obtain⟨xs,ys,x,y,qa,qb,hx,hy⟩:=hg;obtain⟨its,rv,pl,hz1⟩:=I.list qa;obtain⟨its',rv',Wg,hz2⟩:=I.list qb;obtain⟨u,hu,ru⟩:=rv.get hx;obtain⟨u',hu',ru'⟩:=rv'.get hy;obtain⟨p,q,hTO⟩:=st.hO;obtain⟨oa,ea,ca,_⟩:=id pl.isList;obtain⟨ob,eb,cb,_⟩:=id Wg.isList;obtain⟨o1,e1,c1,_⟩:=id st.h1;obtain⟨o2,e2,c2,_⟩:=id st.h2;have D:ZipApart z TI TO i1 i2 a b:=
      ⟨b_ st.hI st.hz rfl rfl (by decide),b_ hTO st.hz rfl rfl (by decide),b_ e1 st.hz c1 rfl (by decide),b_ e2 st.hz c2 rfl (by decide),nT,b_ st.hI e1 rfl c1 (by decide),b_ st.hI e2 rfl c2 (by decide),
        b_ hTO e1 rfl c1 (by decide),b_ hTO e2 rfl c2 (by decide),n12,b_ ea st.hz ca rfl (by decide),b_ ea hTO ca rfl (by decide),b_ ea e1 ca c1 (by decide),b_ ea e2 ca c2 (by decide),
        b_ eb st.hz cb rfl (by decide),b_ eb hTO cb rfl (by decide),b_ eb e1 cb c1 (by decide),b_ eb e2 cb c2 (by decide)⟩
    refine wpAny_pyNext_zip_item D st.hz st.hI hTO st.h1 st.h2 pl.isList Wg.isList (x:=u) (y:=u') (by simpa using hu) (by simpa using hu') fun h' a1 a2 a3 a4 a5 a6 kk=>?_;refine⟨_,rfl,wpAny_letOwnedTupleGo_zip a1 fun h2 b1 sb=>?_⟩;have lt:∀{c o},s.heap.get? c=some o→s.heap.objs.size≠c:=fun e=>Nat.ne_of_gt (Heap.lt_size e);have hn:H s.heap.objs.size=none:=I.hok.fresh (Nat.le_refl _);have Zw:∀c o,c∉[z,TI,TO,i1,i2]→s.heap.get? c=some o→h2.get? c=some o:=fun c o hc e=>by
      simp only[List.mem_cons,List.not_mem_nil,or_false,not_or] at hc;exact(sb.2 c hc.1).trans (kk c o hc.1 hc.2.2.1 hc.2.2.2.1 hc.2.2.2.2 e)
    have I1:Inv X p_ σ H {s with heap:=h2,toks:=s.toks}:=I.vq Zw hf;have CG:IsPair h2 s.heap.objs.size u u':=sb.extBut _ _ (lt st.hz) a5;have I2:Inv X p_ σ (upd H s.heap.objs.size (.tup [x,y])) {s with heap:=h2,toks:=s.toks}:=by
      have hfr:H s.heap.objs.size=none:=hn;refine⟨I1.ok,I1.os,I1.bare,⟨I1.base.keep,I1.base.slot,fun c o e n hx=>?_,I1.base.there,fun c zs e=>?_,fun c o v e=>?_,fun c qs e=>?_⟩,I1.loc,I1.cell,?_,fun v c e=>?_,fun v hv=>?_,?_,I1.len⟩
      · rw[aC (fun e'=>?_)]
        ·exact I1.base.free c o e n hx
        ·exact absurd (Nat.lt_of_lt_of_le (Heap.lt_size e) I.sz) (by rw[e'];exact Nat.lt_irrefl _)
      ·have e':=I1.base.tups c zs e;rw[aC (aG e' hfr)];exact e'
      ·have e':=I1.base.vP c o v e;rw[aC (aG e' hfr)];exact e'
      ·obtain⟨m,e'⟩:=I1.base.yt c qs e;exact⟨m,by rw[aC (aG e' hfr)];exact e'⟩
      ·rw[aC (Nat.ne_of_lt I.lt)];exact I1.free
      ·obtain⟨w',qc⟩:=I.cell v c e;rw[aC (Nat.ne_of_lt qc.lt)];exact I1.oF v c e
      ·obtain⟨f1,f2,f3⟩:=I1.pin v hv;refine⟨f1,?_,f3⟩;rw[aC (Nat.ne_of_lt (Heap.lt_size (I.pin v hv).1))];exact f2
      · intro c v e
        by_cases hcs:c=s.heap.objs.size
        ·subst hcs;rw[ak] at e;cases e;exact⟨by show 2≤sizeLine;rw[sizeLine_eq];decide,[u,u'],.cons ru (.cons ru' .nil),⟨_,CG,rfl,0,rfl⟩⟩
        · rw[aC hcs] at e;refine(I1.hok c v e).stay (fun _ _ _ qq=>qq) (fun d qd=>?_) fun d zs qd=>?_
          ·rw[aC (aG qd hfr)];exact qd
          ·rw[aC (aG qd hfr)];exact qd
    refine⟨.ref s.heap.objs.size,_,I2,rfl,⟨s.heap.objs.size,x,y,rfl,hn,rfl,fun xs' q'=>by rw[I.rJ q' qa];exact hx,fun ys' q'=>by rw[I.rJ q' qb];exact hy⟩,?_,fun c hcm=>?_⟩
    ·exact⟨b1,sb.extBut _ _ D.TIz (kk _ _ D.TIz D.TITO D.TIi1 D.TIi2 st.hI),⟨_,_,sb.extBut _ _ D.TOz a2⟩,a3.extBut sb.extBut D.i1z,a4.extBut sb.extBut D.i2z⟩
    · have hne:c≠s.heap.objs.size:=by
        simp only[List.mem_cons,List.not_mem_nil,or_false] at hcm
        rcases hcm with rfl | rfl | rfl | rfl | rfl
        ·exact(lt st.hz).symm
        ·exact(lt st.hI).symm
        ·exact(lt hTO).symm
        ·exact(lt e1).symm
        ·exact(lt e2).symm
      rw[aC hne];exact(hf c hcm).1
  done:=by
    intro X hP hw hK hc i p_ s σ H E I hf st hg;subst hP hw hK;obtain⟨xs,ys,qa,qb,hl⟩:=hg;obtain⟨its,rv,pl,hz1⟩:=I.list qa;obtain⟨its',rv',Wg,hz2⟩:=I.list qb;obtain⟨p,q,hTO⟩:=st.hO;obtain⟨oa,ea,ca,_⟩:=id pl.isList;obtain⟨ob,eb,cb,_⟩:=id Wg.isList;obtain⟨o1,e1,c1,_⟩:=id st.h1;obtain⟨o2,e2,c2,_⟩:=id st.h2;have D:ZipApart z TI TO i1 i2 a b:=
      ⟨b_ st.hI st.hz rfl rfl (by decide),b_ hTO st.hz rfl rfl (by decide),b_ e1 st.hz c1 rfl (by decide),b_ e2 st.hz c2 rfl (by decide),nT,b_ st.hI e1 rfl c1 (by decide),b_ st.hI e2 rfl c2 (by decide),
        b_ hTO e1 rfl c1 (by decide),b_ hTO e2 rfl c2 (by decide),n12,b_ ea st.hz ca rfl (by decide),b_ ea hTO ca rfl (by decide),b_ ea e1 ca c1 (by decide),b_ ea e2 ca c2 (by decide),
        b_ eb st.hz cb rfl (by decide),b_ eb hTO cb rfl (by decide),b_ eb e1 cb c1 (by decide),b_ eb e2 cb c2 (by decide)⟩
    have l1:=rv.length;have l2:=rv'.length;refine wpAny_pyNext_zip_end (I.ok.hd hc) D st.hz st.hI hTO st.h1 st.h2 pl.isList Wg.isList ?_ fun h' kk=>⟨rfl,I.vq (t':=s.toks) (fun c o hcm e=>?_) hf⟩
    · rcases hl with hl | hl
      ·exact .inl (by simp;omega)
      ·exact .inr (by simp;omega)
    ·simp only[List.mem_cons,List.not_mem_nil,or_false,not_or] at hcm;exact kk c o hcm.1 hcm.2.2.1 hcm.2.2.2.1 hcm.2.2.2.2 e
  self:=fun _ _ _ _ _ st h=>wpAny_pyIter_zip st.hz h
section
variable {X:Cx}
def Rk (K:W.Frag) (t:TA):TI:=fun σ H R=>t σ H fun vs H1=>∃a b xs ys,vs=[.ref a,.ref b]∧aR K H1 a xs∧aR K H1 b ys∧R (T9 K a b) H1
theorem boot_zip:bootBuiltins "zip" = some (.type "zip"):=by decide+kernel
theorem Wh {es:List Expr} {k:Nat} {pos':Pos} {a b:Expr} {ta:TA} {p pos:Pos} (hg:Gl X "zip") (hm:X.mg "zip" = none) (ha:PA X [a,b] ta)
    (hs:starEach [a,b] X.env=[(false,eval a X.env),(false,eval b X.env)]:=by rfl) (hs2:starEach [b] X.env=[(false,eval b X.env)]:=by rfl) :
    PI X (.Tuple es k pos') (.Call (.Name "zip" p) [a,b] [] pos) (Rk X.K ta):=by
  intro p_ s σ H R I h;refine Call_ (mZ I hg hm boot_zip (PyProof.Rows.callWith_type1 (bN (ha pos p_ s σ H _ I h) fun us s1 zz=>?_) (by rw[hs,hs2]) (by rw[hs2];rfl)));obtain⟨vs,H1,I1,r1,q1⟩:=zz;obtain⟨l1,l2,xs,ys,e,qa,qb,q⟩:=q1;subst e;obtain⟨u,v,rfl,r,r'⟩:=r1.two;obtain rfl:u=Value.ref l1:=r;obtain rfl:v=Value.ref l2:=r';obtain⟨its,rv,pl,hz1⟩:=I1.list qa;obtain⟨its',rv',Wg,hz2⟩:=I1.list qb;refine call_zip_2 pl.isList Wg.isList fun h' b1 b2 b3 b4 b5 b6 kk=>?_;refine wpAny_pyIter_zip (s:={s1 with heap:=h'}) b1 ?_;have I2:Inv X p_ σ H1 {s1 with heap:=h'}:=I1.kept (t':=s1.toks) kk;refine⟨s1.heap.objs.size+4,[s1.heap.objs.size+4,s1.heap.objs.size+2,s1.heap.objs.size+3,s1.heap.objs.size,s1.heap.objs.size+1],_,_,H1,rfl,I2,MN (Nat.ne_of_lt (Nat.lt_succ_self _)) (Nat.ne_of_lt (Nat.lt_succ_self (s1.heap.objs.size+2))),⟨b1,b2,⟨_,_,b3⟩,b4,b5⟩,fun c hc=>?_,q⟩;have hle:s1.heap.objs.size≤c:=by
    simp only[List.mem_cons,List.not_mem_nil,or_false] at hc
    rcases hc with rfl | rfl | rfl | rfl | rfl <;> first | exact Nat.le_add_right _ _ | exact Nat.le_refl _
  exact I1.vV hle (I1.hok.fresh hle)
end
section
variable {X:Cx} {p_:List (Addr×Obj)} {σ:St} {H:Hp} {s:Shared}
theorem jB.kit {x:V} {u t:Value} (I:Inv X p_ σ H s) (rx:RelV x u) (ty:jB X.K H x t):∃Φ,W.KitX X.K u t Φ∧Φ s.heap∧u≠.builtin "__main__.__loader__#opaque" :=by
  cases ty with
  | non=>cases (show u=Value.none from rx);exact⟨_,W.kitx_none,True.intro,fun z=>nomatch z⟩
  | bl y=>cases (show u=Value.bool y from rx);exact⟨_,W.kitx_bool,True.intro,fun z=>nomatch z⟩
  | int i=>obtain⟨t,q⟩:=(show ∃t,u=Value.int i t from rx);cases q;exact⟨_,W.kitx_int,True.intro,fun z=>nomatch z⟩
  | str y=>obtain⟨t,q⟩:=(show ∃t,u=Value.str y t from rx);cases q;exact⟨_,W.kitx_str,True.intro,fun z=>nomatch z⟩
  | flt y=>obtain⟨t,q⟩:=(show ∃t,u=Value.float y t from rx);cases q;exact⟨_,W.kitx_float,True.intro,fun z=>nomatch z⟩
  | @lst a xs ea=>
    cases (show u=Value.ref a from rx);obtain⟨_,_,n,_,h1⟩:=(show bZ X.prog X.w H s.heap a (.lst xs) from I.hok a _ ea);exact⟨_,W.kitx_list,⟨_,h1,rfl⟩,fun z=>nomatch z⟩
  | @Fp a ob xs ea=>
    cases (show u=Value.ref a from rx);obtain⟨_,_,_,n,_,h1⟩:=(show bZ X.prog X.w H s.heap a (.Fp ob (.lst xs)) from I.hok a _ ea);exact⟨_,W.kitx_list,⟨_,h1,rfl⟩,fun z=>nomatch z⟩
  | @tup a xs ea=>
    cases (show u=Value.ref a from rx);obtain⟨_,_,_,p⟩:=(show bZ X.prog X.w H s.heap a (.tup xs) from I.hok a _ ea);obtain⟨o,h1,h2,_⟩:=p;exact⟨_,W.kitx_tuple,⟨o,h1,h2⟩,fun z=>nomatch z⟩
  | @dK a kvs ea=>
    cases (show u=Value.ref a from rx);obtain⟨_,_,vs,_,p⟩:=(show bZ X.prog X.w H s.heap a (.dK kvs) from I.hok a _ ea);obtain⟨o,es,ep,h1,h2,_⟩:=p;exact⟨_,W.kitx_dict,⟨o,h1,h2.1⟩,fun z=>nomatch z⟩
  | @dT a kvs ea=>
    cases (show u=Value.ref a from rx);obtain⟨_,_,xs,_,o,es,ep,h1,h2,_⟩:=(show bZ X.prog X.w H s.heap a (.dT kvs) from I.hok a _ ea);exact⟨_,W.kitx_dict,⟨o,h1,h2.1⟩,fun z=>nomatch z⟩
  | @ins a C dx fs ea cl ha hn htk hm=>
    cases (show u=Value.ref a from rx);obtain⟨mA,O,_⟩:=rK I.hok ea;obtain⟨od,J,_⟩:=O.look;exact⟨_,W.kitx_own (cl.get _) cl.hd ha hn htk hm,J,fun z=>nomatch z⟩
theorem JQ:bQ X (.builtin "isinstance") (fun xs H Q=>∃x n t b,xs=[x,.ty n]∧jB X.K H x t∧W.kitOne X.K t (.type n)=some b∧Q (.bl b) H):=by
  intro p_ s σ H xs us Q I r h;obtain⟨x,n,t,b,rfl,ty,e,q⟩:=h;obtain⟨u,v,rfl,rx,rc⟩:=r.two;obtain rfl:v=Value.type n:=rc;exact JG I rx ty e fun tk=>⟨.bl b,H,I.tok tk,rfl,q⟩
theorem JR:bQ X (.builtin "isinstance") (fun xs H Q=>∃x p m n t b,xs=[x,.ref p]∧H p=some (.tup [.ty m,.ty n])∧jB X.K H x t∧W.kitAny X.K t [.type m,.type n]=some b∧Q (.bl b) H):=by
  intro p_ s σ H xs us Q I r h;obtain⟨x,p,m,n,t,b,rfl,hp,ty,e,q⟩:=h;obtain⟨u,v,rfl,rx,rc⟩:=r.two;obtain rfl:v=Value.ref p:=rc;obtain⟨Φ,Z,hΦ,hne⟩:=ty.kit I rx;obtain⟨_,its,rv,o,e1,e2,k,e3⟩:=(show bZ X.prog X.w H s.heap p (.tup [.ty m,.ty n]) from I.hok p _ hp);obtain⟨u1,u2,rfl,r1,r2⟩:=rv.two;obtain rfl:u1=Value.type m:=r1;obtain rfl:u2=Value.type n:=r2;obtain⟨c,dd,dt,sl⟩:=o;replace e2:c = .type "tuple" :=e2;replace e3:dt = .seq [Value.type m,Value.type n].toArray k:=e3;subst e2 e3;exact W.kia_tup Z I.u_ hΦ e1 e hne fun tk=>⟨.bl b,H,I.tok tk,rfl,q⟩
theorem boot_isinstance:bootBuiltins "isinstance" = some (.builtin "isinstance"):=by decide+kernel
theorem boot_str:bootBuiltins "str" = some (.type "str"):=by decide+kernel
theorem boot_list:bootBuiltins "list" = some (.type "list"):=by decide+kernel
theorem boot_tuple:bootBuiltins "tuple" = some (.type "tuple"):=by decide+kernel
theorem zc:bootBuiltins "int" = some (.type "int"):=by decide+kernel
theorem Gn:bootBuiltins "bool" = some (.type "bool"):=by decide+kernel
theorem Gp:bootBuiltins "dict" = some (.type "dict"):=by decide+kernel
theorem JT:bootBuiltins "set" = some (.type "set"):=by decide+kernel
end
mutual
def Is (K:W.Frag) (H:Hp):PyData→V→Prop
  | .none,v=>v = .non
  | .bool b,v=>v = .bl b
  | .int i,v=>v = .int i
  | .str x,v=>v = .str x
  | .list ds,v=>∃a xs,v = .ref a∧aR K H a xs∧oH K H ds xs
  | .tuple ds,v=>∃a xs,v = .ref a∧eO K H a xs∧oH K H ds xs
  | .dict _,_=>False
def oH (K:W.Frag) (H:Hp):List PyData→List V→Prop
  | [],vs=>vs=[]
  | d::ds,vs=>∃v r,vs=v::r∧Is K H d v∧oH K H ds r
end
section
variable {X:Cx} {p_:List (Addr×Obj)} {σ:St} {H:Hp} {s:Shared}
mutual
theorem Is.reads (I:Inv X p_ σ H s):∀(d:PyData) (v:V) (u:Value),Is X.K H d v→RelV v u→∃as,Reads s.heap u d as
  | .none,v,u,h,r=>by
    simp only[Is] at h;subst h;cases r;exact⟨_,.none⟩
  | .bool b,v,u,h,r=>by
    simp only[Is] at h;subst h;cases r;exact⟨_,.bool b⟩
  | .int i,v,u,h,r=>by
    simp only[Is] at h;subst h;obtain⟨t,rfl⟩:=r;exact⟨_,.int i t⟩
  | .str x,v,u,h,r=>by
    simp only[Is] at h;subst h;obtain⟨t,rfl⟩:=r;exact⟨_,.str x t⟩
  | .list ds,v,u,h,r=>by
    simp only[Is] at h;obtain⟨a,xs,rfl,hq,hs⟩:=h;cases r;obtain⟨its,rv,pl,hz⟩:=I.list hq;obtain⟨o,e,c,n,dt⟩:=pl.isList;obtain⟨as,ra⟩:=oH.reads I ds xs its hs rv;exact⟨_,.list e c dt (by simpa using ra)⟩
  | .tuple ds,v,u,h,r=>by
    simp only[Is] at h;obtain⟨a,xs,rfl,hq,hs⟩:=h;cases r;obtain⟨its,rv,pl,hz⟩:=I.tuple hq;obtain⟨o,e,c,n,dt⟩:=pl;obtain⟨as,ra⟩:=oH.reads I ds xs its hs rv;exact⟨_,.tuple e c dt (by simpa using ra)⟩
  | .dict _,v,u,h,r=>by
    simp only[Is] at h
theorem oH.reads (I:Inv X p_ σ H s):∀(ds:List PyData) (vs:List V) (us:List Value),oH X.K H ds vs→Vals vs us→∃as,ReadsAll s.heap us ds as
  | [],vs,us,h,r=>by
    simp only[oH] at h;subst h;cases r;exact⟨_,.nil⟩
  | d::ds,vs,us,h,r=>by
    simp only[oH] at h;obtain⟨v,vr,rfl,h1,h2⟩:=h;cases r with
    | cons r1 r2=>
      obtain⟨as,ra⟩:=Is.reads I d v _ h1 r1;obtain⟨bs,rb⟩:=oH.reads I ds vr _ h2 r2;exact⟨_,.cons ra rb⟩
end
theorem Wi:fP X (compareOp .Eq) (fun x y H Q=>∃d e,Is X.K H d x∧Is X.K H e y∧d.canLay0=true∧e.canLay0=true∧X.A.units+min d.depth e.depth<cLine∧Q (.bl (PyData.eqv d e)) H):=by
  intro p_ s σ H x y v u Q I rx ry h;obtain⟨d,e,hx,hy,h1,h2,hu,q⟩:=h;obtain⟨as,ra⟩:=hx.reads I d x v rx;obtain⟨bs,rb⟩:=hy.reads I e y u ry;exact SeqAt.compareEq_reads ra rb h1 h2 hu ⟨.bl _,H,I,rfl,q⟩
theorem Wj:fP X (compareOp .NotEq) (fun x y H Q=>∃d e,Is X.K H d x∧Is X.K H e y∧d.canLay0=true∧e.canLay0=true∧X.A.units+min d.depth e.depth<cLine∧Q (.bl (!PyData.eqv d e)) H):=by
  intro p_ s σ H x y v u Q I rx ry h;obtain⟨d,e,hx,hy,h1,h2,hu,q⟩:=h;obtain⟨as,ra⟩:=hx.reads I d x v rx;obtain⟨bs,rb⟩:=hy.reads I e y u ry;exact SeqAt.compareNe_reads ra rb h1 h2 hu ⟨.bl _,H,I,rfl,q⟩
end
section
variable {X:Cx}
def Ag:V→List V→Hp→VK→Prop:=fun x vs H Q=>∃l xs i y,x = .ref l∧vs=[.int i,y]∧H l=some (.lst xs)∧0≤i∧i≤xs.length∧xs.length<sizeLine∧Q .non (upd H l (.lst (xs.take i.toNat++y::xs.drop i.toNat)))
theorem Vals.ins {y:V} {u:Value} (ru:RelV y u):∀{xs:List V} {us:List Value} (i:Nat),Vals xs us→Vals (xs.take i++y::xs.drop i) (us.take i++u::us.drop i):=fun i r=>(r.take i).append (.cons ru (r.drop i))
theorem JV:MtM X "list.insert" Ag:=by
  intro p_ s σ H x vs v us Q I rx rv h;obtain⟨l,xs,i,y,rfl,rfl,hH,h0,hi,hz,q⟩:=h;cases rx;obtain⟨u1,u,rfl,⟨t,rfl⟩,ru⟩:=rv.two;obtain⟨z,its,n,r,hl,e⟩:=I.Gh hH;have hn:=qQ;have hfit:¬(!Builtin.List.listFitsIndex i)=true:=by
    unfold Builtin.List.listFitsIndex;simp;omega
  refine call_meets F.slot_list_insert ⟨_,e,rfl⟩ F.entry_list_insert (F.args_list_insert_3 _ _ _) (PySem.AutoListH.list_insert_list_int_val_1 l its.toArray n i t u hfit (by rw[List.size_toArray];omega)) ⟨e,?_⟩;refine⟨.non,_,I.Wa (its':=its.take i.toNat++u::its.drop i.toNat) hH e ?_ (r.ins ru i.toNat) ?_,rfl,q⟩
  · have hm:min i.toNat its.length=i.toNat:=by omega
    simp only[List.size_toArray];rw[if_neg (by omega),hm];apply Array.toList_inj.mp;simp;exact List.take_of_length_le (by simp)
  ·simp;omega
end
section
variable {X:Cx}
def mO:List V→List Bool→Prop
  | [],bs=>bs=[]
  | x::xs,bs=>∃b r,bs=b::r∧x = .bl b∧mO xs r
theorem mO.get:∀{xs:List V} {bs:List Bool} {its:List Value},mO xs bs→Vals xs its→xs.length=bs.length∧∀(i:Nat) (v:Value),its[i]? = some v→v = .bool (bs.getD i false)
  | [],bs,its,h,r=>by
    cases h;cases r;exact⟨rfl,fun i v e=>by simp at e⟩
  | x::xs,bs,its,h,r=>by
    obtain⟨b,br,rfl,rfl,h⟩:=h;cases r with
    | cons r1 r2=>
      obtain⟨h1,h2⟩:=mO.get h r2;refine⟨by simp[h1],fun i v e=>?_⟩;cases i with
      | zero=>
        simp at e;subst e;exact r1
      | succ i=>
        simp at e;simpa using h2 i v e
theorem range_all (bs:List Bool):(List.range bs.length).all (fun i=>bs.getD i false)=bs.all id:=by
  rw[Bool.eq_iff_iff,List.all_eq_true,List.all_eq_true];constructor
  ·intro h b hb;obtain⟨i,hi,rfl⟩:=List.mem_iff_getElem.mp hb;have:=h i (List.mem_range.mpr hi);simpa [List.getD,hi] using this
  ·intro h i hi;have hi':=List.mem_range.mp hi;have:=h bs[i] (List.getElem_mem hi');simpa [List.getD,hi'] using this
theorem JW (hc:X.calm=true):bQ X (.builtin "all") (fun xs H Q=>∃a ys bs,xs=[.ref a]∧H a=some (.lst ys)∧mO ys bs∧Q (.bl (bs.all id)) H):=by
  intro p_ s σ H xs us Q I r h;obtain⟨a,ys,bs,rfl,ha,hb,q⟩:=h;obtain⟨u,rfl,ru⟩:=r.one;obtain rfl:u=Value.ref a:=ru;obtain⟨z,its,n,rv,hl,e⟩:=I.Gh ha;obtain⟨h1,h2⟩:=hb.get rv;have hL:s.heap.IsList a its.toArray:=⟨_,e,rfl,n,rfl⟩;refine call_all_walk ?_;refine wpAny_pyIter_list hL ?_;have hne:a≠s.heap.objs.size:=Nat.ne_of_lt (Heap.lt_size e);have hL2:(s.heap.push {cls:=.type "list_iterator",data:=.fields #[.ref a,.int 0 0]}).IsList a its.toArray:=⟨_,Heap.get?_push_of_some _ e,rfl,n,rfl⟩;refine⟨s.heap.objs.size,_,_,_,_,_,fun i=>bs.getD i false,rfl,Walks.list (by exact I.ok.hd hc) s.heap.objs.size a hne its.toArray,⟨⟨_,Heap.get?_push_size _ rfl,rfl,rfl⟩,hL2⟩,fun i v s' Q' E' hP hQ=>?_,fun h' tk kk=>?_⟩
  ·obtain rfl:=h2 i v (by simpa using hP);exact wpAny_truthy_bool hQ
  · have e2:(List.range its.toArray.size).all (fun i=>bs.getD i false)=bs.all id:=by
      rw[List.size_toArray,← hl,h1];exact range_all bs
    rw[e2];refine⟨.bl _,H,?_,rfl,q⟩;exact I.kept (h':=h') (t':=tk) fun b o eb=>kk b o (by simp;exact Nat.ne_of_lt (Heap.lt_size eb)) (Heap.get?_push_of_some _ eb)
end
def Ah (l:List Key) (k:Key):Bool:=l.any fun x=>decide (x=k)
theorem MP {l:List Key} {k:Key}:Ah l k=true↔k∈l:=by
  unfold Ah;rw[List.any_eq_true];constructor
  ·rintro⟨x,hx,e⟩;have e':=of_decide_eq_true e;subst e';exact hx
  ·intro h;exact⟨k,h,decide_eq_true rfl⟩
theorem M4 (l:List Key) (x k:Key):Ah (l++[x]) k=(Ah l k || decide (k=x)):=by
  unfold Ah;rw[List.any_append];simp only[List.any_cons,List.any_nil,Bool.or_false];congr 1;exact decide_eq_decide.mpr ⟨fun e=>e.symm,fun e=>e.symm⟩
def tY (acc:List Key) (k:Key):List Key:=if Ah acc k=true then acc else acc++[k]
def yE (val:Nat→Key) (i:Nat):List Key:=((List.range i).map val).foldl tY []
theorem rP (val:Nat→Key) (i:Nat):yE val (i+1)=tY (yE val i) (val i):=by
  unfold yE;rw[List.range_succ,List.map_append,List.foldl_append];rfl
theorem M5 (val:Nat→Key):∀i,(yE val i).length≤i
  | 0=>Nat.le_refl _
  | i+1=>by
    rw[rP];have ih:=M5 val i;unfold tY;split
    ·omega
    ·rw[List.length_append,List.length_singleton];omega
theorem M6 (val:Nat→Key):∀n,(∀i j,i<n→j<n→val i=val j→i=j)→(yE val n).length=n∧∀k,k∈yE val n→∃i,i<n∧val i=k
  | 0,_=>⟨rfl,fun k h=>by simp[yE] at h⟩
  | n+1,h=>by
    obtain⟨h1,h2⟩:=M6 val n fun i j hi hj=>h i j (by omega) (by omega);have hnot:¬Ah (yE val n) (val n)=true:=fun hm=>by
      obtain⟨i,hi,e⟩:=h2 _ (MP.mp hm);have:=h i n (by omega) (by omega) e;omega
    rw[rP];unfold tY;rw[if_neg hnot];refine⟨by simp[h1],fun k hk=>?_⟩
    rcases List.mem_append.mp hk with z | z
    ·obtain⟨i,hi,e⟩:=h2 k z;exact⟨i,by omega,e⟩
    ·exact⟨n,by omega,(List.mem_singleton.mp z).symm⟩
theorem Rm {k:Key} {v:Value} (h:oN k v=true):v.scannable=true:=by
  rcases cG h with⟨i,t,rfl,rfl⟩ | ⟨x,t,rfl,rfl⟩ <;> rfl
theorem CJ {P:Program} {w:World} {h:Heap} {a:Addr} {S S':Key→Bool} {n n':Nat} (x:h.SetOf (bA P w) a S n) (e:∀k,S k=S' k) (en:n=n'):h.SetOf (bA P w) a S' n':=by
  have:S=S':=funext e;subst this;subst en;exact x
abbrev kI (P:Program) (w:World) (h:Heap) (a:Addr) (l:List Key):Prop:=h.SetOf (bA P w) a (Ah l) l.length
theorem kI.at {P:Program} {w:World} {h h':Heap} {a:Addr} {l:List Key} (x:kI P w h a l) (k:∀o,h.get? a=some o→h'.get? a=some o):kI P w h' a l:=by
  obtain⟨o,es,ep,t,e,r⟩:=x;exact⟨o,es,ep,t,k o e,r⟩
theorem zf {P:Program} {w:World} {h:Heap} {a:Addr} {led:Bool} (e:h.get? a=some {cls:=.type "set",dict:=none,data:=.set #[] 0 (.fresh 0 0 led)}):kI P w h a []:=
  ⟨_,#[],0,.fresh 0 0 led,e,⟨rfl,rfl,rfl⟩,rfl,(fun x hx=>by simp at hx),(fun k=>by simp[Ah]),(by unfold scanBound;decide),(by cases led <;> rfl),rfl⟩
section
variable {P:Program} {w:World} {A:Around} {R:Result→Shared→Prop} {I:Addr} {fp wr:List Addr} {n:Nat} {PP:Nat→Value→Prop} {St:Nat→Heap→Prop}
theorem CK (fW:Walks P w A.in1 I fp wr n PP St) (S:Addr) (hSf:S∉fp) (val:Nat→Key) (hval:∀i v,PP i v→oN (val i) v=true) (hb:n+1<scanBound) :
    ∀(k i:Nat) (s:Shared),n - i=k→i≤n→St i s.heap→kI P w s.heap S (yE val i)→
      (∀h' tk,(∀b o,b≠S→b∉wr→s.heap.get? b=some o→h'.get? b=some o)→kI P w h' S (yE val n)→R (.ok (.ret .none)) {s with heap:=h',toks:=tk})→
      codeAny (model P w) A (.builtin "set.update.loop" ⟨[.ref S,.ref I],[]⟩) R s:=by
  have hSw:S∉wr:=fun h=>hSf (fW.sub _ h);intro k
  induction k with
  | zero=>
    intro i s hk hi hst hS hR;obtain rfl:i=n:=by omega
    refine codeAny_builtin PyProof.Rows.F.entry_set_update_loop ?_;rw[Around.under_plainId PyProof.Rows.F.plain_set_update_loop _];show wpAny _ A.in1 (pyNext (.ref I) >>= _) _ _ s;refine wpAny_bind (fW.done s _ _ hst fun h' tk hm=>?_);exact wpAny_pure (hR h' tk (fun b o _ hb e=>hm b o hb e) (hS.at fun o e=>hm S o hSw e))
  | succ k ih=>
    intro i s hk hi hst hS hR;have hlt:i<n:=by omega
    refine codeAny_builtin PyProof.Rows.F.entry_set_update_loop ?_;rw[Around.under_plainId PyProof.Rows.F.plain_set_update_loop _];show wpAny _ A.in1 (pyNext (.ref I) >>= _) _ _ s;refine wpAny_bind (fW.item i s _ _ hlt hst fun v h' tk hP hst' hm=>?_);have hkey:(bA P w).is (val i) v=true:=hval i v hP;have hS':kI P w h' S (yE val i):=hS.at fun o e=>hm S o hSw e;show wpAny _ A.in1 (holding [v] (setAdd S v) >>= _) _ _ _;refine wpAny_bind (wpAny_holding ?_);unfold setAdd;refine wpAny_holding (wpAny_bind ((bA P w).pyHash (k:=val i) hkey ?_));have hroom:(yE val i).length+1<scanBound:=by have:=M5 val i;omega
    refine wpAny_setAddHashed_of (knd:=bA P w) (s:={s with heap:=h',toks:=tk+1}) hkey (Rm (hval i v hP)) hS' hroom fun h2 hsb hS2=>?_;have hSi:kI P w h2 S (yE val (i+1)):=by
      refine CJ hS2 (fun k'=>?_) ?_
      · rw[rP];unfold tY;split
        · rename_i hm1
          by_cases e:k'=val i
          ·rw[e,hm1];rfl
          ·rw[decide_eq_false e,Bool.or_false]
        ·exact(M4 _ _ _).symm
      · rw[rP];unfold tY;split
        ·rfl
        ·rw[List.length_append,List.length_singleton]
    refine wpAny_pure ⟨plainId_quiet PyProof.Rows.F.plain_set_update_loop _,ih (i+1) _ (by omega) hlt (fW.frame _ h' _ hst' fun b hb o e=>?_) hSi fun h3 tk3 hm3 hS3=>?_⟩
    ·exact(hsb.2 b (fun z:b=S=>hSf (by rw[← z];exact hb))).trans e
    ·refine hR h3 tk3 (fun b o hbS hbw e=>hm3 b o hbS hbw ?_) hS3;exact(hsb.2 b hbS).trans (hm b o hbw e)
end
theorem yF:isSubtype (.type "list") (.type "set")=pure false:=by rw[isSubtype_type];kernel_rfl
theorem tZ:isSubtype (.type "list") (.type "frozenset")=pure false:=by rw[isSubtype_type];kernel_rfl
set_option maxHeartbeats 4000000 in
theorem CN {P:Program} {w:World} {A:Around} {E:Value→Shared→Prop} {s:Shared} {l:Addr} {its:Array Value} {val:Nat→Key} {Q:Value→Shared→Prop}
    (hh:A.handled=none) (hl:s.heap.IsList l its) (hval:∀i v,its[i]? = some v→oN (val i) v=true) (hb:its.size+1<scanBound)
    (h:∀(g:Heap) (tk:Nat),kI P w g s.heap.objs.size (yE val its.size)→(∀b o,s.heap.get? b=some o→g.get? b=some o)→Q (.ref s.heap.objs.size) {s with heap:=g,toks:=tk}) :
    wpAny (model P w) A (call (.type "set") [.ref l]) Q E s:=by
  obtain⟨c,tl,hmro⟩:=PySem.F.called_set.mro;have q1:=PySem.F.called_set.made;have q2:=PySem.F.called_set.sub;refine wpAny_call (codeAny_of_tree ?_);show wpAny _ _ (callAny (.type "set") _) _ _ s;refine wpAny_pure ⟨Code.quiet_builtin _ (by decide+kernel),codeAny_builtin PySem.F.entry_type_call ?_⟩;rw[Around.under_plain (weight_type_call_type "set" [.ref l] []) rfl];have q3:=PySem.F.called_set.notType;have q4:=PySem.F.called_set.canCreate;have q5:=PySem.F.typeCall_set_1 (.ref l)
  repeat (any_goals (first | assumption | wp_step))
  refine codeAny_mono (code_set_new_1 (.ref l) (E:=E) (Q₁:=fun ob s1=>∃led:Bool,ob = .ref s.heap.objs.size∧s1={s with heap:=s.heap.push {cls:=.type "set",dict:=none,data:=.set #[] 0 (.fresh 0 0 led)}}) fun led=>⟨led,rfl,rfl⟩) fun r s1 hr=>?_;cases r with
  | error e=>exact hr
  | ok fl=>
    cases fl with
    | ret ob=>
      obtain⟨led,rfl,rfl⟩:=hr;have new:(s.heap.push {cls:=.type "set",dict:=none,data:=.set #[] 0 (.fresh 0 0 led)}).get? s.heap.objs.size=some {cls:=.type "set",dict:=none,data:=.set #[] 0 (.fresh 0 0 led)}:=Heap.get?_push_size _ rfl;have ty:Shared.TypeIs {s with heap:=s.heap.push {cls:=.type "set",dict:=none,data:=.set #[] 0 (.fresh 0 0 led)}} (.ref s.heap.objs.size) "set" :=⟨_,new,rfl⟩;have q6:=PySem.F.called_set.init.lookup;have q7:=PySem.F.called_set.init.bind (.ref s.heap.objs.size)
      repeat (any_goals (first | assumption | wp_step))
      refine codeAny_mono (codeAny_call_builtin (R:=wants (fun r s2=>r = .none∧∃g tk,s2={s with heap:=g,toks:=tk}∧kI P w g s.heap.objs.size (yE val its.size)∧(∀b o,s.heap.get? b=some o→g.get? b=some o)) E)
        PySem.F.called_set.init.plain PySem.F.entry_set_init (check_set_init_1 ty ?_)) fun r2 s2 hr2=>?_
      · obtain⟨ol,ho,hcl,nl,hdl⟩:=hl;obtain⟨oc,od,odt,osl⟩:=ol;simp only at hcl hdl;subst hcl;subst hdl;have ho2:(s.heap.push {cls:=.type "set",dict:=none,data:=.set #[] 0 (.fresh 0 0 led)}).get? l=some {cls:=.type "list",dict:=od,data:=.seq its nl,slots:=osl}:=Heap.get?_push_of_some _ ho;have q8:=yF;have q9:=tZ;have q10:(Value.type "list" == Value.type "dict")=false:=by decide
        have hl1:(s.heap.push {cls:=.type "set",dict:=none,data:=.set #[] 0 (.fresh 0 0 led)}).IsList l its:=⟨_,ho2,rfl,nl,rfl⟩;unfold Builtin.«set.__init__» noKeywords Builtin.Frozenset.updateFrom;generalize hPI:pyIter=PI
        wp_walk
        subst hPI;refine wpAny_pyIter_list hl1 ?_;refine wpAny_bind (wpAny_runValue ?_);have Zx:l<s.heap.objs.size:=Heap.lt_size ho;have hh3:A.in1.in1.in1.handled=none:=by simp[hh]
        have ne1:l≠(s.heap.push {cls:=.type "set",dict:=none,data:=.set #[] 0 (.fresh 0 0 led)}).objs.size:=by
          rw[Heap.size_push];exact Nat.ne_of_lt (Nat.lt_succ_of_lt Zx)
        have nf:s.heap.objs.size∉[(s.heap.push {cls:=.type "set",dict:=none,data:=.set #[] 0 (.fresh 0 0 led)}).objs.size,l]:=by
          rw[Heap.size_push];simp only[List.mem_cons,List.mem_singleton,List.not_mem_nil,or_false,not_or];exact⟨Nat.ne_of_lt (Nat.lt_succ_self _),Nat.ne_of_gt Zx⟩
        refine CK (Walks.list hh3 _ l ne1 its) s.heap.objs.size nf val hval hb (its.size - 0) 0 _ (by omega) (Nat.zero_le _) ⟨⟨_,Heap.get?_push_size _ rfl,rfl,rfl⟩,hl1.push _⟩ ?hS0 ?hR
        case hS0=>
          have hget:((s.heap.push {cls:=.type "set",dict:=none,data:=.set #[] 0 (.fresh 0 0 led)}).push {cls:=.type "list_iterator",data:=.fields #[.ref l,.int 0 0]}).get? s.heap.objs.size
              = some {cls:=.type "set",dict:=none,data:=.set #[] 0 (.fresh 0 0 led)}:=Heap.get?_push_of_some _ new
          exact zf hget
        case hR=>
          intro g tk hm hS;show wpAny _ _ _ _ _ _;refine wpAny_pure ?_;show wpAny _ _ (ret Value.none) _ _ _;refine wpAny_pure ⟨rfl,g,tk,rfl,hS,fun b o e=>?_⟩;have lb:b<s.heap.objs.size:=Heap.lt_size e;refine hm b o (Nat.ne_of_lt lb) ?_ (Heap.get?_push_of_some _ (Heap.get?_push_of_some _ e));simp only[List.mem_cons,List.not_mem_nil,or_false];rw[Heap.size_push];exact Nat.ne_of_lt (Nat.lt_succ_of_lt lb)
      · cases r2 with
        | error e=>exact hr2
        | ok fl2=>
          cases fl2 with
          | ret r=>
            obtain⟨rfl,g,tk,rfl,hS,hk⟩:=hr2
            repeat (any_goals (first | assumption | wp_step))
            exact h _ _ hS hk
          | _=>exact hr2.elim
    | _=>exact hr.elim
theorem wu:isSubtype (.type "tuple") (.type "set")=pure false:=by rw[isSubtype_type];kernel_rfl
theorem rQ:isSubtype (.type "tuple") (.type "frozenset")=pure false:=by rw[isSubtype_type];kernel_rfl
set_option maxHeartbeats 4000000 in
theorem Ai {P:Program} {w:World} {A:Around} {E:Value→Shared→Prop} {s:Shared} {l:Addr} {its:Array Value} {val:Nat→Key} {Q:Value→Shared→Prop}
    (hh:A.handled=none) (hl:s.heap.IsTuple l its) (hval:∀i v,its[i]? = some v→oN (val i) v=true) (hb:its.size+1<scanBound)
    (h:∀(g:Heap) (tk:Nat),kI P w g s.heap.objs.size (yE val its.size)→(∀b o,s.heap.get? b=some o→g.get? b=some o)→Q (.ref s.heap.objs.size) {s with heap:=g,toks:=tk}) :
    wpAny (model P w) A (call (.type "set") [.ref l]) Q E s:=by
  obtain⟨c,tl,hmro⟩:=PySem.F.called_set.mro;have q1:=PySem.F.called_set.made;have q2:=PySem.F.called_set.sub;refine wpAny_call (codeAny_of_tree ?_);show wpAny _ _ (callAny (.type "set") _) _ _ s;refine wpAny_pure ⟨Code.quiet_builtin _ (by decide+kernel),codeAny_builtin PySem.F.entry_type_call ?_⟩;rw[Around.under_plain (weight_type_call_type "set" [.ref l] []) rfl];have q3:=PySem.F.called_set.notType;have q4:=PySem.F.called_set.canCreate;have q5:=PySem.F.typeCall_set_1 (.ref l)
  repeat (any_goals (first | assumption | wp_step))
  refine codeAny_mono (code_set_new_1 (.ref l) (E:=E) (Q₁:=fun ob s1=>∃led:Bool,ob = .ref s.heap.objs.size∧s1={s with heap:=s.heap.push {cls:=.type "set",dict:=none,data:=.set #[] 0 (.fresh 0 0 led)}}) fun led=>⟨led,rfl,rfl⟩) fun r s1 hr=>?_;cases r with
  | error e=>exact hr
  | ok fl=>
    cases fl with
    | ret ob=>
      obtain⟨led,rfl,rfl⟩:=hr;have new:(s.heap.push {cls:=.type "set",dict:=none,data:=.set #[] 0 (.fresh 0 0 led)}).get? s.heap.objs.size=some {cls:=.type "set",dict:=none,data:=.set #[] 0 (.fresh 0 0 led)}:=Heap.get?_push_size _ rfl;have ty:Shared.TypeIs {s with heap:=s.heap.push {cls:=.type "set",dict:=none,data:=.set #[] 0 (.fresh 0 0 led)}} (.ref s.heap.objs.size) "set" :=⟨_,new,rfl⟩;have q6:=PySem.F.called_set.init.lookup;have q7:=PySem.F.called_set.init.bind (.ref s.heap.objs.size)
      repeat (any_goals (first | assumption | wp_step))
      refine codeAny_mono (codeAny_call_builtin (R:=wants (fun r s2=>r = .none∧∃g tk,s2={s with heap:=g,toks:=tk}∧kI P w g s.heap.objs.size (yE val its.size)∧(∀b o,s.heap.get? b=some o→g.get? b=some o)) E)
        PySem.F.called_set.init.plain PySem.F.entry_set_init (check_set_init_1 ty ?_)) fun r2 s2 hr2=>?_
      · obtain⟨ol,ho,hcl,nl,hdl⟩:=hl;obtain⟨oc,od,odt,osl⟩:=ol;simp only at hcl hdl;subst hcl;subst hdl;have ho2:(s.heap.push {cls:=.type "set",dict:=none,data:=.set #[] 0 (.fresh 0 0 led)}).get? l=some {cls:=.type "tuple",dict:=od,data:=.seq its nl,slots:=osl}:=Heap.get?_push_of_some _ ho;have q8:=wu;have q9:=rQ;have q10:(Value.type "tuple" == Value.type "dict")=false:=by decide
        have hl1:(s.heap.push {cls:=.type "set",dict:=none,data:=.set #[] 0 (.fresh 0 0 led)}).IsTuple l its:=⟨_,ho2,rfl,nl,rfl⟩;unfold Builtin.«set.__init__» noKeywords Builtin.Frozenset.updateFrom;generalize hPI:pyIter=PI
        wp_walk
        subst hPI;refine wpAny_pyIter_tuple hl1 ?_;refine wpAny_bind (wpAny_runValue ?_);have Zx:l<s.heap.objs.size:=Heap.lt_size ho;have hh3:A.in1.in1.in1.handled=none:=by simp[hh]
        have ne1:l≠(s.heap.push {cls:=.type "set",dict:=none,data:=.set #[] 0 (.fresh 0 0 led)}).objs.size:=by
          rw[Heap.size_push];exact Nat.ne_of_lt (Nat.lt_succ_of_lt Zx)
        have nf:s.heap.objs.size∉[(s.heap.push {cls:=.type "set",dict:=none,data:=.set #[] 0 (.fresh 0 0 led)}).objs.size,l]:=by
          rw[Heap.size_push];simp only[List.mem_cons,List.mem_singleton,List.not_mem_nil,or_false,not_or];exact⟨Nat.ne_of_lt (Nat.lt_succ_self _),Nat.ne_of_gt Zx⟩
        refine CK (Walks.tuple hh3 _ l ne1 its) s.heap.objs.size nf val hval hb (its.size - 0) 0 _ (by omega) (Nat.zero_le _) ⟨⟨_,Heap.get?_push_size _ rfl,rfl,rfl⟩,⟨_,Heap.get?_push_of_some _ ho2,rfl,nl,rfl⟩⟩ ?hS0 ?hR
        case hS0=>
          have hget:((s.heap.push {cls:=.type "set",dict:=none,data:=.set #[] 0 (.fresh 0 0 led)}).push {cls:=.type "tuple_iterator",data:=.fields #[.ref l,.int 0 0]}).get? s.heap.objs.size
              = some {cls:=.type "set",dict:=none,data:=.set #[] 0 (.fresh 0 0 led)}:=Heap.get?_push_of_some _ new
          exact zf hget
        case hR=>
          intro g tk hm hS;show wpAny _ _ _ _ _ _;refine wpAny_pure ?_;show wpAny _ _ (ret Value.none) _ _ _;refine wpAny_pure ⟨rfl,g,tk,rfl,hS,fun b o e=>?_⟩;have lb:b<s.heap.objs.size:=Heap.lt_size e;refine hm b o (Nat.ne_of_lt lb) ?_ (Heap.get?_push_of_some _ (Heap.get?_push_of_some _ e));simp only[List.mem_cons,List.not_mem_nil,or_false];rw[Heap.size_push];exact Nat.ne_of_lt (Nat.lt_succ_of_lt lb)
      · cases r2 with
        | error e=>exact hr2
        | ok fl2=>
          cases fl2 with
          | ret r=>
            obtain⟨rfl,g,tk,rfl,hS,hk⟩:=hr2
            repeat (any_goals (first | assumption | wp_step))
            exact h _ _ hS hk
          | _=>exact hr2.elim
    | _=>exact hr.elim
def Rn (P:Program) (w:World) (a:Addr) (l:List Key):HO:=.ext fun h=>kI P w h a l
section
variable {X:Cx}
def keysOf:List V→List Key
  | []=>[]
  | .int i::r=>.inl i::keysOf r
  | .str x::r=>.inr x::keysOf r
  | _::r=>keysOf r
def isKey:V→Bool
  | .int _=>true
  | .str _=>true
  | _=>false
theorem Aj:∀{xs:List V} {its:List Value},xs.all isKey=true→Vals xs its→(keysOf xs).length=its.length∧∀(i:Nat) (v:Value),its[i]? = some v→oN ((keysOf xs).getD i (.inl 0)) v=true
  | [],_,_,.nil=>⟨rfl,fun i v e=>by simp at e⟩
  | x::xs,u::us,h,.cons r1 r2=>by
    rw[List.all_cons,Bool.and_eq_true] at h;obtain⟨h1,h2⟩:=Aj h.2 r2;cases x with
    | int i=>
      obtain⟨t,rfl⟩:=r1;refine⟨by simp[keysOf,h1],fun j v e=>?_⟩;cases j with
      | zero=>simp at e;subst e;exact yR i t
      | succ j=>simp at e;simpa [keysOf] using h2 j v e
    | str z=>
      obtain⟨t,rfl⟩:=r1;refine⟨by simp[keysOf,h1],fun j v e=>?_⟩;cases j with
      | zero=>simp at e;subst e;exact yS z t
      | succ j=>simp at e;simpa [keysOf] using h2 j v e
    | _=>exact absurd (show false=true from h.1) Bool.false_ne_true
theorem JX (hc:X.calm=true):bQ X (.type "set") (fun xs H Q=>∃a ys,xs=[.ref a]∧(aR X.K H a ys∨eO X.K H a ys)∧ys.all isKey=true∧ys.length+1<scanBound∧
    ∀p,H p=none→Q (.ref p) (upd H p (Rn X.prog X.w p (yE (fun i=>(keysOf ys).getD i (.inl 0)) ys.length)))):=by
  intro p_ s σ H xs us Q I r h;obtain⟨a,ys,rfl,hq,hk,hb,q⟩:=h;obtain⟨u,rfl,ru⟩:=r.one;obtain rfl:u=Value.ref a:=ru;have fin:∀(g:Heap) (tk:Nat),kI X.prog X.w g s.heap.objs.size (yE (fun i=>(keysOf ys).getD i (.inl 0)) ys.length)→(∀b o,s.heap.get? b=some o→g.get? b=some o)→EP X p_ σ Q (.ref s.heap.objs.size) {s with heap:=g,toks:=tk}:=fun g tk hS kk=>by
    have hn:H s.heap.objs.size=none:=I.hok.fresh (Nat.le_refl _);refine⟨.ref s.heap.objs.size,_,I.laid (o:=Rn X.prog X.w s.heap.objs.size (yE (fun i=>(keysOf ys).getD i (.inl 0)) ys.length)) (fun b o e=>kk b o e) (Nat.le_refl _) ⟨hS,?_,fun h1 h2 p k=>p.at k⟩,rfl,q _ hn⟩;obtain⟨o,_,_,_,e,_⟩:=hS;exact⟨o,e⟩
  rcases hq with hq | hq
  · obtain⟨its,rv,pl,hz⟩:=I.list hq;obtain⟨h1,h2⟩:=Aj hk rv;have hl:=rv.length;refine CN (val:=fun i=>(keysOf ys).getD i (.inl 0)) (I.ok.hd hc) pl.isList (fun i v e=>h2 i v (by simpa using e)) (by rw[List.size_toArray];omega) fun g tk hS kk=>fin g tk ?_ kk;have ez:its.toArray.size=ys.length:=by rw[List.size_toArray,hl]
    rw[ez] at hS;exact hS
  · obtain⟨its,rv,pl,hz⟩:=I.tuple hq;obtain⟨h1,h2⟩:=Aj hk rv;have hl:=rv.length;refine Ai (val:=fun i=>(keysOf ys).getD i (.inl 0)) (I.ok.hd hc) (show s.heap.IsTuple a its.toArray from pl) (fun i v e=>h2 i v (by simpa using e)) (by rw[List.size_toArray];omega) fun g tk hS kk=>fin g tk ?_ kk;have ez:its.toArray.size=ys.length:=by rw[List.size_toArray,hl]
    rw[ez] at hS;exact hS
theorem JZ:bQ X (.builtin "len") (fun xs H Q=>∃a l,xs=[.ref a]∧H a=some (Rn X.prog X.w a l)∧Q (.int l.length) H):=by
  intro p_ s σ H xs us Q I r h;obtain⟨a,l,rfl,ha,q⟩:=h;obtain⟨u,rfl,ru⟩:=r.one;obtain rfl:u=Value.ref a:=ru;obtain⟨⟨o,es,ep,t,e,ex,hd,_,_,hsz,hf,hn⟩,_⟩:=(show bZ X.prog X.w H s.heap a (Rn X.prog X.w a l) from I.hok a _ ha);refine call_len_set e ex hd hf (by unfold scanBound at hsz;omega) ⟨.int l.length,H,I.tok _,⟨_,by rw[hn]⟩,q⟩
end
section
variable {X:Cx}
def Zy:R2:=fun x y H Q=>∃i j,x = .str i∧y = .str j∧i.length+j.length≤sizeLine∧Q (.str (i++j)) H
def qcn:R2:=fun x y H Q=>∃i j,x = .str i∧y = .str j∧Q (.bl (!(Builtin.Str.occurrences j i 0 j.length 1).isEmpty)) H
def Ro:R2:=fun x y H Q=>∃i j,x = .str i∧y = .str j∧Q (.bl (!(!(Builtin.Str.occurrences j i 0 j.length 1).isEmpty))) H
def Rp (K:W.Frag):R2:=fun x y H Q=>rIn K false x y H Q∨qcn x y H Q
def Ak (K:W.Frag):R2:=fun x y H Q=>rIn K true x y H Q∨Ro x y H Q
theorem Wk:fP X (compareOp .In) (Rp X.K):=JL.or Jy
theorem J0:fP X (compareOp .NotIn) (Ak X.K):=Aa.or Ab
def Wm (K:W.Frag):R2:=fun x y H Q=>∃p xs i v,x = .ref p∧y = .int i∧(aR K H p xs∨eO K H p xs)∧yu xs i=some v∧Q v H
theorem ixQ:Ms X (Wm X.K):=by
  intro value slice p_ s σ H x y v u Q I rx ry h hs;obtain⟨p,xs,i,z,e1,e2,hq | hq,e3,q⟩:=h
  ·exact Rb value slice p_ s σ H x y v u Q I rx ry ⟨p,xs,i,z,e1,e2,hq,e3,q⟩ hs
  ·exact V3 value slice p_ s σ H x y v u Q I rx ry ⟨p,xs,i,z,e1,e2,hq,e3,q⟩ hs
def T_ (K:W.Frag):List V→Hp→VK→Prop:=fun xs H Q=>∃p ys,xs=[.ref p]∧(aR K H p ys∨eO K H p ys)∧Q (.int ys.length) H
def Ua:List V→Hp→VK→Prop:=fun xs H Q=>∃z,xs=[.str z]∧z.length≤sizeLine∧Q (.int z.length) H
variable {K:W.Frag}
theorem qco (hK:X.K=K):Ms X (Wm K):=by subst hK;exact ixQ
theorem inK (hK:X.K=K):fP X (compareOp .In) (Rp K):=by subst hK;exact Wk
theorem Wn (hK:X.K=K):fP X (compareOp .NotIn) (Ak K):=by subst hK;exact J0
theorem Zz (hK:X.K=K):bQ X (.builtin "len") (T_ K):=by subst hK;exact Ac
theorem ZC:bQ X (.builtin "len") Ua:=Ad
def Ip (K:W.Frag):List V→Hp→VK→Prop:=fun xs H Q=>∃p ys,xs=[.ref p]∧(aR K H p ys∨eO K H p ys)∧∀l,H l=none→Q (.ref l) (upd H l (.lst ys))
theorem Rq (hK:X.K=K):bQ X (.type "list") (Ip K):=by subst hK;exact Ae
def Ub (K:W.Frag):List V→Hp→VK→Prop:=fun xs H Q=>∃x n t b,xs=[x,.ty n]∧jB K H x t∧W.kitOne K t (.type n)=some b∧Q (.bl b) H
theorem ZD (hK:X.K=K):bQ X (.builtin "isinstance") (Ub K):=by subst hK;exact JQ
def Uc (K:W.Frag):List V→Hp→VK→Prop:=fun xs H Q=>∃x p m n t b,xs=[x,.ref p]∧H p=some (.tup [.ty m,.ty n])∧jB K H x t∧W.kitAny K t [.type m,.type n]=some b∧Q (.bl b) H
theorem ZF (hK:X.K=K):bQ X (.builtin "isinstance") (Uc K):=by subst hK;exact JR
theorem iM (hK:X.K=K) {es:List Expr} {k:Nat} {pos:Pos} {t:B_} {n:Nat} (hc:X.calm=true) (h:mJ X es t)
    (hn:(assignEach es X.env).length=n:=by rfl) (hst:(assignEach es X.env).findIdx? (·.1)=none:=by rfl):PG X (.Tuple es k pos) (QL K n t):=by subst hK;exact Vp hc h hn hst
theorem bG (hK:X.K=K) {tg l:Expr} {tl:TE} (hl:PE X l tl):PI X tg l (Ib K tl):=by subst hK;exact QS hl
theorem Rr (hK:X.K=K) {tg l:Expr} {tl:TE} (hl:PE X l tl):PI X tg l (Vt K tl):=by subst hK;exact Vu hl
theorem Al (hK:X.K=K) {e:Expr} {ta:TE} {f:Str} {pos:Pos} (he:PE X e ta) (hb:attributeBase e f X.env (eval e X.env)=eval e X.env):PE X (.Attribute e f pos) (Q9 K ta f):=by subst hK;exact VR he hb
theorem jQ (hK:X.K=K) {o e:Expr} {es:List Expr} {to:TE} {t:TA} {name:Str} {apos cpos:Pos} {T id:String} {r:V→List V→Hp→VK→Prop} (pa:PlainAttrs T) (slot:Slot T name id) (hty:typeOf (.builtin id)=pure (.type "method_descriptor")) (hm:JK X id r) (ho:PE X o to) (ha:PA X (e::es) t)
    (hbase:attributeBase o name X.env (eval o X.env)=eval o X.env:=by rfl)
    (hfew:((backTo cpos (starEach (e::es) X.env)).all (fun x=>!x.1) && (backToKw cpos (keywordEach [] X.env)).all (fun x=>x.1.isSome)
      && decide ((e::es).length+([]:List Keyword).length+(if ([]:List Keyword).isEmpty then 0 else 1)<30))=true:=by rfl)
    (hline:(apos.endLine == cpos.line)=true:=by rfl) (hs:starEach (e::es) X.env=(false,eval e X.env)::starEach es X.env:=by rfl) (hplain:(backTo cpos (starEach es X.env)).any (·.1)=false:=by rfl) :
    PE X (.Call (.Attribute o name apos) (e::es) [] cpos) (tBM K T r to t):=by subst hK;exact Zo pa slot hty hm ho ha hbase hfew hline hs hplain
theorem mQ:bootBuiltins "all" = some (.builtin "all"):=by decide+kernel
theorem J1:bootBuiltins "any" = some (.builtin "any"):=by decide+kernel
theorem boot_max:bootBuiltins "max" = some (.builtin "max"):=by decide+kernel
theorem boot_min:bootBuiltins "min" = some (.builtin "min"):=by decide+kernel
theorem boot_abs:bootBuiltins "abs" = some (.builtin "abs"):=by decide+kernel
theorem boot_divmod:bootBuiltins "divmod" = some (.builtin "divmod"):=by decide+kernel
end
structure Nm (mg:Str→Option Value):Prop where
  len:mg "len" = none
  max:mg "max" = none
  min:mg "min" = none
  abs:mg "abs" = none
  divmod:mg "divmod" = none
  range:mg "range" = none
  zip:mg "zip" = none
  list:mg "list" = none
  tuple:mg "tuple" = none
  int:mg "int" = none
  str:mg "str" = none
  set:mg "set" = none
  all:mg "all" = none
  isinstance:mg "isinstance" = none
section
variable {K:W.Frag} {own:List Str} {caps:List Nat} {g:TG} {tt:TT} {te:TE} {D:Addr} {σ:St} {H:Hp} {Q:Hp→Prop}
abbrev zj (g:TG) (tt:TT) (te:TE) (D:Addr) (N:St→Hp→Prop) (x:V) (σ:St) (H:Hp):Prop:=
  g x σ H fun σ2 H3=>tt σ2 H3 fun b H4=>if b=true then te σ2 H4 fun y H5=>∃ys,H5 D=some (.lst ys)∧ys.length<sizeLine∧N σ2 (upd H5 D (.lst (ys++[y]))) else N σ2 H4
theorem zm {l:Addr} {xs:List V} (Pv:Nat→St→Hp→Prop) (h0:Pv 0 (stC own caps σ) H) (hl:∀i σ H,i≤xs.length→Pv i σ H→aR K H l xs)
    (hs:∀i x σ H,xs[i]? = some x→Pv i σ H→zj g tt te D (Pv (i+1)) x σ H) (hd:∀σ H,Pv xs.length σ H→Q H):jC own caps (K_ K l) g tt te D σ H Q:=by
  refine⟨fun i m σ H=>m=xs.length - i∧i≤xs.length∧Pv i σ H,⟨xs.length,by simp,Nat.zero_le _,h0⟩,?_⟩;rintro i m σ H ⟨rfl,hi,p⟩;have q:=hl i σ H hi p
  by_cases hlt:i<xs.length
  ·refine .inr ⟨⟨xs,xs[i],q,by simp[hlt]⟩,Pv (i+1),fun σ' H' p'=>⟨xs.length - (i+1),by omega,rfl,hlt,p'⟩,fun x H' y=>?_⟩;obtain⟨e,y⟩:=y;subst e;exact hs i x σ _ (y xs q) p
  · have e:i=xs.length:=by omega
    subst e;exact .inl ⟨⟨xs,q,Nat.le_refl _⟩,hd σ H p⟩
theorem M7 {l:Addr} {xs:List V} (Pv:Nat→St→Hp→Prop) (h0:Pv 0 (stC own caps σ) H) (hl:∀i σ H,i≤xs.length→Pv i σ H→eO K H l xs)
    (hs:∀i x σ H,xs[i]? = some x→Pv i σ H→zj g tt te D (Pv (i+1)) x σ H) (hd:∀σ H,Pv xs.length σ H→Q H):jC own caps (QM K l) g tt te D σ H Q:=by
  refine⟨fun i m σ H=>m=xs.length - i∧i≤xs.length∧Pv i σ H,⟨xs.length,by simp,Nat.zero_le _,h0⟩,?_⟩;rintro i m σ H ⟨rfl,hi,p⟩;have q:=hl i σ H hi p
  by_cases hlt:i<xs.length
  ·refine .inr ⟨⟨xs,xs[i],q,by simp[hlt]⟩,Pv (i+1),fun σ' H' p'=>⟨xs.length - (i+1),by omega,rfl,hlt,p'⟩,fun x H' y=>?_⟩;obtain⟨e,y⟩:=y;subst e;exact hs i x σ _ (y xs q) p
  · have e:i=xs.length:=by omega
    subst e;exact .inl ⟨⟨xs,q,Nat.le_refl _⟩,hd σ H p⟩
theorem Gq {lo:Int} {n:Nat} (Pv:Nat→St→Hp→Prop) (h0:Pv 0 (stC own caps σ) H)
    (hs:∀i σ H,i<n→Pv i σ H→zj g tt te D (Pv (i+1)) (.int (lo+i)) σ H) (hd:∀σ H,Pv n σ H→Q H):jC own caps (Fq lo n) g tt te D σ H Q:=by
  refine⟨fun i m σ H=>m=n - i∧i≤n∧Pv i σ H,⟨n,by simp,Nat.zero_le _,h0⟩,?_⟩;rintro i m σ H ⟨rfl,hi,p⟩
  by_cases hlt:i<n
  ·refine .inr ⟨hlt,Pv (i+1),fun σ' H' p'=>⟨n - (i+1),by omega,rfl,hlt,p'⟩,fun x H' y=>?_⟩;obtain⟨e,y⟩:=y;subst e y;exact hs i σ _ hlt p
  · have e:i=n:=by omega
    subst e;exact .inl ⟨Nat.le_refl _,hd σ H p⟩
theorem M8 {z:Str} (Pv:Nat→St→Hp→Prop) (h0:Pv 0 (stC own caps σ) H)
    (hs:∀i c σ H,z.cps[i]? = some c→Pv i σ H→zj g tt te D (Pv (i+1)) (.str ⟨#[c]⟩) σ H) (hd:∀σ H,Pv z.cps.size σ H→Q H):jC own caps (Its z) g tt te D σ H Q:=by
  refine⟨fun i m σ H=>m=z.cps.size - i∧i≤z.cps.size∧Pv i σ H,⟨z.cps.size,by simp,Nat.zero_le _,h0⟩,?_⟩;rintro i m σ H ⟨rfl,hi,p⟩
  by_cases hlt:i<z.cps.size
  ·refine .inr ⟨hlt,Pv (i+1),fun σ' H' p'=>⟨z.cps.size - (i+1),by omega,rfl,hlt,p'⟩,fun x H' y=>?_⟩;obtain⟨e,c,hc,rfl⟩:=y;subst e;exact hs i c σ _ hc p
  · have e:i=z.cps.size:=by omega
    subst e;exact .inl ⟨Nat.le_refl _,hd σ H p⟩
theorem M9 {l1 l2:Addr} {xs ys:List V} (Pv:Nat→St→Hp→Prop) (h0:Pv 0 (stC own caps σ) H) (he:xs.length=ys.length) (hl:∀i σ H,i≤xs.length→Pv i σ H→aR K H l1 xs∧aR K H l2 ys)
    (hs:∀i x y t σ H,xs[i]? = some x→ys[i]? = some y→H t=none→Pv i σ H→zj g tt te D (Pv (i+1)) (.ref t) σ (upd H t (.tup [x,y]))) (hd:∀σ H,Pv xs.length σ H→Q H):jC own caps (T9 K l1 l2) g tt te D σ H Q:=by
  refine⟨fun i m σ H=>m=xs.length - i∧i≤xs.length∧Pv i σ H,⟨xs.length,by simp,Nat.zero_le _,h0⟩,?_⟩;rintro i m σ H ⟨rfl,hi,p⟩;obtain⟨q1,q2⟩:=hl i σ H hi p
  by_cases hlt:i<xs.length
  · have hlt2:i<ys.length:=by omega
    refine .inr ⟨⟨xs,ys,xs[i],ys[i],q1,q2,by simp[hlt],by simp[hlt2]⟩,Pv (i+1),fun σ' H' p'=>⟨xs.length - (i+1),by omega,rfl,hlt,p'⟩,fun x H' y=>?_⟩;obtain⟨t,u,v,rfl,ht,rfl,e1,e2⟩:=y;exact hs i u v t σ H (e1 xs q1) (e2 ys q2) ht p
  · have e:i=xs.length:=by omega
    subst e;exact .inl ⟨⟨xs,ys,q1,q2,.inl (Nat.le_refl _)⟩,hd σ H p⟩
end
def Ud (b:Bool) (K:W.Frag) (H:Hp) (p:Addr) (xs:List V):Prop:=match b with | true=>aR K H p xs | false=>eO K H p xs
def Yv (b:Bool) (K:W.Frag) (p:Addr):It:=match b with | true=>K_ K p | false=>QM K p
def Wo (K:W.Frag) (tl:TE):TI:=fun σ H R=>tl σ H fun x H1=>∃b p,x = .ref p∧(∃xs,Ud b K H1 p xs)∧R (Yv b K p) H1
theorem vA {X:Cx} {K:W.Frag} (hK:X.K=K) {tg l:Expr} {tl:TE} (hl:PE X l tl):PI X tg l (Wo K tl):=by
  intro p_ s σ H R I h;refine bN (hl p_ s σ H _ I h) fun v s1 zz=>?_;obtain⟨x,H1,I1,r1,q1⟩:=zz;obtain⟨b,p,e,hq,q⟩:=q1;subst e;subst hK;cases b with
  | true=>
    cases r1;obtain⟨xs,hq⟩:=hq;obtain⟨its,rv,pl,hz⟩:=I1.list hq;refine wpAny_pyIter_list pl.isList ?_;refine⟨s1.heap.objs.size,[s1.heap.objs.size],_,_,H1,rfl,I1.kept (t':=s1.toks) fun b o e=>Heap.get?_push_of_some _ e,yU p _,⟨_,Heap.get?_push_size _ rfl,rfl,rfl⟩,fun b hb=>?_,q⟩;have e:b=s1.heap.objs.size:=by simpa using hb
    subst e;exact I1.vV (Nat.le_refl _) (I1.hok.fresh (Nat.le_refl _))
  | false=>
    cases r1;obtain⟨xs,hq⟩:=hq;obtain⟨its,rv,pl,hz⟩:=I1.tuple hq;refine wpAny_pyIter_tuple (show s1.heap.IsTuple p its.toArray from pl) ?_;refine⟨s1.heap.objs.size,[s1.heap.objs.size],_,_,H1,rfl,I1.kept (t':=s1.toks) fun b o e=>Heap.get?_push_of_some _ e,vW p _,⟨_,Heap.get?_push_size _ rfl,rfl,rfl⟩,fun b hb=>?_,q⟩;have e:b=s1.heap.objs.size:=by simpa using hb
    subst e;exact I1.vV (Nat.le_refl _) (I1.hok.fresh (Nat.le_refl _))
section
variable {K:W.Frag} {own:List Str} {caps:List Nat} {g:TG} {tt:TT} {te:TE} {D:Addr} {σ:St} {H:Hp} {Q:Hp→Prop}
theorem M_ {b:Bool} {l:Addr} {xs:List V} (Pv:Nat→St→Hp→Prop) (h0:Pv 0 (stC own caps σ) H) (hl:∀i σ H,i≤xs.length→Pv i σ H→Ud b K H l xs)
    (hs:∀i x σ H,xs[i]? = some x→Pv i σ H→zj g tt te D (Pv (i+1)) x σ H) (hd:∀σ H,Pv xs.length σ H→Q H):jC own caps (Yv b K l) g tt te D σ H Q:=by
  cases b with
  | true=>exact zm Pv h0 hl hs hd
  | false=>exact M7 Pv h0 hl hs hd
end
theorem aq {H:Hp} {p:Addr} {o:HO} (h:H p=none):Same H (upd H p o):=fun b u e=>by rw[aC (aG e h)];exact e
theorem aP {H H':Hp} {p:Addr} {o:HO} (s:Same H H') (h:H p=none):Same H (upd H' p o):=fun b u e=>by rw[aC (aG e h)];exact s b u e
def Sq (H:Hp) (p:Addr) (xs:List V):Prop:=H p=some (.lst xs)∨H p=some (.tup xs)
theorem Sq.q {K:W.Frag} {H:Hp} {p:Addr} {xs:List V} (h:Sq H p xs):aR K H p xs∨eO K H p xs:=h.elim (fun e=>.inl (aR.of e)) fun e=>.inr (eO.of e)
theorem Sq.b {H:Hp} {p:Addr} {xs:List V} (h:Sq H p xs):∃b,∀K H',Same H H'→Ud b K H' p xs:=h.elim (fun e=>⟨true,fun _ _ s=>aR.of (s _ _ e)⟩) fun e=>⟨false,fun _ _ s=>eO.of (s _ _ e)⟩
theorem Sq.same {H H':Hp} {p:Addr} {xs:List V} (h:Sq H p xs) (s:Same H H'):Sq H' p xs:=h.elim (fun e=>.inl (s _ _ e)) fun e=>.inr (s _ _ e)
theorem Sq.ty {K:W.Frag} {H:Hp} {p:Addr} {xs:List V} (h:Sq H p xs):jB K H (.ref p) (.type "list")∨jB K H (.ref p) (.type "tuple"):=h.elim (fun e=>.inl (.lst e)) fun e=>.inr (.tup e)
theorem pR {α:Type} (f:α→Bool):∀l:List α,mO (l.map fun c=>.bl (f c)) (l.map f)
  | []=>rfl
  | c::l=>⟨f c,l.map f,rfl,rfl,pR f l⟩
theorem Gs {α:Type} (f:α→Bool) (l:List α):(l.map f).all id=l.all f:=by
  rw[List.all_map];rfl
theorem take_one {α:Type} {l:List α} {i:Nat} {x:α} (h:l[i]? = some x):l.take (i+1)=l.take i++[x]:=by
  rw[List.take_succ,h];rfl
def Ir:List V→Hp→VK→Prop:=fun xs H Q=>∃p ys,xs=[.ref p]∧Sq H p ys∧∀l H',H' l=some (.tup ys)→Same H H'→Q (.ref l) H'
theorem Nb {X:Cx}:bQ X (.type "tuple") Ir:=by
  intro p_ s σ H xs us Q I r h;obtain⟨p,ys,rfl,hq,q⟩:=h;refine yC p_ s σ H _ us Q I r ⟨p,ys,rfl,?_⟩
  rcases hq with e | e
  ·exact .inl ⟨aR.of e,fun l hl=>q l _ ak (aq hl)⟩
  ·exact .inr ⟨eO.of e,q p H e (Same.refl H)⟩
def Wq (J:It) (g:TG) (tb:TS):TS:=fun D σ H=>∃fW:Nat→Nat→St→Hp→Prop,(∃m,fW 0 m σ H)∧∀i m σ H,fW i m σ H→
      (J.stop i H∧D.nx σ H)∨(J.go i H∧∃N:St→Hp→Prop,(∀σ' H',N σ' H'→∃m',m'<m∧fW (i+1) m' σ' H')∧∀x H',J.K9 i H x H'→g x σ H' fun σ2 H2=>tb {D with nx:=N,ct:=N,bk:=D.nx} σ2 H2)
theorem bF {H:Hp} {b p:Addr} {o u:HO} (h:H b=some o) (n:H p=none):upd H p u b=some o:=by rw[aC (aG h n)];exact h
theorem vB {H:Hp} {b p:Addr} {o o' u:HO} (h:H b=some o) (n:H p=some o') (d:o≠o'):upd H p u b=some o:=by
  rw[aC (fun e=>d (by subst e;rw[h] at n;exact Option.some.inj n))];exact h
theorem cu {H H':Hp} {b:Addr} (s:Same H H') (h:H' b=none):H b=none:=by
  cases e:H b with
  | none=>rfl
  | some o=>rw[s b o e] at h;cases h
def But (p:Addr) (H H':Hp):Prop:=∀b o,b≠p→H b=some o→H' b=some o
theorem But.refl (p:Addr) (H:Hp):But p H H:=fun _ _ _ e=>e
theorem But.trans {p:Addr} {H H1 H2:Hp} (x:But p H H1) (y:But p H1 H2):But p H H2:=fun b o hb e=>y b o hb (x b o hb e)
theorem But.new {p q:Addr} {H H':Hp} {u:HO} (x:But p H H') (h:H q=none):But p H (upd H' q u):=fun b o hb e=>by
  rw[aC (aG e h)];exact x b o hb e
theorem But.same {p:Addr} {H H1 H2:Hp} (x:But p H H1) (y:Same H1 H2):But p H H2:=fun b o hb e=>y b o (x b o hb e)
theorem But.none {p b:Addr} {H H':Hp} {u:HO} (x:But p H H') (hp:H' p=some u) (h:H' b = .none):H b = .none:=by
  cases e:H b with
  | none=>rfl
  | some o=>
    have hb:b≠p:=fun z=>by subst z;rw[hp] at h;cases h
    rw[x b o hb e] at h;cases h
theorem Iu {α:Type} {xs:List α} {i:Int} (h0:0≤i) (h1:i<xs.length):∃v,xs[i.toNat]? = some v∧yu xs i=some v:=by
  obtain⟨j,rfl⟩:∃j:Nat,i=j:=⟨i.toNat,by omega⟩;have hj:j<xs.length:=by omega
  exact⟨xs[j],by simp[hj],bC (by simp[hj])⟩
theorem Wr {d e n:Int} (h0:0≤d) (h1:d<n) (h2:0≤e) (h3:e<n - 1):0≤(d+1+e) % n∧(d+1+e) % n<n∧(d+1+e) % n≠d:=by
  refine⟨Int.emod_nonneg _ (by omega),Int.emod_lt_of_pos _ (by omega),?_⟩
  by_cases h:d+1+e<n
  ·rw[Int.emod_eq_of_lt (by omega) h];omega
  · have z:d+1+e=(d+1+e - n)+n * 1:=by omega
    rw[z,Int.add_mul_emod_self_left,Int.emod_eq_of_lt (by omega) (by omega)];omega
theorem m7 {xs:List Str} {i:Nat} {x:V} (h:(xs.map V.str)[i]? = some x):∃z,xs[i]? = some z∧x = .str z:=by
  rw[List.getElem?_map] at h;cases e:xs[i]? with
  | none=>rw[e] at h;cases h
  | some z=>rw[e] at h;exact⟨z,rfl,(Option.some.inj h).symm⟩
theorem wz {α:Type} {xs:List α} (h:xs.Nodup) {i j:Nat} {x:α} (hi:xs[i]? = some x) (hj:xs[j]? = some x):i=j:=by
  obtain⟨h1,e1⟩:=List.getElem?_eq_some_iff.mp hi;obtain⟨h2,e2⟩:=List.getElem?_eq_some_iff.mp hj;exact(List.getElem_inj h).mp (e1.trans e2.symm)
def Ws (c:Nat):Bool:=!(Builtin.Str.occurrences ("abcdefghijklmnopqrstuvwxyz" : Str) ⟨#[c]⟩ 0 ("abcdefghijklmnopqrstuvwxyz" : Str).length 1).isEmpty
def nameB (x:Str):Bool:=decide (1≤x.length) && decide (x.length≤4) && x.cps.toList.all Ws
theorem Nf:∀n<26,Ws (97+n)=true:=by decide+kernel
theorem Gu:∀n:Nat,n<26→yu (Str.ofString "abcdefghijklmnopqrstuvwxyz").cps.toList (n:Int)=some (97+n):=by decide+kernel
theorem uQ:(Str.ofString "abcdefghijklmnopqrstuvwxyz").length≤sizeLine:=by decide+kernel
theorem oX {i:Int} (h0:0≤i) (h1:i<26):∃n:Nat,i=n∧n<26∧yu (Str.ofString "abcdefghijklmnopqrstuvwxyz").cps.toList i=some (97+n):=
  ⟨i.toNat,by omega,by omega,by
    obtain⟨n,rfl⟩:∃n:Nat,i=n:=⟨i.toNat,by omega⟩;exact Gu n (by omega)⟩
structure lV (c:Nat) (k:Nat) (x:Str):Prop where
  len:x.length=k
  fst:x.cps[0]? = some c
  all:x.cps.toList.all Ws=true
theorem lV.one {n:Nat} (h:n<26):lV (97+n) 1 ⟨#[97+n]⟩:=⟨rfl,rfl,by simp[Nf n h]⟩
theorem lV.snoc {c k n:Nat} {x:Str} (h:lV c k x) (hk:0<k) (hn:n<26):lV c (k+1) (x++(⟨#[97+n]⟩:Str)):=by
  obtain⟨h1,h2,h3⟩:=h;refine⟨?_,?_,?_⟩
  ·show(x.cps++#[97+n]).size=_;have:x.cps.size=k:=h1;simp[this]
  ·show(x.cps++#[97+n])[0]? = _;have:x.cps.size=k:=h1;rw[Array.getElem?_append_left (by omega)];exact h2
  ·show(x.cps++#[97+n]).toList.all Ws=true;simp at h3;simp[Nf n hn];exact h3
theorem lV.name {c k:Nat} {x:Str} (h:lV c k x) (h1:1≤k) (h4:k≤4):nameB x=true:=by
  unfold nameB;rw[h.len,h.all];simp;omega
section
variable {κ:Type} [DecidableEq κ]
def eG (kvs:List (κ×V)) (k:κ):Option V:=(kvs.find? fun kv=>decide (kv.1=k)).map (·.2)
def putK (kvs:List (κ×V)) (k:κ) (v:V):List (κ×V):=
  if (kvs.any fun kv=>decide (kv.1=k))=true then kvs.map (fun kv=>if kv.1=k then (kv.1,v) else kv) else kvs++[(k,v)]
theorem dZ {p:κ×V} {r:List (κ×V)} {k:κ} (e:p.1=k):eG (p::r) k=some p.2:=by simp[eG,List.find?_cons,e]
theorem d7 {p:κ×V} {r:List (κ×V)} {k:κ} (e:¬p.1=k):eG (p::r) k=eG r k:=by simp[eG,List.find?_cons,e]
theorem oY (k:κ):∀kvs:List (κ×V),(kvs.any fun kv=>decide (kv.1=k))=(eG kvs k).isSome
  | []=>rfl
  | p::r=>by
    rw[List.any_cons]
    by_cases e:p.1=k
    ·simp only[dZ e,decide_eq_true e,Bool.true_or,Option.isSome_some]
    ·rw[d7 e,decide_eq_false e,Bool.false_or];exact oY k r
theorem CP (k j:κ) (y:V):∀kvs:List (κ×V),eG (kvs.map fun kv=>if kv.1=k then (kv.1,y) else kv) j=(eG kvs j).map fun x=>if j=k then y else x
  | []=>rfl
  | p::r=>by
    have ih:=CP k j y r;rw[List.map_cons]
    by_cases h:p.1=k
    · rw[if_pos h]
      by_cases e:p.1=j
      ·rw[dZ (p:=(p.1,y)) e,dZ e,Option.map_some,if_pos (e.symm.trans h)]
      ·rw[d7 (p:=(p.1,y)) e,d7 e,ih]
    · rw[if_neg h]
      by_cases e:p.1=j
      ·rw[dZ (p:=p) e,dZ e,Option.map_some,if_neg (fun z=>h (e.trans z))]
      ·rw[d7 (p:=p) e,d7 e,ih]
theorem zp (k j:κ) (y:V):∀kvs:List (κ×V),eG kvs k=none→eG (kvs++[(k,y)]) j=if j=k then some y else eG kvs j
  | [],_=>by
    by_cases e:k=j
    ·rw[if_pos e.symm];exact dZ (p:=(k,y)) e
    ·rw[if_neg (fun z=>e z.symm)];exact d7 (p:=(k,y)) e
  | p::r,hn=>by
    rw[List.cons_append];have hk:¬p.1=k:=fun z=>by rw[dZ z] at hn;cases hn
    rw[d7 hk] at hn;have ih:=zp k j y r hn
    by_cases e:p.1=j
    ·rw[dZ e,dZ e,if_neg (fun z=>hk (e.trans z))]
    ·rw[d7 e,d7 e,ih]
theorem CQ (kvs:List (κ×V)) (k j:κ) (y:V):eG (putK kvs k y) j=if j=k then some y else eG kvs j:=by
  unfold putK
  by_cases a:(kvs.any fun kv=>decide (kv.1=k))=true
  · rw[if_pos a,CP];rw[oY] at a
    by_cases e:j=k
    ·obtain⟨x,hx⟩:=Option.isSome_iff_exists.mp a;rw[if_pos e,e,hx,Option.map_some,if_pos rfl]
    · rw[if_neg e];cases eG kvs j with
      | none=>rfl
      | some x=>rw[Option.map_some,if_neg e]
  · rw[if_neg a];refine zp k j y kvs ?_;rw[oY] at a;cases q:eG kvs k with
    | none=>rfl
    | some x=>rw[q] at a;exact(a rfl).elim
theorem gB (kvs:List (κ×V)) (k:κ) (v:V):(putK kvs k v).length≤kvs.length+1:=by
  unfold putK;split
  ·rw[List.length_map];omega
  ·rw[List.length_append,List.length_cons,List.length_nil];omega
theorem Ng {kvs:List (κ×V)} {k:κ} (v:V) (h:eG kvs k=none):putK kvs k v=kvs++[(k,v)]:=by
  unfold putK;rw[oY,h];exact if_neg (by decide)
theorem oJ.mR {o:Option V} {u:Option Value} (r:oJ o u):o.isSome=u.isSome:=by
  cases o with
  | none=>cases u with
    | none=>rfl
    | some _=>exact(show False from r).elim
  | some _=>cases u with
    | none=>exact(show False from r).elim
    | some _=>rfl
theorem oJ.getD {o:Option V} {u:Option Value} {d:V} {d':Value} (r:oJ o u) (rd:RelV d d'):RelV (o.getD d) (u.getD d'):=by
  cases o with
  | none=>cases u with
    | none=>exact rd
    | some _=>exact(show False from r).elim
  | some _=>cases u with
    | none=>exact(show False from r).elim
    | some _=>exact r
theorem KV.val {kvs:List (κ×V)} {vs:List (κ×Value)} (r:KV kvs vs) (k:κ):oJ (eG kvs k) (valueAt vs k):=by
  unfold KV at r
  induction r with
  | nil=>exact True.intro
  | @cons p q ps qs h t ih=>
    obtain⟨h1,h2⟩:=h
    by_cases e:p.1=k
    · have e':q.1=k:=h1.symm.trans e;have b:valueAt (q::qs) k=some q.2:=by simp[valueAt,List.find?_cons,e']
      rw[dZ e,b];exact h2
    · have e':¬q.1=k:=fun z=>e (h1.trans z);have b:valueAt (q::qs) k=valueAt qs k:=by simp[valueAt,List.find?_cons,e']
      rw[d7 e,b];exact ih
theorem KV.any {kvs:List (κ×V)} {vs:List (κ×Value)} (r:KV kvs vs) (k:κ):(kvs.any fun kv=>decide (kv.1=k))=vs.any fun kv=>decide (kv.1=k):=by
  unfold KV at r
  induction r with
  | nil=>rfl
  | cons h t ih=>rw[List.any_cons,List.any_cons,ih,h.1]
theorem KV.repl {kvs:List (κ×V)} {vs:List (κ×Value)} (r:KV kvs vs) (k:κ) {y:V} {u:Value} (ry:RelV y u) :
    KV (kvs.map fun kv=>if kv.1=k then (kv.1,y) else kv) (vs.map fun kv=>if kv.1=k then (kv.1,u) else kv):=by
  unfold KV at r ⊢
  induction r with
  | nil=>exact .nil
  | @cons p q ps qs h t ih=>
    rw[List.map_cons,List.map_cons];refine .cons ?_ ih;obtain⟨h1,h2⟩:=h
    by_cases e:p.1=k
    ·rw[if_pos e,if_pos (h1.symm.trans e)];exact⟨h1,ry⟩
    ·rw[if_neg e,if_neg (fun z=>e (h1.trans z))];exact⟨h1,h2⟩
theorem KV.put {kvs:List (κ×V)} {vs:List (κ×Value)} (r:KV kvs vs) (k:κ) {y:V} {u:Value} (ry:RelV y u):KV (putK kvs k y) (stored vs k u):=by
  unfold putK stored;rw[r.any k]
  by_cases e:(vs.any fun kv=>decide (kv.1=k))=true
  ·rw[if_pos e,if_pos e];exact r.repl k ry
  ·rw[if_neg e,if_neg e];exact Paired.snoc r ⟨rfl,ry⟩
theorem KV.length {kvs:List (κ×V)} {vs:List (κ×Value)} (r:KV kvs vs):kvs.length=vs.length:=Paired.length r
end
theorem wA {P:Program} {w:World} {k:Key} {u:Value} (r:RelV (kV k) u):(bA P w).is k u=true:=by
  cases k with
  | inl i=>obtain⟨t,e⟩:=(show ∃t,u=Value.int i t from r);subst e;exact uK P w i t
  | inr x=>obtain⟨t,e⟩:=(show ∃t,u=Value.str x t from r);subst e;exact Ce P w x t
theorem zq {P:Program} {w:World}:∀{ks:List Key} {us:List Value},Vals (ks.map kV) us→ItemsAre (bA P w) ks us
  | [],_,r=>by rw[List.map_nil] at r;cases r;exact .nil
  | k::ks,_,r=>by
    rw[List.map_cons] at r;cases r with
    | cons h t=>exact .cons (wA h) (zq t)
abbrev KT (H:Hp):List (List Key×V)→List (List Key×Addr×Value)→Prop:=Paired fun p q=>p.1=q.1∧H q.2.1=some (.tup (p.1.map kV))∧RelV p.2 q.2.2
theorem KT.val {H:Hp} {kvs:List (List Key×V)} {xs:List (List Key×Addr×Value)} (r:KT H kvs xs) (k:List Key):oJ (eG kvs k) ((atKey xs k).map (·.2)):=by
  induction r with
  | nil=>exact True.intro
  | @cons p q ps qs h t ih=>
    obtain⟨h1,_,h2⟩:=h
    by_cases e:p.1=k
    · have e':q.1=k:=h1.symm.trans e;have b:atKey (q::qs) k=some q.2:=by simp[atKey,List.find?_cons,e']
      rw[dZ e,b];exact h2
    · have e':¬q.1=k:=fun z=>e (h1.trans z);have b:atKey (q::qs) k=atKey qs k:=by simp[atKey,List.find?_cons,e']
      rw[d7 e,b];exact ih
theorem KT.repl {H:Hp} {kvs:List (List Key×V)} {xs:List (List Key×Addr×Value)} (r:KT H kvs xs) (k:List Key) {y:V} {u:Value} (ry:RelV y u) :
    KT H (kvs.map fun kv=>if kv.1=k then (kv.1,y) else kv) (xs.map (putAt k u)):=by
  induction r with
  | nil=>exact .nil
  | @cons p q ps qs h t ih=>
    rw[List.map_cons,List.map_cons];refine .cons ?_ ih;obtain⟨h1,h2,h3⟩:=h;unfold putAt
    by_cases e:p.1=k
    ·rw[if_pos e,if_pos (h1.symm.trans e)];exact⟨h1,h2,ry⟩
    ·rw[if_neg e,if_neg (fun z=>e (h1.trans z))];exact⟨h1,h2,h3⟩
theorem KT.put {H:Hp} {kvs:List (List Key×V)} {xs:List (List Key×Addr×Value)} (r:KT H kvs xs) (k:List Key) {b:Addr} {y:V} {u:Value} (hb:H b=some (.tup (k.map kV))) (ry:RelV y u) :
    KT H (putK kvs k y) (storedH xs k b u):=by
  have e:(kvs.any fun kv=>decide (kv.1=k))=(atKey xs k).isSome:=by
    rw[oY,(r.val k).mR,Option.isSome_map]
  unfold putK storedH;rw[e]
  by_cases q:(atKey xs k).isSome=true
  ·rw[if_pos q,if_pos q];exact r.repl k ry
  ·rw[if_neg q,if_neg q];exact Paired.snoc r ⟨rfl,hb,ry⟩
theorem KT.keeps {H H':Hp} {kvs:List (List Key×V)} {xs:List (List Key×Addr×Value)} (r:KT H kvs xs) (ht:∀b ys,H b=some (.tup ys)→H' b=some (.tup ys)):KT H' kvs xs:=
  Paired.Vi r fun _ _ z=>⟨z.1,ht _ _ z.2.1,z.2.2⟩
section
variable {P:Program} {w:World} {H:Hp} {h:Heap} {a:Addr}
theorem Ue {u:HO} (ok:qP P w H h) (e:Rd H a u):bZ P w H h a u:=e.ok ok
theorem wB {kvs:List (Key×V)} (ok:qP P w H h) (e:Rd H a (.dK kvs)):kvs.length≤sizeLine∧(a == sysModules)=false∧∃vs,KV kvs vs∧h.DictOf (bA P w) a vs:=
  show bZ P w H h a (.dK kvs) from Ue ok e
theorem Nh {kvs:List (Key×V)} (ok:qP P w H h) (e:H a=some (.dK kvs)):kvs.length≤sizeLine∧(a == sysModules)=false∧∃vs,KV kvs vs∧h.DictOf (bA P w) a vs:=wB ok (.inl e)
theorem qR {ks:List Key} (ok:qP P w H h) (e:H a=some (.tup (ks.map kV))):(tupleKind (bA P w)).is h ks a:=by
  obtain⟨_,its,r,o,h1,h2,n,h3⟩:=(show bZ P w H h a (.tup (ks.map kV)) from ok a _ e);exact⟨o,its.toArray,n,h1,h2,h3,by simpa using zq r⟩
theorem wC {kvs:List (List Key×V)} (ok:qP P w H h) (e:Rd H a (.dT kvs)):kvs.length≤sizeLine∧(a == sysModules)=false∧
    ∃xs,KT H kvs xs∧h.DictOfH (tupleKind (bA P w)) a xs:=by
  obtain⟨z,y,xs,r,o,es,ep,h1,h2,h3,h4,h5⟩:=(show bZ P w H h a (.dT kvs) from Ue ok e);refine⟨z,y,xs,r,o,es,ep,h1,h2,h3,h4,fun x hx=>?_,h5⟩;have all:∀{l:List (List Key×V)} {m:List (List Key×Addr×Value)},KT H l m→∀x∈m,(tupleKind (bA P w)).is h x.1 x.2.1:=by
    intro l m q
    induction q with
    | nil=>intro x hx;exact nomatch hx
    | @cons p q ps qs hq t ih=>
      intro x hx
      rcases List.mem_cons.mp hx with e | hx
      ·subst e;exact qR ok (by rw[← hq.1];exact hq.2.1)
      ·exact ih x hx
  exact all r x hx
theorem Ug {kvs:List (List Key×V)} (ok:qP P w H h) (e:H a=some (.dT kvs)):kvs.length≤sizeLine∧(a == sysModules)=false∧
    ∃xs,KT H kvs xs∧h.DictOfH (tupleKind (bA P w)) a xs:=wC ok (.inl e)
end
def fQ (H:Hp) (a:Addr) (y:V) (r:Option V):Prop:=
  (∃kvs k,Rd H a (.dK kvs)∧y=kV k∧r=eG kvs k)∨∃kvs k b,Rd H a (.dT kvs)∧y = .ref b∧H b=some (.tup (k.map kV))∧r=eG kvs k
def vg (H:Hp) (a:Addr) (y v:V) (H':Hp):Prop:=
  (∃kvs k,H a=some (.dK kvs)∧y=kV k∧kvs.length<sizeLine∧H'=upd H a (.dK (putK kvs k v)))∨
  ∃kvs k b,H a=some (.dT kvs)∧y = .ref b∧H b=some (.tup (k.map kV))∧kvs.length<sizeLine∧H'=upd H a (.dT (putK kvs k v))
theorem fQ.k {H:Hp} {a:Addr} {kvs:List (Key×V)} {k:Key} (e:H a=some (.dK kvs)):fQ H a (kV k) (eG kvs k):=.inl ⟨kvs,k,.inl e,rfl,rfl⟩
theorem fQ.t {H:Hp} {a b:Addr} {kvs:List (List Key×V)} {k:List Key} (e:H a=some (.dT kvs)) (eb:H b=some (.tup (k.map kV))):fQ H a (.ref b) (eG kvs k):=.inr ⟨kvs,k,b,.inl e,rfl,eb,rfl⟩
theorem vg.k {H:Hp} {a:Addr} {kvs:List (Key×V)} {k:Key} {v:V} (e:H a=some (.dK kvs)) (hl:kvs.length<sizeLine):vg H a (kV k) v (upd H a (.dK (putK kvs k v))):=.inl ⟨kvs,k,e,rfl,hl,rfl⟩
theorem vg.t {H:Hp} {a b:Addr} {kvs:List (List Key×V)} {k:List Key} {v:V} (e:H a=some (.dT kvs)) (eb:H b=some (.tup (k.map kV))) (hl:kvs.length<sizeLine) :
    vg H a (.ref b) v (upd H a (.dT (putK kvs k v))):=.inr ⟨kvs,k,b,e,rfl,eb,hl,rfl⟩
section
variable {X:Cx} {p_:List (Addr×Obj)} {σ:St} {H:Hp} {s:Shared} {a:Addr} {y v:V} {u r:Value} {o:Option V} {A:Around} {E:Value→Shared→Prop}
theorem Inv.big (I:Inv X p_ σ H s):sysModules<s.heap.objs.size:=by
  have h:mainGlobals<s.heap.objs.size:=(I.mod.glob.keeps I.bk).lt;exact Nat.lt_trans (by decide) h
theorem J3 {Q:Value→Shared→Prop} (hu:A.units+1<cLine) (I:Inv X p_ σ H s) (g:fQ H a y (some v)) (ry:RelV y u) (h:∀w' s',Inv X p_ σ H s'→RelV v w'→Q w' s') :
    wpAny (model X.prog X.w) A (getItem (.ref a) u) Q E s:=by
  rcases g with⟨kvs,k,e,ey,l⟩ | ⟨kvs,k,b,e,ey,eb,l⟩
  ·subst ey;obtain⟨z,hd,vs,rel,dd⟩:=wB I.hok e;obtain⟨w',hw,Mt⟩:=oJ.some_of (v:=v) (o:=valueAt vs k) (by rw[l];exact rel.val k);exact wpAny_getItem_of (wA ry) dd.mapOf hw (h w' _ (I.tok _) Mt)
  · subst ey;cases (show u=Value.ref b from ry);obtain⟨z,hd,xs,rel,dd⟩:=wC I.hok e;obtain⟨w',hw,Mt⟩:=oJ.some_of (v:=v) (o:=(atKey xs k).map (·.2)) (by rw[l];exact rel.val k);obtain⟨p,hp,hp2⟩:=Option.map_eq_some_iff.mp hw;refine wpAny_getItem_heap (tupleKind_room_in1 hu) (qR I.hok eb) dd hp ?_;rw[hp2];exact h w' _ (I.tok _) Mt
theorem qcp {Q:Value→Shared→Prop} (hu:A.units+1<cLine) (I:Inv X p_ σ H s) (g:fQ H a y o) (ry:RelV y u) (h:∀s',Inv X p_ σ H s'→Q (.bool o.isSome) s') :
    wpAny (model X.prog X.w) A (compareOp .In u (.ref a)) Q E s:=by
  rcases g with⟨kvs,k,e,ey,l⟩ | ⟨kvs,k,b,e,ey,eb,l⟩
  ·subst ey;obtain⟨z,hd,vs,rel,dd⟩:=wB I.hok e;refine wpAny_in_of (wA ry) hd dd.mapOf ?_;rw[← (rel.val k).mR,← l];exact h _ (I.tok _)
  ·subst ey;cases (show u=Value.ref b from ry);obtain⟨z,hd,xs,rel,dd⟩:=wC I.hok e;refine wpAny_in_heap (tupleKind_room_in1 hu) (qR I.hok eb) hd dd ?_;have q:=(rel.val k).mR;rw[Option.isSome_map] at q;rw[← q,← l];exact h _ (I.tok _)
theorem Rt {Q:Value→Shared→Prop} (hu:A.units+1<cLine) (I:Inv X p_ σ H s) (g:fQ H a y o) (ry:RelV y u) (h:∀s',Inv X p_ σ H s'→Q (.bool (!o.isSome)) s') :
    wpAny (model X.prog X.w) A (compareOp .NotIn u (.ref a)) Q E s:=by
  rcases g with⟨kvs,k,e,ey,l⟩ | ⟨kvs,k,b,e,ey,eb,l⟩
  ·subst ey;obtain⟨z,hd,vs,rel,dd⟩:=wB I.hok e;refine wpAny_notIn_of (wA ry) hd dd.mapOf ?_;rw[← (rel.val k).mR,← l];exact h _ (I.tok _)
  ·subst ey;cases (show u=Value.ref b from ry);obtain⟨z,hd,xs,rel,dd⟩:=wC I.hok e;refine wpAny_notIn_heap (tupleKind_room_in1 hu) (qR I.hok eb) hd dd ?_;have q:=(rel.val k).mR;rw[Option.isSome_map] at q;rw[← q,← l];exact h _ (I.tok _)
theorem vD {h':Heap} {t':Nat} {ob:HO} (I:Inv X p_ σ H s) (mu:YW (H a)) (hs:Heap.SameBut a s.heap h') (he:∃q,h'.get? a=some q) (new:bZ X.prog X.w (upd H a ob) h' a ob) :
    Inv X p_ σ (upd H a ob) {s with heap:=h',toks:=t'}:=
  I.write (x:=a) (e:=a) mu (.inl rfl) (fun b q hb z=>(hs.2 b hb).trans z) he new
theorem Ni {P:Program} {w:World} {H':Hp} {h':Heap} {kvs:List (Key×V)} {vs:List (Key×Value)} (z:kvs.length≤sizeLine) (hd:(a == sysModules)=false) (rel:KV kvs vs) (dd:h'.DictOf (bA P w) a vs) :
    bZ P w H' h' a (.dK kvs):=⟨z,hd,vs,rel,dd⟩
theorem J4 {H':Hp} {Q:Unit→Shared→Prop} (hu:A.units+1<cLine) (I:Inv X p_ σ H s) (g:vg H a y v H') (ry:RelV y u) (rv:RelV v r) (h:∀s',Inv X p_ σ H' s'→Q () s') :
    wpAny (model X.prog X.w) A (setItem (.ref a) u r) Q E s:=by
  rcases g with⟨kvs,k,e,ey,l,eH⟩ | ⟨kvs,k,b,e,ey,eb,l,eH⟩
  · subst ey eH;obtain⟨z,hd,vs,rel,dd⟩:=Nh I.hok e;have hz:vs.length≤sizeLine:=by rw[← rel.length];exact z
    have hl:(putK kvs k v).length≤sizeLine:=by have:=gB kvs k v;omega
    refine wpAny_setItem_pairs (hsz:=hz) (wA ry) dd fun h' Ru hs=>h _ ?_;have he:∃q,h'.get? a=some q:=let ⟨q,_,_,hq,_⟩:=Ru;⟨q,hq⟩;exact vD I (by rw[e];exact True.intro) hs he (Ni hl hd (rel.put k rv) Ru)
  · subst ey eH;cases (show u=Value.ref b from ry);obtain⟨z,hd,xs,rel,dd⟩:=Ug I.hok e;have hz:xs.length≤sizeLine:=by rw[← Paired.length rel];exact z
    have hl:(putK kvs k v).length≤sizeLine:=by have:=gB kvs k v;omega
    refine wpAny_setItem_heap (hsz:=hz) (tupleKind_room_in1 hu) (qR I.hok eb) dd fun h' Ru hs=>h _ ?_;obtain⟨q,es,ep,hq,h2,h3,h4,_,h5⟩:=Ru;refine vD I (by rw[e];exact True.intro) hs ⟨q,hq⟩ ⟨hl,hd,_,(rel.put k eb rv).keeps fun c ys ec=>?_,q,es,ep,hq,h2,h3,h4,h5⟩;rw[aC (qD ec e (fun z=>nomatch z))];exact ec
end
def ZG (i:Expr):Prop:=∀ov iv,subscripted i false ov iv=operate [ov,iv] (getItem ov iv)
theorem Rv {prog:Program} {w:World} {A:Around} {E:Value→Shared→Prop} {s:Shared} {env:Env} {value slice:Expr} {pos:Pos} {T id:String} {Q:Value→Shared→Prop}
    (hl:typeLookup (.type T) "__getitem__" = pure (some (.builtin id))) (hs:ZG slice)
    (h:wpAny (model prog w) A (eval value env) (fun o s₁=>wpAny (model prog w) A (eval slice env) (fun i s₂=>s₂.TypeIs o T∧wpAny (model prog w) A (getItem o i) Q E s₂) E s₁) E s) :
    wpAny (model prog w) A (eval (.Subscript value slice pos) env) Q E s:=by
  refine Subscript_ (wpAny_mono h (fun o s₁ h₁=>wpAny_mono h₁ (fun i s₂ h₂=>?_) fun _ _ x=>x) fun _ _ x=>x);obtain⟨hT,h₂⟩:=h₂;unfold subscriptTail;refine wpAny_bind ?_;rw[getitemInPython_of_ne hT.not_modules];refine wpAny_bind (wpAny_specialOf hT hl ?_);have fin:wpAny (model prog w) A (subscripted slice false o i) (fun r s₃=>wpAny (model prog w) A (letTemporaryGo value o r >>= fun _=>pure r) Q E s₃) E s₂:=by
    rw[hs o i];exact wpAny_operating (wpAny_mono h₂ (fun r s₃ h₃=>wpAny_bind (wpAny_letTemporaryGo (wpAny_pure h₃))) fun _ _ x=>x)
  first
    | exact wpAny_pure (wpAny_bind fin)
    | exact wpAny_bind (wpAny_pure (wpAny_bind fin))
    | exact wpAny_bind fin
theorem CT {X:Cx} {p_:List (Addr×Obj)} {σ:St} {H:Hp} {s:Shared} {a:Addr} {y:V} {o:Option V} (I:Inv X p_ σ H s) (g:fQ H a y o):s.TypeIs (.ref a) "dict" :=by
  rcases g with⟨kvs,k,e,_,_⟩ | ⟨kvs,k,b,e,_,_,_⟩
  ·obtain⟨_,_,vs,_,dd⟩:=wB I.hok e;exact dd.typeIs
  ·obtain⟨_,_,xs,_,dd⟩:=wC I.hok e;exact dd.typeIs
def Nj (td ty:TE):TE:=fun σ H Q=>td σ H fun x H1=>ty σ H1 fun y H2=>∃a v,x = .ref a∧fQ H2 a y (some v)∧Q v H2
def Wt (ty td:TE):TE:=fun σ H Q=>ty σ H fun y H1=>td σ H1 fun x H2=>∃a o,x = .ref a∧fQ H2 a y o∧Q (.bl o.isSome) H2
def Am (ty td:TE):TE:=fun σ H Q=>ty σ H fun y H1=>td σ H1 fun x H2=>∃a o,x = .ref a∧fQ H2 a y o∧Q (.bl (!o.isSome)) H2
def Nk (td ty tv:TE):TS:=fun D σ H=>tv σ H fun v H1=>td σ H1 fun x H2=>ty σ H2 fun y H3=>∃a H4,x = .ref a∧vg H3 a y v H4∧D.nx σ H4
section
variable {X:Cx} {o i e value:Expr} {pos pos' tpos:Pos} {td ty tv:TE}
theorem rR (hu:X.A.units+1<cLine) (ho:PE X o td) (hi:PE X i ty) (hs:ZG i):PE X (.Subscript o i pos) (Nj td ty):=by
  intro p_ s σ H Q I h;refine Rv PySem.F.slot_dict_getitem.lookup hs (bN (ho p_ s σ H _ I h) fun u s1 ⟨x,H1,I1,rx,q1⟩=>bN (hi p_ s1 σ H1 _ I1 q1) fun iv s2 ⟨y,H2,I2,ry,a,v,ex,g,q2⟩=>?_);subst ex;obtain rfl:u=Value.ref a:=rx;exact⟨CT I2 g,J3 hu I2 g ry fun w' s3 I3 Mt=>⟨v,H2,I3,Mt,q2⟩⟩
theorem Wu (hu:X.A.units+1<cLine) (hi:PE X i ty) (ho:PE X o td):PC X .In i o (Wt ty td):=by
  intro p_ s σ H Q I h;refine bN (hi p_ s σ H _ I h) fun iv s1 ⟨y,H1,I1,ry,q1⟩=>bN (ho p_ s1 σ H1 _ I1 q1) fun u s2 ⟨x,H2,I2,rx,a,ov,ex,g,q2⟩=>?_;subst ex;obtain rfl:u=Value.ref a:=rx;exact qcp hu I2 g ry fun s3 I3=>⟨.bl ov.isSome,H2,I3,rfl,q2⟩
theorem J5 (hu:X.A.units+1<cLine) (hi:PE X i ty) (ho:PE X o td):PC X .NotIn i o (Am ty td):=by
  intro p_ s σ H Q I h;refine bN (hi p_ s σ H _ I h) fun iv s1 ⟨y,H1,I1,ry,q1⟩=>bN (ho p_ s1 σ H1 _ I1 q1) fun u s2 ⟨x,H2,I2,rx,a,ov,ex,g,q2⟩=>?_;subst ex;obtain rfl:u=Value.ref a:=rx;exact Rt hu I2 g ry fun s3 I3=>⟨.bl (!ov.isSome),H2,I3,rfl,q2⟩
theorem Iv (hu:X.A.units+1<cLine) (ho:PE X o td) (hi:PE X i ty) (hv:PE X value tv) (hs:swapsWith value (some (.Subscript o i pos')) pos.line X.env=pure false) :
    PS X (.Assign [.Subscript o i pos'] value pos) (Nk td ty tv):=by
  intro p_ s σ H D I h;refine wpAny_Assign_Subscript (bN (hv p_ s σ H _ I h) fun r s1 ⟨v,H1,I1,rv,q1⟩=>bN (ho p_ s1 σ H1 _ I1 q1) fun u s2 ⟨x,H2,I2,rx,q2⟩=>bN (hi p_ s2 σ H2 _ I2 q2) fun iv s3 ⟨y,H3,I3,ry,a,H4,ex,g,q3⟩=>?_) hs;subst ex;obtain rfl:u=Value.ref a:=rx;exact J4 hu I3 g ry rv fun s4 I4=>⟨σ,H4,I4,q3⟩
end
theorem CV {P:Program} {w:World} {H:Hp} (h:Heap) (hb:sysModules<h.objs.size):bZ P w H (h.push {cls:=.type "dict",data:=.dict #[]}) h.objs.size (.dK []):=
  ⟨Nat.zero_le _,beq_eq_false_iff_ne.mpr (Ne.symm (Nat.ne_of_lt hb)),[],.nil,Heap.DictOf.new h⟩
theorem CW {P:Program} {w:World} {H:Hp} (h:Heap) (hb:sysModules<h.objs.size):bZ P w H (h.push {cls:=.type "dict",data:=.dict #[]}) h.objs.size (.dT []):=
  ⟨Nat.zero_le _,beq_eq_false_iff_ne.mpr (Ne.symm (Nat.ne_of_lt hb)),[],.nil,_,#[],0,Heap.get?_push_size _ rfl,⟨rfl,rfl,rfl⟩,rfl,rfl,List.nodup_nil⟩
def Np:TE:=fun _ H Q=>∀p,H p=none→Q (.ref p) (upd H p (.dK []))
def Wv:TE:=fun _ H Q=>∀p,H p=none→Q (.ref p) (upd H p (.dT []))
section
variable {X:Cx} {pos:Pos}
theorem CZ:PE X (.Dict [] [] pos) Np:=fun p_ s σ H Q I h=>
  wpAny_Dict_empty ⟨.ref s.heap.objs.size,_,I.laid (a:=s.heap.objs.size) (o:=.dK []) (t':=s.toks) (fun _ _ q=>Heap.get?_push_of_some _ q) (Nat.le_refl _) (CV s.heap I.big),rfl,h _ (I.hok.fresh (Nat.le_refl _))⟩
theorem Nq:PE X (.Dict [] [] pos) Wv:=fun p_ s σ H Q I h=>
  wpAny_Dict_empty ⟨.ref s.heap.objs.size,_,I.laid (a:=s.heap.objs.size) (o:=.dT []) (t':=s.toks) (fun _ _ q=>Heap.get?_push_of_some _ q) (Nat.le_refl _) (CW s.heap I.big),rfl,h _ (I.hok.fresh (Nat.le_refl _))⟩
end
def qT:List (TE×TE)→St→Hp→(List (V×V)→Hp→Prop)→Prop
  | [],_,H,Q=>Q [] H
  | (tk,tv)::r,σ,H,Q=>tk σ H fun x H1=>tv σ H1 fun y H2=>qT r σ H2 fun ps H3=>Q ((x,y)::ps) H3
abbrev VV:List (V×V)→List (Value×Value)→Prop:=Paired fun p q=>RelV p.1 q.1∧RelV p.2 q.2
def PPs (X:Cx) (pos:Pos) (keys:List (Option Expr)) (values:List Expr) (Lb:List (TE×TE)):Prop:=
  ∀(p_:List (Addr×Obj)) (s:Shared) (σ:St) (H:Hp) (Q:List (V×V)→Hp→Prop),Inv X p_ σ H s→qT Lb σ H Q→
    wpAny (model X.prog X.w) X.A (evalPairs (pairTrees keys values X.env pos)) (fun vs s'=>∃ps H',Inv X p_ σ H' s'∧VV ps vs∧Q ps H') X.xe s
theorem Rw {X:Cx} {pos:Pos}:PPs X pos [] [] []:=fun p_ s σ H Q I h=>pairTrees_nil_walk ⟨[],H,I,.nil,h⟩
theorem Nr {X:Cx} {pos:Pos} {k v:Expr} {ks:List (Option Expr)} {vs:List Expr} {tk tv:TE} {Lb:List (TE×TE)} (hk:PE X k tk) (hv:PE X v tv) (hr:PPs X pos ks vs Lb) :
    PPs X pos (some k::ks) (v::vs) ((tk,tv)::Lb):=fun p_ s σ H Q I h=>
  pairTrees_cons_walk (bN (hk p_ s σ H _ I h) fun u s1 ⟨x,H1,I1,rx,q1⟩=>bN (hv p_ s1 σ H1 _ I1 q1) fun w2 s2 ⟨y,H2,I2,ry,q2⟩=>
    bN (hr p_ s2 σ H2 _ I2 q2) fun ws s3 ⟨ps,H3,I3,rel,q3⟩=>⟨(x,y)::ps,H3,I3,.cons ⟨rx,ry⟩ rel,q3⟩)
def qU (kvs more:List (Key×V)):List (Key×V):=more.foldl (fun acc kv=>putK acc kv.1 kv.2) kvs
theorem KV.merge:∀{more:List (Key×V)} {rs:List (Key×Value)} {kvs:List (Key×V)} {vs:List (Key×Value)},KV more rs→KV kvs vs→KV (qU kvs more) (merged vs rs):=by
  intro more rs kvs vs r;unfold KV at r
  induction r generalizing kvs vs with
  | nil=>intro q;exact q
  | @cons p q ps qs h t ih=>
    intro r0;have e:KV (putK kvs p.1 p.2) (stored vs q.1 q.2):=by
      have:=r0.put p.1 h.2;rw[← h.1];exact this
    exact ih e
theorem qF:∀(more kvs:List (Key×V)),(qU kvs more).length≤kvs.length+more.length
  | [],kvs=>by show kvs.length≤kvs.length+0;omega
  | p::r,kvs=>by
    have h1:=qF r (putK kvs p.1 p.2);have h2:=gB kvs p.1 p.2;show(qU (putK kvs p.1 p.2) r).length≤_;rw[List.length_cons];omega
theorem wD {P:Program} {w:World}:∀{kvs:List (Key×V)} {ws:List (Value×Value)},VV (kvs.map fun kv=>(kV kv.1,kv.2)) ws→∃rs,Carries (bA P w) ws rs∧KV kvs rs
  | [],_,r=>by rw[List.map_nil] at r;cases r;exact⟨[],True.intro,.nil⟩
  | p::kvs,_,r=>by
    rw[List.map_cons] at r;cases r with
    | @cons a b as bs h t=>
      obtain⟨rs,c,q⟩:=wD (P:=P) (w:=w) t;obtain⟨b1,b2⟩:=b;exact⟨(p.1,b2)::rs,⟨wA h.1,rfl,c⟩,.cons ⟨rfl,h.2⟩ q⟩
def Uh (Lb:List (TE×TE)):TE:=fun σ H Q=>∀p,H p=none→qT Lb σ (upd H p (.dK [])) fun ps H2=>H2 p=some (.dK [])∧∃kvs:List (Key×V),ps=kvs.map (fun kv=>(kV kv.1,kv.2))∧kvs.length≤15∧Q (.ref p) (upd H2 p (.dK (qU [] kvs)))
theorem Rx {X:Cx} {pos:Pos} {keys:List (Option Expr)} {values:List Expr} {Lb:List (TE×TE)} (h:PPs X pos keys values Lb) (hall:keys.all (·.isSome)=true) (hl:keys.length=values.length) (h0:keys≠[])
    (h15:keys.length≤15):PE X (.Dict keys values pos) (Uh Lb):=by
  intro p_ s σ H Q I q;have hn:=I.hok.fresh (Nat.le_refl s.heap.objs.size);have I1:=I.laid (a:=s.heap.objs.size) (o:=.dK []) (h':=s.heap.push {cls:=.type "dict",data:=.dict #[]}) (t':=s.toks) (fun _ _ q=>Heap.get?_push_of_some _ q) (Nat.le_refl _) (CV s.heap I.big);refine wpAny_Dict_walk (knd:=bA X.prog X.w) hall hl h0 h15 (bN (h p_ _ σ _ _ I1 (q _ hn)) fun ws s2 zz=>?_);obtain⟨ps,H2,I2,rel,e,kvs,ep,lk,q2⟩:=zz;subst ep;obtain⟨rs,c,rk⟩:=wD (P:=X.prog) (w:=X.w) rel;obtain⟨z,hd,vs0,r0,dd⟩:=Nh I2.hok e;cases r0;refine⟨rs,c,dd,fun h' Ru hs=>⟨.ref s.heap.objs.size,_,?_,rfl,q2⟩⟩;have hz:(qU [] kvs).length≤sizeLine:=by
    have h1:=qF kvs [];rw[List.length_nil] at h1;rw[sizeLine_eq];omega
  have he:∃q,h'.get? s.heap.objs.size=some q:=let ⟨q,_,_,hq,_⟩:=Ru;⟨q,hq⟩;exact vD I2 (by rw[e];exact True.intro) hs he (Ni hz hd (rk.merge .nil) Ru)
structure M2 (X:Cx) (o:Expr) (m:Str) (apos:Pos) (e f:Expr) (cpos:Pos):Prop where
  base:attributeBase o m X.env (eval o X.env)=eval o X.env
  few:((backTo cpos (starEach [e,f] X.env)).all (fun x=>!x.1) && (backToKw cpos (keywordEach [] X.env)).all (fun x=>x.1.isSome)
    && decide (([e,f]:List Expr).length+([]:List Keyword).length+(if ([]:List Keyword).isEmpty then 0 else 1)<30))=true
  line:(apos.endLine == cpos.line)=true
  trees:backTo cpos (starEach [e,f] X.env)=[(false,eval e X.env),(false,eval f X.env)]
def Yw (H:Hp) (a:Addr):Prop:=(∃kvs,Rd H a (.dK kvs))∨∃kvs,Rd H a (.dT kvs)
theorem Ww {X:Cx} {p_:List (Addr×Obj)} {σ:St} {H:Hp} {s:Shared} {a:Addr} (I:Inv X p_ σ H s) (d:Yw H a) :
    s.TypeIs (.ref a) "dict" ∧(∀b,Value.ref a = .ref b→∃ob,s.heap.get? b=some ob∧ob.dict=none)∧(a == sysModules)=false:=by
  rcases d with⟨kvs,e⟩ | ⟨kvs,e⟩
  ·obtain⟨_,hd,vs,_,dd⟩:=wB I.hok e;refine⟨dd.typeIs,fun b q=>?_,hd⟩;cases q;obtain⟨ob,_,_,h1,h2,_⟩:=dd;exact⟨ob,h1,h2.2.1⟩
  ·obtain⟨_,hd,xs,_,dd⟩:=wC I.hok e;refine⟨dd.typeIs,fun b q=>?_,hd⟩;cases q;obtain⟨ob,_,_,h1,h2,_⟩:=dd;exact⟨ob,h1,h2.2.1⟩
section
variable {X:Cx} {p_:List (Addr×Obj)} {σ:St} {H:Hp} {s:Shared} {a:Addr} {y d:V} {u r:Value} {o:Option V} {A:Around} {E:Value→Shared→Prop}
theorem Wx {Q:Value→Shared→Prop} (hu:A.units+1<cLine) (I:Inv X p_ σ H s) (g:fQ H a y o) (ry:RelV y u) (rd:RelV d r) (h:∀w' s',Inv X p_ σ H s'→RelV (o.getD d) w'→Q w' s') :
    wpAny (model X.prog X.w) A (call (.builtin "dict.get") [.ref a,u,r]) Q E s:=by
  rcases g with⟨kvs,k,e,ey,l⟩ | ⟨kvs,k,b,e,ey,eb,l⟩
  ·subst ey;obtain⟨z,hd,vs,rel,dd⟩:=wB I.hok e;refine call_meetsIn PySem.F.slot_dict_get dd.typeIs PySem.F.entry_dict_get (PySem.F.args_dict_get_3 _ _ _) (meets_dict_get_default (bA X.prog X.w) a (wA ry) hd r) ⟨_,dd.mapOf,h _ _ (I.tok _) ?_⟩;rw[l];exact(rel.val k).getD rd
  ·subst ey;cases (show u=Value.ref b from ry);obtain⟨z,hd,xs,rel,dd⟩:=wC I.hok e;refine call_meetsIn PySem.F.slot_dict_get dd.typeIs PySem.F.entry_dict_get (PySem.F.args_dict_get_3 _ _ _) (meetsH_dict_get_default (tupleKind (bA X.prog X.w)) a b hd r) ⟨tupleKind_room_in1 hu,k,xs,qR I.hok eb,dd,h _ _ (I.tok _) ?_⟩;rw[l];exact(rel.val k).getD rd
end
def Gv (td ty tx:TE):TE:=fun σ H Q=>td σ H fun x H1=>∃a,x = .ref a∧Yw H1 a∧ty σ H1 fun y H2=>tx σ H2 fun z H3=>∃o,fQ H3 a y o∧Q (o.getD z) H3
section
variable {X:Cx} {o e f:Expr} {apos cpos:Pos} {td ty tx:TE}
theorem C_ (hu:X.A.units+1<cLine) (ho:PE X o td) (he:PE X e ty) (hf:PE X f tx) (m:M2 X o "get" apos e f cpos):PE X (.Call (.Attribute o "get" apos) [e,f] [] cpos) (Gv td ty tx):=by
  intro p_ s σ H Q I h;refine wpAny_Call_method m.base m.few m.line PySem.F.plainAttrs_dict PySem.F.slot_dict_get PySem.F.type_dict_get (bN (ho p_ s σ H _ I h) fun u s1 zz=>?_);obtain⟨x,H1,I1,rx,a,ex,d,q1⟩:=zz;subst ex;obtain rfl:u=Value.ref a:=rx;obtain⟨t1,t2,_⟩:=Ww I1 d;refine⟨t1,t2,?_⟩;rw[m.trees];refine Calls.callWith_builtin rfl (Calls.evalArgs_plain (Calls.spliced_cons (bN (he p_ s1 σ H1 _ I1 q1) fun iv s2 ⟨y,H2,I2,ry,q2⟩=>
    Calls.spliced_cons (bN (hf p_ s2 σ H2 _ I2 q2) fun fv s3 ⟨z,H3,I3,rz,ov,g,q3⟩=>Calls.spliced_nil ?_))))
  exact Wx hu I3 g ry rz fun w' s4 I4 Mt=>⟨_,H3,I4,Mt,q3⟩
end
structure Nm2 (mg:Str→Option Value):Prop where
  enumerate:mg "enumerate" = none
  any:mg "any" = none
  dict:mg "dict" = none
  sorted:mg "sorted" = none
  repr:mg "repr" = none
  bool:mg "bool" = none
theorem Inv.Ry {X:Cx} {p_:List (Addr×Obj)} {σ:St} {H:Hp} {s:Shared} {h2:Heap} {t':Nat} {x y:V} {u u':Value} (I:Inv X p_ σ H s) (I1:Inv X p_ σ H {s with heap:=h2,toks:=t'}) (ru:RelV x u) (ru':RelV y u')
    (CG:h2.get? s.heap.objs.size=some {cls:=.type "tuple",data:=.seq #[u,u']}):Inv X p_ σ (upd H s.heap.objs.size (.tup [x,y])) {s with heap:=h2,toks:=t'}:=by
  have hfr:H s.heap.objs.size=none:=I.hok.fresh (Nat.le_refl _);refine⟨I1.ok,I1.os,I1.bare,⟨I1.base.keep,I1.base.slot,fun c o e n hx=>?_,I1.base.there,fun c zs e=>?_,fun c o v e=>?_,fun c qs e=>?_⟩,I1.loc,I1.cell,?_,fun v c e=>?_,fun v hv=>?_,?_,I1.len⟩
  · rw[aC (fun e'=>?_)]
    ·exact I1.base.free c o e n hx
    ·exact absurd (Nat.lt_of_lt_of_le (Heap.lt_size e) I.sz) (by rw[e'];exact Nat.lt_irrefl _)
  ·have e':=I1.base.tups c zs e;rw[aC (aG e' hfr)];exact e'
  ·have e':=I1.base.vP c o v e;rw[aC (aG e' hfr)];exact e'
  ·obtain⟨m,e'⟩:=I1.base.yt c qs e;exact⟨m,by rw[aC (aG e' hfr)];exact e'⟩
  ·rw[aC (Nat.ne_of_lt I.lt)];exact I1.free
  ·obtain⟨w',qc⟩:=I.cell v c e;rw[aC (Nat.ne_of_lt qc.lt)];exact I1.oF v c e
  ·obtain⟨f1,f2,f3⟩:=I1.pin v hv;refine⟨f1,?_,f3⟩;rw[aC (Nat.ne_of_lt (Heap.lt_size (I.pin v hv).1))];exact f2
  · intro c v e
    by_cases hcs:c=s.heap.objs.size
    ·subst hcs;rw[ak] at e;cases e;exact⟨by show 2≤sizeLine;rw[sizeLine_eq];decide,[u,u'],.cons ru (.cons ru' .nil),⟨_,CG,rfl,0,rfl⟩⟩
    · rw[aC hcs] at e;refine(I1.hok c v e).stay (fun _ _ _ qq=>qq) (fun d qd=>?_) fun d zs qd=>?_
      ·rw[aC (aG qd hfr)];exact qd
      ·rw[aC (aG qd hfr)];exact qd
def Ite (K:W.Frag) (a:Addr):It:=
  ⟨fun i H=>∃xs x,aR K H a xs∧xs[i]? = some x,
   fun i H v H'=>∃t x,v = .ref t∧H t=none∧H'=upd H t (.tup [.int i,x])∧∀xs,aR K H a xs→xs[i]? = some x,
   fun i H=>∃xs,aR K H a xs∧xs.length≤i⟩
structure Wy (e it a:Addr) (i:Nat) (h:Heap):Prop where
  he:∃old,IsEnum h e it i old
  hi:h.IsListIter it a i
theorem J6 {P:Program} {w:World} {K:W.Frag} {es:List Expr} {k:Nat} {pos:Pos} {e it a:Addr} (nei:e≠it) :
    Turn P w K (.Tuple es k pos) (Ite K a) [e,it] e (Wy e it a) where
  mem:=by simp
  obj:=fun i h st c hc=>by
    simp only[List.mem_cons,List.not_mem_nil,or_false] at hc
    rcases hc with rfl | rfl
    ·obtain⟨old,q⟩:=st.he;exact⟨_,q,fun v e=>nomatch e⟩
    ·obtain⟨o,e,_,d⟩:=st.hi;exact⟨o,e,fun v y=>by rw[d] at y;cases y⟩
  keep:=fun i h h' st kk=>by
    obtain⟨old,q⟩:=st.he;exact⟨⟨old,kk e (by simp) _ q⟩,st.hi.at fun o z=>kk it (by simp) o z⟩
  item:=by
    intro X hP hw hK hc i p_ s σ H E I hf st hg;subst hP hw hK;obtain⟨xs,x,qa,hx⟩:=hg;obtain⟨its,rv,pl,hz1⟩:=I.list qa;obtain⟨u,hu,ru⟩:=rv.get hx;obtain⟨old,hE⟩:=st.he;obtain⟨o1,e1,c1,_⟩:=id st.hi;refine wpAny_pyNext_enum_item hE st.hi pl.isList (x:=u) (by simpa using hu) nei fun h' a1 a2 a3 a4 kk=>?_;refine⟨_,rfl,wpAny_letOwnedTupleGo_enum a1 fun h2 b1 sb=>?_⟩;have lt:∀{c o},s.heap.get? c=some o→s.heap.objs.size≠c:=fun e=>Nat.ne_of_gt (Heap.lt_size e);have hn:H s.heap.objs.size=none:=I.hok.fresh (Nat.le_refl _);have Zw:∀c o,c∉[e,it]→s.heap.get? c=some o→h2.get? c=some o:=fun c o hc z=>by
      simp only[List.mem_cons,List.not_mem_nil,or_false,not_or] at hc;exact(sb.2 c hc.1).trans (kk c o hc.1 hc.2 z)
    have I1:Inv X p_ σ H {s with heap:=h2,toks:=s.toks+1}:=I.vq Zw hf;have CG:=sb.extBut _ _ (lt hE) a3;have I2:Inv X p_ σ (upd H s.heap.objs.size (.tup [.int i,x])) {s with heap:=h2,toks:=s.toks+1}:=I.Ry I1 ⟨_,rfl⟩ ru CG;refine⟨.ref s.heap.objs.size,_,I2,rfl,⟨s.heap.objs.size,x,rfl,hn,rfl,fun xs' q'=>by rw[I.rJ q' qa];exact hx⟩,?_,fun c hcm=>?_⟩
    ·exact⟨⟨_,b1⟩,a2.extBut sb.extBut nei.symm⟩
    · have hne:c≠s.heap.objs.size:=by
        simp only[List.mem_cons,List.not_mem_nil,or_false] at hcm
        rcases hcm with rfl | rfl
        ·exact(lt hE).symm
        ·exact(lt e1).symm
      rw[aC hne];exact(hf c hcm).1
  done:=by
    intro X hP hw hK hc i p_ s σ H E I hf st hg;subst hP hw hK;obtain⟨xs,qa,hl⟩:=hg;obtain⟨its,rv,pl,hz1⟩:=I.list qa;obtain⟨old,hE⟩:=st.he;have l1:=rv.length;refine wpAny_pyNext_enum_end (I.ok.hd hc) hE st.hi pl.isList (by simp;omega) fun h' kk=>⟨rfl,I.vq (t':=s.toks) (fun c o hcm z=>?_) hf⟩;simp only[List.mem_cons,List.not_mem_nil,or_false,not_or] at hcm;exact kk c o hcm.2 z
  self:=fun _ _ _ _ _ st h=>by
    obtain⟨old,q⟩:=st.he;exact wpAny_pyIter_enum q h
section
variable {X:Cx} {K:W.Frag}
def Nt (K:W.Frag) (t:TA):TI:=fun σ H R=>t σ H fun vs H1=>∃a xs,vs=[.ref a]∧aR K H1 a xs∧R (Ite K a) H1
theorem zu:bootBuiltins "enumerate" = some (.type "enumerate"):=by decide+kernel
theorem Iw (hK:X.K=K) {es:List Expr} {k:Nat} {pos':Pos} {a:Expr} {ta:TA} {p pos:Pos} (hg:Gl X "enumerate") (hm:X.mg "enumerate" = none) (ha:PA X [a] ta)
    (hs:starEach [a] X.env=[(false,eval a X.env)]:=by rfl) :
    PI X (.Tuple es k pos') (.Call (.Name "enumerate" p) [a] [] pos) (Nt K ta):=by
  subst hK;intro p_ s σ H R I h;refine Call_ (mZ I hg hm zu (PyProof.Rows.callWith_type1 (bN (ha pos p_ s σ H _ I h) fun us s1 zz=>?_) (by rw[hs];rfl) (by rfl)));obtain⟨vs,H1,I1,r1,q1⟩:=zz;obtain⟨l1,xs,e,qa,q⟩:=q1;subst e;obtain⟨u,rfl,r⟩:=vals1 r1;obtain rfl:u=Value.ref l1:=r;obtain⟨its,rv,pl,hz1⟩:=I1.list qa;refine call_enumerate_list pl.isList fun h' b1 b2 b3 kk=>?_;refine wpAny_pyIter_enum (s:={s1 with heap:=h'}) b1 ?_;have I2:Inv X p_ σ H1 {s1 with heap:=h'}:=I1.kept (t':=s1.toks) kk;refine⟨s1.heap.objs.size+1,[s1.heap.objs.size+1,s1.heap.objs.size],_,_,H1,rfl,I2,J6 (Nat.succ_ne_self _),⟨⟨_,b1⟩,b2⟩,fun c hc=>?_,q⟩;have hle:s1.heap.objs.size≤c:=by
    simp only[List.mem_cons,List.not_mem_nil,or_false] at hc
    rcases hc with rfl | rfl <;> first | exact Nat.le_add_right _ _ | exact Nat.le_refl _
  exact I1.vV hle (I1.hok.fresh hle)
end
section
variable {X:Cx} {K:W.Frag} {tg:Expr}
theorem Iz (hK:X.K=K) {es:List Expr} {k:Nat} {pos':Pos} {a b:Expr} {ta:TA} {p pos:Pos} (hg:Gl X "zip") (hm:X.mg "zip" = none) (ha:PA X [a,b] ta)
    (hs:starEach [a,b] X.env=[(false,eval a X.env),(false,eval b X.env)]:=by rfl) (hs2:starEach [b] X.env=[(false,eval b X.env)]:=by rfl) :
    PI X (.Tuple es k pos') (.Call (.Name "zip" p) [a,b] [] pos) (Rk K ta):=by subst hK;exact Wh hg hm ha hs hs2
theorem Rz (hK:X.K=K) {o:Expr} {to:TE} {name:Str} {apos cpos:Pos} {T id:String} {r:V→List V→Hp→VK→Prop} (pa:PlainAttrs T) (slot:Slot T name id) (hty:typeOf (.builtin id)=pure (.type "method_descriptor")) (hm:JK X id r) (ho:PE X o to)
    (hbase:attributeBase o name X.env (eval o X.env)=eval o X.env:=by rfl) (hline:(apos.endLine == cpos.line)=true:=by rfl):PE X (.Call (.Attribute o name apos) [] [] cpos) (V9 K T r to):=by subst hK;exact V_ pa slot hty hm ho hbase hline
theorem IK (hK:X.K=K) {o value:Expr} {ta tv:TE} {f:Str} {pos pos':Pos} (ha:PE X o ta) (hv:PE X value tv) (hs:swapsWith value (some (.Attribute o f pos')) pos.line X.env=pure false):PS X (.Assign [.Attribute o f pos'] value pos) (VP K ta tv f):=by subst hK;exact V0 ha hv hs
end
@[simp ↓] theorem qcq (i:Nat) σ H Q:Vj i σ H Q=(∃v,σ[i]? = some (some v)∧Q v H):=rfl
@[simp ↓] theorem qef (v:V) z0 H Q:tC v z0 H Q=(Q v H):=rfl
@[simp ↓] theorem qeg (t:TE) σ H Q:tB t σ H Q=(t σ H fun x H1=>∃c,x = .bl c∧Q c H1):=rfl
@[simp ↓] theorem qcr (t:TT) σ H Q:Y5 t σ H Q=(t σ H fun c H1=>Q (!c) H1):=rfl
@[simp ↓] theorem qbf D σ H:T5  D σ H=(D.nx σ H):=rfl
@[simp ↓] theorem qcs (t u:TS) D σ H:Y7 t u D σ H=(t {D with nx:=u D} σ H):=rfl
@[simp ↓] theorem qbg (te:TE) D σ H:T6 te D σ H=(te σ H fun _ H1=>D.nx σ H1):=rfl
@[simp ↓] theorem qct (te:TE) D σ H:Y8 te D σ H=(te σ H D.rt):=rfl
@[simp ↓] theorem ZJ z0 z1 z2:Lk  z0 z1 z2=(False):=rfl
@[simp ↓] theorem qbh (i:Nat) v σ H Q:Cm i v σ H Q=(Q (σ.set i (some v)) H):=rfl
@[simp ↓] theorem qcu vs σ H Q:Vo  vs σ H Q=(vs=[]∧Q σ H):=rfl
@[simp ↓] theorem qbi (t:TG) (u:B_) vs σ H Q:Ln t u vs σ H Q=(∃v r,vs=v::r∧t v σ H fun σ' H'=>u r σ' H' Q):=rfl
@[simp ↓] theorem qcv (K:W.Frag) (n:Nat) (t:B_) v σ H Q:QL K n t v σ H Q=(∃a xs,v = .ref a∧eO K H a xs∧xs.length=n∧t xs σ H Q):=rfl
@[simp ↓] theorem qcw (to ti:TE) (t:Js) v σ H Q:Y_ to ti t v σ H Q=(to σ H fun o H1=>ti σ H1 fun i H2=>t o i v H2 fun H3=>Q σ H3):=rfl
@[simp ↓] theorem qcx (te:TE) (g:TG) D σ H:Lr te g D σ H=(te σ H fun x H1=>g x σ H1 D.nx):=rfl
@[simp ↓] theorem qcy (i:Nat) (te:TE) (ti:QK) D σ H:Vq i te ti D σ H=(∃x,σ[i]? = some (some x)∧te σ H fun y H1=>ti x y H1 fun z H2=>D.nx (σ.set i (some z)) H2):=rfl
@[simp ↓] theorem qdK (f:Int→Int→Int) x y H Q:ipI f x y H Q=(∃i j,x = .int i∧y = .int j∧Q (.int (f i j)) H):=rfl
@[simp ↓] theorem qbj (K:W.Frag) (tl:TE) σ H R:Ib K tl σ H R=(tl σ H fun x H1=>∃a,x = .ref a∧(∃xs,aR K H1 a xs)∧R (K_ K a) H1):=rfl
@[simp ↓] theorem qcz (K:W.Frag) (tl:TE) σ H R:Vt K tl σ H R=(tl σ H fun x H1=>∃a,x = .ref a∧(∃xs,eO K H1 a xs)∧R (QM K a) H1):=rfl
@[simp ↓] theorem qbk (ta:TA) σ H R:Ly ta σ H R=(ta σ H fun vs H1=>∃j:Int,vs=[.int j]∧-(2 ^ 62)≤j∧j<2 ^ 62∧R (Fq 0 j.toNat) H1):=rfl
@[simp ↓] theorem qbl (ta:TA) σ H R:Lz ta σ H R=(ta σ H fun vs H1=>∃i j:Int,vs=[.int i,.int j]∧(-(2 ^ 62)≤i∧i<2 ^ 62∧-(2 ^ 62)≤j∧j<2 ^ 62)∧R (Fq i (j - i).toNat) H1):=rfl
@[simp ↓] theorem qdL (r:R2) (ta tb:TE) σ H Q:T7 r ta tb σ H Q=(ta σ H fun x H1=>tb σ H1 fun y H2=>r x y H2 Q):=rfl
@[simp ↓] theorem qdM (r:V→Hp→VK→Prop) (ta:TE) σ H Q:tUn r ta σ H Q=(ta σ H fun x H1=>r x H1 Q):=rfl
@[simp ↓] theorem qbm (t:TE) σ H Q:Ij t σ H Q=(t σ H fun x H'=>∃k,x = .bl k∧Q k H'):=rfl
@[simp ↓] theorem qcA (K:W.Frag) (ta:TE) (f:Str) σ H Q:Q9 K ta f σ H Q=(ta σ H fun x H1=>∃a C dx fs v,x = .ref a∧H1 a=some (.ins C dx fs)∧Cls K C∧jt K C f∧fs.lookup f=some v∧Q v H1):=rfl
@[simp ↓] theorem qcB (K:W.Frag) (ta tv:TE) (f:Str) D σ H:VP K ta tv f D σ H=(tv σ H fun y H1=>ta σ H1 fun x H2=>∃a C dx fs,x = .ref a∧H2 a=some (.ins C dx fs)∧Cls K C∧jt K C f∧fs.length<1000∧D.nx σ (upd H2 a (.ins C dx (mK f y fs)))):=rfl
@[simp ↓] theorem qcC z0 H Q:Mh  z0 H Q=(Q [] H):=rfl
@[simp ↓] theorem qbn (ta:TE) (tr:TA) σ H Q:Ik ta tr σ H Q=(ta σ H fun x H1=>tr σ H1 fun xs H2=>Q (x::xs) H2):=rfl
@[simp ↓] theorem qcD (t:TA) σ H Q:Zh t σ H Q=(t σ H fun xs H1=>xs.length≤sizeLine∧∀p,H1 p=none→Q (.ref p) (upd H1 p (.tup xs))):=rfl
@[simp ↓] theorem qcE (t:TA) σ H Q:Zi t σ H Q=(t σ H fun xs H1=>xs.length≤sizeLine∧∀p,H1 p=none→Q (.ref p) (upd H1 p (.lst xs))):=rfl
@[simp ↓] theorem qdN (r:List V→Hp→VK→Prop) (t:TA) σ H Q:Zm r t σ H Q=(t σ H fun vs H1=>r vs H1 Q):=rfl
@[simp ↓] theorem Yx z0 H Q:Il  z0 H Q=(Q none H):=rfl
@[simp ↓] theorem qbo (t:TE) σ H Q:Mr t σ H Q=(t σ H fun x H1=>∃i,x = .int i∧Q (some i) H1):=rfl
@[simp ↓] theorem qdO (r:V→Option Int→Option Int→Hp→VK→Prop) (te:TE) (tl th:TO) σ H Q:tSl r te tl th σ H Q=(te σ H fun x H1=>tl σ H1 fun l H2=>th σ H2 fun u H3=>r x l u H3 Q):=rfl
@[simp ↓] theorem qcF (K:W.Frag) (T:String) (r:V→List V→Hp→VK→Prop) (to:TE) σ H Q:V9 K T r to σ H Q=(to σ H fun x H1=>Rh K T x H1∧r x [] H1 Q):=rfl
@[simp ↓] theorem qdP (K:W.Frag) (T:String) (r:V→List V→Hp→VK→Prop) (to:TE) (t:TA) σ H Q:tBM K T r to t σ H Q=(to σ H fun x H1=>Rh K T x H1∧t σ H1 fun xs H2=>r x xs H2 Q):=rfl
@[simp ↓] theorem qcG z0 H Q:Zu  z0 H Q=(Q true H):=rfl
@[simp ↓] theorem qcH (tl:TE) σ H R:Wd tl σ H R=(tl σ H fun x H1=>∃z,x = .str z∧R (Its z) H1):=rfl
@[simp ↓] theorem qcI (K:W.Frag) (t:TA) σ H R:Rk K t σ H R=(t σ H fun vs H1=>∃a b xs ys,vs=[.ref a,.ref b]∧aR K H1 a xs∧aR K H1 b ys∧R (T9 K a b) H1):=rfl
@[simp ↓] theorem qcJ (K:W.Frag) (tl:TE) σ H R:Wo K tl σ H R=(tl σ H fun x H1=>∃b p,x = .ref p∧(∃xs,Ud b K H1 p xs)∧R (Yv b K p) H1):=rfl
structure qcK (Q:VK) where
  n:Nat
structure RB (g:TG) (tb:TS) (D:Ends) where
  n:Nat
structure ZK (c:TT) (tb:TS) (D:Ends) where
  n:Nat
structure Wz (g:TG) (tt:TT) (te:TE) (Q:Hp→Prop) where
  n:Nat
structure Gw (A B:Prop) where
  n:Nat
def RD (sp:Sp) (vs:List V) (H:Hp) (Q:VK) (d:qcK Q) (E:XK):Prop:=sp vs H Q E
def Qz (J:It) (g:TG) (tb:TS) (D:Ends) (d:RB g tb D) (σ:St) (H:Hp):Prop:=Wq J g tb D σ H
def tWh (c:TT) (tb:TS) (D:Ends) (d:ZK c tb D) (σ:St) (H:Hp):Prop:=z6 c tb D σ H
def WD (own:List Str) (caps:List Nat) (J:It) (g:TG) (tt:TT) (te:TE) (Q:Hp→Prop) (d:Wz g tt te Q) (D:Addr) (σ:St) (H:Hp):Prop:=jC own caps J g tt te D σ H Q
def eX (b:Bool) (A B:Prop) (d:Gw A B):Prop:=if b=true then A else B
@[simp] theorem qdQ (A B:Prop) (d:Gw A B):eX true A B d=A:=rfl
@[simp] theorem qdR (A B:Prop) (d:Gw A B):eX false A B d=B:=rfl
theorem eX.of {b:Bool} {A B:Prop} {d:Gw A B} (h1:b=true→A) (h2:b=false→B):eX b A B d:=by
  cases b with
  | true=>exact h1 rfl
  | false=>exact h2 rfl
theorem eX.pos {b:Bool} {A B:Prop} {d:Gw A B} (h:b=true) (h1:A):eX b A B d:=by subst h;exact h1
theorem eX.neg {b:Bool} {A B:Prop} {d:Gw A B} (h:b=false) (h1:B):eX b A B d:=by subst h;exact h1
@[simp ↓] theorem qbp (sp:Sp) (tK:List V) (E:XK) (t:TA) (σ:St) (H:Hp) (Q:VK):Mi sp tK E t σ H Q=t σ H fun vs H1=>RD sp (vs++tK) H1 Q ⟨0⟩ E:=rfl
@[simp ↓] theorem qbq (C:Addr) (m:Str) (sp:Sp) (tK:List V) (E:XK) (ta:TE) (t:TA) (σ:St) (H:Hp) (Q:VK):Mj C m sp tK E ta t σ H Q=ta σ H fun x H1=>∃a dx fs,x = .ref a∧H1 a=some (.ins C dx fs)∧fs.lookup m=none∧t σ H1 fun vs H2=>RD sp (x::(vs++tK)) H2 Q ⟨0⟩ E:=rfl
@[simp ↓] theorem qbr (C:Addr) (sp:Sp) (tK:List V) (E:XK) (t:TA) (σ:St) (H:Hp) (Q:VK):Ml C sp tK E t σ H Q=t σ H fun vs H1=>∀x dx,H1 x=none→H1 dx=none→dx≠x→
  RD sp (.ref x::(vs++tK)) (upd (upd H1 dx (.own x)) x (.ins C dx [])) (fun v H2=>v = .non∧Q (.ref x) H2) ⟨0⟩ E:=rfl
@[simp ↓] theorem qcL (wi:TI) (g:TG) (tb:TS) (D:Ends) (σ:St) (H:Hp):Za wi g tb D σ H=wi σ H fun J H1=>Qz J g tb D ⟨0⟩ σ H1:=rfl
@[simp ↓] theorem ZL (c:TT) (tb:TS) (D:Ends) (σ:St) (H:Hp):z6 c tb D σ H=tWh c tb D ⟨0⟩ σ H:=rfl
@[simp ↓] theorem qbs (own:List Str) (caps:List Nat) (wi:TI) (g:TG) (tt:TT) (te:TE) (σ:St) (H:Hp) (Q:VK):MJ own caps wi g tt te σ H Q=wi σ H fun J H1=>∀D,H1 D=none→WD own caps J g tt te (Q (.ref D)) ⟨0⟩ D σ (upd H1 D (.lst [])):=rfl
@[simp ↓] theorem qcM (c:TT) (t u:TS) (D:Ends) (σ:St) (H:Hp):Y9 c t u D σ H=c σ H fun b H1=>eX b (t D σ H1) (u D σ H1) ⟨0⟩:=rfl
@[simp ↓] theorem qdS (c:TT) (t u:TE) (σ:St) (H:Hp) (Q:VK):tIf c t u σ H Q=c σ H fun b H1=>eX b (t σ H1 Q) (u σ H1 Q) ⟨0⟩:=rfl
@[simp ↓] theorem qcN (t u:TT) (σ:St) (H:Hp) (Q:Bool→Hp→Prop):Y4 t u σ H Q=t σ H fun c H1=>eX c (u σ H1 Q) (Q false H1) ⟨0⟩:=rfl
@[simp ↓] theorem qdT (t u:TT) (σ:St) (H:Hp) (Q:Bool→Hp→Prop):tOr t u σ H Q=t σ H fun c H1=>eX c (Q true H1) (u σ H1 Q) ⟨0⟩:=rfl
@[simp ↓] theorem qbt (ta tb:TE) (σ:St) (H:Hp) (Q:VK):Lj ta tb σ H Q=ta σ H fun x H1=>∃c,x = .bl c∧eX c (tb σ H1 Q) (Q (.bl false) H1) ⟨0⟩:=rfl
@[simp ↓] theorem ZM (r r':R2) (ta tb tc:TE) (σ:St) (H:Hp) (Q:VK):FP r r' ta tb tc σ H Q=ta σ H fun x H1=>tb σ H1 fun y H2=>r x y H2 fun z H3=>∃k,z = .bl k∧eX k (tc σ H3 fun z H4=>r' y z H4 Q) (Q (.bl false) H3) ⟨0⟩:=rfl
def wF (g:TG) (tt:TT) (te:TE) (D:Addr) (N:St→Hp→Prop) (x:V) (σ:St) (H:Hp):Prop:=
  g x σ H fun σ2 H3=>tt σ2 H3 fun b H4=>eX b (te σ2 H4 fun y H5=>∃ys,H5 D=some (.lst ys)∧ys.length<sizeLine∧N σ2 (upd H5 D (.lst (ys++[y])))) (N σ2 H4) ⟨0⟩
@[simp ↓] theorem qbu (g:TG) (tt:TT) (te:TE) (D:Addr) (N:St→Hp→Prop) (x:V) (σ:St) (H:Hp):wF g tt te D N x σ H =
  (g x σ H fun σ2 H3=>tt σ2 H3 fun b H4=>eX b (te σ2 H4 fun y H5=>∃ys,H5 D=some (.lst ys)∧ys.length<sizeLine∧N σ2 (upd H5 D (.lst (ys++[y])))) (N σ2 H4) ⟨0⟩):=rfl
@[simp ↓] theorem qcO {α:Type} (a b:α) (R:α→α→Prop):(∃v w,[a,b]=[v,w]∧R v w)=R a b:=by
  refine propext ⟨?_,fun h=>⟨a,b,rfl,h⟩⟩;rintro⟨_,_,e,h⟩;cases e;exact h
@[simp] theorem qbw {α β:Type} (a:α) (b:β) (R:α→β→Prop):(∃v w,(a=v∧b=w)∧R v w)=R a b:=by
  refine propext ⟨?_,fun h=>⟨a,b,⟨rfl,rfl⟩,h⟩⟩;rintro⟨_,_,⟨rfl,rfl⟩,h⟩;exact h
@[simp] theorem sz0:(0≤sizeLine)=True:=eq_true (by decide)
@[simp] theorem sz1:(1≤sizeLine)=True:=eq_true (by decide)
@[simp] theorem sz2:(2≤sizeLine)=True:=eq_true (by decide)
@[simp] theorem sz3:(3≤sizeLine)=True:=eq_true (by decide)
@[simp] theorem sz4:(4≤sizeLine)=True:=eq_true (by decide)
@[simp] theorem sz5:(5≤sizeLine)=True:=eq_true (by decide)
@[simp] theorem sz6:(6≤sizeLine)=True:=eq_true (by decide)
@[simp] theorem sz7:(7≤sizeLine)=True:=eq_true (by decide)
@[simp] theorem sz8:(8≤sizeLine)=True:=eq_true (by decide)
@[simp] theorem sz9:(9≤sizeLine)=True:=eq_true (by decide)
@[simp] theorem qeh:(10≤sizeLine)=True:=eq_true (by decide)
@[simp] theorem qei:(11≤sizeLine)=True:=eq_true (by decide)
@[simp] theorem qej:(12≤sizeLine)=True:=eq_true (by decide)
@[simp] theorem qek:(13≤sizeLine)=True:=eq_true (by decide)
@[simp] theorem qel:(14≤sizeLine)=True:=eq_true (by decide)
@[simp] theorem qem:(15≤sizeLine)=True:=eq_true (by decide)
@[simp] theorem qen:(16≤sizeLine)=True:=eq_true (by decide)
@[simp] theorem qeo:(17≤sizeLine)=True:=eq_true (by decide)
@[simp] theorem qep:(18≤sizeLine)=True:=eq_true (by decide)
@[simp] theorem qeq:(19≤sizeLine)=True:=eq_true (by decide)
@[simp] theorem yG:(20≤sizeLine)=True:=eq_true (by decide)
@[simp] theorem qbx (i j:Int):vd (.int i) (.int j)=true:=rfl
@[simp] theorem qby (i j:Str):vd (.str i) (.str j)=true:=rfl
@[simp] theorem qbz (i j:Bool):vd (.bl i) (.bl j)=true:=rfl
@[simp] theorem qbA (i:Int) (j:Str):vd (.int i) (.str j)=true:=rfl
@[simp] theorem qbB (i:Int) (j:Str):vd (.str j) (.int i)=true:=rfl
@[simp] theorem ZP (K:W.Frag) (p:Addr) (H:Hp):Rh K "list" (.ref p) H=(∃xs,aR K H p xs):=by simp[Rh]
@[simp] theorem qbC (K:W.Frag) (p:Str) (H:Hp):Rh K "str" (.str p) H=True:=by simp[Rh]
section
variable {K:W.Frag} {l:Addr} {xs:List V} {g:TG} {tb:TS} {D:Ends} {d:RB g tb D} {σ:St} {H:Hp}
theorem Ld (xs:List V) (Pv:Nat→St→Hp→Prop) (h0:Pv 0 σ H) (hl:∀i σ H,i≤xs.length→Pv i σ H→aR K H l xs)
    (hs:∀i x σ H,xs[i]? = some x→Pv i σ H→g x σ H fun σ2 H2=>tb {D with nx:=Pv (i+1),ct:=Pv (i+1),bk:=D.nx} σ2 H2) (hd:∀σ H,Pv xs.length σ H→D.nx σ H):Qz (K_ K l) g tb D d σ H:=LC Pv h0 hl hs hd
theorem frT (xs:List V) (Pv:Nat→St→Hp→Prop) (h0:Pv 0 σ H) (hl:∀i σ H,i≤xs.length→Pv i σ H→eO K H l xs)
    (hs:∀i x σ H,xs[i]? = some x→Pv i σ H→g x σ H fun σ2 H2=>tb {D with nx:=Pv (i+1),ct:=Pv (i+1),bk:=D.nx} σ2 H2) (hd:∀σ H,Pv xs.length σ H→D.nx σ H):Qz (QM K l) g tb D d σ H:=QW Pv h0 hl hs hd
theorem ZQ {lo:Int} {n:Nat} (Pv:Nat→St→Hp→Prop) (h0:Pv 0 σ H)
    (hs:∀i σ H,i<n→Pv i σ H→g (.int (lo+i)) σ H fun σ2 H2=>tb {D with nx:=Pv (i+1),ct:=Pv (i+1),bk:=D.nx} σ2 H2) (hd:∀σ H,Pv n σ H→D.nx σ H):Qz (Fq lo n) g tb D d σ H:=Jw Pv h0 hs hd
end
section
variable {K:W.Frag} {own:List Str} {caps:List Nat} {g:TG} {tt:TT} {te:TE} {D l l1 l2:Addr} {σ:St} {H:Hp} {Q:Hp→Prop} {d:Wz g tt te Q}
theorem Nu (xs:List V) (Pv:Nat→St→Hp→Prop) (h0:Pv 0 (stC own caps σ) H) (hl:∀i σ H,i≤xs.length→Pv i σ H→aR K H l xs)
    (hs:∀i x σ H,xs[i]? = some x→Pv i σ H→wF g tt te D (Pv (i+1)) x σ H) (hd:∀σ H,Pv xs.length σ H→Q H):WD own caps (K_ K l) g tt te Q d D σ H:=zm Pv h0 hl hs hd
theorem cmQ {b:Bool} (xs:List V) (Pv:Nat→St→Hp→Prop) (h0:Pv 0 (stC own caps σ) H) (hl:∀i σ H,i≤xs.length→Pv i σ H→Ud b K H l xs)
    (hs:∀i x σ H,xs[i]? = some x→Pv i σ H→wF g tt te D (Pv (i+1)) x σ H) (hd:∀σ H,Pv xs.length σ H→Q H):WD own caps (Yv b K l) g tt te Q d D σ H:=M_ Pv h0 hl hs hd
theorem cmR {lo:Int} {n:Nat} (Pv:Nat→St→Hp→Prop) (h0:Pv 0 (stC own caps σ) H)
    (hs:∀i σ H,i<n→Pv i σ H→wF g tt te D (Pv (i+1)) (.int (lo+i)) σ H) (hd:∀σ H,Pv n σ H→Q H):WD own caps (Fq lo n) g tt te Q d D σ H:=Gq Pv h0 hs hd
theorem cmS {z:Str} (Pv:Nat→St→Hp→Prop) (h0:Pv 0 (stC own caps σ) H)
    (hs:∀i c σ H,z.cps[i]? = some c→Pv i σ H→wF g tt te D (Pv (i+1)) (.str ⟨#[c]⟩) σ H) (hd:∀σ H,Pv z.cps.size σ H→Q H):WD own caps (Its z) g tt te Q d D σ H:=M8 Pv h0 hs hd
theorem cmZ (xs ys:List V) (Pv:Nat→St→Hp→Prop) (h0:Pv 0 (stC own caps σ) H) (he:xs.length=ys.length) (hl:∀i σ H,i≤xs.length→Pv i σ H→aR K H l1 xs∧aR K H l2 ys)
    (hs:∀i x y t σ H,xs[i]? = some x→ys[i]? = some y→H t=none→Pv i σ H→wF g tt te D (Pv (i+1)) (.ref t) σ (upd H t (.tup [x,y]))) (hd:∀σ H,Pv xs.length σ H→Q H):WD own caps (T9 K l1 l2) g tt te Q d D σ H:=M9 Pv h0 he hl hs hd
end
theorem wG {c:Bool} {t u:TS} {D:Ends} {σ:St} {H:Hp} {d:Gw (t D σ H) (u D σ H)} (R:St→Hp→Prop) (hc:∀σ H,R σ H→D.nx σ H)
    (h:∀N:St→Hp→Prop,(∀σ H,R σ H→N σ H)→eX c (t {D with nx:=N} σ H) (u {D with nx:=N} σ H) ⟨0⟩):eX c (t D σ H) (u D σ H) d:=h D.nx hc
theorem rT {α β:Type} {f:α→β} {ys zs:List β} (h:ys.Perm zs):∀l:List α,zs=l.map f→∃l':List α,l'.Perm l∧ys=l'.map f:=by
  induction h with
  | nil=>
    intro l e;cases l with
    | nil=>exact⟨[],.nil,rfl⟩
    | cons a l=>cases e
  | cons x _ ih=>
    intro l e;cases l with
    | nil=>cases e
    | cons a l=>
      simp only[List.map_cons,List.cons.injEq] at e;obtain⟨l',p,e'⟩:=ih l e.2;exact⟨a::l',p.cons a,by rw[e',e.1,List.map_cons]⟩
  | swap x y _=>
    intro l e
    match l,e with
    | a::b::l,e=>
      simp only[List.map_cons,List.cons.injEq] at e;exact⟨b::a::l,.swap ..,by rw[e.1,e.2.1,e.2.2];rfl⟩
  | trans _ _ ih1 ih2=>
    intro l e;obtain⟨l',p,e'⟩:=ih2 l e;obtain⟨l2,p2,e2⟩:=ih1 l' e';exact⟨l2,p2.trans p,e2⟩
theorem Nv {α:Type} {xs:List α} {k:Nat} (h2:2≤xs.length) (hk:k<xs.length):∃j x,j≠k∧xs[j]? = some x∧yu xs ((k:Int) - 1)=some x:=by
  cases k with
  | zero=>
    have hj:xs.length - 1<xs.length:=by omega
    refine⟨xs.length - 1,xs[xs.length - 1],by omega,by simp[hj],?_⟩;unfold yu Qy;rw[if_neg (by omega),if_pos (by omega)];have e:(((0:Nat):Int) - 1+xs.length).toNat=xs.length - 1:=by omega
    show xs[(((0:Nat):Int) - 1+xs.length).toNat]? = _;rw[e];simp[hj]
  | succ k=>
    have hj:k<xs.length:=by omega
    have e:((k+1:Nat):Int) - 1=(k:Int):=by omega
    rw[e];exact⟨k,xs[k],by omega,by simp[hj],bC (by simp[hj])⟩
end L2
namespace L2
open PySem
theorem qG (K:W.Frag):W.kitOne K (.type "list") (.type "list")=some true:=by simp[W.kitOne]
theorem Dc (K:W.Frag):W.kitOne K (.type "str") (.type "str")=some true:=by simp[W.kitOne]
theorem Dd (K:W.Frag):W.kitOne K (.type "int") (.type "int")=some true:=by simp[W.kitOne]
theorem Ao (K:W.Frag):W.kitOne K (.type "int") (.type "bool")=some false:=by simp[W.kitOne];rfl
end L2
namespace L2
open PySem PySem.Spec PyProof.Rows
section
variable {X:Cx} {K:W.Frag}
def ZR (K:W.Frag):R2:=fun x y H Q=>∃d e,Is K H d x∧Is K H e y∧d.canLay0=true∧e.canLay0=true∧d.depth≤64∧Q (.bl (PyData.eqv d e)) H
def ZS (K:W.Frag):R2:=fun x y H Q=>∃d e,Is K H d x∧Is K H e y∧d.canLay0=true∧e.canLay0=true∧d.depth≤64∧Q (.bl (!PyData.eqv d e)) H
theorem WK (hK:X.K=K) (hu:X.A.units+64<cLine):fP X (compareOp .Eq) (ZR K):=by
  subst hK;intro p_ s σ H x y v u Q I rx ry h;obtain⟨d,e,h1,h2,h3,h4,h5,q⟩:=h;exact Wi p_ s σ H x y v u Q I rx ry ⟨d,e,h1,h2,h3,h4,by omega,q⟩
theorem WL (hK:X.K=K) (hu:X.A.units+64<cLine):fP X (compareOp .NotEq) (ZS K):=by
  subst hK;intro p_ s σ H x y v u Q I rx ry h;obtain⟨d,e,h1,h2,h3,h4,h5,q⟩:=h;exact Wj p_ s σ H x y v u Q I rx ry ⟨d,e,h1,h2,h3,h4,by omega,q⟩
end
@[simp ↓] theorem qbD (td ty:TE) (σ:St) (H:Hp) (Q:VK):Nj td ty σ H Q=(td σ H fun x H1=>ty σ H1 fun y H2=>∃a v,x = .ref a∧fQ H2 a y (some v)∧Q v H2):=rfl
@[simp ↓] theorem qcP (ty td:TE) (σ:St) (H:Hp) (Q:VK):Wt ty td σ H Q=(ty σ H fun y H1=>td σ H1 fun x H2=>∃a o,x = .ref a∧fQ H2 a y o∧Q (.bl o.isSome) H2):=rfl
@[simp ↓] theorem Yy (ty td:TE) (σ:St) (H:Hp) (Q:VK):Am ty td σ H Q=(ty σ H fun y H1=>td σ H1 fun x H2=>∃a o,x = .ref a∧fQ H2 a y o∧Q (.bl (!o.isSome)) H2):=rfl
@[simp ↓] theorem qbE (td ty tv:TE) (D:Ends) (σ:St) (H:Hp):Nk td ty tv D σ H=(tv σ H fun v H1=>td σ H1 fun x H2=>ty σ H2 fun y H3=>∃a H4,x = .ref a∧vg H3 a y v H4∧D.nx σ H4):=rfl
@[simp ↓] theorem ZV (σ:St) (H:Hp) (Q:VK):Np σ H Q=(∀p,H p=none→Q (.ref p) (upd H p (.dK []))):=rfl
@[simp ↓] theorem qbF (Lb:List (TE×TE)) (σ:St) (H:Hp) (Q:VK):Uh Lb σ H Q=(∀p,H p=none→qT Lb σ (upd H p (.dK [])) fun ps H2=>H2 p=some (.dK [])∧∃kvs:List (Key×V),ps=kvs.map (fun kv=>(kV kv.1,kv.2))∧kvs.length≤15∧Q (.ref p) (upd H2 p (.dK (qU [] kvs)))):=rfl
@[simp ↓] theorem ZW (σ:St) (H:Hp) (Q:List (V×V)→Hp→Prop):qT [] σ H Q=Q [] H:=rfl
@[simp ↓] theorem ZX (tk tv:TE) (r:List (TE×TE)) (σ:St) (H:Hp) (Q:List (V×V)→Hp→Prop):qT ((tk,tv)::r) σ H Q=(tk σ H fun x H1=>tv σ H1 fun y H2=>qT r σ H2 fun ps H3=>Q ((x,y)::ps) H3):=rfl
@[simp ↓] theorem Z0 (td ty tx:TE) (σ:St) (H:Hp) (Q:VK):Gv td ty tx σ H Q=(td σ H fun x H1=>∃a,x = .ref a∧Yw H1 a∧ty σ H1 fun y H2=>tx σ H2 fun z H3=>∃o,fQ H3 a y o∧Q (o.getD z) H3):=rfl
@[simp ↓] theorem qbG (K:W.Frag) (t:TA) (σ:St) (H:Hp) (R:It→Hp→Prop):Nt K t σ H R=(t σ H fun vs H1=>∃a xs,vs=[.ref a]∧aR K H1 a xs∧R (Ite K a) H1):=rfl
theorem Z1 {H:Hp} {a:Addr} {kvs:List (Key×V)} (i:Int) (e:H a=some (.dK kvs)):fQ H a (.int i) (eG kvs (Sum.inl i)):=fQ.k (k:=Sum.inl i) e
theorem WM {H:Hp} {a:Addr} {kvs:List (Key×V)} (x:Str) (e:H a=some (.dK kvs)):fQ H a (.str x) (eG kvs (Sum.inr x)):=fQ.k (k:=Sum.inr x) e
theorem qcQ {H:Hp} {a:Addr} {kvs:List (Key×V)} {v:V} (x:Str) (e:H a=some (.dK kvs)) (hl:kvs.length<sizeLine):vg H a (.str x) v (upd H a (.dK (putK kvs (Sum.inr x) v))):=vg.k (k:=Sum.inr x) e hl
theorem isD {H:Hp} {a:Addr} {kvs:List (Key×V)} (e:H a=some (.dK kvs)):Yw H a:=.inl ⟨kvs,.inl e⟩
theorem range_any (bs:List Bool):(List.range bs.length).any (fun i=>bs.getD i false)=bs.any id:=by
  rw[Bool.eq_iff_iff,List.any_eq_true,List.any_eq_true];constructor
  ·rintro⟨i,hi,h⟩;have hi':=List.mem_range.mp hi;refine⟨bs[i],List.getElem_mem hi',?_⟩;simpa [List.getD,hi'] using h
  ·rintro⟨b,hb,h⟩;obtain⟨i,hi,rfl⟩:=List.mem_iff_getElem.mp hb;exact⟨i,List.mem_range.mpr hi,by simpa [List.getD,hi] using h⟩
section
variable {X:Cx} {K:W.Frag}
def Ui:List V→Hp→VK→Prop:=fun xs H Q=>∃a ys bs,xs=[.ref a]∧H a=some (.lst ys)∧mO ys bs∧Q (.bl (bs.any id)) H
theorem J7 (hc:X.calm=true):bQ X (.builtin "any") Ui:=by
  intro p_ s σ H xs us Q I r h;obtain⟨a,ys,bs,rfl,ha,hb,q⟩:=h;obtain⟨u,rfl,ru⟩:=r.one;obtain rfl:u=Value.ref a:=ru;obtain⟨z,its,n,rv,hl,e⟩:=I.Gh ha;obtain⟨h1,h2⟩:=hb.get rv;have hL:s.heap.IsList a its.toArray:=⟨_,e,rfl,n,rfl⟩;refine call_any_walk ?_;refine wpAny_pyIter_list hL ?_;have hne:a≠s.heap.objs.size:=Nat.ne_of_lt (Heap.lt_size e);have hL2:(s.heap.push {cls:=.type "list_iterator",data:=.fields #[.ref a,.int 0 0]}).IsList a its.toArray:=⟨_,Heap.get?_push_of_some _ e,rfl,n,rfl⟩;refine⟨s.heap.objs.size,_,_,_,_,_,fun i=>bs.getD i false,rfl,Walks.list (by exact I.ok.hd hc) s.heap.objs.size a hne its.toArray,⟨⟨_,Heap.get?_push_size _ rfl,rfl,rfl⟩,hL2⟩,fun i v s' Q' E' hP hQ=>?_,fun h' tk kk=>?_⟩
  ·obtain rfl:=h2 i v (by simpa using hP);exact wpAny_truthy_bool hQ
  · have e2:(List.range its.toArray.size).any (fun i=>bs.getD i false)=bs.any id:=by
      rw[List.size_toArray,← hl,h1];exact range_any bs
    rw[e2];refine⟨.bl _,H,?_,rfl,q⟩;exact I.kept (h':=h') (t':=tk) fun b o eb=>kk b o (by simp;exact Nat.ne_of_lt (Heap.lt_size eb)) (Heap.get?_push_of_some _ eb)
end
section
variable {K:W.Frag} {l:Addr} {g:TG} {tb:TS} {D:Ends} {d:RB g tb D} {σ:St} {H:Hp}
theorem frE (xs:List V) (Pv:Nat→St→Hp→Prop) (h0:Pv 0 σ H) (hl:∀i σ H,i≤xs.length→Pv i σ H→aR K H l xs)
    (hs:∀i x t σ H,xs[i]? = some x→H t=none→Pv i σ H→g (.ref t) σ (upd H t (.tup [.int i,x])) fun σ2 H2=>tb {D with nx:=Pv (i+1),ct:=Pv (i+1),bk:=D.nx} σ2 H2) (hd:∀σ H,Pv xs.length σ H→D.nx σ H):Qz (Ite K l) g tb D d σ H:=by
  refine⟨fun i m σ H=>m=xs.length - i∧i≤xs.length∧Pv i σ H,⟨xs.length,by simp,Nat.zero_le _,h0⟩,?_⟩;rintro i m σ H ⟨rfl,hi,p⟩;have q:=hl i σ H hi p
  by_cases hlt:i<xs.length
  ·refine .inr ⟨⟨xs,xs[i],q,by simp[hlt]⟩,Pv (i+1),fun σ' H' p'=>⟨xs.length - (i+1),by omega,rfl,hlt,p'⟩,fun x H' y=>?_⟩;obtain⟨t,u,rfl,ht,rfl,e⟩:=y;exact hs i u t σ H (e xs q) ht p
  · have e:i=xs.length:=by omega
    subst e;exact .inl ⟨⟨xs,q,Nat.le_refl _⟩,hd σ H p⟩
end
section
variable {K:W.Frag} {own:List Str} {caps:List Nat} {g:TG} {tt:TT} {te:TE} {D l:Addr} {σ:St} {H:Hp} {Q:Hp→Prop} {d:Wz g tt te Q}
theorem cmE (xs:List V) (Pv:Nat→St→Hp→Prop) (h0:Pv 0 (stC own caps σ) H) (hl:∀i σ H,i≤xs.length→Pv i σ H→aR K H l xs)
    (hs:∀i x t σ H,xs[i]? = some x→H t=none→Pv i σ H→wF g tt te D (Pv (i+1)) (.ref t) σ (upd H t (.tup [.int i,x]))) (hd:∀σ H,Pv xs.length σ H→Q H):WD own caps (Ite K l) g tt te Q d D σ H:=by
  refine⟨fun i m σ H=>m=xs.length - i∧i≤xs.length∧Pv i σ H,⟨xs.length,by simp,Nat.zero_le _,h0⟩,?_⟩;rintro i m σ H ⟨rfl,hi,p⟩;have q:=hl i σ H hi p
  by_cases hlt:i<xs.length
  ·refine .inr ⟨⟨xs,xs[i],q,by simp[hlt]⟩,Pv (i+1),fun σ' H' p'=>⟨xs.length - (i+1),by omega,rfl,hlt,p'⟩,fun x H' y=>?_⟩;obtain⟨t,u,rfl,ht,rfl,e⟩:=y;exact hs i u t σ H (e xs q) ht p
  · have e:i=xs.length:=by omega
    subst e;exact .inl ⟨⟨xs,q,Nat.le_refl _⟩,hd σ H p⟩
end
section
variable {c:TT} {tb:TS} {D:Ends} {d:ZK c tb D} {σ:St} {H:Hp}
theorem whB (Pv:St→Hp→Prop) (μ:St→Hp→Nat) (h0:Pv σ H)
    (hs:∀σ H,Pv σ H→c σ H fun b H1=>eX b (tb {D with nx:=fun σ' H'=>Pv σ' H'∧μ σ' H'<μ σ H,ct:=fun σ' H'=>Pv σ' H'∧μ σ' H'<μ σ H,bk:=D.nx} σ H1) (D.nx σ H1) ⟨0⟩)
    (mono:∀σ H Q Q',(∀b H1,Q b H1→Q' b H1)→c σ H Q→c σ H Q'):tWh c tb D d σ H:=LK Pv μ h0 hs mono
end
end L2
namespace L2
open PySem
inductive RT {α:Type} (R:α→α→Prop):α→α→Prop where
  | refl (a:α):RT R a a
  | tail {a b c:α}:RT R a b→R b c→RT R a c
theorem RT.one {α:Type} {R:α→α→Prop} {a b:α} (h:R a b):RT R a b:=.tail (.refl a) h
theorem RT.trans {α:Type} {R:α→α→Prop} {a b c:α} (h:RT R a b) (h2:RT R b c):RT R a c:=by
  induction h2 with
  | refl=>exact h
  | tail _ r ih=>exact .tail ih r
theorem RT.mono {α:Type} {R S:α→α→Prop} (h:∀a b,R a b→S a b) {a b:α} (r:RT R a b):RT S a b:=by
  induction r with
  | refl=>exact .refl _
  | tail _ q ih=>exact .tail ih (h _ _ q)
theorem RT.symm {α:Type} {R:α→α→Prop} (h:∀a b,R a b→R b a) {a b:α} (r:RT R a b):RT R b a:=by
  induction r with
  | refl=>exact .refl _
  | tail _ q ih=>exact(RT.one (h _ _ q)).trans ih
abbrev eY:=Nat×Str×Str
def gO (S:List eY) (a b:Str):Prop:=∃n,(n,a,b)∈S
def gP (fx:Nat→Option Int) (e:Str×Str) (k:Nat):List eY:=
  (if (fx k).getD 0=0 then [(k,e.1,e.2)] else [])++(if (fx k).getD 1=1 then [(k,e.2,e.1)] else [])
def aB (fx:Nat→Option Int):List (Str×Str)→Nat→List eY
  | [],_=>[]
  | e::r,k=>gP fx e k++aB fx r (k+1)
theorem jR (fx:Nat→Option Int):∀(l m:List (Str×Str)) (k:Nat),aB fx (l++m) k=aB fx l k++aB fx m (k+l.length)
  | [],m,k=>by simp[aB]
  | e::l,m,k=>by
    simp only[List.cons_append,aB,jR fx l m (k+1),List.append_assoc,List.length_cons];rw[show k+1+l.length=k+(l.length+1) by omega]
theorem m8 (fx:Nat→Option Int) {ps:List (Str×Str)} {i:Nat} {e:Str×Str} (h:ps[i]? = some e):aB fx (ps.take (i+1)) 0=aB fx (ps.take i) 0++gP fx e i:=by
  have hi:i<ps.length:=(List.getElem?_eq_some_iff.mp h).1;rw[take_one h,jR,List.length_take,Nat.min_eq_left (Nat.le_of_lt hi),Nat.zero_add];simp[aB]
theorem qW {fx:Nat→Option Int} {e:Str×Str} {k:Nat} {s:eY}:s∈gP fx e k↔s.1=k∧(((fx k).getD 0=0∧s.2.1=e.1∧s.2.2=e.2)∨((fx k).getD 1=1∧s.2.1=e.2∧s.2.2=e.1)):=by
  obtain⟨n,a,b⟩:=s;unfold gP;rw[List.mem_append];constructor
  · rintro(h | h)
    · split at h
      ·rename_i h0;simp at h;exact⟨h.1,.inl ⟨h0,h.2.1,h.2.2⟩⟩
      ·simp at h
    · split at h
      ·rename_i h0;simp at h;exact⟨h.1,.inr ⟨h0,h.2.1,h.2.2⟩⟩
      ·simp at h
  · rintro⟨rfl,⟨h0,rfl,rfl⟩ | ⟨h0,rfl,rfl⟩⟩
    ·exact .inl (by rw[if_pos h0];simp)
    ·exact .inr (by rw[if_pos h0];simp)
theorem kJ {fx:Nat→Option Int}:∀{ps:List (Str×Str)} {k:Nat} {s:eY},s∈aB fx ps k↔∃j e,ps[j]? = some e∧s∈gP fx e (k+j)
  | [],k,s=>by simp[aB]
  | e::r,k,s=>by
    simp only[aB,List.mem_append,kJ (ps:=r)];constructor
    · rintro(h | ⟨j,e',h1,h2⟩)
      ·exact⟨0,e,rfl,h⟩
      ·exact⟨j+1,e',by simpa using h1,by rw[show k+(j+1)=k+1+j by omega];exact h2⟩
    · rintro⟨j,e',h1,h2⟩;cases j with
      | zero=>simp at h1;subst h1;exact .inl h2
      | succ j=>exact .inr ⟨j,e',by simpa using h1,by rw[show k+1+j=k+(j+1) by omega];exact h2⟩
end L2
namespace L2
open PySem PySem.Spec PyProof.Rows
def cB {β:Type} (R:Hp→V→β→Prop) (H:Hp) (vs:List V) (bs:List β):Prop:=vs.length=bs.length∧∀(i:Nat) v b,vs[i]? = some v→bs[i]? = some b→R H v b
section
variable {β:Type} {R:Hp→V→β→Prop} {H H':Hp} {vs:List V} {bs:List β}
theorem cB.nil:cB R H [] []:=⟨rfl,fun i v b h=>by simp at h⟩
theorem cB.keep (h:cB R H vs bs) (k:∀v b,R H v b→R H' v b):cB R H' vs bs:=⟨h.1,fun i v b h1 h2=>k v b (h.2 i v b h1 h2)⟩
theorem cB.at (h:cB R H vs bs) {i:Nat} {v:V} (hv:vs[i]? = some v):∃b,bs[i]? = some b∧R H v b:=by
  have hi:i<bs.length:=by rw[← h.1];exact(List.getElem?_eq_some_iff.mp hv).1
  exact⟨bs[i],by simp[hi],h.2 i v _ hv (by simp[hi])⟩
theorem cB.snoc {v:V} {b:β} (h:cB R H vs bs) (hv:R H v b):cB R H (vs++[v]) (bs++[b]):=by
  refine⟨by simp[h.1],fun i u d h1 h2=>?_⟩
  by_cases hi:i<vs.length
  ·rw[List.getElem?_append_left hi] at h1;rw[List.getElem?_append_left (by rw[← h.1];exact hi)] at h2;exact h.2 i u d h1 h2
  · rw[List.getElem?_append_right (by omega)] at h1;rw[List.getElem?_append_right (by rw[← h.1];omega),← h.1] at h2;cases hk:i - vs.length with
    | zero=>
      rw[hk] at h1 h2;cases h1;cases h2;exact hv
    | succ j=>
      rw[hk] at h1;simp at h1
end
def Df (H:Hp) (v:V) (s:eY):Prop:=∃t,v = .ref t∧H t=some (.tup [.int s.1,.str s.2.1,.str s.2.2])
def Ny (H:Hp) (v:V) (c:List Str):Prop:=∃t,v = .ref t∧H t=some (.lst (c.map V.str))
abbrev dF:=cB Df
abbrev rW:=cB Ny
def dg (H H':Hp):Prop:=∀b xs,H b=some (.tup xs)→H' b=some (.tup xs)
theorem dg.of {H H':Hp} (s:Same H H'):dg H H':=fun b xs e=>s b _ e
theorem dg.set {H:Hp} {p:Addr} {o u:HO} (h:H p=some o) (hn:∀xs,o≠.tup xs):dg H (upd H p u):=fun b xs e=>by
  rw[aC (fun z=>by subst z;rw[h] at e;exact hn xs (Option.some.inj e))];exact e
theorem Df.keep {H H':Hp} (k:dg H H'):∀v s,Df H v s→Df H' v s:=fun v s ⟨t,e,h⟩=>⟨t,e,k _ _ h⟩
theorem dF.keep {H H':Hp} {vs:List V} {S:List eY} (h:dF H vs S) (k:dg H H'):dF H' vs S:=cB.keep h (Df.keep k)
theorem rW.same {H H':Hp} {vs:List V} {S:List (List Str)} (h:rW H vs S) (k:Same H H'):rW H' vs S:=cB.keep h fun v s ⟨t,e,q⟩=>⟨t,e,k _ _ q⟩
def Nz (H:Hp) (d:Addr) (fx:Nat→Option Int):Prop:=∃kvs,H d=some (.dK kvs)∧∀k:Nat,eG kvs (Sum.inl (k:Int))=(fx k).map V.int
theorem Dg {H:Hp} {d:Addr} (h:H d=some (.dK [])):Nz H d (fun _=>none):=⟨[],h,fun _=>rfl⟩
theorem Dh (o:Option Int) (x:Int):(o.map V.int).getD (.int x) = .int (o.getD x):=by cases o <;> rfl
end L2
namespace L2
open PySem
inductive uR (S:List eY) (a:Str):List Nat→List Str→Str→Prop where
  | nil:uR S a [] [a] a
  | snoc {w:List Nat} {vs:List Str} {b c:Str} {n:Nat}:uR S a w vs b→(n,b,c)∈S→uR S a (w++[n]) (vs++[c]) c
theorem uR.reach {S:List eY} {a:Str} {w:List Nat} {vs:List Str} {b:Str} (h:uR S a w vs b):RT (gO S) a b:=by
  induction h with
  | nil=>exact .refl _
  | snoc _ q ih=>exact .tail ih ⟨_,q⟩
inductive Walk (S:List eY) (a:Str):Nat→Str→Prop where
  | nil:Walk S a 0 a
  | snoc {k:Nat} {b c:Str} {n:Nat}:Walk S a k b→(n,b,c)∈S→Walk S a (k+1) c
theorem Walk.of {S:List eY} {a b:Str} (h:RT (gO S) a b):∃k,Walk S a k b:=by
  induction h with
  | refl=>exact⟨0,.nil⟩
  | tail _ q ih=>
    obtain⟨k,hk⟩:=ih;obtain⟨n,hn⟩:=q;exact⟨k+1,.snoc hk hn⟩
abbrev BR:=List (Str×List Nat)
structure Ft (S:List eY) (a:Str) (at_:Nat) (R:BR):Prop where
  st:R[0]? = some (a,[])
  nd:(R.map (·.1)).Nodup
  Uj:∀y w,(y,w)∈R→∃vs,uR S a w vs y∧vs.Nodup∧∀v∈vs,v∈R.map (·.1)
  cl:∀(i:Nat) y w,i<at_→R[i]? = some (y,w)→∀n c,(n,y,c)∈S→∃w',(c,w')∈R∧w'.length≤w.length+1
  mono:∀(i j:Nat) y w z u,i≤j→R[i]? = some (y,w)→R[j]? = some (z,u)→w.length≤u.length
  bd:∀(y:Str) (w:List Nat) z u,R[at_]? = some (y,w)→(z,u)∈R→u.length≤w.length+1
structure jw (S T:List eY) (a:Str) (at_:Nat) (h:Str) (wh:List Nat) (R:BR):Prop where
  bf:Ft S a at_ R
  hr:R[at_]? = some (h,wh)
  md:∀n c,(n,h,c)∈T→∃w',(c,w')∈R∧w'.length≤wh.length+1
theorem Ft.begin (S:List eY) (a:Str):Ft S a 0 [(a,[])]:=by
  refine⟨rfl,by simp,?_,by intro i y w h;omega,?_,?_⟩
  ·intro y w h;simp at h;obtain⟨rfl,rfl⟩:=h;exact⟨[y],.nil,by simp,by simp⟩
  · intro i j y w z u hij h1 h2;have hi:i=0:=by have:=(List.getElem?_eq_some_iff.mp h1).1;simp at this;omega
    have hj:j=0:=by have:=(List.getElem?_eq_some_iff.mp h2).1;simp at this;omega
    subst hi hj;rw[h1] at h2;cases h2;exact Nat.le_refl _
  ·intro y w z u h1 h2;simp at h1 h2;rw[h2.2,← h1.2];simp
theorem jw.enter {S:List eY} {a:Str} {at_:Nat} {h:Str} {wh:List Nat} {R:BR} (b:Ft S a at_ R) (hr:R[at_]? = some (h,wh)):jw S [] a at_ h wh R:=⟨b,hr,by simp⟩
theorem jw.skip {S T:List eY} {a:Str} {at_:Nat} {h:Str} {wh:List Nat} {R:BR} (b:jw S T a at_ h wh R) {s:eY} (hs:s.2.1=h→s.2.2∈R.map (·.1)):jw S (T++[s]) a at_ h wh R:=by
  refine⟨b.bf,b.hr,fun n c hm=>?_⟩
  rcases List.mem_append.mp hm with q | q
  ·exact b.md n c q
  ·simp at q;subst q;obtain⟨⟨c',w'⟩,hw,e⟩:=List.mem_map.mp (hs rfl);simp only at e;subst e;exact⟨w',hw,b.bf.bd _ _ _ _ b.hr hw⟩
theorem jw.add {S T:List eY} {a:Str} {at_:Nat} {h:Str} {wh:List Nat} {R:BR} (b:jw S T a at_ h wh R) {n:Nat} {c:Str} (hS:(n,h,c)∈S) (hc:¬c∈R.map (·.1)):jw S (T++[(n,h,c)]) a at_ h wh (R++[(c,wh++[n])]):=by
  obtain⟨⟨st,nd,Uj,cl,mono,bd⟩,hr,md⟩:=b;have hat:at_<R.length:=(List.getElem?_eq_some_iff.mp hr).1;have ml:∀{i:Nat} {x},i<R.length→(R++[(c,wh++[n])])[i]? = some x→R[i]? = some x:=fun hi e=>by rwa [List.getElem?_append_left hi] at e
  have last:∀{i:Nat} {x},¬i<R.length→(R++[(c,wh++[n])])[i]? = some x→x=(c,wh++[n]):=fun hi e=>by
    rw[List.getElem?_append_right (by omega)] at e;cases hk:_ - R.length with
    | zero=>rw[hk] at e;simp at e;exact e.symm
    | succ k=>rw[hk] at e;simp at e
  refine⟨⟨?_,?_,?_,?_,?_,?_⟩,?_,?_⟩
  ·rw[List.getElem?_append_left (by omega)];exact st
  ·rw[List.map_append,List.nodup_append];refine⟨nd,by simp,?_⟩;intro x hx y hy e;simp at hy;subst hy;exact hc (e▸hx)
  · intro y w hy
    rcases List.mem_append.mp hy with q | q
    ·obtain⟨vs,h1,h2,h3⟩:=Uj y w q;exact⟨vs,h1,h2,fun v hv=>by rw[List.map_append];exact List.mem_append_left _ (h3 v hv)⟩
    · simp at q;obtain⟨rfl,rfl⟩:=q;obtain⟨vs,h1,h2,h3⟩:=Uj h wh (List.mem_of_getElem? hr);refine⟨vs++[y],.snoc h1 hS,?_,?_⟩
      ·rw[List.nodup_append];refine⟨h2,by simp,?_⟩;intro x hx z hz e;simp at hz;subst hz;exact hc (e▸h3 x hx)
      · intro v hv;rw[List.map_append]
        rcases List.mem_append.mp hv with q | q
        ·exact List.mem_append_left _ (h3 v q)
        ·simp at q;subst q;simp
  ·intro i y w hi e m c' hm;obtain⟨w',q1,q2⟩:=cl i y w hi (ml (by omega) e) m c' hm;exact⟨w',List.mem_append_left _ q1,q2⟩
  · intro i j y w z u hij h1 h2
    by_cases hj:j<R.length
    ·exact mono i j y w z u hij (ml (by omega) h1) (ml hj h2)
    · have e2:=last hj h2;cases e2
      by_cases hi:i<R.length
      ·have:=bd h wh y w hr (List.mem_of_getElem? (ml hi h1));simp;exact this
      ·have e1:=last hi h1;cases e1;exact Nat.le_refl _
  · intro y w z u h1 h2;have h1':=ml hat h1;rw[hr] at h1';cases h1'
    rcases List.mem_append.mp h2 with q | q
    ·exact bd _ _ z u hr q
    ·simp at q;rw[q.2];simp
  ·rw[List.getElem?_append_left hat];exact hr
  · intro m c' hm
    rcases List.mem_append.mp hm with q | q
    ·obtain⟨w',q1,q2⟩:=md m c' q;exact⟨w',List.mem_append_left _ q1,q2⟩
    ·simp at q;obtain⟨rfl,rfl⟩:=q;exact⟨wh++[m],by simp,by simp⟩
theorem jw.leave {S:List eY} {a:Str} {at_:Nat} {h:Str} {wh:List Nat} {R:BR} (b:jw S S a at_ h wh R):Ft S a (at_+1) R:=by
  obtain⟨⟨st,nd,Uj,cl,mono,bd⟩,hr,md⟩:=b;refine⟨st,nd,Uj,?_,mono,?_⟩
  · intro i y w hi e n c hm
    by_cases hia:i=at_
    ·subst hia;rw[hr] at e;cases e;exact md n c hm
    ·exact cl i y w (by omega) e n c hm
  ·intro y w z u h1 h2;have q1:=bd h wh z u hr h2;have q2:=mono at_ (at_+1) h wh y w (by omega) hr h1;omega
theorem Ft.all {S:List eY} {a:Str} {R:BR} (b:Ft S a R.length R) {k:Nat} {y:Str} (h:Walk S a k y):∃w,(y,w)∈R∧w.length≤k:=by
  induction h with
  | nil=>exact⟨[],List.mem_of_getElem? b.st,Nat.le_refl _⟩
  | @snoc k b' c n _ q ih=>
    obtain⟨w,h1,h2⟩:=ih;obtain⟨i,hi⟩:=List.mem_iff_getElem?.mp h1;obtain⟨w',h3,h4⟩:=b.cl i b' w (List.getElem?_eq_some_iff.mp hi).1 hi n c q;exact⟨w',h3,by omega⟩
theorem Ft.iff {S:List eY} {a:Str} {R:BR} (b:Ft S a R.length R) (y:Str):y∈R.map (·.1)↔RT (gO S) a y:=by
  constructor
  ·intro h;obtain⟨⟨z,w⟩,h1,e⟩:=List.mem_map.mp h;simp only at e;subst e;obtain⟨vs,p,_⟩:=b.Uj z w h1;exact p.reach
  ·intro h;obtain⟨k,hk⟩:=Walk.of h;obtain⟨w,h1,_⟩:=b.all hk;exact List.mem_map.mpr ⟨(y,w),h1,rfl⟩
theorem Ft.sub {S:List eY} {a:Str} {i:Nat} {R:BR} (b:Ft S a i R) {xs:List Str} (ha:a∈xs) (hS:∀s∈S,s.2.2∈xs):∀y∈R.map (·.1),y∈xs:=by
  intro y h;obtain⟨⟨z,w⟩,h1,e⟩:=List.mem_map.mp h;simp only at e;subst e;obtain⟨vs,p,_⟩:=b.Uj z w h1;cases p with
  | nil=>exact ha
  | snoc _ q=>exact hS _ q
theorem gC {α:Type} [DecidableEq α]:∀{l xs:List α},l.Nodup→(∀y∈l,y∈xs)→l.length≤xs.length
  | [],_,_,_=>Nat.zero_le _
  | y::l,xs,hn,hs=>by
    obtain⟨h1,h2⟩:=List.nodup_cons.mp hn;have hy:y∈xs:=hs y List.mem_cons_self;have:=gC (l:=l) (xs:=xs.erase y) h2 fun z hz=>(List.mem_erase_of_ne (fun(e:z=y)=>h1 (e▸hz))).mpr (hs z (List.mem_cons_of_mem _ hz));rw[List.length_erase_of_mem hy] at this;have h0:0<xs.length:=List.length_pos_of_mem hy;simp only[List.length_cons];omega
theorem uR.len {S:List eY} {a:Str} {w:List Nat} {vs:List Str} {b:Str} (h:uR S a w vs b):vs.length=w.length+1:=by
  induction h with
  | nil=>rfl
  | snoc _ _ ih=>simp[ih]
theorem Ft.qcR {S:List eY} {a:Str} {i:Nat} {R:BR} (b:Ft S a i R) {y:Str} {w:List Nat} (h:(y,w)∈R):w.length<R.length:=by
  obtain⟨vs,p,nd,sub⟩:=b.Uj y w h;have h1:=gC nd sub;have h2:=p.len;simp at h1;omega
def qcS (H:Hp) (kv:Key×V) (yw:Str×List Nat):Prop:=kv.1=Sum.inr yw.1∧∃p,kv.2 = .ref p∧H p=some (.lst (yw.2.map fun n:Nat=>V.int n))
structure dH (H:Hp) (kvs:List (Key×V)) (R:BR):Prop where
  len:kvs.length=R.length
  ok:∀(i:Nat) kv yw,kvs[i]? = some kv→R[i]? = some yw→qcS H kv yw
theorem dH.keep {H H':Hp} {kvs:List (Key×V)} {R:BR} (h:dH H kvs R) (k:∀(p:Addr) (w:List Nat),H p=some (.lst (w.map fun n:Nat=>V.int n))→H' p=some (.lst (w.map fun n:Nat=>V.int n))):dH H' kvs R:=
  ⟨h.len,fun i kv yw h1 h2=>by
    obtain⟨e,p,e2,q⟩:=h.ok i kv yw h1 h2;exact⟨e,p,e2,k _ _ q⟩⟩
theorem dH.none {H:Hp} {kvs:List (Key×V)} {R:BR} (h:dH H kvs R) {y:Str} (hy:¬y∈R.map (·.1)):eG kvs (Sum.inr y)=Option.none:=by
  unfold eG;rw[List.find?_eq_none.mpr]
  ·rfl
  · intro kv hk;obtain⟨i,hi⟩:=List.mem_iff_getElem?.mp hk;have hl:i<R.length:=by rw[← h.len];exact(List.getElem?_eq_some_iff.mp hi).1
    obtain⟨e,_⟩:=h.ok i kv R[i] hi (by simp[hl]);simp only[decide_eq_true_eq];intro z;rw[e] at z;cases z;exact hy (List.mem_map.mpr ⟨R[i],List.getElem_mem hl,rfl⟩)
theorem dH.some {H:Hp} {kvs:List (Key×V)} {R:BR} (h:dH H kvs R) (nd:(R.map (·.1)).Nodup) {y:Str} {w:List Nat} (hy:(y,w)∈R):∃p,eG kvs (Sum.inr y)=Option.some (.ref p)∧H p=Option.some (.lst (w.map fun n:Nat=>V.int n)):=by
  obtain⟨i,hi⟩:=List.mem_iff_getElem?.mp hy;have hl:i<kvs.length:=by rw[h.len];exact(List.getElem?_eq_some_iff.mp hi).1
  have hk:kvs[i]? = Option.some kvs[i]:=by simp[hl]
  unfold eG;have hf:∃kv,kvs.find? (fun kv=>decide (kv.1=Sum.inr y))=Option.some kv:=by
    cases e:kvs.find? (fun kv=>decide (kv.1=Sum.inr y)) with
    | some kv=>exact⟨kv,rfl⟩
    | none=>
      have:=List.find?_eq_none.mp e kvs[i] (List.getElem_mem hl);obtain⟨e1,_⟩:=h.ok i _ _ hk hi;simp[e1] at this
  obtain⟨kv,hkv⟩:=hf;rw[hkv];have hm:=List.mem_of_find?_eq_some hkv;have hp:=List.find?_some hkv;simp only[decide_eq_true_eq] at hp;obtain⟨j,hj⟩:=List.mem_iff_getElem?.mp hm;have hlj:j<R.length:=by rw[← h.len];exact(List.getElem?_eq_some_iff.mp hj).1
  obtain⟨e1,p,e2,e3⟩:=h.ok j kv R[j] hj (by simp[hlj]);rw[hp] at e1;have ey:R[j].1=y:=(Sum.inr.inj e1).symm;have ej:j=i:=wz nd (x:=y) (by rw[List.getElem?_map,show R[j]? = Option.some R[j] by simp[hlj]];simp[ey]) (by rw[List.getElem?_map,hi];rfl);subst ej;have:R[j]=(y,w):=by
    have:=hi;simp[hlj] at this;exact this
  rw[this] at e3;exact⟨p,by simp[e2],e3⟩
theorem dH.has {H:Hp} {kvs:List (Key×V)} {R:BR} (h:dH H kvs R) (nd:(R.map (·.1)).Nodup) (y:Str):(eG kvs (Sum.inr y)).isSome=decide (y∈R.map (·.1)):=by
  by_cases hy:y∈R.map (·.1)
  ·obtain⟨⟨z,w⟩,h1,e⟩:=List.mem_map.mp hy;simp only at e;subst e;obtain⟨p,e,_⟩:=h.some nd h1;rw[e,decide_eq_true hy];rfl
  ·rw[h.none hy,decide_eq_false hy];rfl
theorem dH.qcT {H:Hp} {kvs:List (Key×V)} {R:BR} (h:dH H kvs R) (nd:(R.map (·.1)).Nodup) (y:Str):(eG kvs (Sum.inr y)).isNone = !decide (y∈R.map (·.1)):=by
  rw[← h.has nd y];cases eG kvs (Sum.inr y) <;> rfl
theorem dH.snoc {H:Hp} {kvs:List (Key×V)} {R:BR} {y:Str} {w:List Nat} {p:Addr} (h:dH H kvs R) (hp:H p=Option.some (.lst (w.map fun n:Nat=>V.int n))):dH H (kvs++[(Sum.inr y,.ref p)]) (R++[(y,w)]):=by
  refine⟨by simp[h.len],fun i kv yw h1 h2=>?_⟩
  by_cases hi:i<kvs.length
  ·rw[List.getElem?_append_left hi] at h1;rw[List.getElem?_append_left (by rw[← h.len];exact hi)] at h2;exact h.ok i kv yw h1 h2
  · rw[List.getElem?_append_right (by omega)] at h1;rw[List.getElem?_append_right (by rw[← h.len];omega),← h.len] at h2;cases hk:i - kvs.length with
    | zero=>
      rw[hk] at h1 h2;cases h1;cases h2;exact⟨rfl,p,rfl,hp⟩
    | succ j=>
      rw[hk] at h1;simp at h1
def Z2 (i:Nat) (σ:St):Nat:=match σ[i]? with | some (some (V.int n))=>(10 - n).toNat | _=>0
theorem bw (x:Str) (xs:List Str):inV (.str x) (xs.map V.str)=decide (x∈xs):=by
  unfold inV;rw[List.any_map,Bool.eq_iff_iff,List.any_eq_true,decide_eq_true_eq];constructor
  ·rintro⟨y,hy,e⟩;simp[Mu] at e;exact e▸hy
  ·intro h;exact⟨x,h,by simp[Mu]⟩
theorem bR (xs:List Str):(xs.map V.str).all iy=true:=by
  rw[List.all_map,List.all_eq_true];intro x _;rfl
open Classical in
def iu (S:List eY) (xs:List Str) (x:Str):List Str:=xs.filter fun y=>decide (RT (gO S) x y)
theorem m9 {S:List eY} {xs:List Str} {x y:Str}:y∈iu S xs x↔y∈xs∧RT (gO S) x y:=by
  unfold iu;simp
theorem vG {S:List eY} {xs:List Str} {x:Str}:(iu S xs x).length≤xs.length:=List.length_filter_le _ _
theorem NK {S:List eY} {xs:List Str} {x y:Str} {i:Nat} (h:xs[i]? = some y) (b:Bool) (hb:b=true↔RT (gO S) x y):iu S (xs.take (i+1)) x=iu S (xs.take i) x++if b=true then [y] else []:=by
  unfold iu;rw[take_one h,List.filter_append];congr 1
  by_cases hr:RT (gO S) x y
  ·rw[if_pos (hb.mpr hr)];simp[hr]
  ·rw[if_neg fun z=>hr (hb.mp z)];simp[hr]
def eZ (S:List eY) (xs:List Str) (acc:List (List Str)) (x:Str):List (List Str):=if (acc.any fun c=>decide (x∈c))=true then acc else acc++[iu S xs x]
def t_ (S:List eY) (xs ys:List Str):List (List Str):=ys.foldl (eZ S xs) []
theorem J8 {S:List eY} {xs ys:List Str} {x:Str} {i:Nat} (h:ys[i]? = some x):t_ S xs (ys.take (i+1))=eZ S xs (t_ S xs (ys.take i)) x:=by
  unfold t_;rw[take_one h,List.foldl_append];rfl
theorem Di {S:List eY} {xs:List Str}:∀(ys:List Str) (acc:List (List Str)),(ys.foldl (eZ S xs) acc).length≤acc.length+ys.length
  | [],acc=>by simp
  | y::ys,acc=>by
    have h1:=Di (S:=S) (xs:=xs) ys (eZ S xs acc y);have h2:(eZ S xs acc y).length≤acc.length+1:=by
      unfold eZ;split <;> simp
    simp only[List.foldl_cons,List.length_cons];omega
theorem Dj {S:List eY} {xs:List Str}:∀(ys:List Str) (acc:List (List Str)),(∀c∈acc,∃x∈xs,c=iu S xs x)→(∀y∈ys,y∈xs)→∀c∈ys.foldl (eZ S xs) acc,∃x∈xs,c=iu S xs x
  | [],acc,h,_=>h
  | y::ys,acc,h,hy=>by
    refine Dj ys _ ?_ fun z hz=>hy z (List.mem_cons_of_mem _ hz);intro c hc;unfold eZ at hc;split at hc
    ·exact h c hc
    · rcases List.mem_append.mp hc with q | q
      ·exact h c q
      ·simp at q;exact⟨y,hy y List.mem_cons_self,q⟩
end L2
namespace L2
open PySem PySem.Spec PyProof.Rows
@[simp] theorem qbH (i:Int):vd (.int i) .non=true:=rfl
@[simp] theorem qbI (i:Int):vd .non (.int i)=true:=rfl
@[simp] theorem qbJ (i:Str):vd (.str i) .non=true:=rfl
end L2
namespace L2
open PySem
def oZ {α β:Type} (f:α→Nat→List β):List α→Nat→List β
  | [],_=>[]
  | e::r,k=>f e k++oZ f r (k+1)
theorem uT {α β:Type} (f:α→Nat→List β):∀(l m:List α) (k:Nat),oZ f (l++m) k=oZ f l k++oZ f m (k+l.length)
  | [],m,k=>by simp[oZ]
  | e::l,m,k=>by
    simp only[List.cons_append,oZ,uT f l m (k+1),List.append_assoc,List.length_cons];rw[show k+1+l.length=k+(l.length+1) by omega]
theorem J9 {α β:Type} (f:α→Nat→List β) {ps:List α} {i:Nat} {e:α} (h:ps[i]? = some e):oZ f (ps.take (i+1)) 0=oZ f (ps.take i) 0++f e i:=by
  have hi:i<ps.length:=(List.getElem?_eq_some_iff.mp h).1;rw[take_one h,uT,List.length_take,Nat.min_eq_left (Nat.le_of_lt hi),Nat.zero_add];simp[oZ]
theorem wH {α β:Type} {f:α→Nat→List β} (hf:∀e k,(f e k).length≤1):∀(ps:List α) (k:Nat),(oZ f ps k).length≤ps.length
  | [],_=>by simp[oZ]
  | e::r,k=>by
    have h1:=wH hf r (k+1);have h2:=hf e k;simp only[oZ,List.length_append,List.length_cons];omega
end L2
set_option maxHeartbeats 4000000
namespace L2
open PySem PySem.Spec PyProof.Rows
section
variable {prog:Program} {w:World} {A:Around} {E:Value→Shared→Prop} {s:Shared}
theorem NP {a:Addr} {Q:Option Obj→Shared→Prop} (h:Q (s.heap.get? a) s):wpAny (model prog w) A (loadIfAlive a) Q E s:=fun Γ p _=>by
  show Sem.wp _ _ (Sem.loadIfAlive a Sem.pure) _ _ _ _;rw[Sem.wp_loadIfAlive];exact h
def jT (b:Bool) (it l:Addr) (items:Array Value) (i:Nat) (h:Heap):Prop:=match b with
  | true=>h.IsListIter it l i∧h.IsList l items
  | false=>h.IsTupleIter it l i∧h.IsTuple l items
theorem WQ {b:Bool} {it l:Addr} {items:Array Value} {i:Nat} {h:Heap} (st:jT b it l items i h):l≠it:=by
  cases b with
  | true=>
    obtain⟨⟨o,e,c,_⟩,⟨u,e',c',_⟩⟩:=st;exact b_ e' e c' c (by decide)
  | false=>
    obtain⟨⟨o,e,c,_⟩,⟨u,e',c',_⟩⟩:=st;exact b_ e' e c' c (by decide)
theorem NQ {b:Bool} {it l:Addr} {items:Array Value} {i:Nat} {h:Heap} (st:jT b it l items i h):∃o T,h.get? it=some o∧o.cls = .type T∧T≠ "enumerate" :=by
  cases b with
  | true=>obtain⟨⟨o,e,c,_⟩,_⟩:=st;exact⟨o,_,e,c,by decide⟩
  | false=>obtain⟨⟨o,e,c,_⟩,_⟩:=st;exact⟨o,_,e,c,by decide⟩
theorem Uk {b:Bool} {it l:Addr} {items:Array Value} {i:Nat} {h:Heap} (st:jT b it l items i h):∃o T,h.get? l=some o∧o.cls = .type T∧T≠ "enumerate" :=by
  cases b with
  | true=>obtain⟨_,⟨o,e,c,_⟩⟩:=st;exact⟨o,_,e,c,by decide⟩
  | false=>obtain⟨_,⟨o,e,c,_⟩⟩:=st;exact⟨o,_,e,c,by decide⟩
theorem rY {b:Bool} {it l:Addr} {items:Array Value} {i:Nat} {h h':Heap} (st:jT b it l items i h) (k1:∀o,h.get? it=some o→h'.get? it=some o) (k2:∀o,h.get? l=some o→h'.get? l=some o):jT b it l items i h':=by
  cases b with
  | true=>obtain⟨⟨o,e,c⟩,⟨u,e',c'⟩⟩:=st;exact⟨⟨o,k1 _ e,c⟩,⟨u,k2 _ e',c'⟩⟩
  | false=>obtain⟨⟨o,e,c⟩,⟨u,e',c'⟩⟩:=st;exact⟨⟨o,k1 _ e,c⟩,⟨u,k2 _ e',c'⟩⟩
theorem NT {b:Bool} {it l:Addr} {items:Array Value} {i:Nat} {x:Value} {Q:Value→Shared→Prop} (st:jT b it l items i s.heap) (hx:items[i]? = some x)
    (hQ:∀h',jT b it l items (i+1) h'→Heap.SameBut it s.heap h'→Q x {s with heap:=h'}):wpAny (model prog w) A (Builtin.SmallTypes.nextOf (.ref it)) Q E s:=by
  have ne:=WQ st;cases b with
  | true=>
    obtain⟨h1,h2⟩:=st;refine wpAny_nextOf_list_item h1 h2 hx fun h' a1 a2=>hQ h' ⟨a1,?_⟩ a2;obtain⟨u,e',c'⟩:=h2;exact⟨u,(a2.2 _ ne).trans e',c'⟩
  | false=>
    obtain⟨h1,h2⟩:=st;obtain⟨o,ho,hc,hd⟩:=id h1;obtain⟨ol,hol,hcl,nl,hdl⟩:=id h2;unfold Builtin.SmallTypes.nextOf;refine wpAny_bind (wpAny_callSpecial?_slot (name:=Str.ofString "__next__") h1.typeIs F.slot_tuple_iterator_next (wpAny_call_entry F.slot_tuple_iterator_next h1.typeIs F.entry_tuple_iterator_next ?_ (F.args_tuple_iterator_next_1 _)));show wpAny (model prog w) _ (field (.ref it) 0 >>= _) _ _ s;refine wpAny_bind (wpAny_field ho hd (x:=.ref l) rfl ?_);show wpAny (model prog w) _ (if (Value.ref l == Value.none)=true then _ else _) _ _ s
    rw[if_neg (fun z=>by cases z)];show wpAny (model prog w) _ (field (.ref it) 1 >>= _) _ _ s;refine wpAny_bind (wpAny_field ho hd (x:=.int i 0) rfl ?_);show wpAny (model prog w) _ (seqItems? (.ref l) >>= _) _ _ s;refine wpAny_bind (wpAny_seqItems hol hdl ?_);simp only[Int.toNat_natCast,hx];refine wpAny_bind (wpAny_setField ho hd (by simp) (wpAny_pure ⟨x,rfl,wpAny_pure (hQ _ ⟨?_,?_⟩ (Heap.SameBut.update ..))⟩))
    ·exact⟨_,Heap.get?_update_self _ ho (Obj.isFreed_of_fields (Obj.data_mapFields hd _)),(Obj.cls_mapFields ..).trans hc,by rw[Obj.data_mapFields hd];simp[rawInt]⟩
    ·exact⟨ol,((Heap.SameBut.update ..).2 _ ne).trans hol,hcl,nl,hdl⟩
theorem NZ {b:Bool} {it l:Addr} {items:Array Value} {i:Nat} {Q:Value→Shared→Prop} (hh:A.handled=none) (st:jT b it l items i s.heap) (hx:items[i]? = none)
    (hE:∀h' e,Heap.ExtBut it s.heap h'→(∃o,h'.get? e=some o∧o.cls = .type "StopIteration")→E (.ref e) {s with heap:=h'}):wpAny (model prog w) A (Builtin.SmallTypes.nextOf (.ref it)) Q E s:=by
  cases b with
  | true=>exact wpAny_nextOf_list_end hh st.1 st.2 hx hE
  | false=>
    obtain⟨h1,h2⟩:=st;obtain⟨o,ho,hc,hd⟩:=id h1;obtain⟨ol,hol,hcl,nl,hdl⟩:=id h2;unfold Builtin.SmallTypes.nextOf;refine wpAny_bind (wpAny_callSpecial?_slot (name:=Str.ofString "__next__") h1.typeIs F.slot_tuple_iterator_next (wpAny_call_entry F.slot_tuple_iterator_next h1.typeIs F.entry_tuple_iterator_next ?_ (F.args_tuple_iterator_next_1 _)));show wpAny (model prog w) _ (field (.ref it) 0 >>= _) _ _ s;refine wpAny_bind (wpAny_field ho hd (x:=.ref l) rfl ?_);show wpAny (model prog w) _ (if (Value.ref l == Value.none)=true then _ else _) _ _ s
    rw[if_neg (fun z=>by cases z)];show wpAny (model prog w) _ (field (.ref it) 1 >>= _) _ _ s;refine wpAny_bind (wpAny_field ho hd (x:=.int i 0) rfl ?_);show wpAny (model prog w) _ (seqItems? (.ref l) >>= _) _ _ s;refine wpAny_bind (wpAny_seqItems hol hdl ?_);simp only[Int.toNat_natCast,hx];refine wpAny_bind (wpAny_rule (wpAny_bind (wpAny_setField ho hd (by simp) ?_)));show wpAny (model prog w) _ (newExc (.type "StopIteration") [] >>= _) _ _ _;refine wpAny_bind ?_;simp only[newExc,newTuple];refine wpAny_bind (wpAny_newObj_type ?_ (by size_fits));refine wpAny_bind (m:=firstArgMember _ _) (wpAny_of_eq (a:=Value.none) (by first | rfl | (simp only[firstArgMember];rfl)) ?_)
    refine wpAny_newObj_type ?_ (by size_fits);simp only[raiseNew];refine wpAny_bind (wpAny_handled ?_)
    first | rw[show A.in1.handled=none from hh] | rw[hh]
    refine wpAny_bind (wpAny_pure (wpAny_throw ?_));exact hE _ _ (((Heap.SameBut.update ..).extBut.push _).push _) ⟨_,Heap.get?_push_size _ rfl,rfl⟩
def kO (h:Heap) (e it:Addr) (i:Int):Prop:=∃f0 f1 old,h.get? e=some {cls:=.type "enumerate",dict:=none,data:=.fields #[f0,f1,.ref it,rawInt i,.none,old],slots:=#[]}∧(f0 = .none∨∃a:Int,f0=rawInt a)
theorem RG {e it r:Addr} {i:Int} {x f0 f1 old:Value} {Q:PySem.Fin→Shared→Prop} (he:s.heap.get? e=some {cls:=.type "enumerate",dict:=none,data:=.fields #[f0,f1,.ref it,rawInt i,.none,old],slots:=#[]}) (hf:f0 = .none∨∃a:Int,f0=rawInt a)
    (hQ:∀h',kO h' e it i→Heap.SameBut e s.heap h'→Q (.done (.ret (.ref r))) {s with heap:=h'}) :
    wpAny (model prog w) A (Builtin.SmallTypes.ownedTupleIsFree (.ref e) >>= fun b=>if b=true then (rule "enumerate.__next__.owned-tuple-again" >>= fun _=>field (.ref e) 5 >>= fun o=>setField (.ref e) 5 x >>= fun _=>Builtin.SmallTypes.ownedTupleHandOut (.ref e) (.ref r) >>= fun _=>letGo [o] [.ref r] >>= fun _=>ret (.ref r)) else ret (.ref r)) Q E s:=by
  have out:wpAny (model prog w) A (rule "enumerate.__next__.owned-tuple-again" >>= fun _=>field (.ref e) 5 >>= fun o=>setField (.ref e) 5 x >>= fun _=>Builtin.SmallTypes.ownedTupleHandOut (.ref e) (.ref r) >>= fun _=>letGo [o] [.ref r] >>= fun _=>ret (.ref r)) Q E s:=by
    refine wpAny_bind (wpAny_rule ?_);refine wpAny_bind (wpAny_field he rfl (x:=old) rfl ?_);refine wpAny_bind (wpAny_setField_rec he (by simp) fun h5 he5 RJ=>?_);refine wpAny_bind ?_;unfold Builtin.SmallTypes.ownedTupleHandOut;refine wpAny_bind (wpAny_setField_rec he5 (by simp) fun h6 he6 hs6=>?_);refine wpAny_setField_rec he6 (by simp) fun h7 he7 hs7=>?_;refine wpAny_bind (wpAny_letGo (wpAny_pure (hQ h7 ⟨rawInt r,.bool false,x,he7,.inr ⟨_,rfl⟩⟩ ?_)));exact⟨hs7.1.trans (hs6.1.trans RJ.1),fun c hc=>(hs7.2 c hc).trans ((hs6.2 c hc).trans (RJ.2 c hc))⟩
  refine wpAny_bind ?_;unfold Builtin.SmallTypes.ownedTupleIsFree;refine wpAny_bind (wpAny_field he rfl (x:=f0) rfl ?_)
  rcases hf with rfl | ⟨a,rfl⟩
  ·exact wpAny_pure out
  · show wpAny (model prog w) A (loadIfAlive a.toNat >>= _) _ _ s;refine wpAny_bind (NP ?_);cases hl:s.heap.get? a.toNat with
    | none=>exact wpAny_pure out
    | some ob=>
      show wpAny (model prog w) A (field (.ref e) 1 >>= _) _ _ s;refine wpAny_bind (wpAny_field he rfl (x:=f1) rfl ?_)
      by_cases hb:(f1 != .bool true)=true
      ·rw[if_pos hb];refine wpAny_bind (wpAny_setField_rec he (by simp) fun h5 he5 RJ=>?_);exact wpAny_pure (wpAny_pure (hQ h5 ⟨rawInt a,.bool true,old,he5,.inr ⟨_,rfl⟩⟩ RJ))
      ·rw[if_neg hb];exact wpAny_pure (wpAny_pure (hQ s.heap ⟨rawInt a,f1,old,he,.inr ⟨_,rfl⟩⟩ ⟨rfl,fun _ _=>rfl⟩))
theorem Gx {b:Bool} {e it l:Addr} {i:Nat} {items:Array Value} {x:Value} {Q:Option Value→Shared→Prop}
    (he:kO s.heap e it i) (st:jT b it l items i s.heap) (hx:items[i]? = some x)
    (hQ:∀h',kO h' e it ((i:Int)+1)→jT b it l items (i+1) h'→h'.get? s.heap.objs.size=some {cls:=.type "tuple",data:=.seq #[.int i s.toks,x]}→
      (∀c o,c≠e→c≠it→s.heap.get? c=some o→h'.get? c=some o)→Q (some (.ref s.heap.objs.size)) {s with heap:=h',toks:=s.toks+1}) :
    wpAny (model prog w) A (pyNext (.ref e)) Q E s:=by
  obtain⟨f0,f1,old,he,hf⟩:=he;obtain⟨oi,Ti,hoi,hci,hTi⟩:=NQ st;obtain⟨ol,Tl,hol,hcl,hTl⟩:=Uk st;have hne:it≠e:=b_ hoi he hci rfl hTi;have hnl:l≠e:=b_ hol he hcl rfl hTl;have hT:s.TypeIs (.ref e) "enumerate" :=⟨_,he,rfl⟩;unfold pyNext;refine wpAny_bind (wpAny_attempt (wpAny_callSpecial?_slot (name:=Str.ofString "__next__") hT F.slot_enumerate_next (wpAny_call_entry F.slot_enumerate_next hT F.entry_enumerate_next ?_ (F.args_enumerate_next_1 _))));obtain⟨hp,g,d,tk,os⟩:=s;show wpAny (model prog w) _ (field (.ref e) 2 >>= _) _ _ _;refine wpAny_bind (wpAny_field he rfl (x:=.ref it) rfl ?_);refine wpAny_bind (NT st hx fun h1 st1 hs1=>?_);replace hs1:Heap.SameBut it hp h1:=hs1;have QB:=(hs1.2 e hne.symm).trans he;show wpAny (model prog w) _ (field (.ref e) 3 >>= _) _ _ ⟨h1,g,d,tk,os⟩;refine wpAny_bind (wpAny_field QB rfl (x:=rawInt i) rfl ?_);show wpAny (model prog w) _ (field (.ref e) 4 >>= _) _ _ ⟨h1,g,d,tk,os⟩;refine wpAny_bind (wpAny_field QB rfl (x:=.none) rfl ?_);show wpAny (model prog w) _ (mkInt i >>= _) _ _ ⟨h1,g,d,tk,os⟩;refine wpAny_bind (wpAny_mkInt ?_);show wpAny (model prog w) _ (setField (.ref e) 3 (rawInt ((i:Int)+1)) >>= _) _ _ ⟨h1,g,d,tk+1,os⟩;refine wpAny_bind (wpAny_setField_rec QB (by simp) fun h2 he2 hs2=>?_);replace hs2:Heap.SameBut e h1 h2:=hs2;show wpAny (model prog w) _ (setField (.ref e) 4 .none >>= _) _ _ ⟨h2,g,d,tk+1,os⟩;refine wpAny_bind (wpAny_setField_rec he2 (by simp) fun h3 he3 hs3=>?_);replace hs3:Heap.SameBut e h2 h3:=hs3;show wpAny (model prog w) _ (newTuple [.int i tk,x] >>= _) _ _ ⟨h3,g,d,tk+1,os⟩;refine wpAny_bind (wpAny_newTuple ?_);have hsz:h3.objs.size=hp.objs.size:=by rw[hs3.1,hs2.1,hs1.1]
  have hel:e<hp.objs.size:=Heap.lt_size he;have he4:(h3.push {cls:=.type "tuple",data:=.seq #[.int i tk,x]}).get? e=some {cls:=.type "enumerate",dict:=none,data:=.fields #[f0,f1,.ref it,rawInt ((i:Int)+1),.none,old],slots:=#[]}:=Heap.get?_push_of_some _ he3;have Z4:(h3.push {cls:=.type "tuple",data:=.seq #[.int i tk,x]}).get? hp.objs.size=some {cls:=.type "tuple",data:=.seq #[.int i tk,x]}:=by rw[← hsz];exact Heap.get?_push_size _ rfl
  have hk4:∀c o,c≠e→c≠it→hp.get? c=some o→(h3.push {cls:=.type "tuple",data:=.seq #[.int i tk,x]}).get? c=some o:=fun c o h1 h2 h3=>Heap.get?_push_of_some _ (hs3.extBut c o h1 (hs2.extBut c o h1 (hs1.extBut c o h2 h3)));have Ul:jT b it l items (i+1) (h3.push {cls:=.type "tuple",data:=.seq #[.int i tk,x]}):=rY st1 (fun o z=>Heap.get?_push_of_some _ (hs3.extBut _ _ hne (hs2.extBut _ _ hne z))) (fun o z=>Heap.get?_push_of_some _ (hs3.extBut _ _ hnl (hs2.extBut _ _ hnl z)));refine RG (s:=⟨h3.push {cls:=.type "tuple",data:=.seq #[.int i tk,x]},g,d,tk+1,os⟩) he4 hf fun h5 hE5 RJ=>⟨_,rfl,wpAny_pure ?_⟩;rw[show(Shared.mk h3 g d (tk+1) os).heap.objs.size=hp.objs.size from hsz];refine hQ h5 hE5 (rY Ul (fun o z=>(RJ.2 _ hne).trans z) (fun o z=>(RJ.2 _ hnl).trans z)) ((RJ.2 _ (Nat.ne_of_gt hel)).trans Z4) fun c o h1 h2 h3=>(RJ.2 c h1).trans (hk4 c o h1 h2 h3)
end
end L2
namespace PySem
open Sem (wp)
theorem o9:typeLookup (.type "enumerate") "__getattr__" = pure none:=by rw[typeLookup_type,builtinLookup_eq_fast];kernel_rfl
theorem rZ:typeLookup (.type "enumerate") "keys" = pure none:=by rw[typeLookup_type,builtinLookup_eq_fast];kernel_rfl
theorem jU:entryFor table "enumerate.__getattribute__" = some Builtin.«object.__getattribute__»:=
  entryFor_alias (id':= "object.__getattribute__") (by kernel_rfl) (by decide+kernel) (by decide+kernel) (by kernel_rfl)
theorem Aq (a:Addr) (xs:Array Value) (sl:Array (Option Value)) (name:Str) (u:Tok) (hmiss:typeLookup (.type "enumerate") name=pure none) (hname:(["__module__", "__name__", "__qualname__", "__doc__", "__annotations__"]:List Str).contains name=false) (hsz:name.length+100≤sizeLine:=by size_fits) :
    Meets (Builtin.«object.__getattribute__» ⟨[.ref a,.str name u],[]⟩) (fun A R s=>s.heap.get? a=some {cls:=.type "enumerate",dict:=none,data:=.fields xs,slots:=sl}∧raisesAttr (.ref a) name A R s):=
  Meets.of_wp fun prog w A R s hs=>by
    obtain⟨hp,g,d,tk,os⟩:=s;obtain⟨hx,hs⟩:=hs;have hT:(⟨hp,g,d,tk,os⟩:Shared).TypeIs (.ref a) "enumerate" :=⟨_,hx,rfl⟩;unfold Builtin.«object.__getattribute__»
    repeat (any_goals (first | assumption | wp_step))
    simp only[hname,Bool.false_eq_true,if_false]
    repeat (any_goals (first | assumption | wp_step))
    exact wpAny_raiseAttrError hs.1 hs.2 (attrMsg_fits (by decide+kernel) hsz)
theorem Ar {prog:Program} {w:World} {A:Around} {E:Value→Shared→Prop} {s:Shared} {a:Addr} {xs:Array Value} {Q:Option Value→Shared→Prop}
    (hx:s.heap.get? a=some {cls:=.type "enumerate",dict:=none,data:=.fields xs,slots:=#[]}) (hA:A.handled=none)
    (h:∀h' tk,(∀b o,s.heap.get? b=some o→h'.get? b=some o)→Q none {s with heap:=h',toks:=tk}) :
    wpAny (model prog w) A (getAttr? (.ref a) "keys") Q E s:=by
  obtain⟨hp,g,d,tk,os⟩:=s;have hT:∀tk',(⟨hp,g,d,tk',os⟩:Shared).TypeIs (.ref a) "enumerate" :=fun _=>⟨_,hx,rfl⟩;have f1:=sub_AttributeError;have f3:=F.slot_enumerate_getattribute.lookup;have f4:=F.slot_enumerate_getattribute.bind (.ref a);have f5:=o9;have hname:(["__module__", "__name__", "__qualname__", "__doc__", "__annotations__"]:List Str).contains "keys" = false:=by decide
  unfold getAttr? getAttrBy? getAttrBy
  repeat (any_goals (first | assumption | exact hT _ | ((with_reducible show wpAny _ _ (call (Value.builtin "enumerate.__getattribute__") _ _) _ _ _);refine call_meets F.slot_enumerate_getattribute (hT _) jU (F.args_enumerate_getattribute_2 _ _) (Aq a xs #[] "keys" _ rZ hname) ⟨hx,hA,fun h' tk' e hx'=>?_⟩) | wp_step))
  obtain⟨t',u',he⟩:=hx'.there;show wpAny _ _ (getattributeRaised _ _ _ _ _ _ _) _ _ _;unfold getattributeRaised
  repeat (any_goals (first | assumption | wp_step))
  exact h _ _ hx'.of.keeps
end PySem
namespace PySem
open Sem (wp)
open AutoSeq1 (wpAny_loadPart')
theorem su (l:Addr) (items:Array Value) (n:Nat) (dct:Option Addr) (sl:Array (Option Value)) :
    Meets (Builtin.«enumerate.__new__» ⟨[.type "enumerate",.ref l],[]⟩) (fun _ R s=>s.heap.get? l=some {cls:=.type "tuple",dict:=dct,data:=.seq items n,slots:=sl}∧
      R (.ok (.ret (.ref (s.heap.push {cls:=.type "tuple_iterator",data:=.fields #[.ref l,.int 0 0]}).objs.size)))
        {s with heap:=(s.heap.push {cls:=.type "tuple_iterator",data:=.fields #[.ref l,.int 0 0]}).push {cls:=.type "enumerate",data:=.fields #[.none,.bool false,.ref s.heap.objs.size,rawInt 0,.none,.none]}}):=
  .of_wp fun prog w A R s h=>by
    obtain⟨hp,g,d,tk,os⟩:=s;obtain⟨hl,h⟩:=h;have hsub:=sub_enumerate;have hL:Heap.IsTuple (Shared.heap ⟨hp,g,d,tk,os⟩) l items:=⟨_,hl,rfl,n,rfl⟩
    wp_walk using wpAny_loadPart' hl
    refine wpAny_stack_any fun st=>wpAny_pure ?_;split
    · rename_i c _ _ _ _ _;cases (c == Value.type "enumerate")
      · wp_walk using wpAny_loadPart' hl,wpAny_pyIter_tuple hL
        exact⟨_,rfl,h⟩
      · wp_walk using wpAny_loadPart' hl,wpAny_pyIter_tuple hL
        exact⟨_,rfl,h⟩
    · wp_walk using wpAny_loadPart' hl,wpAny_pyIter_tuple hL
      exact⟨_,rfl,h⟩
section
variable {prog:Program} {w:World} {A:Around} {E:Value→Shared→Prop} {s:Shared}
theorem sy {b:Bool} {l:Addr} {items:Array Value} {Q:Value→Shared→Prop} (hL:match b with | true=>s.heap.IsList l items | false=>s.heap.IsTuple l items)
    (h:∀h',L2.kO h' (s.heap.objs.size+1) s.heap.objs.size 0→L2.jT b s.heap.objs.size l items 0 h'→h'.objs.size=s.heap.objs.size+2→
      (∀b o,s.heap.get? b=some o→h'.get? b=some o)→Q (.ref (s.heap.objs.size+1)) {s with heap:=h'}) :
    wpAny (model prog w) A (call (.type "enumerate") [.ref l]) Q E s:=by
  cases b with
  | true=>
    exact call_enumerate_list hL fun h' b1 b2 b3 kk=>h h' ⟨_,_,_,b1,.inl rfl⟩ ⟨b2,hL.at fun o z=>kk _ _ z⟩ b3 kk
  | false=>
    obtain⟨⟨c,dct,dt,sl⟩,hl,hc,n,hd⟩:=id hL;replace hc:c = .type "tuple" :=hc;replace hd:dt = .seq items n:=hd;subst hc hd;refine callType_new F.called_enumerate (by decide) (F.typeCall_enumerate_1 _) (F.newCall_enumerate_1 _) (fun obj=>F.args_object_init_2 obj _) F.entry_enumerate_new
      (su l items n dct sl) ⟨hl,?_⟩
    have hz:(s.heap.push {cls:=.type "tuple_iterator",data:=.fields #[.ref l,.int 0 0]}).objs.size=s.heap.objs.size+1:=Heap.size_push ..;show _∧_;rw[hz];have he:L2.kO ((s.heap.push {cls:=.type "tuple_iterator",data:=.fields #[.ref l,.int 0 0]}).push
        {cls:=.type "enumerate",data:=.fields #[.none,.bool false,.ref s.heap.objs.size,rawInt 0,.none,.none]}) (s.heap.objs.size+1) s.heap.objs.size 0:=by
      have:=Heap.get?_push_size (s.heap.push {cls:=.type "tuple_iterator",data:=.fields #[.ref l,.int 0 0]})
        (o:={cls:=.type "enumerate",data:=.fields #[.none,.bool false,.ref s.heap.objs.size,rawInt 0,.none,.none]}) rfl
      rw[hz] at this;exact⟨_,_,_,this,.inl rfl⟩
    obtain⟨_,_,_,he',_⟩:=id he;have kk:∀b o,s.heap.get? b=some o→((s.heap.push {cls:=.type "tuple_iterator",data:=.fields #[.ref l,.int 0 0]}).push
        {cls:=.type "enumerate",data:=.fields #[.none,.bool false,.ref s.heap.objs.size,rawInt 0,.none,.none]}).get? b=some o:=fun b o x=>Heap.get?_push_of_some _ (Heap.get?_push_of_some _ x)
    refine⟨⟨_,he',rfl⟩,h _ he ⟨⟨_,Heap.get?_push_of_some _ (Heap.get?_push_size _ rfl),rfl,rfl⟩,⟨_,kk _ _ hl,rfl,n,rfl⟩⟩ (by rw[Heap.size_push,hz]) kk⟩
end
end PySem
namespace L2
open PySem PySem.Spec PyProof.Rows
section
variable {prog:Program} {w:World} {A:Around} {E:Value→Shared→Prop} {s:Shared}
theorem Gy {b:Bool} {e it l:Addr} {i:Nat} {items:Array Value} {Q:Option Value→Shared→Prop} (hh:A.handled=none)
    (he:kO s.heap e it i) (st:jT b it l items i s.heap) (hx:items[i]? = none)
    (hQ:∀h',Heap.ExtBut it s.heap h'→Q none {s with heap:=h'}):wpAny (model prog w) A (pyNext (.ref e)) Q E s:=by
  obtain⟨f0,f1,old,he,hf⟩:=he;have hT:s.TypeIs (.ref e) "enumerate" :=⟨_,he,rfl⟩;unfold pyNext;refine wpAny_bind (wpAny_attempt (wpAny_callSpecial?_slot (name:=Str.ofString "__next__") hT F.slot_enumerate_next
    (wpAny_call_entry F.slot_enumerate_next hT F.entry_enumerate_next ?_ (F.args_enumerate_next_1 _))))
  show wpAny _ _ (field (.ref e) 2 >>= _) _ _ _;refine wpAny_bind (wpAny_field he rfl (x:=.ref it) rfl ?_);refine wpAny_bind (NZ hh st hx fun h' x he' hx'=>?_);obtain⟨o,ho,hc⟩:=hx';refine wpAny_bind (wpAny_isInstance (T:= "StopIteration") (b:=true) ⟨o,ho,hc⟩ isSubtype_stop ?_);exact wpAny_pure (hQ _ he')
end
theorem sE:entryFor table "dict.update.loop" = some Builtin.«dict.update.loop»:=entryFor_of_fast (by kernel_rfl)
theorem jD:plainId "dict.update.loop" = true:=by decide+kernel
def nums {α:Type}:Nat→List α→List (Key×α)
  | _,[]=>[]
  | n,x::xs=>(Sum.inl (n:Int),x)::nums (n+1) xs
theorem wI {α:Type}:∀(n:Nat) (xs:List α),(nums n xs).length=xs.length
  | _,[]=>rfl
  | n,x::xs=>by rw[nums,List.length_cons,List.length_cons,wI]
theorem Dk {α:Type}:∀(n:Nat) (xs:List α) (y:α),nums n (xs++[y])=nums n xs++[(Sum.inl ((n+xs.length:Nat):Int),y)]
  | n,[],y=>rfl
  | n,x::xs,y=>by
    rw[List.cons_append,nums,Dk (n+1) xs y,nums,List.cons_append,List.length_cons,Nat.add_right_comm,Nat.add_assoc]
theorem Dl {α:Type}:∀(n:Nat) (xs:List α) (m:Nat),(nums n xs).any (fun kv=>decide (kv.1=(Sum.inl (m:Int):Key)))=true→n≤m∧m<n+xs.length
  | n,[],m,h=>by simp[nums] at h
  | n,x::xs,m,h=>by
    rw[nums,List.any_cons,Bool.or_eq_true] at h
    rcases h with h | h
    · have h1:=of_decide_eq_true h;injection h1 with h1;have h2:n=m:=by omega
      subst h2;simp
    ·have:=Dl (n+1) xs m h;rw[List.length_cons];omega
theorem RK:∀{ys:List V} {its:List Value} (n:Nat),Vals ys its→KV (nums n ys) (nums n its):=by
  intro ys its n r
  induction r generalizing n with
  | nil=>exact .nil
  | cons h t ih=>exact .cons ⟨rfl,h⟩ (ih (n+1))
section
variable {P:Program} {w:World} {A:Around} {R:Result→Shared→Prop} {b:Bool} {e it l D:Addr} {its:List Value}
theorem RL (hh:A.handled=none) (h1:D≠e) (h2:D≠it) (h3:D≠l) (hs:its.length≤sizeLine) :
    ∀(k i:Nat) (s:Shared),its.length - i=k→i≤its.length→kO s.heap e it i→jT b it l its.toArray i s.heap→s.heap.DictOf (bA P w) D (nums 0 (its.take i))→
      (∀h' tk,(∀c o,c≠D→c≠e→c≠it→s.heap.get? c=some o→h'.get? c=some o)→h'.DictOf (bA P w) D (nums 0 its)→R (.ok (.ret .none)) {s with heap:=h',toks:=tk})→
      codeAny (model P w) A (.builtin "dict.update.loop" ⟨[.ref D,.ref e,rawInt i,.none],[]⟩) R s:=by
  intro k
  induction k with
  | zero=>
    intro i s hk hi hE hst hD hR;obtain rfl:i=its.length:=by omega
    refine codeAny_builtin sE ?_;rw[Around.under_plainId jD _];show wpAny _ A.in1 (pyNext (.ref e) >>= _) _ _ s;refine wpAny_bind (Gy (A:=A.in1) hh hE hst (by simp) fun h' hm=>?_);refine wpAny_bind (wpAny_pure ?_);refine wpAny_pure (hR h' s.toks (fun c o c1 c2 c3 z=>hm c o c3 z) ?_);rw[List.take_length] at hD;exact hD.extBut hm h2
  | succ k ih=>
    intro i s hk hi hE hst hD hR;have hlt:i<its.length:=by omega
    refine codeAny_builtin sE ?_;rw[Around.under_plainId jD _];show wpAny _ A.in1 (pyNext (.ref e) >>= _) _ _ s;refine wpAny_bind (Gx hE hst (x:=its[i]) (by simp[hlt]) fun h' hE' hst' ht hm=>?_);have hT:(Shared.mk h' s.gens s.drawn (s.toks+1) s.os).TypeIs (.ref s.heap.objs.size) "tuple" :=⟨_,ht,rfl⟩;show wpAny _ A.in1 (holding _ _ >>= _) _ _ _;refine wpAny_bind (wpAny_holding ?_);refine wpAny_bind (wpAny_tryCatch ?_);unfold Builtin.Dict.pairItems;refine wpAny_bind (wpAny_typeOf hT ?_);rw[if_pos (by decide)];refine wpAny_bind (wpAny_seqItems ht rfl ?_);refine wpAny_pure ?_;show wpAny _ A.in1 (holding _ (dictSet D (.int i s.toks) its[i])) _ _ _;refine wpAny_holding ?_;have hD':h'.DictOf (bA P w) D (nums 0 (its.take i)):=by
      obtain⟨o,es,ep,ho,r⟩:=hD;exact⟨o,es,ep,hm D o h1 h2 ho,r⟩
    refine wpAny_dictSet_pairs (knd:=bA P w) (k:=Sum.inl (i:Int)) (s:=Shared.mk h' s.gens s.drawn (s.toks+1) s.os) (uK P w i s.toks) hD' (fun h2' hD2 hsb=>?_) (by rw[wI,List.length_take];omega);have ei:(i:Int)+1=((i+1:Nat):Int):=by omega
    have est:stored (nums 0 (its.take i)) (Sum.inl (i:Int)) its[i]=nums 0 (its.take (i+1)):=by
      unfold stored;rw[if_neg (fun z=>?_)]
      ·rw[List.take_succ_eq_append_getElem hlt,Dk,List.length_take,Nat.min_eq_left (by omega),Nat.zero_add]
      ·have:=Dl _ _ _ z;rw[List.length_take] at this;omega
    rw[est] at hD2;rw[ei] at hE';refine wpAny_pure ⟨plainId_quiet jD _,?_⟩;show codeAny _ A (.builtin "dict.update.loop" ⟨[.ref D,.ref e,rawInt ((i:Int)+1),.none],[]⟩) _ _;rw[ei];refine ih (i+1) _ (by omega) hlt ?_ (rY hst' (fun o z=>(hsb.2 _ h2.symm).trans z) (fun o z=>(hsb.2 _ h3.symm).trans z)) hD2 fun h3' tk hm3 Ca=>?_
    ·obtain⟨f0,f1,old,q,hf⟩:=hE';exact⟨f0,f1,old,(hsb.2 _ h1.symm).trans q,hf⟩
    ·exact hR h3' tk (fun c o c1 c2 c3 z=>hm3 c o c1 c2 c3 ((hsb.2 c c1).trans (hm c o c2 c3 z))) Ca
end
section
variable {P:Program} {w:World} {A:Around} {E:Value→Shared→Prop} {s:Shared} {b:Bool} {e it l:Addr} {its:List Value}
theorem Av {Q:Value→Shared→Prop} (hT:s.TypeIs (.ref e) "enumerate") (h:Q (.ref e) s):wpAny (model P w) A (pyIter (.ref e)) Q E s:=by
  refine wpAny_pyIter_slot hT F.slot_enumerate_iter (wpAny_call_entry F.slot_enumerate_iter hT F.entry_enumerate_iter ?_ (F.args_enumerate_iter_1 _));show wpAny _ _ (ret (.ref e)) _ _ s;exact wpAny_pure ⟨_,rfl, "enumerate",_,hT,F.slot_enumerate_next.lookup,h⟩
theorem RM {Q:Value→Shared→Prop} (hh:A.handled=none) (hE:kO s.heap e it 0) (hst:jT b it l its.toArray 0 s.heap) (hs:its.length≤sizeLine)
    (h:∀h' tk,(∀c o,c≠e→c≠it→s.heap.get? c=some o→h'.get? c=some o)→h'.DictOf (bA P w) s.heap.objs.size (nums 0 its)→Q (.ref s.heap.objs.size) {s with heap:=h',toks:=tk}) :
    wpAny (model P w) A (call (.type "dict") [.ref e]) Q E s:=by
  obtain⟨f0,f1,old,he,hf⟩:=hE;obtain⟨oi,Ti,hoi,hci,hTi⟩:=NQ hst;obtain⟨ol,Tl,hol,hcl,hTl⟩:=Uk hst;refine callType_codes (Q₁:=fun obj s₁=>obj = .ref s.heap.objs.size∧s₁={s with heap:=s.heap.push {cls:=.type "dict",data:=.dict #[]}}) F.kt_called_dict (F.kt_typeCall_dict_1 _) F.entry_dict_init (kt_code_dict_new _ ⟨rfl,rfl⟩) ?_;rintro obj s₁ ⟨rfl,rfl⟩;have hnew:(s.heap.push {cls:=.type "dict",data:=.dict #[]}).DictOf (bA P w) s.heap.objs.size []:=Heap.DictOf.new s.heap;have kp:∀c o,s.heap.get? c=some o→(s.heap.push {cls:=.type "dict",data:=.dict #[]}).get? c=some o:=fun c o z=>Heap.get?_push_of_some _ z;have ne:∀{c o},s.heap.get? c=some o→s.heap.objs.size≠c:=fun z=>Nat.ne_of_gt (Heap.lt_size z);have hT:(Shared.mk (s.heap.push {cls:=.type "dict",data:=.dict #[]}) s.gens s.drawn s.toks s.os).TypeIs (.ref e) "enumerate" :=⟨_,kp _ _ he,rfl⟩;refine⟨hnew.typeIs,F.args_dict_init_2 _ _,?_⟩;unfold Builtin.«dict.__init__»;refine wpAny_bind ?_;unfold Builtin.Dict.selfAndRest;refine wpAny_bind (wpAny_notOrdered_dict hnew.typeIs ?_);show wpAny _ _ (pure (s.heap.objs.size,[Value.ref e])) _ _ _;refine wpAny_pure ?_;show wpAny _ _ (Builtin.Dict.updateFrom "dict.__init__" s.heap.objs.size (.ref e) [] .none) _ _ _;unfold Builtin.Dict.updateFrom;refine wpAny_bind (wpAny_typeOf hT ?_);rw[if_pos (by decide)];show wpAny (model P w) A.in1.in1 (getAttr? (.ref e) "keys" >>= _) _ _ _;refine wpAny_bind (Ar (A:=A.in1.in1) (kp _ _ he) hh fun h1 tk1 k1=>?_);have QB:=k1 _ _ (kp _ _ he);have hT1:(Shared.mk h1 s.gens s.drawn tk1 s.os).TypeIs (.ref e) "enumerate" :=⟨_,QB,rfl⟩;simp only[Option.isNone_none,if_true];refine wpAny_bind (wpAny_rule ?_);refine wpAny_bind (Av (s:=Shared.mk h1 s.gens s.drawn tk1 s.os) hT1 ?_);refine wpAny_pure ⟨plainId_quiet jD _,?_⟩;have hD1:h1.DictOf (bA P w) s.heap.objs.size []:=by
    obtain⟨o,es,ep,ho,r⟩:=hnew;exact⟨o,es,ep,k1 _ o ho,r⟩
  refine RL (A:=A.in1) (b:=b) (l:=l) (it:=it) hh (ne he) (ne hoi) (ne hol) hs its.length 0 _ (by omega) (Nat.zero_le _) ⟨f0,f1,old,QB,hf⟩ (rY hst (fun o z=>k1 _ _ (kp _ _ z)) (fun o z=>k1 _ _ (kp _ _ z))) (by simpa [nums] using hD1) fun h' tk hm hD=>⟨rfl,h h' tk (fun c o c1 c2 z=>hm c o (ne z).symm c1 c2 (k1 _ _ (kp _ _ z))) hD⟩
end
section
variable {X:Cx} {K:W.Frag}
def tDE (K:W.Frag) (t:TA):TE:=fun σ H Q=>t σ H fun vs H1=>∃a xs,vs=[.ref a]∧(aR K H1 a xs∨eO K H1 a xs)∧∀p,H1 p=none→Q (.ref p) (upd H1 p (.dK (nums 0 xs)))
@[simp ↓] theorem qdU (K:W.Frag) (t:TA) σ H Q:tDE K t σ H Q=(t σ H fun vs H1=>∃a xs,vs=[.ref a]∧(aR K H1 a xs∨eO K H1 a xs)∧∀p,H1 p=none→Q (.ref p) (upd H1 p (.dK (nums 0 xs)))):=rfl
theorem Dm (hK:X.K=K) (hc:X.calm=true) {a:Expr} {ta:TA} {p p2 pos pos2:Pos} (hg1:Gl X "dict") (hm1:X.mg "dict" = none) (hg2:Gl X "enumerate") (hm2:X.mg "enumerate" = none) (ha:PA X [a] ta)
    (hs:starEach [a] X.env=[(false,eval a X.env)]:=by rfl)
    (hs1:starEach [.Call (.Name "enumerate" p2) [a] [] pos2] X.env=[(false,eval (.Call (.Name "enumerate" p2) [a] [] pos2) X.env)]:=by rfl) :
    PE X (.Call (.Name "dict" p) [.Call (.Name "enumerate" p2) [a] [] pos2] [] pos) (tDE K ta):=by
  subst hK;intro p_ s σ H Q I h;refine wpAny_Call_Name_kw (mZ I hg1 hm1 Gp ?_ (by decide) (by decide));refine PyProof.Rows.callWith_type1 ?_ (by rw[hs1];rfl) (by rfl);rw[hs1];show wpAny _ _ (spliced ((false,eval (.Call (.Name "enumerate" p2) [a] [] pos2) X.env)::[])) _ _ s;refine Calls.spliced_cons ?_;refine wpAny_Call_Name_kw (mZ I hg2 hm2 zu ?_ (by decide) (by decide));refine PyProof.Rows.callWith_type1 (bN (ha pos2 p_ s σ H _ I h) fun us s1 zz=>?_) (by rw[hs];rfl) (by rfl);obtain⟨vs,H1,I1,r1,q1⟩:=zz;obtain⟨l1,xs,rfl,qa,q⟩:=q1;obtain⟨u,rfl,r⟩:=vals1 r1;obtain rfl:u=Value.ref l1:=r;have go:∃(b:Bool) (its:List Value),Vals xs its∧its.length≤sizeLine∧(match b with | true=>s1.heap.IsList l1 its.toArray | false=>s1.heap.IsTuple l1 its.toArray):=by
    rcases qa with qa | qa
    ·obtain⟨its,rv,pl,hz⟩:=I1.list qa;exact⟨true,its,rv,by rw[← rv.length];exact hz,pl.isList⟩
    ·obtain⟨its,rv,pl,hz⟩:=I1.tuple qa;exact⟨false,its,rv,by rw[← rv.length];exact hz,pl⟩
  obtain⟨b,its,rv,hz,hL⟩:=go;refine sy (b:=b) hL fun h' b1 b2 b3 kk=>?_;refine Calls.spliced_nil ?_;refine RM (s:={s1 with heap:=h'}) (b:=b) (I1.ok.hd hc) b1 b2 hz fun h2 tk km hD=>?_;have Zw:∀c o,s1.heap.get? c=some o→h2.get? c=some o:=fun c o z=>km c o (Nat.ne_of_lt (Nat.lt_succ_of_lt (Heap.lt_size z))) (Nat.ne_of_lt (Heap.lt_size z)) (kk c o z);have hle:s1.heap.objs.size≤h'.objs.size:=by rw[b3];omega
  have hf:H1 h'.objs.size=none:=I1.hok.fresh hle;refine⟨.ref h'.objs.size,_,I1.laid (o:=.dK (nums 0 xs)) (t':=tk) Zw hle ?_,rfl,q _ hf⟩;refine(show bZ _ _ _ _ _ (.dK (nums 0 xs)) from⟨by rw[wI,rv.length];exact hz,?_,nums 0 its,RK 0 rv,hD⟩);have h1:=I1.big;have h2:sysModules<h'.objs.size:=Nat.lt_of_lt_of_le h1 hle;exact beq_eq_false_iff_ne.mpr (Nat.ne_of_gt h2)
end
structure Nm3 (mg:Str→Option Value):Prop where
  sum:mg "sum" = none
theorem boot_sum:bootBuiltins "sum" = some (.builtin "sum"):=by decide+kernel
theorem Dn:∀{ns:List Int} {us:List Value},Vals (ns.map V.int) us→∃l:List (Int×Tok),us.toArray=intItems l.toArray∧l.map (·.1)=ns
  | [],_,r=>by rw[List.map_nil] at r;cases r;exact⟨[],by simp[intItems],rfl⟩
  | y::ys,_,r=>by
    rw[List.map_cons] at r;cases r with
    | @cons _ _ _ us h t=>
      obtain⟨k,rfl⟩:=h;obtain⟨l,h1,h2⟩:=Dn t;refine⟨(y,k)::l,?_,by rw[List.map_cons,h2]⟩;have:us=l.map fun p=>Value.int p.1 p.2:=by simpa [intItems] using congrArg Array.toList h1
      rw[this];simp[intItems]
section
variable {X:Cx} {K:W.Frag}
def Z5 (K:W.Frag):List V→Hp→VK→Prop:=fun xs H Q=>∃(l:Addr) (ns:List Int),xs=[.ref l]∧aR K H l (ns.map V.int)∧Q (.int ns.sum) H
theorem J_ (hK:X.K=K) (hc:X.calm=true):bQ X (.builtin "sum") (Z5 K):=by
  subst hK;intro p_ s σ H xs us Q I r h;obtain⟨l,ns,rfl,hl,q⟩:=h;obtain⟨u,rfl,ru⟩:=r.one;obtain rfl:u=Value.ref l:=ru;obtain⟨its,rv,pl,hz1⟩:=I.list hl;obtain⟨ls,e1,e2⟩:=Dn rv;have hL:=pl.isList;rw[e1] at hL;refine sum_intListG (I.ok.hd hc) hL fun h' tk t' kk=>⟨.int _,H,I.kept (t':=tk) kk,⟨t',rfl⟩,?_⟩;rw[preSum_eq,List.take_of_length_le (by simp)];rw[show(ls.toArray.toList.map (·.1))=ns from e2];exact q
theorem qcU (hK:X.K=K):V2 X (Rf K):=by subst hK;exact Rg
@[simp ↓] theorem qbK (K:W.Frag) x lo hi H Q:Rf K x lo hi H Q=(∃a xs,x = .ref a∧aR K H a xs∧∀p,H p=none→Q (.ref p) (upd H p (.lst (vY xs lo hi)))):=rfl
end
section
variable {K:W.Frag} {l1 l2:Addr} {g:TG} {tb:TS} {D:Ends} {d:RB g tb D} {σ:St} {H:Hp}
theorem frZ (xs ys:List V) (Pv:Nat→St→Hp→Prop) (h0:Pv 0 σ H) (he:xs.length=ys.length) (hl:∀i σ H,i≤xs.length→Pv i σ H→aR K H l1 xs∧aR K H l2 ys)
    (hs:∀i x y t σ H,xs[i]? = some x→ys[i]? = some y→H t=none→Pv i σ H→g (.ref t) σ (upd H t (.tup [x,y])) fun σ2 H2=>tb {D with nx:=Pv (i+1),ct:=Pv (i+1),bk:=D.nx} σ2 H2) (hd:∀σ H,Pv xs.length σ H→D.nx σ H):Qz (T9 K l1 l2) g tb D d σ H:=by
  refine⟨fun i m σ H=>m=xs.length - i∧i≤xs.length∧Pv i σ H,⟨xs.length,by simp,Nat.zero_le _,h0⟩,?_⟩;rintro i m σ H ⟨rfl,hi,p⟩;obtain⟨q1,q2⟩:=hl i σ H hi p
  by_cases hlt:i<xs.length
  · have hlt2:i<ys.length:=by omega
    refine .inr ⟨⟨xs,ys,xs[i],ys[i],q1,q2,by simp[hlt],by simp[hlt2]⟩,Pv (i+1),fun σ' H' p'=>⟨xs.length - (i+1),by omega,rfl,hlt,p'⟩,fun x H' y=>?_⟩;obtain⟨t,u,v,rfl,ht,rfl,e1,e2⟩:=y;exact hs i u v t σ H (e1 xs q1) (e2 ys q2) ht p
  · have e:i=xs.length:=by omega
    subst e;exact .inl ⟨⟨xs,ys,q1,q2,.inl (Nat.le_refl _)⟩,hd σ H p⟩
end
def jz (ns:List Int):List PyData:=ns.map PyData.int
theorem IV {K:W.Frag} {H:Hp}:∀ns:List Int,oH K H (jz ns) (ns.map V.int)
  | []=>rfl
  | n::ns=>⟨_,_,rfl,rfl,IV ns⟩
theorem lay_ints:∀ns:List Int,PyData.canLayAll0 (jz ns)=true
  | []=>by simp[jz,PyData.canLayAll0]
  | x::xs=>by
    have:=lay_ints xs;simp[jz] at this;simp[jz,PyData.canLayAll0,PyData.canLay0,this]
theorem Dq:∀xs:List Int,PyData.depthAll (jz xs)≤1
  | []=>by simp[jz,PyData.depthAll]
  | x::xs=>by
    have:=Dq xs;simp[jz] at this;simp[jz,PyData.depthAll,PyData.depth,this]
theorem Ds:∀a b:List Int,PyData.eqvAll (jz a) (jz b)=decide (a=b)
  | [],[]=>rfl
  | [],y::b=>by simp[jz,PyData.eqvAll]
  | x::a,[]=>by simp[jz,PyData.eqvAll]
  | x::a,y::b=>by
    show(PyData.eqv (.int x) (.int y) && PyData.eqvAll (jz a) (jz b))=_;rw[Ds a b,Bool.eq_iff_iff];simp[PyData.eqv]
def isInt (x:V) (R:Int→Prop):Prop:=match x with | .int i=>R i | _=>False
def isStr (x:V) (R:Str→Prop):Prop:=match x with | .str i=>R i | _=>False
def qX (x:V) (R:Bool→Prop):Prop:=match x with | .bl i=>R i | _=>False
def isRef (x:V) (R:Addr→Prop):Prop:=match x with | .ref i=>R i | _=>False
def Ka (x:V) (R:String→Prop):Prop:=match x with | .ty n=>R n | _=>False
def RN (xs:List V) (R:Prop):Prop:=match xs with | []=>R | _=>False
def ar1 (xs:List V) (R:V→Prop):Prop:=match xs with | [x]=>R x | _=>False
def ar2 (xs:List V) (R:V→V→Prop):Prop:=match xs with | [x,y]=>R x y | _=>False
def WR (xs:List V) (R:V→List V→Prop):Prop:=match xs with | x::r=>R x r | []=>False
def getSt:St→Nat→(V→Prop)→Prop
  | [],_,_=>False
  | o::_,0,R=>match o with | some v=>R v | none=>False
  | _::σ,n+1,R=>getSt σ n R
@[simp ↓] theorem qbL (i:Int) R:isInt (.int i) R=R i:=rfl
@[simp ↓] theorem qbM (i:Str) R:isStr (.str i) R=R i:=rfl
@[simp ↓] theorem qcV (i:Bool) R:qX (.bl i) R=R i:=rfl
@[simp ↓] theorem qbN (i:Addr) R:isRef (.ref i) R=R i:=rfl
@[simp ↓] theorem qcW (i:String) R:Ka (.ty i) R=R i:=rfl
@[simp ↓] theorem qdV R:RN [] R=R:=rfl
@[simp ↓] theorem qdW x R:ar1 [x] R=R x:=rfl
@[simp ↓] theorem qdX x y R:ar2 [x,y] R=R x y:=rfl
@[simp ↓] theorem qdY x r R:WR (x::r) R=R x r:=rfl
@[simp ↓] theorem qbO v σ R:getSt (some v::σ) 0 R=R v:=rfl
@[simp ↓] theorem qbP o σ n R:getSt (o::σ) (n+1) R=getSt σ n R:=rfl
theorem isInt.out {x:V} {R} (h:isInt x R):∃i,x = .int i∧R i:=by cases x <;> first | exact⟨_,rfl,h⟩ | exact h.elim
theorem isStr.out {x:V} {R} (h:isStr x R):∃i,x = .str i∧R i:=by cases x <;> first | exact⟨_,rfl,h⟩ | exact h.elim
theorem qX.out {x:V} {R} (h:qX x R):∃i,x = .bl i∧R i:=by cases x <;> first | exact⟨_,rfl,h⟩ | exact h.elim
theorem isRef.out {x:V} {R} (h:isRef x R):∃i,x = .ref i∧R i:=by cases x <;> first | exact⟨_,rfl,h⟩ | exact h.elim
theorem Ka.out {x:V} {R} (h:Ka x R):∃i,x = .ty i∧R i:=by cases x <;> first | exact⟨_,rfl,h⟩ | exact h.elim
theorem RN.out {xs:List V} {R} (h:RN xs R):xs=[]∧R:=by cases xs <;> first | exact⟨rfl,h⟩ | exact h.elim
theorem ar1.out {xs:List V} {R} (h:ar1 xs R):∃x,xs=[x]∧R x:=by
  match xs,h with
  | [x],h=>exact⟨x,rfl,h⟩
theorem ar2.out {xs:List V} {R} (h:ar2 xs R):∃x y,xs=[x,y]∧R x y:=by
  match xs,h with
  | [x,y],h=>exact⟨x,y,rfl,h⟩
theorem WR.out {xs:List V} {R} (h:WR xs R):∃x r,xs=x::r∧R x r:=by cases xs <;> first | exact⟨_,_,rfl,h⟩ | exact h.elim
theorem getSt.out:∀{σ:St} {i:Nat} {R},getSt σ i R→∃v,σ[i]? = some (some v)∧R v
  | [],_,_,h=>h.elim
  | some v::_,0,_,h=>⟨v,rfl,h⟩
  | none::_,0,_,h=>h.elim
  | _::σ,n+1,R,h=>by
    obtain⟨v,e,q⟩:=getSt.out (σ:=σ) (i:=n) h;exact⟨v,by simpa using e,q⟩
section
variable {X:Cx}
theorem PE.mono {e:Expr} {t t':TE} (o:PE X e t) (h:∀{σ H Q},t' σ H Q→t σ H Q):PE X e t':=fun p_ s σ H Q I q=>o p_ s σ H Q I (h q)
theorem PS.mono {e:Stmt} {t t':TS} (o:PS X e t) (h:∀{D σ H},t' D σ H→t D σ H):PS X e t':=fun p_ s σ H D I q=>o p_ s σ H D I (h q)
theorem mJ.mono {e:List Expr} {t t':B_} (o:mJ X e t) (h:∀{v σ H Q},t' v σ H Q→t v σ H Q):mJ X e t':=fun p_ s σ H v u Q I r q=>o p_ s σ H v u Q I r (h q)
theorem fP.mono {f:Value→Value→Sem Value} {r r':R2} (o:fP X f r) (h:∀{x y H Q},r' x y H Q→r x y H Q):fP X f r':=fun p_ s σ H x y v u Q I rx ry q=>o p_ s σ H x y v u Q I rx ry (h q)
theorem Vv.mono {f:Value→Sem Value} {r r':V→Hp→VK→Prop} (o:Vv X f r) (h:∀{x H Q},r' x H Q→r x H Q):Vv X f r':=fun p_ s σ H x v Q I rx q=>o p_ s σ H x v Q I rx (h q)
theorem bQ.mono {f:Value} {r r':List V→Hp→VK→Prop} (o:bQ X f r) (h:∀{x H Q},r' x H Q→r x H Q):bQ X f r':=fun p_ s σ H x v Q I rx q=>o p_ s σ H x v Q I rx (h q)
theorem JK.mono {f:String} {r r':V→List V→Hp→VK→Prop} (o:JK X f r) (h:∀{x y H Q},r' x y H Q→r x y H Q):JK X f r':=fun p_ s σ H x y v u Q I rx ry q=>o p_ s σ H x y v u Q I rx ry (h q)
theorem Ms.mono {r r':R2} (o:Ms X r) (h:∀{x y H Q},r' x y H Q→r x y H Q):Ms X r':=fun a b p_ s σ H x y v u Q I rx ry q z=>o a b p_ s σ H x y v u Q I rx ry (h q) z
theorem V2.mono {r r':V→Option Int→Option Int→Hp→VK→Prop} (o:V2 X r) (h:∀{x lo hi H Q},r' x lo hi H Q→r x lo hi H Q):V2 X r':=fun p_ s σ H x v vl vu lo hi sl Q I rx z1 z2 z3 q=>o p_ s σ H x v vl vu lo hi sl Q I rx z1 z2 z3 (h q)
theorem Yt.mono {op:Operator} {r r':QK} (o:Yt X op r) (h:∀{x y H Q},r' x y H Q→r x y H Q):Yt X op r':=fun p_ s σ H x y v u Q I rx ry q=>o p_ s σ H x y v u Q I rx ry (h q)
theorem Jt.mono {r r':Js} (o:Jt X r) (h:∀{x y z H Q},r' x y z H Q→r x y z H Q):Jt X r':=fun p_ s σ H o' i v ov iv u Q I a b c q=>o p_ s σ H o' i v ov iv u Q I a b c (h q)
end
def fVar (i:Nat):TE:=fun σ H Q=>getSt σ i fun v=>Q v H
@[simp ↓] theorem qcX (i:Nat) σ H Q:fVar i σ H Q=getSt σ i (fun v=>Q v H):=rfl
theorem WT {i:Nat} {σ H Q} (h:fVar i σ H Q):Vj i σ H Q:=getSt.out h
def jV:List Str→List V→St
  | _::N,v::vs=>some v::jV N vs
  | _::N,[]=>none::jV N []
  | [],_=>[]
@[simp ↓] theorem Yz n N v vs:jV (n::N) (v::vs)=some v::jV N vs:=rfl
@[simp ↓] theorem YB n N:jV (n::N) []=none::jV N []:=rfl
@[simp ↓] theorem Z6 vs:jV [] vs=[]:=by cases vs <;> rfl
theorem uc:∀(N:List Str) (vs:List V),vs.length≤N.length→jV N vs=start N vs
  | [],[],_=>rfl
  | [],_::_,h=>by simp at h
  | n::N,[],_=>by
    rw[jV,uc N [] (by simp)];simp[start,List.replicate_succ]
  | n::N,v::vs,h=>by
    rw[jV,uc N vs (by simpa using h)];simp[start]
def QC (g:Int→Int→V):R2:=fun x y H Q=>isInt x fun i=>isInt y fun j=>Q (g i j) H
def fI (C:Int→Int→Prop) (g:Int→Int→V):R2:=fun x y H Q=>isInt x fun i=>isInt y fun j=>C i j∧Q (g i j) H
def fU (g:Int→V):V→Hp→VK→Prop:=fun x H Q=>isInt x fun i=>Q (g i) H
@[simp ↓] theorem qdZ g x y H Q:QC g x y H Q=(isInt x fun i=>isInt y fun j=>Q (g i j) H):=rfl
@[simp ↓] theorem qer C g x y H Q:fI C g x y H Q=(isInt x fun i=>isInt y fun j=>C i j∧Q (g i j) H):=rfl
@[simp ↓] theorem qes g x H Q:fU g x H Q=(isInt x fun i=>Q (g i) H):=rfl
theorem zx {g:Int→Int→V} {x y H Q} (h:QC g x y H Q):QX g x y H Q:=by
  obtain⟨i,rfl,h1⟩:=isInt.out h;obtain⟨j,rfl,h2⟩:=isInt.out h1;exact⟨i,j,rfl,rfl,h2⟩
theorem Kc {C} {g:Int→Int→V} {x y H Q} (h:fI C g x y H Q):rI C g x y H Q:=by
  obtain⟨i,rfl,h1⟩:=isInt.out h;obtain⟨j,rfl,h2⟩:=isInt.out h1;exact⟨i,j,rfl,rfl,h2⟩
theorem qcY {g:Int→V} {x H Q} (h:fU g x H Q):rU g x H Q:=by
  obtain⟨i,rfl,h⟩:=isInt.out h;exact⟨i,rfl,h⟩
def fEq:R2:=fun x y H Q=>match x,y with
  | .int i,.int j=>Q (.bl (decide (i=j))) H
  | .str i,.str j=>Q (.bl (decide (i=j))) H
  | .bl i,.bl j=>Q (.bl (decide (i=j))) H
  | x,y=>vd x y=true∧Q (.bl (decide (x=y))) H
def YC:R2:=fun x y H Q=>match x,y with
  | .int i,.int j=>∃k,decide (i=j) = !k∧Q (.bl k) H
  | .str i,.str j=>∃k,decide (i=j) = !k∧Q (.bl k) H
  | .bl i,.bl j=>∃k,decide (i=j) = !k∧Q (.bl k) H
  | x,y=>vd x y=true∧∃k,decide (x=y) = !k∧Q (.bl k) H
@[simp ↓] theorem qd0 i j H Q:fEq (.int i) (.int j) H Q=Q (.bl (decide (i=j))) H:=rfl
@[simp ↓] theorem qd1 i j H Q:fEq (.str i) (.str j) H Q=Q (.bl (decide (i=j))) H:=rfl
@[simp ↓] theorem qd2 i j H Q:fEq (.bl i) (.bl j) H Q=Q (.bl (decide (i=j))) H:=rfl
@[simp ↓] theorem qd3 i j H Q:YC (.int i) (.int j) H Q=∃k,decide (i=j) = !k∧Q (.bl k) H:=rfl
@[simp ↓] theorem qd4 i j H Q:YC (.str i) (.str j) H Q=∃k,decide (i=j) = !k∧Q (.bl k) H:=rfl
@[simp ↓] theorem qd5 i j H Q:YC (.bl i) (.bl j) H Q=∃k,decide (i=j) = !k∧Q (.bl k) H:=rfl
theorem ud {b:Bool} {R:Bool→Prop} (h:∃k,b = !k∧R k):R (!b):=by
  obtain⟨k,e,q⟩:=h;rw[e,Bool.not_not];exact q
theorem Z7 {x y H Q} (h:fEq x y H Q):rEq x y H Q:=by
  unfold fEq at h;split at h
  ·exact⟨rfl,by simpa using h⟩
  ·exact⟨rfl,by simpa using h⟩
  ·exact⟨rfl,by simpa using h⟩
  ·exact h
theorem Z8 {x y H Q} (h:YC x y H Q):rNe x y H Q:=by
  unfold YC at h;split at h
  ·exact⟨rfl,by simpa using ud (R:=fun k=>Q (.bl k) H) h⟩
  ·exact⟨rfl,by simpa using ud (R:=fun k=>Q (.bl k) H) h⟩
  ·exact⟨rfl,by simpa using ud (R:=fun k=>Q (.bl k) H) h⟩
  ·exact⟨h.1,ud (R:=fun k=>Q (.bl k) H) h.2⟩
def N5:R2:=fun x y H Q=>isStr x fun i=>isStr y fun j=>i.length+j.length≤sizeLine∧Q (.str (i++j)) H
@[simp ↓] theorem qbQ x y H Q:N5 x y H Q=(isStr x fun i=>isStr y fun j=>i.length+j.length≤sizeLine∧Q (.str (i++j)) H):=rfl
theorem RP {x y H Q} (h:N5 x y H Q):Zy x y H Q:=by
  obtain⟨i,rfl,h1⟩:=isStr.out h;obtain⟨j,rfl,h2⟩:=isStr.out h1;exact⟨i,j,rfl,rfl,h2⟩
def WW:R2:=fun x y H Q=>isRef x fun l=>isRef y fun b=>∃xs,H l=some (.lst xs)∧∃zs,H b=some (.lst zs)∧xs.length+zs.length≤sizeLine∧∀p,H p=none→Q (.ref p) (upd H p (.lst (xs++zs)))
@[simp ↓] theorem qcZ x y H Q:WW x y H Q=(isRef x fun l=>isRef y fun b=>∃xs,H l=some (.lst xs)∧∃zs,H b=some (.lst zs)∧xs.length+zs.length≤sizeLine∧∀p,H p=none→Q (.ref p) (upd H p (.lst (xs++zs)))):=rfl
theorem WX {x y H Q} (h:WW x y H Q):Zq x y H Q:=by
  obtain⟨i,rfl,h0⟩:=isRef.out h;obtain⟨j,rfl,xs,h1,zs,h2,h3⟩:=isRef.out h0;exact⟨i,j,xs,zs,rfl,rfl,h1,h2,h3⟩
def sG (t:TE):TT:=fun σ H Q=>t σ H fun x H'=>qX x fun k=>Q k H'
@[simp ↓] theorem qbR (t:TE) σ H Q:sG t σ H Q=(t σ H fun x H'=>qX x fun k=>Q k H'):=rfl
def N6 (ta tb:TE):TE:=fun σ H Q=>ta σ H fun x H1=>qX x fun c=>eX c (tb σ H1 Q) (Q (.bl false) H1) ⟨0⟩
@[simp ↓] theorem qbS (ta tb:TE) σ H Q:N6 ta tb σ H Q=(ta σ H fun x H1=>qX x fun c=>eX c (tb σ H1 Q) (Q (.bl false) H1) ⟨0⟩):=rfl
def Gz (r r':R2) (ta tb tc:TE):TE:=fun σ H Q=>ta σ H fun x H1=>tb σ H1 fun y H2=>r x y H2 fun z H3=>qX z fun k=>eX k (tc σ H3 fun w' H4=>r' y w' H4 Q) (Q (.bl false) H3) ⟨0⟩
@[simp ↓] theorem Z9 (r r':R2) (ta tb tc:TE) σ H Q:Gz r r' ta tb tc σ H Q=(ta σ H fun x H1=>tb σ H1 fun y H2=>r x y H2 fun z H3=>qX z fun k=>eX k (tc σ H3 fun w' H4=>r' y w' H4 Q) (Q (.bl false) H3) ⟨0⟩):=rfl
section
variable {X:Cx} {K:W.Frag} {a b c:Expr} {ta tb tc:TE} {tA:TT} {pos:Pos}
theorem aK (i:Nat) {x:Str} {pos:Pos} (hN:X.N[i]? = some x:=by rfl) (hv:YZ X.env.scope x:=by first | exact Or.inl rfl | exact Or.inr (Or.inl rfl) | exact Or.inr (Or.inr rfl)) (hd:(x == ("__debug__" : Str))=false:=by decide)
    (hcd:(x == ("__classdict__" : Str))=false:=by decide):PE X (.Name x pos) (fVar i):=(Vk hN hv hd hcd).mono WT
theorem jE:fP X (binaryOp .Add) (QC fun i j=>.int (i+j)):=Vz.mono zx
theorem m_:fP X (binaryOp .Sub) (QC fun i j=>.int (i - j)):=VB.mono zx
theorem GC:fP X (compareOp .Lt) (QC fun i j=>.bl (decide (i<j))):=Ze.mono zx
theorem Aw:fP X (compareOp .LtE) (QC fun i j=>.bl (decide (i≤j))):=Zf.mono zx
theorem uf:fP X (compareOp .Gt) (QC fun i j=>.bl (decide (j<i))):=Zg.mono zx
theorem ni:fP X (compareOp .Eq) fEq:=Zc.mono Z7
theorem wJ:fP X (compareOp .NotEq) YC:=Zd.mono Z8
theorem Dt:fP X (binaryOp .Add) N5:=FQ.mono RP
theorem vH:fP X (binaryOp .Add) WW:=Wb.mono WX
theorem RQ:Vv X (unaryOp .USub) (fU fun i=>.int (-i)):=VN.mono qcY
theorem vI (x:V) (R:Bool→Prop):qX x R=(∃k,x = .bl k∧R k):=propext ⟨qX.out,fun⟨k,e,q⟩=>by subst e;exact q⟩
theorem N7 (x:V) (R:Int→Prop):isInt x R=(∃k,x = .int k∧R k):=propext ⟨isInt.out,fun⟨k,e,q⟩=>by subst e;exact q⟩
theorem Du (x:V) (R:Addr→Prop):isRef x R=(∃k,x = .ref k∧R k):=propext ⟨isRef.out,fun⟨k,e,q⟩=>by subst e;exact q⟩
theorem N8 (x:V) (R:Str→Prop):isStr x R=(∃k,x = .str k∧R k):=propext ⟨isStr.out,fun⟨k,e,q⟩=>by subst e;exact q⟩
theorem WY (x:List V) (R:V→List V→Prop):WR x R=(∃k j,x=k::j∧R k j):=propext ⟨WR.out,fun⟨k,j,e,q⟩=>by subst e;exact q⟩
theorem Dv (t:TE):sG t=Ij t:=by
  funext σ H Q
  exact congrArg (t σ H) (funext fun x=>funext fun H'=>vI _ _)
theorem Um (t:TE):sG t=tB t:=by
  funext σ H Q
  exact congrArg (t σ H) (funext fun x=>funext fun H'=>vI _ _)
theorem N_ (t u:TE):N6 t u=Lj t u:=by
  funext σ H Q
  exact congrArg (t σ H) (funext fun x=>funext fun H'=>vI _ _)
theorem Kd (r r':R2) (ta tb tc:TE):Gz r r' ta tb tc=FP r r' ta tb tc:=by
  funext σ H Q
  exact congrArg (ta σ H) (funext fun x=>funext fun H1=>congrArg (tb σ H1) (funext fun y=>funext fun H2=>congrArg (r x y H2) (funext fun z=>funext fun H3=>vI _ _)))
theorem aW {op:CmpOp} {r:R2} (ho:fP X (compareOp op) r) (ha:PE X a ta) (hb:PE X b tb) (hm:behindInMarks op b=false):PT X (.Compare a [op] [b] pos) (sG (T7 r ta tb)):=Dv _▸Q6 ho ha hb hm
theorem IW {op:CmpOp} {t:TE} (h:PC X op a b t) (h1:behindInMarks op b=false:=by first | exact Cj _ (by decide) (by decide) | rfl):PT X (.Compare a [op] [b] pos) (sG t):=Um _▸Vl h h1
theorem fO {e:Expr} {t:TE} (h:PE X e t) (he:∀whole,isTrue e X.env whole=(do let v ← whole;standAt e.pos;holding [v] (truthy v)):=by intro _;rfl):PT X e (sG t):=Um _▸Vm h he
theorem zy {op op':CmpOp} {r r':R2} (ho:fP X (compareOp op) r) (ho':fP X (compareOp op') r') (ha:PE X a ta) (hb:PE X b tb) (hc:PE X c tc)
    (hm:lastMarks [op,op'] [b,c]=false:=by with_unfolding_all rfl):PT X (.Compare a [op,op'] [b,c] pos) (sG (Gz r r' ta tb tc)):=by
  rw[Dv,Kd];exact L_ ho ho' ha hb hc hm
theorem sH {rest:List Expr} (ha:PE X a ta) (hb:PE X (.BoolOp .And (b::rest) pos) tb):PE X (.BoolOp .And (a::b::rest) pos) (N6 ta tb):=N_ _ _▸Vn ha hb
end
def W0 (K:W.Frag):R2:=fun x y H Q=>isRef x fun p=>isInt y fun i=>∃xs,(aR K H p xs∨eO K H p xs)∧∃v,yu xs i=some v∧Q v H
@[simp ↓] theorem qc0 (K:W.Frag) x y H Q:W0 K x y H Q=(isRef x fun p=>isInt y fun i=>∃xs,(aR K H p xs∨eO K H p xs)∧∃v,yu xs i=some v∧Q v H):=rfl
theorem W2 {K:W.Frag} {x y H Q} (h:W0 K x y H Q):Wm K x y H Q:=by
  obtain⟨p,rfl,h1⟩:=isRef.out h;obtain⟨i,rfl,xs,h2,v,h3,h4⟩:=isInt.out h1;exact⟨p,xs,i,v,rfl,rfl,h2,h3,h4⟩
def W3  : R2:=fun x y H Q=>isStr x fun z=>isInt y fun i=>z.length≤sizeLine∧∃c,yu z.cps.toList i=some c∧Q (.str ⟨#[c]⟩) H
@[simp ↓] theorem qc1  x y H Q:W3 x y H Q=(isStr x fun z=>isInt y fun i=>z.length≤sizeLine∧∃c,yu z.cps.toList i=some c∧Q (.str ⟨#[c]⟩) H):=rfl
theorem W4  {x y H Q} (h:W3 x y H Q):Zn x y H Q:=by
  obtain⟨z,rfl,h1⟩:=isStr.out h;obtain⟨i,rfl,h2,c,h3,h4⟩:=isInt.out h1;exact⟨z,i,c,rfl,rfl,h2,h3,h4⟩
def Dy (K:W.Frag):List V→Hp→VK→Prop:=fun xs H Q=>ar1 xs fun x=>isRef x fun p=>∃ys,(aR K H p ys∨eO K H p ys)∧Q (.int ys.length) H
@[simp ↓] theorem qbT (K:W.Frag) xs H Q:Dy K xs H Q=(ar1 xs fun x=>isRef x fun p=>∃ys,(aR K H p ys∨eO K H p ys)∧Q (.int ys.length) H):=rfl
theorem RV {K:W.Frag} {xs H Q} (h:Dy K xs H Q):T_ K xs H Q:=by
  obtain⟨x,rfl,h1⟩:=ar1.out h;obtain⟨p,rfl,ys,h2,h3⟩:=isRef.out h1;exact⟨p,ys,rfl,h2,h3⟩
def Oa  : List V→Hp→VK→Prop:=fun xs H Q=>ar1 xs fun x=>isStr x fun z=>z.length≤sizeLine∧Q (.int z.length) H
@[simp ↓] theorem qbU  xs H Q:Oa xs H Q=(ar1 xs fun x=>isStr x fun z=>z.length≤sizeLine∧Q (.int z.length) H):=rfl
theorem RW  {xs H Q} (h:Oa xs H Q):Ua xs H Q:=by
  obtain⟨x,rfl,h1⟩:=ar1.out h;obtain⟨p,rfl,h2⟩:=isStr.out h1;exact⟨p,rfl,h2⟩
def Ax (K:W.Frag):List V→Hp→VK→Prop:=fun xs H Q=>ar1 xs fun x=>isRef x fun p=>∃ys,(aR K H p ys∨eO K H p ys)∧∀l,H l=none→Q (.ref l) (upd H l (.lst ys))
@[simp ↓] theorem YD (K:W.Frag) xs H Q:Ax K xs H Q=(ar1 xs fun x=>isRef x fun p=>∃ys,(aR K H p ys∨eO K H p ys)∧∀l,H l=none→Q (.ref l) (upd H l (.lst ys))):=rfl
theorem Ke {K:W.Frag} {xs H Q} (h:Ax K xs H Q):Ip K xs H Q:=by
  obtain⟨x,rfl,h1⟩:=ar1.out h;obtain⟨p,rfl,ys,h2,h3⟩:=isRef.out h1;exact⟨p,ys,rfl,h2,h3⟩
def Ay  : List V→Hp→VK→Prop:=fun xs H Q=>ar1 xs fun x=>isRef x fun p=>∃ys,Sq H p ys∧∀l H',H' l=some (.tup ys)→Same H H'→Q (.ref l) H'
@[simp ↓] theorem YF  xs H Q:Ay xs H Q=(ar1 xs fun x=>isRef x fun p=>∃ys,Sq H p ys∧∀l H',H' l=some (.tup ys)→Same H H'→Q (.ref l) H'):=rfl
theorem Kf  {xs H Q} (h:Ay xs H Q):Ir xs H Q:=by
  obtain⟨x,rfl,h1⟩:=ar1.out h;obtain⟨p,rfl,ys,h2,h3⟩:=isRef.out h1;exact⟨p,ys,rfl,h2,h3⟩
def Ob (K:W.Frag):List V→Hp→VK→Prop:=fun xs H Q=>ar2 xs fun x y=>Ka y fun n=>∃t,jB K H x t∧∃b,W.kitOne K t (.type n)=some b∧Q (.bl b) H
@[simp ↓] theorem qbV (K:W.Frag) xs H Q:Ob K xs H Q=(ar2 xs fun x y=>Ka y fun n=>∃t,jB K H x t∧∃b,W.kitOne K t (.type n)=some b∧Q (.bl b) H):=rfl
theorem RX {K:W.Frag} {xs H Q} (h:Ob K xs H Q):Ub K xs H Q:=by
  obtain⟨x,y,rfl,h1⟩:=ar2.out h;obtain⟨n,rfl,t,h2,b,h3,h4⟩:=Ka.out h1;exact⟨x,n,t,b,rfl,h2,h3,h4⟩
def Oc (K:W.Frag):List V→Hp→VK→Prop:=fun xs H Q=>ar2 xs fun x y=>isRef y fun p=>∃m n,H p=some (.tup [.ty m,.ty n])∧∃t,jB K H x t∧∃b,W.kitAny K t [.type m,.type n]=some b∧Q (.bl b) H
@[simp ↓] theorem qbW (K:W.Frag) xs H Q:Oc K xs H Q=(ar2 xs fun x y=>isRef y fun p=>∃m n,H p=some (.tup [.ty m,.ty n])∧∃t,jB K H x t∧∃b,W.kitAny K t [.type m,.type n]=some b∧Q (.bl b) H):=rfl
theorem RZ {K:W.Frag} {xs H Q} (h:Oc K xs H Q):Uc K xs H Q:=by
  obtain⟨x,y,rfl,h1⟩:=ar2.out h;obtain⟨p,rfl,m,n,h0,t,h2,b,h3,h4⟩:=isRef.out h1;exact⟨x,p,m,n,t,b,rfl,h0,h2,h3,h4⟩
def fIn (K:W.Frag):R2:=fun x y H Q=>isRef y fun p=>∃xs,(aR K H p xs∨eO K H p xs)∧iy x=true∧(∀z∈xs,iy z=true)∧Q (.bl (inV x xs)) H
@[simp ↓] theorem qd6 (K:W.Frag) x y H Q:fIn K x y H Q=(isRef y fun p=>∃xs,(aR K H p xs∨eO K H p xs)∧iy x=true∧(∀z∈xs,iy z=true)∧Q (.bl (inV x xs)) H):=rfl
theorem Z_ {K:W.Frag} {x y H Q} (h:fIn K x y H Q):Rp K x y H Q:=by
  obtain⟨p,rfl,xs,h1,h2,h3,h4⟩:=isRef.out h;exact .inl ⟨p,xs,rfl,h1,h2,List.all_eq_true.mpr h3,h4⟩
def GD (K:W.Frag):R2:=fun x y H Q=>isRef y fun p=>∃xs,(aR K H p xs∨eO K H p xs)∧iy x=true∧(∀z∈xs,iy z=true)∧∃k,inV x xs = !k∧Q (.bl k) H
@[simp ↓] theorem qaa (K:W.Frag) x y H Q:GD K x y H Q=(isRef y fun p=>∃xs,(aR K H p xs∨eO K H p xs)∧iy x=true∧(∀z∈xs,iy z=true)∧∃k,inV x xs = !k∧Q (.bl k) H):=rfl
theorem Od {K:W.Frag} {x y H Q} (h:GD K x y H Q):Ak K x y H Q:=by
  obtain⟨p,rfl,xs,h1,h2,h3,h4⟩:=isRef.out h;exact .inl ⟨p,xs,rfl,h1,h2,List.all_eq_true.mpr h3,ud (R:=fun k=>Q (.bl k) H) h4⟩
def W5 (K:W.Frag):R2:=fun x y H Q=>isStr x fun i=>isStr y fun j=>Q (.bl (!(Builtin.Str.occurrences j i 0 j.length 1).isEmpty)) H
@[simp ↓] theorem qc2 (K:W.Frag) x y H Q:W5 K x y H Q=(isStr x fun i=>isStr y fun j=>Q (.bl (!(Builtin.Str.occurrences j i 0 j.length 1).isEmpty)) H):=rfl
theorem W6 {K:W.Frag} {x y H Q} (h:W5 K x y H Q):Rp K x y H Q:=by
  obtain⟨i,rfl,h1⟩:=isStr.out h;obtain⟨j,rfl,h2⟩:=isStr.out h1;exact .inr ⟨i,j,rfl,rfl,h2⟩
def Az  : V→List V→Hp→VK→Prop:=fun x vs H Q=>isRef x fun l=>ar1 vs fun y=>∃xs,H l=some (.lst xs)∧xs.length<sizeLine∧Q .non (upd H l (.lst (xs++[y])))
@[simp ↓] theorem YG  x vs H Q:Az x vs H Q=(isRef x fun l=>ar1 vs fun y=>∃xs,H l=some (.lst xs)∧xs.length<sizeLine∧Q .non (upd H l (.lst (xs++[y])))):=rfl
theorem Kg  {x vs H Q} (h:Az x vs H Q):Af x vs H Q:=by
  obtain⟨l,rfl,h1⟩:=isRef.out h;obtain⟨y,rfl,xs,h2,h3⟩:=ar1.out h1;exact⟨l,xs,y,rfl,rfl,h2,h3⟩
def A_  : V→List V→Hp→VK→Prop:=fun x vs H Q=>isRef x fun l=>ar2 vs fun j y=>isInt j fun i=>∃xs,H l=some (.lst xs)∧0≤i∧i≤xs.length∧xs.length<sizeLine∧Q .non (upd H l (.lst (xs.take i.toNat++y::xs.drop i.toNat)))
@[simp ↓] theorem YH  x vs H Q:A_ x vs H Q=(isRef x fun l=>ar2 vs fun j y=>isInt j fun i=>∃xs,H l=some (.lst xs)∧0≤i∧i≤xs.length∧xs.length<sizeLine∧Q .non (upd H l (.lst (xs.take i.toNat++y::xs.drop i.toNat)))):=rfl
theorem Kh  {x vs H Q} (h:A_ x vs H Q):Ag x vs H Q:=by
  obtain⟨l,rfl,h1⟩:=isRef.out h;obtain⟨j,y,rfl,h2⟩:=ar2.out h1;obtain⟨i,rfl,xs,h3⟩:=isInt.out h2;exact⟨l,xs,i,y,rfl,rfl,h3⟩
def GF  : V→List V→Hp→VK→Prop:=fun x vs H Q=>isRef x fun l=>RN vs (∃xs,H l=some (.lst xs)∧Q .non (upd H l (.lst [])))
@[simp ↓] theorem qab  x vs H Q:GF x vs H Q=(isRef x fun l=>RN vs (∃xs,H l=some (.lst xs)∧Q .non (upd H l (.lst [])))):=rfl
theorem Oe  {x vs H Q} (h:GF x vs H Q):Gi x vs H Q:=by
  obtain⟨l,rfl,h1⟩:=isRef.out h;obtain⟨rfl,xs,h2⟩:=RN.out h1;exact⟨l,xs,rfl,rfl,h2⟩
def W7 (K:W.Frag):List V→Hp→VK→Prop:=fun xs H Q=>ar1 xs fun x=>isRef x fun l=>∃ns:List Int,aR K H l (ns.map V.int)∧Q (.int ns.sum) H
@[simp ↓] theorem qc3 (K:W.Frag) xs H Q:W7 K xs H Q=(ar1 xs fun x=>isRef x fun l=>∃ns:List Int,aR K H l (ns.map V.int)∧Q (.int ns.sum) H):=rfl
theorem W8 {K:W.Frag} {xs H Q} (h:W7 K xs H Q):Z5 K xs H Q:=by
  obtain⟨x,rfl,h1⟩:=ar1.out h;obtain⟨l,rfl,ns,h2⟩:=isRef.out h1;exact⟨l,ns,rfl,h2⟩
def W9 (K:W.Frag):R2:=fun x y H Q=>∃d,Is K H d x∧∃e,Is K H e y∧d.canLay0=true∧e.canLay0=true∧d.depth≤64∧∃k,PyData.eqv d e = !k∧Q (.bl k) H
@[simp ↓] theorem qc4 (K:W.Frag) x y H Q:W9 K x y H Q=(∃d,Is K H d x∧∃e,Is K H e y∧d.canLay0=true∧e.canLay0=true∧d.depth≤64∧∃k,PyData.eqv d e = !k∧Q (.bl k) H):=rfl
theorem W_ {K:W.Frag} {x y H Q} (h:W9 K x y H Q):ZS K x y H Q:=by
  obtain⟨d,h1,e,h2,h3,h4,h5,h6⟩:=h;exact⟨d,e,h1,h2,h3,h4,h5,ud (R:=fun k=>Q (.bl k) H) h6⟩
def Xa (K:W.Frag):R2:=fun x y H Q=>∃d,Is K H d x∧∃e,Is K H e y∧d.canLay0=true∧e.canLay0=true∧d.depth≤64∧Q (.bl (PyData.eqv d e)) H
@[simp ↓] theorem qc5 (K:W.Frag) x y H Q:Xa K x y H Q=(∃d,Is K H d x∧∃e,Is K H e y∧d.canLay0=true∧e.canLay0=true∧d.depth≤64∧Q (.bl (PyData.eqv d e)) H):=rfl
theorem Xb {K:W.Frag} {x y H Q} (h:Xa K x y H Q):ZR K x y H Q:=by
  obtain⟨d,h1,e,h2,h3,h4,h5,h6⟩:=h;exact⟨d,e,h1,h2,h3,h4,h5,h6⟩
def Xc  : List V→Hp→VK→Prop:=fun xs H Q=>ar1 xs fun x=>isInt x fun i=>Q (.int (if i<0 then -i else i)) H
@[simp ↓] theorem qc6  xs H Q:Xc xs H Q=(ar1 xs fun x=>isInt x fun i=>Q (.int (if i<0 then -i else i)) H):=rfl
theorem Xd  {xs H Q} (h:Xc xs H Q):(fun xs H Q=>∃i,xs=[.int i]∧Q (.int (if i<0 then -i else i)) H:List V→Hp→VK→Prop) xs H Q:=by
  obtain⟨x,rfl,h1⟩:=ar1.out h;obtain⟨i,rfl,h2⟩:=isInt.out h1;exact⟨i,rfl,h2⟩
def Og  : List V→Hp→VK→Prop:=fun xs H Q=>ar2 xs fun x y=>isInt x fun i=>isInt y fun j=>Q (.int (if j > i then j else i)) H
@[simp ↓] theorem qbX  xs H Q:Og xs H Q=(ar2 xs fun x y=>isInt x fun i=>isInt y fun j=>Q (.int (if j > i then j else i)) H):=rfl
theorem R0  {xs H Q} (h:Og xs H Q):(fun xs H Q=>∃i j,xs=[.int i,.int j]∧Q (.int (if j > i then j else i)) H:List V→Hp→VK→Prop) xs H Q:=by
  obtain⟨x,y,rfl,h1⟩:=ar2.out h;obtain⟨i,rfl,h2⟩:=isInt.out h1;obtain⟨j,rfl,h3⟩:=isInt.out h2;exact⟨i,j,rfl,h3⟩
def Oh  : List V→Hp→VK→Prop:=fun xs H Q=>ar2 xs fun x y=>isInt x fun i=>isInt y fun j=>Q (.int (if j<i then j else i)) H
@[simp ↓] theorem qbY  xs H Q:Oh xs H Q=(ar2 xs fun x y=>isInt x fun i=>isInt y fun j=>Q (.int (if j<i then j else i)) H):=rfl
theorem R3  {xs H Q} (h:Oh xs H Q):(fun xs H Q=>∃i j,xs=[.int i,.int j]∧Q (.int (if j<i then j else i)) H:List V→Hp→VK→Prop) xs H Q:=by
  obtain⟨x,y,rfl,h1⟩:=ar2.out h;obtain⟨i,rfl,h2⟩:=isInt.out h1;obtain⟨j,rfl,h3⟩:=isInt.out h2;exact⟨i,j,rfl,h3⟩
def Ba  : List V→Hp→VK→Prop:=fun xs H Q=>ar2 xs fun x y=>isInt x fun i=>isInt y fun j=>Jx i j∧∀p,H p=none→Q (.ref p) (upd H p (.tup [.int (i / j),.int (i % j)]))
@[simp ↓] theorem YJ  xs H Q:Ba xs H Q=(ar2 xs fun x y=>isInt x fun i=>isInt y fun j=>Jx i j∧∀p,H p=none→Q (.ref p) (upd H p (.tup [.int (i / j),.int (i % j)]))):=rfl
theorem Kl  {xs H Q} (h:Ba xs H Q):(fun xs H Q=>∃i j,xs=[.int i,.int j]∧Jx i j∧∀p,H p=none→Q (.ref p) (upd H p (.tup [.int (i / j),.int (i % j)])):List V→Hp→VK→Prop) xs H Q:=by
  obtain⟨x,y,rfl,h1⟩:=ar2.out h;obtain⟨i,rfl,h2⟩:=isInt.out h1;obtain⟨j,rfl,h3⟩:=isInt.out h2;exact⟨i,j,rfl,h3⟩
def Xe  : List V→Hp→VK→Prop:=fun xs H Q=>ar1 xs fun x=>isRef x fun a=>∃ys,H a=some (.lst ys)∧∃bs,mO ys bs∧Q (.bl (bs.all id)) H
@[simp ↓] theorem qc7  xs H Q:Xe xs H Q=(ar1 xs fun x=>isRef x fun a=>∃ys,H a=some (.lst ys)∧∃bs,mO ys bs∧Q (.bl (bs.all id)) H):=rfl
theorem Xf  {xs H Q} (h:Xe xs H Q):(fun xs H Q=>∃a ys bs,xs=[.ref a]∧H a=some (.lst ys)∧mO ys bs∧Q (.bl (bs.all id)) H:List V→Hp→VK→Prop) xs H Q:=by
  obtain⟨x,rfl,h1⟩:=ar1.out h;obtain⟨a,rfl,ys,h2,bs,h3,h4⟩:=isRef.out h1;exact⟨a,ys,bs,rfl,h2,h3,h4⟩
def Xg  : List V→Hp→VK→Prop:=fun xs H Q=>ar1 xs fun x=>isRef x fun a=>∃ys,H a=some (.lst ys)∧∃bs,mO ys bs∧Q (.bl (bs.any id)) H
@[simp ↓] theorem qc8  xs H Q:Xg xs H Q=(ar1 xs fun x=>isRef x fun a=>∃ys,H a=some (.lst ys)∧∃bs,mO ys bs∧Q (.bl (bs.any id)) H):=rfl
theorem Xh  {xs H Q} (h:Xg xs H Q):Ui xs H Q:=by
  obtain⟨x,rfl,h1⟩:=ar1.out h;obtain⟨a,rfl,ys,h2,bs,h3,h4⟩:=isRef.out h1;exact⟨a,ys,bs,rfl,h2,h3,h4⟩
def I_:List V→Hp→VK→Prop:=fun xs H Q=>ar1 xs fun x=>match x with | .int i=>Q (.int i) H | .bl k=>Q (.int (if k=true then 1 else 0)) H | _=>False
@[simp ↓] theorem qbZ i H Q:I_ [.int i] H Q=Q (.int i) H:=rfl
@[simp ↓] theorem qb0 k H Q:I_ [.bl k] H Q=Q (.int (if k=true then 1 else 0)) H:=rfl
theorem R4 {xs H Q} (h:I_ xs H Q):(fun xs H Q=>(∃i,xs=[.int i]∧Q (.int i) H)∨∃k,xs=[.bl k]∧Q (.int (if k then 1 else 0)) H:List V→Hp→VK→Prop) xs H Q:=by
  obtain⟨x,rfl,h1⟩:=ar1.out h;cases x with
  | int i=>exact .inl ⟨i,rfl,h1⟩
  | bl k=>exact .inr ⟨k,rfl,h1⟩
  | _=>exact h1.elim
def Oi:Js:=fun o i v H Q=>isRef o fun p=>isInt i fun k=>∃xs,H p=some (.lst xs)∧∃j,Qy xs.length k=some j∧Q (upd H p (.lst (xs.set j v)))
@[simp ↓] theorem qb1 o i v H Q:Oi o i v H Q=(isRef o fun p=>isInt i fun k=>∃xs,H p=some (.lst xs)∧∃j,Qy xs.length k=some j∧Q (upd H p (.lst (xs.set j v)))):=rfl
theorem R5 {o i v H Q} (h:Oi o i v H Q):T8 o i v H Q:=by
  obtain⟨p,rfl,h1⟩:=isRef.out h;obtain⟨k,rfl,xs,h2,j,h3,h4⟩:=isInt.out h1;exact⟨p,xs,k,j,rfl,rfl,h2,h3,h4⟩
def Xi (K:W.Frag):V→Option Int→Option Int→Hp→VK→Prop:=fun x lo hi H Q=>isRef x fun a=>∃xs,aR K H a xs∧∀p,H p=none→Q (.ref p) (upd H p (.lst (vY xs lo hi)))
@[simp ↓] theorem qc9 (K:W.Frag) x lo hi H Q:Xi K x lo hi H Q=(isRef x fun a=>∃xs,aR K H a xs∧∀p,H p=none→Q (.ref p) (upd H p (.lst (vY xs lo hi)))):=rfl
theorem Xj {K:W.Frag} {x lo hi H Q} (h:Xi K x lo hi H Q):Rf K x lo hi H Q:=by
  obtain⟨a,rfl,xs,h1⟩:=isRef.out h;exact⟨a,xs,rfl,h1⟩
def qac:B_:=fun vs σ H Q=>RN vs (Q σ H)
def Uo (t:TG) (u:B_):B_:=fun vs σ H Q=>WR vs fun v r=>t v σ H fun σ' H'=>u r σ' H' Q
def qad (K:W.Frag) (n:Nat) (t:B_):TG:=fun v σ H Q=>isRef v fun a=>∃xs,eO K H a xs∧xs.length=n∧t xs σ H Q
@[simp ↓] theorem qc_ vs σ H Q:qac vs σ H Q=RN vs (Q σ H):=rfl
@[simp ↓] theorem qb2 t u vs σ H Q:Uo t u vs σ H Q=(WR vs fun v r=>t v σ H fun σ' H'=>u r σ' H' Q):=rfl
@[simp ↓] theorem qda K n t v σ H Q:qad K n t v σ H Q=(isRef v fun a=>∃xs,eO K H a xs∧xs.length=n∧t xs σ H Q):=rfl
theorem lW {vs σ H Q} (h:qac vs σ H Q):Vo vs σ H Q:=RN.out h
theorem bM (t:TG) (u:B_):Uo t u=Ln t u:=by
  funext vs σ H Q
  exact WY _ _
theorem iQ (K:W.Frag) (n:Nat) (t:B_):qad K n t=QL K n t:=by
  funext v σ H Q
  refine propext ⟨fun h=>?_,fun⟨a,xs,e,h⟩=>by subst e;exact⟨xs,h⟩⟩;obtain⟨a,rfl,xs,h1⟩:=isRef.out h;exact⟨a,xs,rfl,h1⟩
def Xk (f:Int→Int→Int):QK:=fun x y H Q=>isInt x fun i=>isInt y fun j=>Q (.int (f i j)) H
@[simp ↓] theorem qdb f x y H Q:Xk f x y H Q=(isInt x fun i=>isInt y fun j=>Q (.int (f i j)) H):=rfl
theorem Xl {f:Int→Int→Int} {x y H Q} (h:Xk f x y H Q):ipI f x y H Q:=by
  obtain⟨i,rfl,h1⟩:=isInt.out h;obtain⟨j,rfl,h2⟩:=isInt.out h1;exact⟨i,j,rfl,rfl,h2⟩
def qae (i:Nat) (te:TE) (ti:QK):TS:=fun D σ H=>getSt σ i fun x=>te σ H fun y H1=>ti x y H1 fun z H2=>D.nx (σ.set i (some z)) H2
@[simp ↓] theorem qdc i te ti D σ H:qae i te ti D σ H=(getSt σ i fun x=>te σ H fun y H1=>ti x y H1 fun z H2=>D.nx (σ.set i (some z)) H2):=rfl
theorem Xm {i:Nat} {te:TE} {ti:QK} {D σ H} (h:qae i te ti D σ H):Vq i te ti D σ H:=getSt.out h
def Oj (K:W.Frag) (tl:TE):TI:=fun σ H R=>tl σ H fun x H1=>isRef x fun a=>(∃xs,aR K H1 a xs)∧R (K_ K a) H1
def Uq (K:W.Frag) (tl:TE):TI:=fun σ H R=>tl σ H fun x H1=>isRef x fun p=>∃b,(∃xs,Ud b K H1 p xs)∧R (Yv b K p) H1
def Ur (tl:TE):TI:=fun σ H R=>tl σ H fun x H1=>isStr x fun z=>R (Its z) H1
def Ol (ta:TA):TI:=fun σ H R=>ta σ H fun vs H1=>ar1 vs fun v=>isInt v fun j=>-(2 ^ 62)≤j∧j<2 ^ 62∧R (Fq 0 j.toNat) H1
def Om (ta:TA):TI:=fun σ H R=>ta σ H fun vs H1=>ar2 vs fun v w=>isInt v fun i=>isInt w fun j=>(-(2 ^ 62)≤i∧i<2 ^ 62∧-(2 ^ 62)≤j∧j<2 ^ 62)∧R (Fq i (j - i).toNat) H1
def Us (K:W.Frag) (t:TA):TI:=fun σ H R=>t σ H fun vs H1=>ar2 vs fun x y=>isRef x fun a=>isRef y fun b=>(∃xs,aR K H1 a xs)∧(∃ys,aR K H1 b ys)∧R (T9 K a b) H1
def Oo (K:W.Frag) (t:TA):TI:=fun σ H R=>t σ H fun vs H1=>ar1 vs fun x=>isRef x fun a=>(∃xs,aR K H1 a xs)∧R (Ite K a) H1
@[simp ↓] theorem qaf K tl σ H R:Oj K tl σ H R=(tl σ H fun x H1=>isRef x fun a=>(∃xs,aR K H1 a xs)∧R (K_ K a) H1):=rfl
@[simp ↓] theorem qb3 K tl σ H R:Uq K tl σ H R=(tl σ H fun x H1=>isRef x fun p=>∃b,(∃xs,Ud b K H1 p xs)∧R (Yv b K p) H1):=rfl
@[simp ↓] theorem qb4 tl σ H R:Ur tl σ H R=(tl σ H fun x H1=>isStr x fun z=>R (Its z) H1):=rfl
@[simp ↓] theorem qag ta σ H R:Ol ta σ H R=(ta σ H fun vs H1=>ar1 vs fun v=>isInt v fun j=>-(2 ^ 62)≤j∧j<2 ^ 62∧R (Fq 0 j.toNat) H1):=rfl
@[simp ↓] theorem qah ta σ H R:Om ta σ H R=(ta σ H fun vs H1=>ar2 vs fun v w=>isInt v fun i=>isInt w fun j=>(-(2 ^ 62)≤i∧i<2 ^ 62∧-(2 ^ 62)≤j∧j<2 ^ 62)∧R (Fq i (j - i).toNat) H1):=rfl
@[simp ↓] theorem qb5 K t σ H R:Us K t σ H R=(t σ H fun vs H1=>ar2 vs fun x y=>isRef x fun a=>isRef y fun b=>(∃xs,aR K H1 a xs)∧(∃ys,aR K H1 b ys)∧R (T9 K a b) H1):=rfl
@[simp ↓] theorem qai K t σ H R:Oo K t σ H R=(t σ H fun vs H1=>ar1 vs fun x=>isRef x fun a=>(∃xs,aR K H1 a xs)∧R (Ite K a) H1):=rfl
theorem aZ (K:W.Frag) (tl:TE):Oj K tl=Ib K tl:=by
  funext σ H R
  exact congrArg (tl σ H) (funext fun x=>funext fun H1=>Du _ _)
theorem sI (K:W.Frag) (tl:TE):Uq K tl=Wo K tl:=by
  funext σ H R
  refine congrArg (tl σ H) (funext fun x=>funext fun H1=>propext ⟨fun h=>?_,fun⟨b,p,e,h⟩=>by subst e;exact⟨b,h⟩⟩);obtain⟨p,rfl,b,h1⟩:=isRef.out h;exact⟨b,p,rfl,h1⟩
theorem Oq (tl:TE):Ur tl=Wd tl:=by
  funext σ H R
  exact congrArg (tl σ H) (funext fun x=>funext fun H1=>N8 _ _)
theorem jM (ta:TA):Ol ta=Ly ta:=by
  funext σ H R
  refine congrArg (ta σ H) (funext fun x=>funext fun H1=>propext ⟨fun h=>?_,fun⟨b,e,h⟩=>by subst e;exact h⟩);obtain⟨v,rfl,h1⟩:=ar1.out h;obtain⟨i,rfl,h2⟩:=isInt.out h1;exact⟨i,rfl,h2⟩
theorem Km (ta:TA):Om ta=Lz ta:=by
  funext σ H R
  refine congrArg (ta σ H) (funext fun x=>funext fun H1=>propext ⟨fun h=>?_,fun⟨b,c,e,h⟩=>by subst e;exact h⟩);obtain⟨v,w,rfl,h1⟩:=ar2.out h;obtain⟨i,rfl,h2⟩:=isInt.out h1;obtain⟨j,rfl,h3⟩:=isInt.out h2;exact⟨i,j,rfl,h3⟩
theorem Dz (K:W.Frag) (t:TA):Us K t=Rk K t:=by
  funext σ H R
  refine congrArg (t σ H) (funext fun x=>funext fun H1=>propext ⟨fun h=>?_,fun⟨a,b,xs,ys,e,h1,h2,h3⟩=>by subst e;exact⟨⟨xs,h1⟩,⟨ys,h2⟩,h3⟩⟩);obtain⟨v,w,rfl,h1⟩:=ar2.out h;obtain⟨i,rfl,h2⟩:=isRef.out h1;obtain⟨j,rfl,⟨xs,h3⟩,⟨ys,h4⟩,h5⟩:=isRef.out h2;exact⟨i,j,xs,ys,rfl,h3,h4,h5⟩
theorem zA (K:W.Frag) (t:TA):Oo K t=Nt K t:=by
  funext σ H R
  refine congrArg (t σ H) (funext fun x=>funext fun H1=>propext ⟨fun h=>?_,fun⟨a,xs,e,h1,h3⟩=>by subst e;exact⟨⟨xs,h1⟩,h3⟩⟩);obtain⟨v,rfl,h1⟩:=ar1.out h;obtain⟨i,rfl,⟨xs,h3⟩,h5⟩:=isRef.out h1;exact⟨i,xs,rfl,h3,h5⟩
def Ut (sp:Sp) (E:XK) (t:TA):TE:=fun σ H Q=>t σ H fun vs H1=>RD sp vs H1 Q ⟨0⟩ E
@[simp ↓] theorem qb6 sp E t σ H Q:Ut sp E t σ H Q=(t σ H fun vs H1=>RD sp vs H1 Q ⟨0⟩ E):=rfl
theorem aJ (sp:Sp) (E:XK) (t:TA):Ut sp E t=Mi sp [] E t:=by
  funext σ H Q
  exact congrArg (t σ H) (funext fun vs=>funext fun H1=>by rw[List.append_nil];rfl)
def Uu (C:Addr) (m:Str) (sp:Sp) (E:XK) (ta:TE) (t:TA):TE:=fun σ H Q=>ta σ H fun x H1=>isRef x fun a=>∃dx fs,H1 a=some (.ins C dx fs)∧fs.lookup m=none∧t σ H1 fun vs H2=>RD sp (.ref a::vs) H2 Q ⟨0⟩ E
@[simp ↓] theorem qb7 C m sp E ta t σ H Q:Uu C m sp E ta t σ H Q=(ta σ H fun x H1=>isRef x fun a=>∃dx fs,H1 a=some (.ins C dx fs)∧fs.lookup m=none∧t σ H1 fun vs H2=>RD sp (.ref a::vs) H2 Q ⟨0⟩ E):=rfl
theorem fZ (C:Addr) (m:Str) (sp:Sp) (E:XK) (ta:TE) (t:TA):Uu C m sp E ta t=Mj C m sp [] E ta t:=by
  funext σ H Q
  refine congrArg (ta σ H) (funext fun x=>funext fun H1=>propext ⟨fun h=>?_,fun⟨a,dx,fs,e,h1,h2,h3⟩=>?_⟩)
  ·obtain⟨a,rfl,dx,fs,h1,h2,h3⟩:=isRef.out h;refine⟨a,dx,fs,rfl,h1,h2,?_⟩;simp only[List.append_nil];exact h3
  ·subst e;refine⟨dx,fs,h1,h2,?_⟩;simp only[List.append_nil] at h3;exact h3
def Uv (C:Addr) (sp:Sp) (E:XK) (t:TA):TE:=fun σ H Q=>t σ H fun vs H1=>∀x dx,H1 x=none→H1 dx=none→dx≠x→
  RD sp (.ref x::vs) (upd (upd H1 dx (.own x)) x (.ins C dx [])) (fun v H2=>v = .non∧Q (.ref x) H2) ⟨0⟩ E
@[simp ↓] theorem qb8 C sp E t σ H Q:Uv C sp E t σ H Q=(t σ H fun vs H1=>∀x dx,H1 x=none→H1 dx=none→dx≠x→
  RD sp (.ref x::vs) (upd (upd H1 dx (.own x)) x (.ins C dx [])) (fun v H2=>v = .non∧Q (.ref x) H2) ⟨0⟩ E):=rfl
theorem sJ (C:Addr) (sp:Sp) (E:XK) (t:TA):Uv C sp E t=Ml C sp [] E t:=by
  funext σ H Q
  refine congrArg (t σ H) (funext fun vs=>funext fun H1=>?_);simp only[List.append_nil];rfl
def qaj (K:W.Frag) (ta:TE) (f:Str):TE:=fun σ H Q=>ta σ H fun x H1=>isRef x fun a=>∃C dx fs,H1 a=some (.ins C dx fs)∧Cls K C∧jt K C f∧∃v,fs.lookup f=some v∧Q v H1
@[simp ↓] theorem qdd K ta f σ H Q:qaj K ta f σ H Q=(ta σ H fun x H1=>isRef x fun a=>∃C dx fs,H1 a=some (.ins C dx fs)∧Cls K C∧jt K C f∧∃v,fs.lookup f=some v∧Q v H1):=rfl
theorem Bb (K:W.Frag) (ta:TE) (f:Str):qaj K ta f=Q9 K ta f:=by
  funext σ H Q
  refine congrArg (ta σ H) (funext fun x=>funext fun H1=>propext ⟨fun h=>?_,fun⟨a,C,dx,fs,v,e,h1,h2,h3,h4⟩=>by subst e;exact⟨C,dx,fs,h1,h2,h3,v,h4⟩⟩);obtain⟨a,rfl,C,dx,fs,h1,h2,h3,v,h4⟩:=isRef.out h;exact⟨a,C,dx,fs,v,rfl,h1,h2,h3,h4⟩
def Uw (td ty:TE):TE:=fun σ H Q=>td σ H fun x H1=>ty σ H1 fun y H2=>isRef x fun a=>∃v,fQ H2 a y (some v)∧Q v H2
def qak (ty td:TE):TE:=fun σ H Q=>ty σ H fun y H1=>td σ H1 fun x H2=>isRef x fun a=>∃o,fQ H2 a y o∧Q (.bl o.isSome) H2
def Ja (ty td:TE):TE:=fun σ H Q=>ty σ H fun y H1=>td σ H1 fun x H2=>isRef x fun a=>∃o,fQ H2 a y o∧Q (.bl o.isNone) H2
def Ux (td ty tv:TE):TS:=fun D σ H=>tv σ H fun v H1=>td σ H1 fun x H2=>ty σ H2 fun y H3=>isRef x fun a=>∃H4,vg H3 a y v H4∧D.nx σ H4
def Ot (td ty tx:TE):TE:=fun σ H Q=>td σ H fun x H1=>isRef x fun a=>Yw H1 a∧ty σ H1 fun y H2=>tx σ H2 fun z H3=>∃o,fQ H3 a y o∧Q (o.getD z) H3
@[simp ↓] theorem qb9 td ty σ H Q:Uw td ty σ H Q=(td σ H fun x H1=>ty σ H1 fun y H2=>isRef x fun a=>∃v,fQ H2 a y (some v)∧Q v H2):=rfl
@[simp ↓] theorem qde ty td σ H Q:qak ty td σ H Q=(ty σ H fun y H1=>td σ H1 fun x H2=>isRef x fun a=>∃o,fQ H2 a y o∧Q (.bl o.isSome) H2):=rfl
@[simp ↓] theorem YK ty td σ H Q:Ja ty td σ H Q=(ty σ H fun y H1=>td σ H1 fun x H2=>isRef x fun a=>∃o,fQ H2 a y o∧Q (.bl o.isNone) H2):=rfl
@[simp ↓] theorem qb_ td ty tv D σ H:Ux td ty tv D σ H=(tv σ H fun v H1=>td σ H1 fun x H2=>ty σ H2 fun y H3=>isRef x fun a=>∃H4,vg H3 a y v H4∧D.nx σ H4):=rfl
@[simp ↓] theorem qal td ty tx σ H Q:Ot td ty tx σ H Q=(td σ H fun x H1=>isRef x fun a=>Yw H1 a∧ty σ H1 fun y H2=>tx σ H2 fun z H3=>∃o,fQ H3 a y o∧Q (o.getD z) H3):=rfl
theorem Bc {x:V} {β:Type} {R:Addr→β→Prop}:(isRef x fun a=>∃b,R a b)=(∃a b,x = .ref a∧R a b):=propext ⟨fun h=>by obtain⟨a,rfl,b,h1⟩:=isRef.out h;exact⟨a,b,rfl,h1⟩,fun⟨a,b,e,h⟩=>by subst e;exact⟨b,h⟩⟩
theorem o_ (td ty:TE):Uw td ty=Nj td ty:=by
  funext σ H Q
  exact congrArg (td σ H) (funext fun x=>funext fun H1=>congrArg (ty σ H1) (funext fun y=>funext fun H2=>Bc))
theorem R6 (ty td:TE):qak ty td=Wt ty td:=by
  funext σ H Q
  exact congrArg (ty σ H) (funext fun x=>funext fun H1=>congrArg (td σ H1) (funext fun y=>funext fun H2=>Bc))
theorem GJ (ty td:TE):Ja ty td=Am ty td:=by
  funext σ H Q
  refine congrArg (ty σ H) (funext fun x=>funext fun H1=>congrArg (td σ H1) (funext fun y=>funext fun H2=>?_));rw[Bc];simp only[Option.not_isSome]
theorem DG (td ty tv:TE):Ux td ty tv=Nk td ty tv:=by
  funext D σ H
  exact congrArg (tv σ H) (funext fun v=>funext fun H1=>congrArg (td σ H1) (funext fun x=>funext fun H2=>congrArg (ty σ H2) (funext fun y=>funext fun H3=>Bc)))
theorem zB (td ty tx:TE):Ot td ty tx=Gv td ty tx:=by
  funext σ H Q
  exact congrArg (td σ H) (funext fun x=>funext fun H1=>Du _ _)
def Uy (t:TE):TO:=fun σ H Q=>t σ H fun x H1=>isInt x fun i=>Q (some i) H1
@[simp ↓] theorem qca t σ H Q:Uy t σ H Q=(t σ H fun x H1=>isInt x fun i=>Q (some i) H1):=rfl
theorem wK (t:TE):Uy t=Mr t:=by
  funext σ H Q
  exact congrArg (t σ H) (funext fun x=>funext fun H1=>N7 _ _)
section
variable {X:Cx} {K:W.Frag}
theorem PE.eqv {e:Expr} {t t':TE} (o:PE X e t) (h:t'=t):PE X e t':=h▸o
theorem PC.eqv {op:CmpOp} {a b:Expr} {t t':TE} (o:PC X op a b t) (h:t'=t):PC X op a b t':=h▸o
theorem PS.eqv {e:Stmt} {t t':TS} (o:PS X e t) (h:t'=t):PS X e t':=h▸o
theorem PG.eqv {e:Expr} {t t':TG} (o:PG X e t) (h:t'=t):PG X e t':=h▸o
theorem mJ.eqv {e:List Expr} {t t':B_} (o:mJ X e t) (h:t'=t):mJ X e t':=h▸o
theorem PI.eqv {tg e:Expr} {t t':TI} (o:PI X tg e t) (h:t'=t):PI X tg e t':=h▸o
theorem PO.eqv {e:Option Expr} {t t':TO} (o:PO X e t) (h:t'=t):PO X e t':=h▸o
theorem pU:fP X (binaryOp .Mult) (fI Q0 fun i j=>.int (i * j)):=VD.mono Kc
theorem Ou:fP X (binaryOp .FloorDiv) (fI Jx fun i j=>.int (i / j)):=Q5.mono Kc
theorem pW:fP X (binaryOp .Mod) (fI (fun _ j=>0<j) fun i j=>.int (i % j)):=VF.mono Kc
theorem R7:fP X (binaryOp .Pow) (fI QZ fun i j=>.int (i ^ j.toNat)):=VG.mono Kc
theorem R8:fP X (binaryOp .LShift) (fI QZ fun i j=>.int (i * 2 ^ j.toNat)):=VH.mono Kc
theorem R9:fP X (binaryOp .RShift) (fI (fun _ j=>0≤j) fun i j=>.int (i / 2 ^ j.toNat)):=VJ.mono Kc
theorem cV (hK:X.K=K):Ms X (W0 K):=(qco hK).mono W2
theorem Jb:Ms X W3:=V5.mono W4
theorem Ko (hK:X.K=K):fP X (compareOp .In) (fIn K):=(inK hK).mono Z_
theorem qdf (hK:X.K=K):fP X (compareOp .In) (W5 K):=(inK hK).mono W6
theorem vJ (hK:X.K=K):fP X (compareOp .NotIn) (GD K):=(Wn hK).mono Od
theorem Xn (hK:X.K=K) (hu:X.A.units+64<cLine):fP X (compareOp .Eq) (Xa K):=(WK hK hu).mono Xb
theorem Ov (hK:X.K=K) (hu:X.A.units+64<cLine):fP X (compareOp .NotEq) (W9 K):=(WL hK hu).mono W_
theorem cA (hK:X.K=K):bQ X (.builtin "len") (Dy K):=(Zz hK).mono RV
theorem Xo:bQ X (.builtin "len") Oa:=ZC.mono RW
theorem DK (hK:X.K=K):bQ X (.type "list") (Ax K):=(Rq hK).mono Ke
theorem gD:bQ X (.type "tuple") Ay:=Nb.mono Kf
theorem wL (hK:X.K=K):bQ X (.builtin "isinstance") (Ob K):=(ZD hK).mono RX
theorem Xp (hK:X.K=K):bQ X (.builtin "isinstance") (Oc K):=(ZF hK).mono RZ
theorem mU (hc:X.calm=true):bQ X (.builtin "all") Xe:=(JW hc).mono Xf
theorem Kp (hc:X.calm=true):bQ X (.builtin "any") Xg:=(J7 hc).mono Xh
theorem GK:bQ X (.type "int") I_:=JC.mono R4
theorem zE:bQ X (.builtin "abs") Xc:=Ma.mono Xd
theorem wM (hc:X.calm=true):bQ X (.builtin "max") Og:=(Jz hc).mono R0
theorem GP (hc:X.calm=true):bQ X (.builtin "min") Oh:=(JB hc).mono R3
theorem Bd:bQ X (.builtin "divmod") Ba:=Cq.mono Kl
theorem Kq (hK:X.K=K) (hc:X.calm=true):bQ X (.builtin "sum") (W7 K):=(J_ hK hc).mono W8
theorem dB:JK X "list.append" Az:=JK.mono (r:=Af) tV Kg
theorem GQ:JK X "list.insert" A_:=JK.mono (r:=Ag) JV Kh
theorem Kr:JK X "list.clear" GF:=JK.mono (r:=Gi) Mx Oe
theorem Uz (hK:X.K=K):V2 X (Xi K):=(qcU hK).mono Xj
theorem zF:Jt X Oi:=set_list.mono R5
theorem R_:Yt X .Add (Xk fun i j=>i+j):=Vs.mono Xl
end
theorem getSt.imp {σ:St} {i:Nat} {R R':V→Prop} (f:∀v,R v→R' v):getSt σ i R→getSt σ i R':=by
  induction σ generalizing i with
  | nil=>exact fun h=>h.elim
  | cons o σ ih=>
    cases i with
    | zero=>cases o with
      | none=>exact fun h=>h.elim
      | some v=>exact f v
    | succ n=>exact ih
theorem isInt.imp {x:V} {R R':Int→Prop} (f:∀v,R v→R' v):isInt x R→isInt x R':=by cases x <;> first | exact f _ | exact fun h=>h.elim
theorem isRef.imp {x:V} {R R':Addr→Prop} (f:∀v,R v→R' v):isRef x R→isRef x R':=by cases x <;> first | exact f _ | exact fun h=>h.elim
theorem qX.imp {x:V} {R R':Bool→Prop} (f:∀v,R v→R' v):qX x R→qX x R':=by cases x <;> first | exact f _ | exact fun h=>h.elim
theorem DN {K:W.Frag} {g:Int→Int→V} {i j:Nat}:∀(σ:St) (H:Hp) (Q Q':Bool→Hp→Prop),(∀(b:Bool) (H1:Hp),Q b H1→Q' b H1)→sG (T7 (QC g) (fVar i) (Zm (Dy K) (Ik (fVar j) Mh))) σ H Q→sG (T7 (QC g) (fVar i) (Zm (Dy K) (Ik (fVar j) Mh))) σ H Q':=
  fun _ _ _ _ f h=>getSt.imp (fun _ h=>getSt.imp (fun _ h=>isRef.imp (fun _ ⟨ys,h1,h2⟩=>⟨ys,h1,isInt.imp (fun _ h=>isInt.imp (fun _ h=>qX.imp (fun _ h=>f _ _ h) h) h) h2⟩) h) h) h
theorem fL.qH {P:Program} {w:World} {K:W.Frag} {mg:Str→Option Value} {base:Heap} {x qual:Str} {st:Stmt} {f:Addr} {fd:FuncData} {N ps:List Str} {k:Nat} {sp:Sp} (F:fL K x qual st f fd) (S:aV N ps (aD st)) (len:∀vs H Q E,sp vs H Q E→vs.length=ps.length)
    (hbody:∀(cdv:Value) (A:Around) (outer:List Env) (s:Shared) (H:Hp) (vs:List V) (Q:VK) (E:XK),ig k (A.deeper (envOfC qual (aD st) s.heap.objs.size f cdv))→sp vs H Q E→
      ∃t,Ia (au mY P w K mg base N qual (aD st) f cdv A outer s H E).Y6 (kE st) t∧t {nx:=fun _ H'=>Q .non H',rt:=Q} (jV N vs) H):c7 P w K mg base mY (k+1) f fd ps sp:=by
  refine F.ok S len fun cdv A outer s H vs Q E hr h=>?_;obtain⟨t,h1,h2⟩:=hbody cdv A outer s H vs Q E hr h;refine⟨t,h1,?_⟩;have hl:=len _ _ _ _ h;have hp:ps.length≤N.length:=by have:=congrArg List.length S.pre;rw[List.length_take] at this;omega
  rw[uc N vs (by omega)] at h2;exact h2
abbrev two (elt t0 i0:Expr) (f0:List Expr) (t1 i1:Expr) (f1:List Expr) (sc:Scope) (pos:Pos):Expr:=.ListComp elt [⟨t0,i0,f0,0⟩,⟨t1,i1,f1,0⟩] sc pos
section
variable {prog:Program} {w:World} {A:Around} {R:Result→Shared→Prop} {s:Shared} {elt t0 i0 t1 i1:Expr} {f0 f1:List Expr} {sc:Scope} {pos:Pos} {it acc:Value} {env:Env}
theorem Bf:compTurn (two elt t0 i0 f0 t1 i1 f1 sc pos) 0 it acc env=(do
      standAt i0.pos
      match ← pyNext it with
      | none=>pure (.done .next)
      | some v=>
        letOwnedTupleGo t0 it v
        assign t0 env v
        let mut ok:=true
        for c in f0 do
          if ok then ok ← isTrue c env (eval c env)
        if ok then
          let x ← eval i1 env
          standAt i1.pos
          let x ← foldedSetIterable i1 env x
          let _ ← runOwn (.compStart (two elt t0 i0 f0 t1 i1 f1 sc pos) 1 (← holding [x] (pyIter x)) acc env) env
        again (.compLoop (two elt t0 i0 f0 t1 i1 f1 sc pos) 0 it acc env)):=by rfl
theorem DP:compTurn (two elt t0 i0 f0 t1 i1 f1 sc pos) 1 it acc env=(do
      standAt i1.pos
      match ← pyNext it with
      | none=>pure (.done .next)
      | some v=>
        letOwnedTupleGo t1 it v
        assign t1 env v
        let mut ok:=true
        for c in f1 do
          if ok then ok ← isTrue c env (eval c env)
        if ok then
          (do let _ ← call (.builtin "list.append") [acc,← eval elt env])
        again (.compLoop (two elt t0 i0 f0 t1 i1 f1 sc pos) 1 it acc env)):=by rfl
theorem Sd (I:Nat→Shared→Prop)
    (turn:∀n s,I n s→wpAny (model prog w) A (pyNext it) (fun r s₁=>match r with
      | none=>R (.ok .next) s₁
      | some v=>wpAny (model prog w) A (letOwnedTupleGo t1 it v) (fun _ s₂=>wpAny (model prog w) A (assign t1 env v) (fun _ s₃=>
          wpAny (model prog w) A (forIn f1 true fun c r=>if r=true then do let ok ← isTrue c env (eval c env);pure (ForInStep.yield ok) else pure (ForInStep.yield r)) (fun ok s₄=>
            if ok=true then wpAny (model prog w) A (eval elt env) (fun x s₅=>
              wpAny (model prog w) A (call (.builtin "list.append") [acc,x]) (fun _ s₆=>∃m,m<n∧I m s₆) oV s₅) oV s₄
            else ∃m,m<n∧I m s₄) oV s₃) oV s₂) oV s₁) oV s)
    (n:Nat) (h:I n s):codeAny (model prog w) A (.compLoop (two elt t0 i0 f0 t1 i1 f1 sc pos) 1 it acc env) R s:=by
  refine codeAny_loop rfl I (fun n s hI=>?_) n h;show wpAny _ A ((compTurn (two elt t0 i0 f0 t1 i1 f1 sc pos) 1 it acc env).onRaise (fun x=>do noteFrame x env;theTreesLotGoes x)) _ _ s
  refine wpAny_noted ?_;rw[DP];refine wpAny_bind (wpAny_standAt (wpAny_bind (wpAny_mono (turn n s hI) (fun r s₁ h₁=>?_) fun _ _ h'=>h'.elim)));cases r with
  | none=>exact wpAny_pure h₁
  | some v=>
    refine wpAny_bind (wpAny_mono h₁ (fun _ s₂ h₂=>?_) fun _ _ h'=>h'.elim);refine wpAny_bind (wpAny_mono h₂ (fun _ s₃ h₃=>wpAny_bind (wpAny_mono h₃ (fun ok s₄ h₄=>?_) fun _ _ h'=>h'.elim)) fun _ _ h'=>h'.elim);cases ok with
    | false=>exact wpAny_pure ⟨rfl,h₄⟩
    | true=>
      exact wpAny_bind (wpAny_bind (wpAny_mono h₄ (fun x s₅ h₅=>wpAny_bind (wpAny_mono h₅ (fun _ s₆ h₆=>wpAny_pure (wpAny_pure ⟨rfl,h₆⟩)) fun _ _ h'=>h'.elim)) fun _ _ h'=>h'.elim))
theorem Ow (hs:∀x,foldedSetIterable i1 env x=pure x) (I:Nat→Shared→Prop)
    (turn:∀n s,I n s→wpAny (model prog w) A (pyNext it) (fun r s₁=>match r with
      | none=>R (.ok .next) s₁
      | some v=>wpAny (model prog w) A (letOwnedTupleGo t0 it v) (fun _ s₂=>wpAny (model prog w) A (assign t0 env v) (fun _ s₃=>
          wpAny (model prog w) A (forIn f0 true fun c r=>if r=true then do let ok ← isTrue c env (eval c env);pure (ForInStep.yield ok) else pure (ForInStep.yield r)) (fun ok s₄=>
            if ok=true then wpAny (model prog w) A (eval i1 env) (fun x s₅=>wpAny (model prog w) A (pyIter x) (fun it1 s₆=>
              codeAny (model prog w) A (.compStart (two elt t0 i0 f0 t1 i1 f1 sc pos) 1 it1 acc env) (fun r s₇=>r = .ok .next∧∃m,m<n∧I m s₇) s₆) oV s₅) oV s₄
            else ∃m,m<n∧I m s₄) oV s₃) oV s₂) oV s₁) oV s)
    (n:Nat) (h:I n s):codeAny (model prog w) A (.compLoop (two elt t0 i0 f0 t1 i1 f1 sc pos) 0 it acc env) R s:=by
  refine codeAny_loop rfl I (fun n s hI=>?_) n h;show wpAny _ A ((compTurn (two elt t0 i0 f0 t1 i1 f1 sc pos) 0 it acc env).onRaise (fun x=>do noteFrame x env;theTreesLotGoes x)) _ _ s
  refine wpAny_noted ?_;rw[Bf];refine wpAny_bind (wpAny_standAt (wpAny_bind (wpAny_mono (turn n s hI) (fun r s₁ h₁=>?_) fun _ _ h'=>h'.elim)));cases r with
  | none=>exact wpAny_pure h₁
  | some v=>
    refine wpAny_bind (wpAny_mono h₁ (fun _ s₂ h₂=>?_) fun _ _ h'=>h'.elim);refine wpAny_bind (wpAny_mono h₂ (fun _ s₃ h₃=>wpAny_bind (wpAny_mono h₃ (fun ok s₄ h₄=>?_) fun _ _ h'=>h'.elim)) fun _ _ h'=>h'.elim);cases ok with
    | false=>exact wpAny_pure ⟨rfl,h₄⟩
    | true=>
      refine wpAny_bind (wpAny_mono h₄ (fun x s₅ h₅=>wpAny_bind (wpAny_standAt (wpAny_bind (wpAny_of_eq (hs x) (wpAny_bind (wpAny_holding (wpAny_mono h₅ (fun it1 s₆ h₆=>wpAny_bind (wpAny_runOwn (codeAny_mono h₆ fun r s₇ h₇=>?_))) fun _ _ h'=>h'.elim))))))) fun _ _ h'=>h'.elim);obtain⟨rfl,h₇⟩:=h₇;exact wpAny_pure ⟨rfl,h₇⟩
theorem Ox (h0:codeAny (model prog w) A (.compLoop (two elt t0 i0 f0 t1 i1 f1 sc pos) 1 it acc env) R s)
    (h:wpAny (model prog w) A (pyIter it) (fun it' s'=>codeAny (model prog w) A (.compLoop (two elt t0 i0 f0 t1 i1 f1 sc pos) 1 it' acc env) R s')
      (notedBy (model prog w) A env fun x s'=>R (.error x) s') s) :
    codeAny (model prog w) A (.compStart (two elt t0 i0 f0 t1 i1 f1 sc pos) 1 it acc env) R s:=by
  refine codeAny_of_tree ?_;show wpAny _ _ ((compStart (two elt t0 i0 f0 t1 i1 f1 sc pos) 1 it acc env).onRaise (fun x=>do noteFrame x env;standAt theWindowsPlace)) _ _ s
  refine wpAny_notedAt ?_;unfold compStart;show wpAny _ _ (ask >>= _) _ _ s;refine wpAny_bind (wpAny_askSetting (wpAny_ite ?_));split
  · first
      | exact wpAny_bind (wpAny_pure (wpAny_pure (And.intro rfl h0)))
      | exact wpAny_pure (And.intro rfl h0)
  · first
      | exact wpAny_bind (wpAny_rule (wpAny_bind (wpAny_standAt (wpAny_bind (wpAny_mono h (fun it' s' h'=>wpAny_pure (And.intro rfl h')) fun _ _ x=>x)))))
      | (refine wpAny_bind (wpAny_rule ?_);show wpAny _ _ (standAt i1.pos >>= _) _ _ s;exact wpAny_bind (wpAny_standAt (wpAny_bind (wpAny_mono h (fun it' s' h'=>wpAny_pure (And.intro rfl h')) fun _ _ x=>x))))
end
def qam (J:It) (g:TG) (tt:TT) (te:TE) (D:Addr) (σ:St) (H:Hp) (Nx:St→Hp→Prop):Prop:=
  ∃fW:Nat→Nat→St→Hp→Prop,(∃m,fW 0 m σ H)∧∀i m σ' H',fW i m σ' H'→
    (J.stop i H'∧Nx σ' H')∨(J.go i H'∧∃N:St→Hp→Prop,(∀σ2 H2,N σ2 H2→∃m',m'<m∧fW (i+1) m' σ2 H2)∧∀x H2,J.K9 i H' x H2→g x σ' H2 fun σ2 H3=>tt σ2 H3 fun b H4=>
      if b=true then te σ2 H4 fun y H5=>∃ys,H5 D=some (.lst ys)∧ys.length<sizeLine∧N σ2 (upd H5 D (.lst (ys++[y]))) else N σ2 H4)
def UG (own:List Str) (caps:List Nat) (J:It) (g:TG) (tt:TT) (Fv:TI) (g2:TG) (Cd:TT) (te:TE) (D:Addr) (σ:St) (H:Hp) (Q:Hp→Prop):Prop:=
  ∃fW:Nat→Nat→St→Hp→Prop,(∃m,fW 0 m (stC own caps σ) H)∧∀i m σ' H',fW i m σ' H'→
    (J.stop i H'∧Q H')∨(J.go i H'∧∃N:St→Hp→Prop,(∀σ2 H2,N σ2 H2→∃m',m'<m∧fW (i+1) m' σ2 H2)∧∀x H2,J.K9 i H' x H2→g x σ' H2 fun σ2 H3=>tt σ2 H3 fun b H4=>
      if b=true then Fv σ2 H4 fun J2 H5=>qam J2 g2 Cd te D σ2 H5 N else N σ2 H4)
def Oz (own:List Str) (caps:List Nat) (wi:TI) (g:TG) (tt:TT) (Fv:TI) (g2:TG) (Cd:TT) (te:TE):TE:=fun σ H Q=>wi σ H fun J H1=>∀D,H1 D=none→UG own caps J g tt Fv g2 Cd te D σ (upd H1 D (.lst [])) (Q (.ref D))
section
variable {X:Cx} {ps sc:Scope} {own pN:List Str} {caps:List Nat} {N:List Str} {elt t0 i0 t1 i1:Expr} {f0 f1:List Expr} {pos:Pos} {wi Fv:TI} {g g2:TG} {tt Cd:TT} {te:TE}
theorem OD {Y:Cx} {p_:List (Addr×Obj)} {σ:St} {H:Hp} {s:Shared} {J:It} {fp:List Addr} {it D:Addr} {tn:Nat→Heap→Prop} {Nx:St→Hp→Prop} (hx:Y.xe=oV)
    (I:Inv Y p_ σ H s) (T:Turn Y.prog Y.w Y.K t1 J fp it tn) (st:tn 0 s.heap) (hf:∀b∈fp,jO Y p_ H b) (hc:Y.calm=true)
    (hg:PG Y t1 g2) (ht:La Y f1 Cd) (he:PE Y elt te) (h:qam J g2 Cd te D σ H Nx) :
    codeAny (model Y.prog Y.w) Y.A (.compStart (two elt t0 i0 f0 t1 i1 f1 sc pos) 1 (.ref it) (.ref D) Y.env) (fun r s'=>r = .ok .next∧∃σ' H',Inv Y p_ σ' H' s'∧Nx σ' H') s:=by
  obtain⟨fW,⟨m0,w0⟩,turn⟩:=h;have stat:∀{H':Hp},(∀b∈fp,H' b=none)→∀b∈fp,jO Y p_ H' b:=fun hn b hb=>⟨hn b hb,(hf b hb).2⟩;have loop:codeAny (model Y.prog Y.w) Y.A (.compLoop (two elt t0 i0 f0 t1 i1 f1 sc pos) 1 (.ref it) (.ref D) Y.env) (fun r s'=>r = .ok .next∧∃σ' H',Inv Y p_ σ' H' s'∧Nx σ' H') s:=by
    refine Sd (fun n s'=>∃i σ' H',Inv Y p_ σ' H' s'∧tn i s'.heap∧(∀b∈fp,H' b=none)∧fW i n σ' H') ?_ m0 ⟨0,_,H,I,st,fun b hb=>(hf b hb).1,w0⟩;rintro n s3 ⟨i,σ3,H3,I3,st3,Ie,w3⟩
    rcases turn i n σ3 H3 w3 with⟨stop,qn⟩ | ⟨go,N',hN,step⟩
    ·refine bN (T.done Y rfl rfl rfl hc i p_ s3 σ3 H3 oV I3 (stat Ie) st3 stop) fun r s4 zz=>?_;obtain⟨hr,I4⟩:=zz;subst hr;exact⟨rfl,σ3,H3,I4,qn⟩
    · refine bN (T.item Y rfl rfl rfl hc i p_ s3 σ3 H3 oV I3 (stat Ie) st3 go) fun r s4 zz=>?_;obtain⟨u,hr,h4⟩:=zz;subst hr;refine bN h4 fun _ s5 zz=>?_;obtain⟨x,H5,I5,r5,y5,z7,QT⟩:=zz;have QV:=I5.pinned (stat QT) (T.obj _ _ z7);have hg':=hg _ s5 σ3 H5 x u _ QV r5 (step x H5 y5);rw[hx] at hg';refine bN hg' fun _ s6 zz=>?_;obtain⟨σ6,H6,I6,q6⟩:=zz;have ht':=ht _ s6 σ6 H6 _ I6 q6;rw[hx] at ht';refine bN ht' fun b s7 zz=>?_;obtain⟨H7,I7,q7⟩:=zz;have again:∀{σ8:St} {H8:Hp} {s8:Shared},Inv Y (p_++oR fp s5.heap) σ8 H8 s8→N' σ8 H8→
          ∃m,m<n∧∃i σ' H',Inv Y p_ σ' H' s8∧tn i s8.heap∧(∀b∈fp,H' b=none)∧fW i m σ' H':=fun {σ8 H8 s8} I8 n8=>by
        obtain⟨m',hm,w8⟩:=hN σ8 H8 n8;refine⟨m',hm,i+1,σ8,H8,I8.jP,T.keep _ _ _ z7 fun b hb o e=>(I8.pin (b,o) (List.mem_append_right _ (List.mem_append_right _ (dz hb e)))).1,fun b hb=>?_,w8⟩;obtain⟨o,e,d⟩:=T.obj _ _ z7 b hb;exact(I8.pin (b,o) (List.mem_append_right _ (List.mem_append_right _ (dz hb e)))).2.1
      cases b with
      | false=>
        rw[if_neg Bool.false_ne_true] at q7 ⊢;exact again I7 q7
      | true=>
        rw[if_pos rfl] at q7 ⊢;have he':=he _ s7 σ6 H7 _ I7 q7;rw[hx] at he';refine bN he' fun v s8 zz=>?_;obtain⟨y,H8,I8,r8,ys,hD,hz,n8⟩:=zz;have ha:=tV (X:=Y) _ s8 σ6 H8 (.ref D) [y] (.ref D) [v] (fun _ H9=>N' σ6 H9) I8 rfl (.cons r8 .nil) ⟨D,ys,y,rfl,rfl,hD,hz,n8⟩;rw[hx] at ha;refine bN ha fun _ s9 zz=>?_;obtain⟨_,H9,I9,_,n9⟩:=zz;exact again I9 n9
  exact Ox loop (T.self Y.A 0 _ _ _ st loop)
theorem DQ {p_:List (Addr×Obj)} {σ:St} {H:Hp} {s:Shared} {E:Value→Shared→Prop} {J:It} {fp:List Addr} {it D:Addr} {tn:Nat→Heap→Prop} {Q:Hp→Prop}
    (I:Inv X p_ σ H s) (hps:X.env.scope=ps) (hpN:X.N=pN) (S:aO ps sc pN own caps N) (T:Turn X.prog X.w X.K t0 J fp it tn) (st:tn 0 s.heap) (hf:∀b∈fp,jO X p_ H b) (hc:X.calm=true)
    (hg:∀C s H fp pn,PG (aQ X sc N C s H fp pn) t0 g) (ht:∀C s H fp pn,La (aQ X sc N C s H fp pn) f0 tt) (hi:∀C s H fp pn,PI (aQ X sc N C s H fp pn) t1 i1 Fv)
    (hg2:∀C s H fp pn,PG (aQ X sc N C s H fp pn) t1 g2) (Ks:∀C s H fp pn,La (aQ X sc N C s H fp pn) f1 Cd) (he:∀C s H fp pn,PE (aQ X sc N C s H fp pn) elt te)
    (hs:∀(env:Env) x,foldedSetIterable i1 env x=pure x) (h:UG own caps J g tt Fv g2 Cd te D σ H Q) :
    wpAny (model X.prog X.w) X.A (newFunctionEnv sc X.env.globals (yD X.env sc.names) [] X.env.qual none .none (some X.env)) (fun cenv s4=>
      codeAny (model X.prog X.w) X.A (.compStart (two elt t0 i0 f0 t1 i1 f1 sc pos) 0 (.ref it) (.ref D) {cenv with scope:=relabel sc X.env}) (mL X p_ σ Q cenv.locals) s4) E s:=by
  obtain⟨fW,⟨m0,w0⟩,turn⟩:=h;refine m6 ?_;have ho:=T.obj 0 _ st;have I0:=wj I hps hpN S hf ho;have ok':=vp I hps S hf ho;have hk:∀b o,s.heap.get? b=some o→(blockAt sc s).heap.get? b=some o:=fun b o e=>pushCells_keeps _ _ b o (Heap.get?_push_of_some _ e);have st0:tn 0 (blockAt sc s).heap:=T.keep 0 _ _ st fun b _ o e=>hk b o e;have stat:∀{H':Hp},(∀b∈fp,H' b=none)→∀b∈fp,jO (aQ X sc N s.heap.objs.size s H fp (X.pn++p_)) [] H' b:=fun hn b hb=>
    ⟨hn b hb,(ok'.QJ b hb).1,ok'.Cg b hb,.inl hb,(ok'.QJ b hb).2,fun p hp=>(hf b hb).2.2.2.2.2 p (by rw[List.append_nil] at hp;exact hp)⟩
  have loop:codeAny (model X.prog X.w) X.A (.compLoop (two elt t0 i0 f0 t1 i1 f1 sc pos) 0 (.ref it) (.ref D) (aQ X sc N s.heap.objs.size s H fp (X.pn++p_)).env) (mL X p_ σ Q s.heap.objs.size) (blockAt sc s):=by
    refine Ow (hs _) (fun n s'=>∃i σ' H',Inv (aQ X sc N s.heap.objs.size s H fp (X.pn++p_)) [] σ' H' s'∧tn i s'.heap∧(∀b∈fp,H' b=none)∧fW i n σ' H') ?_ m0 ⟨0,_,H,I0,st0,fun b hb=>(hf b hb).1,w0⟩;rintro n s3 ⟨i,σ3,H3,I3,st3,Ie,w3⟩
    rcases turn i n σ3 H3 w3 with⟨stop,qn⟩ | ⟨go,N',hN,step⟩
    ·refine bN (T.done (aQ X sc N s.heap.objs.size s H fp (X.pn++p_)) rfl rfl rfl hc i [] s3 σ3 H3 oV I3 (stat Ie) st3 stop) fun r s4 zz=>?_;obtain⟨hr,I4⟩:=zz;subst hr;obtain⟨m,hn,_⟩:=I4.loc;exact⟨H3,rfl,tX I hf I4,⟨m,hn⟩,I.vV (Nat.le_refl _) I4.free,qn⟩
    · refine bN (T.item (aQ X sc N s.heap.objs.size s H fp (X.pn++p_)) rfl rfl rfl hc i [] s3 σ3 H3 oV I3 (stat Ie) st3 go) fun r s4 zz=>?_;obtain⟨u,hr,h4⟩:=zz;subst hr;refine bN h4 fun _ s5 zz=>?_;obtain⟨x,H5,I5,r5,y5,z7,QT⟩:=zz;have QV:=I5.pinned (stat QT) (T.obj _ _ z7);refine bN (hg _ _ _ _ _ _ s5 σ3 H5 x u _ QV r5 (step x H5 y5)) fun _ s6 zz=>?_;obtain⟨σ6,H6,I6,q6⟩:=zz;refine bN (ht _ _ _ _ _ _ s6 σ6 H6 _ I6 q6) fun b s7 zz=>?_;obtain⟨H7,I7,q7⟩:=zz;have again:∀{σ8:St} {H8:Hp} {s8:Shared},Inv (aQ X sc N s.heap.objs.size s H fp (X.pn++p_)) ([]++oR fp s5.heap) σ8 H8 s8→N' σ8 H8→
          ∃m,m<n∧∃i σ' H',Inv (aQ X sc N s.heap.objs.size s H fp (X.pn++p_)) [] σ' H' s8∧tn i s8.heap∧(∀b∈fp,H' b=none)∧fW i m σ' H':=fun {σ8 H8 s8} I8 n8=>by
        obtain⟨m',hm,w8⟩:=hN σ8 H8 n8;refine⟨m',hm,i+1,σ8,H8,I8.jP,T.keep _ _ _ z7 fun b hb o e=>(I8.pin (b,o) (List.mem_append_right _ (List.mem_append_right _ (dz hb e)))).1,fun b hb=>?_,w8⟩;obtain⟨o,e,d⟩:=T.obj _ _ z7 b hb;exact(I8.pin (b,o) (List.mem_append_right _ (List.mem_append_right _ (dz hb e)))).2.1
      cases b with
      | false=>
        rw[if_neg Bool.false_ne_true] at q7 ⊢;exact again I7 q7
      | true=>
        rw[if_pos rfl] at q7 ⊢;refine bN (hi _ _ _ _ _ _ s7 σ6 H7 _ I7 q7) fun v s8 h8=>bN h8 fun itv s9 h9=>?_;obtain⟨it2,fp2,tn2,J2,H9,e9,I9,T2,st9,f9,q9⟩:=h9;subst e9;refine codeAny_mono (OD (i0:=i0) (f0:=f0) (t0:=t0) (i1:=i1) (pos:=pos) (sc:=sc) rfl I9 T2 st9 f9 hc (hg2 _ _ _ _ _) (Ks _ _ _ _ _) (he _ _ _ _ _) q9) fun r yq zz=>?_;obtain⟨hr,σ10,Bg,I10,n10⟩:=zz;exact⟨hr,again I10 n10⟩
  exact codeAny_compStart_list loop (T.self X.A 0 _ _ _ st0 loop)
theorem DR {i:Nat} {y:Str} {py spos:Pos} (hN:X.N.Nodup) (hy:X.N[i]? = some y) (hl:X.env.scope.names.lookup y=some .local) (hps:X.env.scope=ps) (hpN:X.N=pN) (S:aO ps sc pN own caps N) (hc:X.calm=true) (hi0:PI X t0 i0 wi)
    (hg:∀C s H fp pn,PG (aQ X sc N C s H fp pn) t0 g) (ht:∀C s H fp pn,La (aQ X sc N C s H fp pn) f0 tt) (hi:∀C s H fp pn,PI (aQ X sc N C s H fp pn) t1 i1 Fv)
    (hg2:∀C s H fp pn,PG (aQ X sc N C s H fp pn) t1 g2) (Ks:∀C s H fp pn,La (aQ X sc N C s H fp pn) f1 Cd) (he:∀C s H fp pn,PE (aQ X sc N C s H fp pn) elt te)
    (hsw:swapsWith (two elt t0 i0 f0 t1 i1 f1 sc pos) (some (.Name y py)) spos.line X.env=pure true:=by rfl)
    (hs0:∀x,foldedSetIterable i0 X.env x=pure x:=by intro _;rfl) (hs:∀(env:Env) x,foldedSetIterable i1 env x=pure x:=by intro _ _;rfl):PS X (.Assign [.Name y py] (two elt t0 i0 f0 t1 i1 f1 sc pos) spos) (Lr (Oz own caps wi g tt Fv g2 Cd te) (Cm i)):=by
  intro p_ s σ H D0 I h;rw[exec_Assign_Name_used _ _ _ _ hsw];refine wpAny_bind (wpAny_standAt (wpAny_bind ?_));show wpAny _ X.A (do let _ ← comprehension (two elt t0 i0 f0 t1 i1 f1 sc pos) sc X.env _ (newList []) false (eval i0 X.env) (some (assign (.Name y py) X.env))) _ _ s
  refine wpAny_bind (wpAny_mono (wpAny_comprehension_free (use:=some (assign (.Name y py) X.env)) (Q:=fun _ s'=>SP X p_ D0 .next s') rfl hs0 (gk (S.cells hps I.ok)) S.kind S.locs
    (bN (hi0 p_ s σ H _ I h) fun v s1 h1=>bN h1 fun itv s2 h2=>?_)) (fun _ s' hq=>wpAny_pure (wpAny_pure hq)) fun _ _ e=>e)
  obtain⟨it,fp,tn,J,H2,e,I2,T,st2,f2,q⟩:=h2;subst e;have fr:H2 s2.heap.objs.size=none:=I2.fresh;refine wpAny_newObj_type ?_;have I3:Inv X p_ σ (upd H2 s2.heap.objs.size (.lst [])) {s2 with heap:=s2.heap.push {cls:=.type "list",data:=.seq ([]:List Value).toArray},toks:=s2.toks}:=I2.Ri (its:=[]) (ys:=[]) .nil (Nat.zero_le _);have f3:∀b∈fp,jO X p_ (upd H2 s2.heap.objs.size (.lst [])) b:=fun b hb=>by
    obtain⟨o,e,_⟩:=T.obj 0 _ st2 b hb;exact⟨by rw[aC (Nat.ne_of_lt (Heap.lt_size e))];exact(f2 b hb).1,(f2 b hb).2⟩
  refine bN (DQ (i0:=i0) (pos:=pos) I3 hps hpN S T (T.keep 0 _ _ st2 fun b _ o e=>Heap.get?_push_of_some _ e) f3 hc hg ht hi hg2 Ks he hs (q _ fr)) fun cenv s4 h4=>?_;refine codeAny_mono h4 fun r s5 ⟨H5,hr,I5,⟨m,hn⟩,f5,q5⟩=>?_;subst hr;show wpAny _ X.A (assign (.Name y py) X.env (.ref s2.heap.objs.size)) _ _ _;refine wpAny_assign_Name (tO I5 hN hy (.inl hl) (v:=.ref s2.heap.objs.size) rfl (fun s6 I6 hsb=>?_) (.inr hl));obtain⟨a,sb,ha⟩:=hsb;have hne:cenv.locals≠a:=by
    rcases ha with z | z
    ·rw[z];exact f5.2.1
    ·exact fun e=>f5.2.2.2.2.1 y a z e.symm
  refine⟨m,hn.sameBut sb hne,fun h' hs'=>?_⟩;have I7:Inv X p_ (σ.set i (some (.ref s2.heap.objs.size))) H5 {s6 with heap:=h',toks:=s6.toks}:=I6.turned (it:=cenv.locals) (fun b o hb e=>(hs'.2 b hb).trans e) f5.1 f5.2.1 f5.2.2.2.1 f5.2.2.2.2.1 f5.2.2.2.2.2;exact⟨_,H5,I7,q5⟩
end
def Xq (Nx:St→Hp→Prop):Ends:={nx:=Nx,ct:=Nx,bk:=Nx,rt:=fun _ _=>False}
def Xr (Q:Hp→Prop):Ends:={nx:=fun _ H=>Q H,ct:=fun _ H=>Q H,bk:=fun _ H=>Q H,rt:=fun _ _=>False}
def tbI (tt:TT) (te:TE) (D:Addr):TS:=fun E σ H=>tt σ H fun b H4=>eX b (te σ H4 fun y H5=>∃ys,H5 D=some (.lst ys)∧ys.length<sizeLine∧E.nx σ (upd H5 D (.lst (ys++[y])))) (E.nx σ H4) ⟨0⟩
def tbO (tt:TT) (Fv:TI) (g2:TG) (Cd:TT) (te:TE) (D:Addr):TS:=fun E σ H=>tt σ H fun b H4=>eX b (Fv σ H4 fun J2 H5=>Qz J2 g2 (tbI Cd te D) (Xq E.nx) ⟨0⟩ σ H5) (E.nx σ H4) ⟨0⟩
@[simp ↓] theorem qd7 (tt:TT) (te:TE) (D:Addr) (E:Ends) (σ:St) (H:Hp):tbI tt te D E σ H=tt σ H fun b H4=>eX b (te σ H4 fun y H5=>∃ys,H5 D=some (.lst ys)∧ys.length<sizeLine∧E.nx σ (upd H5 D (.lst (ys++[y])))) (E.nx σ H4) ⟨0⟩:=rfl
@[simp ↓] theorem qd8 (tt:TT) (Fv:TI) (g2:TG) (Cd:TT) (te:TE) (D:Addr) (E:Ends) (σ:St) (H:Hp):tbO tt Fv g2 Cd te D E σ H=tt σ H fun b H4=>eX b (Fv σ H4 fun J2 H5=>Qz J2 g2 (tbI Cd te D) (Xq E.nx) ⟨0⟩ σ H5) (E.nx σ H4) ⟨0⟩:=rfl
@[simp] theorem qcb (Nx:St→Hp→Prop):(Xq Nx).nx=Nx:=rfl
@[simp] theorem qcc (Q:Hp→Prop):(Xr Q).nx=fun _ H=>Q H:=rfl
@[simp ↓] theorem qan (own:List Str) (caps:List Nat) (wi:TI) (g:TG) (tt:TT) (Fv:TI) (g2:TG) (Cd:TT) (te:TE) (σ:St) (H:Hp) (Q:VK) :
    Oz own caps wi g tt Fv g2 Cd te σ H Q=wi σ H fun J H1=>∀D,H1 D=none→Qz J g (tbO tt Fv g2 Cd te D) (Xr (Q (.ref D))) ⟨0⟩ (stC own caps σ) (upd H1 D (.lst [])):=rfl
section
variable {X:Cx} {p_:List (Addr×Obj)} {σ:St} {H:Hp} {s:Shared} {a:Addr} {y v:V} {u r:Value} {A:Around} {E:Value→Shared→Prop}
theorem Ku {Q:Unit→Shared→Prop} {kvs:List (List Key×V)} {k:List Key} {b:Addr} (hu:A.units<cLine) (I:Inv X p_ σ H s) (e:H a=some (.dT kvs)) (eb:H b=some (.tup (k.map kV))) (l:kvs.length<sizeLine) (rv:RelV v r)
    (h:∀s',Inv X p_ σ (upd H a (.dT (putK kvs k v))) s'→Q () s'):wpAny (model X.prog X.w) A (dictSet a (.ref b) r) Q E s:=by
  obtain⟨z,hd,xs,rel,dd⟩:=Ug I.hok e;have hz:xs.length≤sizeLine:=by rw[← Paired.length rel];exact z
  have hl:(putK kvs k v).length≤sizeLine:=by have:=gB kvs k v;omega
  refine wpAny_dictSet_heap (knd:=tupleKind (bA X.prog X.w)) (hsz:=hz) hu (qR I.hok eb) dd fun h' Ru hs=>h _ ?_;obtain⟨q,es,ep,hq,h2,h3,h4,_,h5⟩:=Ru;refine vD I (by rw[e];exact True.intro) hs ⟨q,hq⟩ ⟨hl,hd,_,(rel.put k eb rv).keeps fun c ys ec=>?_,q,es,ep,hq,h2,h3,h4,h5⟩;rw[aC (qD ec e (fun z=>nomatch z))];exact ec
end
abbrev dcx (kx vx t0 i0:Expr) (f0:List Expr) (sc:Scope) (pos:Pos):Expr:=.DictComp kx vx [⟨t0,i0,f0,0⟩] sc pos
theorem Sg {prog:Program} {w:World} {A:Around} {R:Result→Shared→Prop} {s:Shared} {kx vx t0 i0:Expr} {f0:List Expr} {sc:Scope} {pos:Pos} {it:Value} {D:Addr} {env:Env} (I:Nat→Shared→Prop)
    (turn:∀n s,I n s→wpAny (model prog w) A (pyNext it) (fun r s₁=>match r with
      | none=>R (.ok .next) s₁
      | some v=>wpAny (model prog w) A (letOwnedTupleGo t0 it v) (fun _ s₂=>wpAny (model prog w) A (assign t0 env v) (fun _ s₃=>
          wpAny (model prog w) A (forIn f0 true fun c r=>if r=true then do let ok ← isTrue c env (eval c env);pure (ForInStep.yield ok) else pure (ForInStep.yield r)) (fun ok s₄=>
            if ok=true then wpAny (model prog w) A (eval kx env) (fun kv s₅=>wpAny (model prog w) A (eval vx env) (fun vv s₆=>
              wpAny (model prog w) A (dictSet D kv vv) (fun _ s₇=>∃m,m<n∧I m s₇) oV s₆) oV s₅) oV s₄
            else ∃m,m<n∧I m s₄) oV s₃) oV s₂) oV s₁) oV s)
    (n:Nat) (h:I n s):codeAny (model prog w) A (.compLoop (dcx kx vx t0 i0 f0 sc pos) 0 it (.ref D) env) R s:=by
  refine codeAny_loop rfl I (fun n s hI=>?_) n h;show wpAny _ A ((compTurn (dcx kx vx t0 i0 f0 sc pos) 0 it (.ref D) env).onRaise (fun x=>do noteFrame x env;theTreesLotGoes x)) _ _ s
  refine wpAny_noted ?_;rw[compTurn_dict];refine wpAny_bind (wpAny_standAt (wpAny_bind (wpAny_mono (turn n s hI) (fun r s₁ h₁=>?_) fun _ _ h'=>h'.elim)));cases r with
  | none=>exact wpAny_pure h₁
  | some v=>
    refine wpAny_bind (wpAny_mono h₁ (fun _ s₂ h₂=>?_) fun _ _ h'=>h'.elim);refine wpAny_bind (wpAny_mono h₂ (fun _ s₃ h₃=>wpAny_bind (wpAny_mono h₃ (fun ok s₄ h₄=>?_) fun _ _ h'=>h'.elim)) fun _ _ h'=>h'.elim);cases ok with
    | false=>exact wpAny_pure ⟨rfl,h₄⟩
    | true=>
      exact wpAny_bind (wpAny_bind (wpAny_mono h₄ (fun kv s₅ h₅=>wpAny_bind (wpAny_holding (wpAny_mono h₅ (fun vv s₆ h₆=>wpAny_bind (wpAny_standAt (wpAny_holding (wpAny_mono h₆ (fun _ s₇ h₇=>wpAny_pure ⟨rfl,h₇⟩) fun _ _ h'=>h'.elim)))) fun _ _ h'=>h'.elim))) fun _ _ h'=>h'.elim))
def UJ (own:List Str) (caps:List Nat) (J:It) (g:TG) (tt:TT) (tk tv:TE) (D:Addr) (σ:St) (H:Hp) (Q:Hp→Prop):Prop:=
  ∃fW:Nat→Nat→St→Hp→Prop,(∃m,fW 0 m (stC own caps σ) H)∧∀i m σ' H',fW i m σ' H'→
    (J.stop i H'∧Q H')∨(J.go i H'∧∃N:St→Hp→Prop,(∀σ2 H2,N σ2 H2→∃m',m'<m∧fW (i+1) m' σ2 H2)∧∀x H2,J.K9 i H' x H2→g x σ' H2 fun σ2 H3=>tt σ2 H3 fun b H4=>
      if b=true then tk σ2 H4 fun y H5=>tv σ2 H5 fun z H6=>∃kvs k b,H6 D=some (.dT kvs)∧y = .ref b∧H6 b=some (.tup (k.map kV))∧kvs.length<sizeLine∧N σ2 (upd H6 D (.dT (putK kvs k z))) else N σ2 H4)
def OJ (own:List Str) (caps:List Nat) (wi:TI) (g:TG) (tt:TT) (tk tv:TE):TE:=fun σ H Q=>wi σ H fun J H1=>∀D,H1 D=none→UJ own caps J g tt tk tv D σ (upd H1 D (.dT [])) (Q (.ref D))
section
variable {X:Cx} {ps sc:Scope} {own pN:List Str} {caps:List Nat} {N:List Str} {kx vx t0 i0:Expr} {f0:List Expr} {pos:Pos} {wi:TI} {g:TG} {tt:TT} {tk tv:TE}
theorem O1 {p_:List (Addr×Obj)} {σ:St} {H:Hp} {s:Shared} {E:Value→Shared→Prop} {J:It} {fp:List Addr} {it D:Addr} {tn:Nat→Heap→Prop} {Q:Hp→Prop} (hu:X.A.units<cLine)
    (I:Inv X p_ σ H s) (hps:X.env.scope=ps) (hpN:X.N=pN) (S:aO ps sc pN own caps N) (T:Turn X.prog X.w X.K t0 J fp it tn) (st:tn 0 s.heap) (hf:∀b∈fp,jO X p_ H b) (hc:X.calm=true)
    (hg:∀C s H fp pn,PG (aQ X sc N C s H fp pn) t0 g) (ht:∀C s H fp pn,La (aQ X sc N C s H fp pn) f0 tt) (hk:∀C s H fp pn,PE (aQ X sc N C s H fp pn) kx tk) (hv:∀C s H fp pn,PE (aQ X sc N C s H fp pn) vx tv)
    (h:UJ own caps J g tt tk tv D σ H Q) :
    wpAny (model X.prog X.w) X.A (newFunctionEnv sc X.env.globals (yD X.env sc.names) [] X.env.qual none .none (some X.env)) (fun cenv s4=>
      codeAny (model X.prog X.w) X.A (.compStart (dcx kx vx t0 i0 f0 sc pos) 0 (.ref it) (.ref D) {cenv with scope:=relabel sc X.env}) (mL X p_ σ Q cenv.locals) s4) E s:=by
  obtain⟨fW,⟨m0,w0⟩,turn⟩:=h;refine m6 ?_;have ho:=T.obj 0 _ st;have I0:=wj I hps hpN S hf ho;have ok':=vp I hps S hf ho;have hk0:∀b o,s.heap.get? b=some o→(blockAt sc s).heap.get? b=some o:=fun b o e=>pushCells_keeps _ _ b o (Heap.get?_push_of_some _ e);have st0:tn 0 (blockAt sc s).heap:=T.keep 0 _ _ st fun b _ o e=>hk0 b o e;have stat:∀{H':Hp},(∀b∈fp,H' b=none)→∀b∈fp,jO (aQ X sc N s.heap.objs.size s H fp (X.pn++p_)) [] H' b:=fun hn b hb=>
    ⟨hn b hb,(ok'.QJ b hb).1,ok'.Cg b hb,.inl hb,(ok'.QJ b hb).2,fun p hp=>(hf b hb).2.2.2.2.2 p (by rw[List.append_nil] at hp;exact hp)⟩
  have loop:codeAny (model X.prog X.w) X.A (.compLoop (dcx kx vx t0 i0 f0 sc pos) 0 (.ref it) (.ref D) (aQ X sc N s.heap.objs.size s H fp (X.pn++p_)).env) (mL X p_ σ Q s.heap.objs.size) (blockAt sc s):=by
    refine Sg (fun n s'=>∃i σ' H',Inv (aQ X sc N s.heap.objs.size s H fp (X.pn++p_)) [] σ' H' s'∧tn i s'.heap∧(∀b∈fp,H' b=none)∧fW i n σ' H') ?_ m0 ⟨0,_,H,I0,st0,fun b hb=>(hf b hb).1,w0⟩;rintro n s3 ⟨i,σ3,H3,I3,st3,Ie,w3⟩
    rcases turn i n σ3 H3 w3 with⟨stop,qn⟩ | ⟨go,N',hN,step⟩
    ·refine bN (T.done (aQ X sc N s.heap.objs.size s H fp (X.pn++p_)) rfl rfl rfl hc i [] s3 σ3 H3 oV I3 (stat Ie) st3 stop) fun r s4 zz=>?_;obtain⟨hr,I4⟩:=zz;subst hr;obtain⟨m,hn,_⟩:=I4.loc;exact⟨H3,rfl,tX I hf I4,⟨m,hn⟩,I.vV (Nat.le_refl _) I4.free,qn⟩
    · refine bN (T.item (aQ X sc N s.heap.objs.size s H fp (X.pn++p_)) rfl rfl rfl hc i [] s3 σ3 H3 oV I3 (stat Ie) st3 go) fun r s4 zz=>?_;obtain⟨u,hr,h4⟩:=zz;subst hr;refine bN h4 fun _ s5 zz=>?_;obtain⟨x,H5,I5,r5,y5,z7,QT⟩:=zz;have QV:=I5.pinned (stat QT) (T.obj _ _ z7);refine bN (hg _ _ _ _ _ _ s5 σ3 H5 x u _ QV r5 (step x H5 y5)) fun _ s6 zz=>?_;obtain⟨σ6,H6,I6,q6⟩:=zz;refine bN (ht _ _ _ _ _ _ s6 σ6 H6 _ I6 q6) fun b s7 zz=>?_;obtain⟨H7,I7,q7⟩:=zz;have again:∀{σ8:St} {H8:Hp} {s8:Shared},Inv (aQ X sc N s.heap.objs.size s H fp (X.pn++p_)) ([]++oR fp s5.heap) σ8 H8 s8→N' σ8 H8→
          ∃m,m<n∧∃i σ' H',Inv (aQ X sc N s.heap.objs.size s H fp (X.pn++p_)) [] σ' H' s8∧tn i s8.heap∧(∀b∈fp,H' b=none)∧fW i m σ' H':=fun {σ8 H8 s8} I8 n8=>by
        obtain⟨m',hm,w8⟩:=hN σ8 H8 n8;refine⟨m',hm,i+1,σ8,H8,I8.jP,T.keep _ _ _ z7 fun b hb o e=>(I8.pin (b,o) (List.mem_append_right _ (List.mem_append_right _ (dz hb e)))).1,fun b hb=>?_,w8⟩;obtain⟨o,e,d⟩:=T.obj _ _ z7 b hb;exact(I8.pin (b,o) (List.mem_append_right _ (List.mem_append_right _ (dz hb e)))).2.1
      cases b with
      | false=>
        rw[if_neg Bool.false_ne_true] at q7 ⊢;exact again I7 q7
      | true=>
        rw[if_pos rfl] at q7 ⊢;refine bN (hk _ _ _ _ _ _ s7 σ6 H7 _ I7 q7) fun ku s8 zz=>?_;obtain⟨y,H8,I8,r8,q8⟩:=zz;refine bN (hv _ _ _ _ _ _ s8 σ6 H8 _ I8 q8) fun vu s9 zz=>?_;obtain⟨z,H9,I9,r9,kvs,k,b,e1,e2,e3,e4,n9⟩:=zz;subst e2;cases (show ku=Value.ref b from r8);exact Ku (X:=aQ X sc N s.heap.objs.size s H fp (X.pn++p_)) hu I9 e1 e3 e4 r9 fun yq I10=>again I10 n9
  exact codeAny_compStart_dict loop (T.self X.A 0 _ _ _ st0 loop)
theorem O2 (hu:X.A.units<cLine) (hps:X.env.scope=ps) (hpN:X.N=pN) (S:aO ps sc pN own caps N) (hc:X.calm=true) (hi0:PI X t0 i0 wi)
    (hg:∀C s H fp pn,PG (aQ X sc N C s H fp pn) t0 g) (ht:∀C s H fp pn,La (aQ X sc N C s H fp pn) f0 tt) (hk:∀C s H fp pn,PE (aQ X sc N C s H fp pn) kx tk) (hv:∀C s H fp pn,PE (aQ X sc N C s H fp pn) vx tv)
    (hs0:∀x,foldedSetIterable i0 X.env x=pure x:=by intro _;rfl):PE X (dcx kx vx t0 i0 f0 sc pos) (OJ own caps wi g tt tk tv):=by
  intro p_ s σ H Q I h;rw[arm_eval_DictComp];refine wpAny_comprehension_free (use:=none) rfl hs0 (gk (S.cells hps I.ok)) S.kind S.locs (bN (hi0 p_ s σ H _ I h) fun v s1 h1=>bN h1 fun itv s2 h2=>?_);obtain⟨it,fp,tn,J,H2,e,I2,T,st2,f2,q⟩:=h2;subst e;have fr:H2 s2.heap.objs.size=none:=I2.fresh;refine wpAny_newObj_type ?_;have I3:Inv X p_ σ (upd H2 s2.heap.objs.size (.dT [])) {s2 with heap:=s2.heap.push {cls:=.type "dict",data:=.dict #[]},toks:=s2.toks}:=I2.laid (a:=s2.heap.objs.size) (o:=.dT []) (t':=s2.toks) (fun _ _ q=>Heap.get?_push_of_some _ q) (Nat.le_refl _) (CW s2.heap I2.big);have f3:∀b∈fp,jO X p_ (upd H2 s2.heap.objs.size (.dT [])) b:=fun b hb=>by
    obtain⟨o,e,_⟩:=T.obj 0 _ st2 b hb;exact⟨by rw[aC (Nat.ne_of_lt (Heap.lt_size e))];exact(f2 b hb).1,(f2 b hb).2⟩
  refine bN (O1 (i0:=i0) (pos:=pos) hu I3 hps hpN S T (T.keep 0 _ _ st2 fun b _ o e=>Heap.get?_push_of_some _ e) f3 hc hg ht hk hv (q _ fr)) fun cenv s4 h4=>?_;refine codeAny_mono h4 fun r s5 ⟨H5,hr,I5,⟨m,hn⟩,f5,q5⟩=>?_;subst hr;refine⟨m,hn,fun h' hs'=>?_⟩;have I6:Inv X p_ σ H5 {s5 with heap:=h',toks:=s5.toks}:=I5.turned (it:=cenv.locals) (fun b o hb e=>(hs'.2 b hb).trans e) f5.1 f5.2.1 f5.2.2.2.1 f5.2.2.2.2.1 f5.2.2.2.2.2;exact⟨.ref s2.heap.objs.size,H5,I6,rfl,q5⟩
end
def tbD (tt:TT) (tk tv:TE) (D:Addr):TS:=fun E σ H=>tt σ H fun b H4=>eX b (tk σ H4 fun y H5=>tv σ H5 fun z H6=>∃kvs k b,H6 D=some (.dT kvs)∧y = .ref b∧H6 b=some (.tup (k.map kV))∧kvs.length<sizeLine∧E.nx σ (upd H6 D (.dT (putK kvs k z)))) (E.nx σ H4) ⟨0⟩
@[simp ↓] theorem qd9 (tt:TT) (tk tv:TE) (D:Addr) (E:Ends) (σ:St) (H:Hp):tbD tt tk tv D E σ H=(tt σ H fun b H4=>eX b (tk σ H4 fun y H5=>tv σ H5 fun z H6=>∃kvs k b,H6 D=some (.dT kvs)∧y = .ref b∧H6 b=some (.tup (k.map kV))∧kvs.length<sizeLine∧E.nx σ (upd H6 D (.dT (putK kvs k z)))) (E.nx σ H4) ⟨0⟩):=rfl
@[simp ↓] theorem qao (own:List Str) (caps:List Nat) (wi:TI) (g:TG) (tt:TT) (tk tv:TE) (σ:St) (H:Hp) (Q:VK) :
    OJ own caps wi g tt tk tv σ H Q=wi σ H fun J H1=>∀D,H1 D=none→Qz J g (tbD tt tk tv D) (Xr (Q (.ref D))) ⟨0⟩ (stC own caps σ) (upd H1 D (.dT [])):=rfl
end L2
namespace L2
section
variable {α:Type} [DecidableEq α]
def cP (f:List α→Int):List α→Int
  | []=>f []
  | x::l=>cP f l+cP (fun u=>f (x::u)) l
theorem bY {f g:List α→Int}:∀{l:List α},(∀u,u.Sublist l→f u=g u)→cP f l=cP g l
  | [],h=>h [] (List.Sublist.refl _)
  | x::l,h=>by
    simp only[cP];rw[bY (l:=l) fun u hu=>h u (hu.cons x),bY (l:=l) (f:=fun u=>f (x::u)) fun u hu=>h _ (hu.cons_cons x)]
theorem jN:∀{l:List α},cP (fun _=>0) l=0
  | []=>rfl
  | x::l=>by simp only[cP];rw[jN];rfl
theorem sO {f g:List α→Int}:∀{l:List α},cP (fun u=>f u+g u) l=cP f l+cP g l
  | []=>rfl
  | x::l=>by
    simp only[cP];rw[sO (f:=f) (g:=g),sO (f:=fun u=>f (x::u)) (g:=fun u=>g (x::u))];omega
theorem kW (p:α→Bool):∀{l:List α} {f:List α→Int},cP (fun u=>if u.all p=true then f u else 0) l=cP f (l.filter p)
  | [],f=>by simp[cP]
  | x::l,f=>by
    simp only[cP,List.filter_cons];cases hx:p x with
    | true=>
      rw[if_pos rfl];simp only[cP];rw[kW p (f:=f),← kW p (f:=fun u=>f (x::u))];congr 1;refine bY fun u _=>?_;simp[hx]
    | false=>
      rw[if_neg (by simp),kW p (f:=f)];have:cP (fun u=>if (x::u).all p=true then f (x::u) else 0) l=cP (fun _=>0) l:=bY fun u _=>by simp[hx]
      rw[this,jN];omega
theorem ug (x:α):∀{l:List α} {f:List α→Int},cP f (l++[x])=cP f l+cP (fun u=>f (u++[x])) l
  | [],f=>by simp[cP]
  | y::l,f=>by
    simp only[List.cons_append,cP];rw[ug x (f:=f),ug x (f:=fun u=>f (y::u))];omega
def iw (f:List α→Int) (c:List α):Int:=cP (fun u=>if u=[]∨u.length=c.length then 0 else f u) c
theorem Jc {u c:List α} (h:u.Sublist c) (hl:u.length=c.length):u=c:=h.eq_of_length hl
theorem DW {z:Int}:∀{l:List α},cP (fun u=>if u=[] then z else 0) l=z
  | []=>by simp[cP]
  | x::l=>by
    simp only[cP];rw[DW];have:cP (fun u:List α=>if x::u=[] then z else 0) l=cP (fun _=>0) l:=bY fun u _=>by simp
    rw[this,jN];omega
theorem DX {z:Int}:∀{l:List α},cP (fun u=>if u.length=l.length then z else 0) l=z
  | []=>by simp[cP]
  | x::l=>by
    simp only[cP];have h1:cP (fun u=>if u.length=(x::l).length then z else 0) l=cP (fun _=>0) l:=bY fun u hu=>by
      have:=hu.length_le;rw[if_neg (by simp;omega)]
    have h2:cP (fun u=>if (x::u).length=(x::l).length then z else 0) l=cP (fun u=>if u.length=l.length then z else 0) l:=bY fun u hu=>by simp
    rw[h1,h2,jN,DX];omega
theorem wN {f:List α→Int} {c:List α} (hc:c≠[]):cP f c=f []+f c+iw f c:=by
  unfold iw;have e:cP f c=cP (fun u=>(if u=[] then f [] else 0)+((if u.length=c.length then f c else 0)+(if u=[]∨u.length=c.length then 0 else f u))) c:=bY fun u hu=>by
    by_cases h1:u=[]
    ·subst h1;have:¬([]:List α).length=c.length:=fun z=>hc (List.eq_nil_of_length_eq_zero z.symm);rw[if_pos rfl,if_neg this,if_pos (.inl rfl)];omega
    · by_cases h2:u.length=c.length
      ·have:=Jc hu h2;subst this;rw[if_neg h1,if_pos rfl,if_pos (.inr rfl)];omega
      ·rw[if_neg h1,if_neg h2,if_neg (by simp[h1,h2])];omega
  rw[e,sO,sO,DW,DX];omega
theorem fj {f g:List α→Int} {c:List α} (h:∀u,u.Sublist c→u≠[]→u.length<c.length→f u=g u):iw f c=iw g c:=by
  unfold iw;refine bY fun u hu=>?_
  by_cases h1:u=[]∨u.length=c.length
  ·rw[if_pos h1,if_pos h1]
  ·rw[if_neg h1,if_neg h1];have:=hu.length_le;simp only[not_or] at h1;exact h u hu h1.1 (by omega)
def oE (n:Int) (e:α×α):α:=if n=0 then e.1 else e.2
def gE (n:Int) (e:α×α):α:=if n=0 then e.2 else e.1
def Arr (ns:List Int) (ps:List (α×α)) (a b:α):Prop:=∃(j:Nat) (n:Int) (e:α×α),ns[j]? = some n∧ps[j]? = some e∧oE n e=a∧gE n e=b
def wO:List Int→List (α×α)→List α→List α→Bool
  | n::ns,e::ps,c,u=>!(decide (oE n e∈c) && !decide (oE n e∈u) && decide (gE n e∈u)) && wO ns ps c u
  | _,_,_,_=>true
theorem kY {c u:List α}:∀{ns:List Int} {ps:List (α×α)},wO ns ps c u=true↔∀a b,Arr ns ps a b→a∈c→a∉u→b∉u
  | [],ps=>by
    simp only[wO,true_iff];rintro a b ⟨j,n,e,h,_⟩;simp at h
  | n::ns,[]=>by
    simp only[wO,true_iff];rintro a b ⟨j,m,e,_,h,_⟩;simp at h
  | n::ns,e::ps=>by
    have ih:=kY (c:=c) (u:=u) (ns:=ns) (ps:=ps);simp only[wO,Bool.and_eq_true,ih];constructor
    · rintro⟨h1,h2⟩ a b ⟨j,m,d,hj,hd,rfl,rfl⟩ hc hu hg;cases j with
      | zero=>
        simp at hj hd;subst hj hd;simp[hc,hu,hg] at h1
      | succ j=>exact h2 _ _ ⟨j,m,d,by simpa using hj,by simpa using hd,rfl,rfl⟩ hc hu hg
    · intro h;refine⟨?_,fun a b ⟨j,m,d,hj,hd,x,y⟩=>h a b ⟨j+1,m,d,by simpa using hj,by simpa using hd,x,y⟩⟩;have:=h _ _ ⟨0,n,e,rfl,rfl,rfl,rfl⟩
      by_cases h1:oE n e∈c <;> by_cases h2:oE n e∈u <;> by_cases h3:gE n e∈u <;> simp[h1,h2,h3]
      exact this h1 h2 h3
def Kv (ns:List Int) (ps:List (α×α)):Nat→List α→Int
  | 0,_=>0
  | n+1,c=>1 - iw (fun u=>if wO ns ps c u=true then Kv ns ps n u else 0) c
theorem zG {ns:List Int} {ps:List (α×α)}:∀(n m:Nat) (c:List α),c.length≤n→c.length≤m→c≠[]→Kv ns ps n c=Kv ns ps m c
  | 0,m,c,h,_,hc=>absurd (List.eq_nil_of_length_eq_zero (by omega)) hc
  | n+1,0,c,_,h,hc=>absurd (List.eq_nil_of_length_eq_zero (by omega)) hc
  | n+1,m+1,c,h1,h2,hc=>by
    simp only[Kv];congr 1;refine fj fun u hu h0 hl=>?_;rw[zG n m u (by omega) (by omega) h0]
def lX (ns:List Int) (ps:List (α×α)) (c:List α):Int:=Kv ns ps c.length c
theorem pX {ns:List Int} {ps:List (α×α)} {c:List α} (hc:c≠[]):lX ns ps c=1 - iw (fun u=>if wO ns ps c u=true then lX ns ps u else 0) c:=by
  unfold lX;cases hl:c.length with
  | zero=>exact absurd (List.eq_nil_of_length_eq_zero hl) hc
  | succ n=>
    simp only[Kv];congr 1;refine fj fun u hu h0 hlt=>?_;rw[zG n u.length u (by omega) (Nat.le_refl _) h0]
inductive uh (ns:List Int) (ps:List (α×α)) (c:List α):α→α→Prop where
  | refl (a:α):uh ns ps c a a
  | tail {a b d:α}:uh ns ps c a b→Arr ns ps b d→d∈c→uh ns ps c a d
theorem uh.mono {ns:List Int} {ps:List (α×α)} {c d:List α} (h:∀x∈c,x∈d) {a b:α} (r:uh ns ps c a b):uh ns ps d a b:=by
  induction r with
  | refl=>exact .refl _
  | tail _ s m ih=>exact .tail ih s (h _ m)
open Classical in
theorem DY {ns:List Int} {ps:List (α×α)}:∀(n:Nat) (c:List α),c.length≤n→∀x y,x∈c→y∈c→Arr ns ps x y→¬uh ns ps c y x→lX ns ps c=0
  | 0,c,h,x,y,hx,_,_,_=>by
    have:=List.eq_nil_of_length_eq_zero (show c.length=0 by omega);subst this;cases hx
  | n+1,c,h,x,y,hx,hy,hxy,hno=>by
    have hc:c≠[]:=fun z=>by rw[z] at hx;cases hx
    rw[pX hc]
    let p:α→Bool:=fun z=>!decide (uh ns ps c y z)
    have hpx:p x=true:=by simp[p,hno]
    have hpy:p y=false:=by simp[p,uh.refl]
    have hd:c.filter p≠[]:=fun z=>by
      have:x∈c.filter p:=List.mem_filter.mpr ⟨hx,hpx⟩;rw[z] at this;cases this
    have hdl:(c.filter p).length<c.length:=by
      rw[List.length_filter_lt_length_iff_exists];exact⟨y,hy,by simp[hpy]⟩
    have hd2:=pX (ns:=ns) (ps:=ps) hd;have e1:iw (fun u=>if wO ns ps c u=true then lX ns ps u else 0) c=cP (fun u=>if u.all p=true then (if u=[] then 0 else if wO ns ps (c.filter p) u=true then lX ns ps u else 0) else 0) c:=by
      unfold iw;refine bY fun u hu=>?_
      by_cases h0:u=[]
      ·subst h0;simp
      · by_cases hl:u.length=c.length
        ·have:=Jc hu hl;subst this;rw[if_pos (.inr rfl),if_neg];intro z;have:=List.all_eq_true.mp z y hy;rw[hpy] at this;cases this
        · rw[if_neg (by simp[h0,hl])];dsimp only;have hlt:u.length<c.length:=by have:=hu.length_le;omega
          by_cases ha:u.all p=true
          · rw[if_pos ha,if_neg h0];have:wO ns ps c u=wO ns ps (c.filter p) u:=by
              rw[Bool.eq_iff_iff,kY,kY];constructor
              ·intro z a b hab ha' yr;exact z a b hab (List.mem_filter.mp ha').1 yr
              · intro z a b hab ha' yr GR;have pb:=List.all_eq_true.mp ha b GR
                by_cases pa:p a=true
                ·exact z a b hab (List.mem_filter.mpr ⟨ha',pa⟩) yr GR
                · have ra:uh ns ps c y a:=by simpa [p] using pa
                  have rb:uh ns ps c y b:=.tail ra hab (hu.subset GR);simp[p,rb] at pb
            rw[this]
          · rw[if_neg ha]
            by_cases hcl:wO ns ps c u=true
            · rw[if_pos hcl];have hcl':=kY.mp hcl;obtain⟨z,hzu,hz⟩:∃z∈u,uh ns ps c y z:=by
                have:u.all p=false:=by simpa using ha
                rw[List.all_eq_false] at this;obtain⟨z,hz,hpz⟩:=this;exact⟨z,hz,by simpa [p] using hpz⟩
              have back:∀z,uh ns ps c y z→z∈u→y∈u:=by
                intro z r
                induction r with
                | refl=>exact id
                | @tail b d r s m ih=>
                  intro hdu;refine ih ?_;apply Classical.byContradiction;intro GR;have hbc:b∈c:=by
                    cases r with
                    | refl=>exact hy
                    | tail _ _ m=>exact m
                  exact hcl' b d s hbc GR hdu
              have hyu:=back z hz hzu;have hxu:x∈u:=by
                apply Classical.byContradiction;intro hxu;exact hcl' x y hxy hx hxu hyu
              exact DY n u (by omega) x y hxu hyu hxy fun r=>hno (r.mono fun _ h=>hu.subset h)
            ·rw[if_neg hcl]
    rw[e1,kW p,wN hd];simp only[if_true];have e2:iw (fun u=>if u=[] then 0 else if wO ns ps (c.filter p) u=true then lX ns ps u else 0) (c.filter p)=iw (fun u=>if wO ns ps (c.filter p) u=true then lX ns ps u else 0) (c.filter p):=fj fun u hu h0 _=>by rw[if_neg h0]
    have e3:wO ns ps (c.filter p) (c.filter p)=true:=by
      rw[kY];intro a b _ h1 h2;exact absurd h1 h2
    rw[e2,if_neg hd,if_pos e3];omega
theorem uh.trans {ns:List Int} {ps:List (α×α)} {c:List α} {a b d:α} (h:uh ns ps c a b) (k:uh ns ps c b d):uh ns ps c a d:=by
  induction k with
  | refl=>exact h
  | tail _ s m ih=>exact .tail ih s m
theorem Kw {f:List α→Int} {c:List α} (h:∀u,u.Sublist c→u≠[]→u.length<c.length→f u=0):iw f c=0:=by
  have:iw f c=iw (fun _=>0) c:=fj h;rw[this];unfold iw;rw[← jN (l:=c)];exact bY fun u _=>by split <;> simp[jN]
theorem Xu {u c:List α} (nd:c.Nodup) (h:∀x∈c,x∈u):c.length≤u.length:=by
  induction c generalizing u with
  | nil=>simp
  | cons x l ih=>
    have nd':=List.nodup_cons.mp nd;have h1:=ih (u:=u.erase x) nd'.2 fun y hy=>by
      have:y≠x:=fun z=>nd'.1 (z▸hy);exact(List.mem_erase_of_ne this).mpr (h y (List.mem_cons_of_mem _ hy))
    have h2:=List.length_erase_of_mem (h x List.mem_cons_self);have h3:=List.length_pos_of_mem (h x List.mem_cons_self);simp only[List.length_cons];omega
theorem own_one {ns:List Int} {ps:List (α×α)} {c:List α} (nd:c.Nodup) (hc:c≠[]) (h:∀x∈c,∀y∈c,uh ns ps c x y):lX ns ps c=1:=by
  rw[pX hc,Kw fun u hu h0 hl=>?_]
  ·rfl
  · refine if_neg fun z=>?_;have hcl:=kY.mp z;obtain⟨a,ha,yr⟩:∃a∈c,a∉u:=by
      apply Classical.byContradiction;intro hno;have:=Xu nd fun x hx=>Classical.byContradiction fun hxu=>hno ⟨x,hx,hxu⟩;omega
    obtain⟨b,hb⟩:=List.exists_mem_of_ne_nil u h0;have key:∀b,uh ns ps c a b→b∉u:=fun b r=>by
      induction r with
      | refl=>exact yr
      | @tail b d r s m ih=>
        have hbc:b∈c:=by
          cases r with
          | refl=>exact ha
          | tail _ _ m=>exact m
        exact hcl b d s hbc ih
    exact key b (h a ha b (hu.subset hb)) hb
theorem Sh {ns:List Int} {ps:List (α×α)} {c:List α} (he:∀a b,Arr ns ps a b→a∈c∧b∈c) (hj:∀x∈c,∀y∈c,RT (fun a b=>Arr ns ps a b∨Arr ns ps b a) x y) {x y:α} (hx:x∈c) (hy:y∈c) (hno:¬uh ns ps c x y):lX ns ps c=0:=by
  by_cases h:∃a b,Arr ns ps a b∧¬uh ns ps c b a
  ·obtain⟨a,b,hab,hba⟩:=h;exact DY c.length c (Nat.le_refl _) a b (he a b hab).1 (he a b hab).2 hab hba
  · refine absurd ?_ hno;have hb:∀a b,Arr ns ps a b→uh ns ps c b a:=fun a b hab=>Classical.byContradiction fun z=>h ⟨a,b,hab,z⟩;have key:∀z,RT (fun a b=>Arr ns ps a b∨Arr ns ps b a) x z→uh ns ps c x z:=fun z r=>by
      induction r with
      | refl=>exact .refl _
      | tail _ st ih=>
        rcases st with st | st
        ·exact .tail ih st (he _ _ st).2
        ·exact ih.trans (hb _ _ st)
    exact key y (hj x hx y hy)
def cC:Nat→List (List Int)
  | 0=>[[]]
  | m+1=>(cC m).flatMap fun r=>[r++[0],r++[1]]
def gK (m:Nat) (f:List Int→Int):Int:=((cC m).map f).sum
theorem iR:∀{m:Nat} {r:List Int},r∈cC m→r.length=m∧∀n∈r,n=0∨n=1
  | 0,r,h=>by
    simp[cC] at h;subst h;simp
  | m+1,r,h=>by
    simp only[cC] at h;obtain⟨q,hq,hr⟩:=List.mem_flatMap.mp h;obtain⟨h1,h2⟩:=iR hq;simp at hr
    rcases hr with rfl | rfl
    · refine⟨by simp[h1],fun n hn=>?_⟩
      rcases List.mem_append.mp hn with hn | hn
      ·exact h2 n hn
      ·simp at hn;exact .inl hn
    · refine⟨by simp[h1],fun n hn=>?_⟩
      rcases List.mem_append.mp hn with hn | hn
      ·exact h2 n hn
      ·simp at hn;exact .inr hn
theorem D_ (f:List Int→Int):∀l:List (List Int),((l.flatMap fun r=>[r++[0],r++[1]]).map f).sum=(l.map fun r=>f (r++[0])+f (r++[1])).sum
  | []=>rfl
  | r::l=>by
    have:=D_ f l;simp only[List.flatMap_cons,List.map_append,List.map_cons,List.map_nil,List.sum_append,List.sum_cons,List.sum_nil];rw[this];omega
theorem um {m:Nat} {f:List Int→Int}:gK (m+1) f=gK m fun r=>f (r++[0])+f (r++[1]):=D_ f (cC m)
theorem jW {m:Nat} {f g:List Int→Int} (h:∀r∈cC m,f r=g r):gK m f=gK m g:=by
  unfold gK;rw[List.map_congr_left h]
theorem Jd (k:Int) (f:List Int→Int):∀l:List (List Int),(l.map fun r=>k * f r).sum=k * (l.map f).sum
  | []=>by simp
  | r::l=>by
    have:=Jd k f l;simp only[List.map_cons,List.sum_cons];rw[this,Int.mul_add]
theorem Ea {m:Nat} {k:Int} {f:List Int→Int}:gK m (fun r=>k * f r)=k * gK m f:=Jd k f _
theorem sum_add (f g:List Int→Int):∀l:List (List Int),(l.map fun r=>f r+g r).sum=(l.map f).sum+(l.map g).sum
  | []=>rfl
  | r::l=>by
    have:=sum_add f g l;simp only[List.map_cons,List.sum_cons];rw[this];omega
theorem wQ {m:Nat} {f g:List Int→Int}:gK m (fun r=>f r+g r)=gK m f+gK m g:=sum_add f g _
theorem Ky {m:Nat}:gK m (fun _=>0)=0:=by
  unfold gK
  induction cC m with
  | nil=>rfl
  | cons r l ih=>simp only[List.map_cons,List.sum_cons];rw[ih];rfl
theorem Eb:∀{m:Nat},gK m (fun _=>1)=2 ^ m
  | 0=>rfl
  | m+1=>by
    rw[um,wQ,Eb,Int.pow_succ];omega
theorem half:∀{m t:Nat},t<m→∀{v:Int},v=0∨v=1→∀{g:List Int→Int},(∀r∈cC m,∀b:Int,b=0∨b=1→g (r.set t b)=g r)→2 * gK m (fun r=>if r[t]? = some v then g r else 0)=gK m g
  | 0,t,h,_,_,_,_=>by omega
  | m+1,t,h,v,hv,g,hg=>by
    have mem:∀{r:List Int} {b:Int},r∈cC m→b=0∨b=1→r++[b]∈cC (m+1):=fun {r b} hr hb=>by
      simp only[cC];exact List.mem_flatMap.mpr ⟨r,hr,by rcases hb with rfl | rfl <;> simp⟩
    rw[um,um]
    by_cases ht:t=m
    · subst ht;rw[← Ea];refine jW fun r hr=>?_;have hl:=(iR hr).1;have e:∀b:Int,(r++[b])[t]? = some b:=fun b=>by
        rw[List.getElem?_append_right (by omega),hl,Nat.sub_self];rfl
      have s:∀a b:Int,(r++[a]).set t b=r++[b]:=fun a b=>by
        rw[List.set_append_right _ _ (by omega),hl,Nat.sub_self];rfl
      have e1:=hg _ (mem hr (.inl rfl)) 1 (.inr rfl);rw[s] at e1;simp only[e]
      rcases hv with rfl | rfl
      ·simp;omega
      ·simp;omega
    · have ih:=half (m:=m) (t:=t) (by omega) hv (g:=fun r=>g (r++[0])+g (r++[1])) fun r hr b hb=>by
        have hl:=(iR hr).1;have s:∀a:Int,(r.set t b)++[a]=(r++[a]).set t b:=fun a=>by rw[List.set_append_left _ _ (by omega)]
        show g (r.set t b++[0])+g (r.set t b++[1])=_;rw[s,s,hg _ (mem hr (.inl rfl)) b hb,hg _ (mem hr (.inr rfl)) b hb]
      rw[← ih];congr 1;refine jW fun r hr=>?_;have hl:=(iR hr).1;have e:∀b:Int,(r++[b])[t]? = r[t]?:=fun b=>List.getElem?_append_left (by omega);simp only[e];split <;> simp
theorem many {m:Nat} {v:Nat→Int} (hv:∀t,v t=0∨v t=1):∀{C:List Nat},C.Nodup→(∀t∈C,t<m)→∀{g:List Int→Int},(∀t∈C,∀r∈cC m,∀b:Int,b=0∨b=1→g (r.set t b)=g r)→
    2 ^ C.length * gK m (fun r=>if (C.all fun t=>decide (r[t]? = some (v t)))=true then g r else 0)=gK m g
  | [],_,_,g,_=>by simp
  | t::C,nd,hm,g,hg=>by
    have nd':=List.nodup_cons.mp nd;have ih:=many hv (C:=C) nd'.2 (fun t ht=>hm t (List.mem_cons_of_mem _ ht)) (g:=g) fun t ht=>hg t (List.mem_cons_of_mem _ ht);have h1:=half (hm t List.mem_cons_self) (hv t) (g:=fun r=>if (C.all fun t=>decide (r[t]? = some (v t)))=true then g r else 0) fun r hr b hb=>by
      have e:(C.all fun t'=>decide ((r.set t b)[t']? = some (v t')))=C.all fun t'=>decide (r[t']? = some (v t')):=by
        rw[Bool.eq_iff_iff,List.all_eq_true,List.all_eq_true];have:∀t'∈C,(r.set t b)[t']? = r[t']?:=fun t' ht'=>List.getElem?_set_ne (fun z:t=t'=>nd'.1 (by rw[z];exact ht'));exact⟨fun z t' h=>by rw[← this t' h];exact z t' h,fun z t' h=>by rw[this t' h];exact z t' h⟩
      show(if _ then g (r.set t b) else 0)=_
      rw[e,hg t List.mem_cons_self r hr b hb]
    rw[← ih,← h1,List.length_cons,Int.pow_succ,Int.mul_assoc];congr 2;refine jW fun r hr=>?_
    by_cases h:r[t]? = some (v t) <;> simp[h]
def eN (c:List α):List (α×α)→Nat
  | []=>0
  | e::ps=>(if e.1∈c∧e.2∈c then 1 else 0)+eN c ps
def jF (c u:List α):List α:=c.filter fun y=>!decide (y∈u)
def Bh (c u:List α) (e:α×α):Bool:=(decide (e.1∈u) && decide (e.2∈c) && !decide (e.2∈u)) || (decide (e.2∈u) && decide (e.1∈c) && !decide (e.1∈u))
def qw (c u:List α):List (α×α)→Nat→List Nat
  | [],_=>[]
  | e::ps,i=>(if Bh c u e=true then [i] else [])++qw c u ps (i+1)
theorem mV {c u:List α} {t:Nat}:∀{ps:List (α×α)} {i:Nat},t∈qw c u ps i↔i≤t∧∃e,ps[t - i]? = some e∧Bh c u e=true
  | [],i=>by simp[qw]
  | e::ps,i=>by
    have ih:=mV (c:=c) (u:=u) (t:=t) (ps:=ps) (i:=i+1);simp only[qw,List.mem_append];rw[ih];constructor
    · rintro(h | ⟨h1,d,h2,h3⟩)
      · by_cases hc:Bh c u e=true
        ·rw[if_pos hc,List.mem_singleton] at h;subst h;exact⟨Nat.le_refl _,e,by simp,hc⟩
        ·rw[if_neg hc] at h;cases h
      ·refine⟨by omega,d,?_,h3⟩;rw[show t - i=(t - (i+1))+1 by omega,List.getElem?_cons_succ];exact h2
    · rintro⟨h1,d,h2,h3⟩
      by_cases hti:t=i
      · subst hti;rw[Nat.sub_self] at h2;simp at h2;subst h2
        refine Or.inl ?_
        rw[if_pos h3];simp
      · refine Or.inr ?_
        refine⟨by omega,d,?_,h3⟩;rw[show t - i=(t - (i+1))+1 by omega,List.getElem?_cons_succ] at h2;exact h2
theorem O4 {c u:List α}:∀{ps:List (α×α)} {i:Nat},(qw c u ps i).Nodup
  | [],i=>by simp[qw]
  | e::ps,i=>by
    have ih:=O4 (c:=c) (u:=u) (ps:=ps) (i:=i+1);simp only[qw]
    by_cases hc:Bh c u e=true
    ·rw[if_pos hc];show(i::qw c u ps (i+1)).Nodup;rw[List.nodup_cons];refine⟨fun z=>?_,ih⟩;have:=(mV.mp z).1;omega
    ·rw[if_neg hc];exact ih
theorem Ec {c u:List α} (h:∀x∈u,x∈c):∀{ps:List (α×α)} {i:Nat},eN c ps=eN u ps+eN (jF c u) ps+(qw c u ps i).length
  | [],i=>rfl
  | e::ps,i=>by
    have ih:=Ec h (ps:=ps) (i:=i+1);simp only[eN,qw,List.length_append];rw[ih];have m:∀x,x∈jF c u↔x∈c∧x∉u:=fun x=>by simp[jF]
    have h1:=h e.1;have h2:=h e.2;simp only[m,Bh]
    by_cases a1:e.1∈u <;> by_cases a2:e.2∈u <;> by_cases b1:e.1∈c <;> by_cases b2:e.2∈c <;> simp_all <;> omega
theorem O5 (c:List α):∀ps:List (α×α),eN c ps≤ps.length
  | []=>Nat.le_refl _
  | e::ps=>by
    have:=O5 c ps;simp only[eN,List.length_cons];split <;> omega
def vC (u:List α) (ps:List (α×α)) (t:Nat):Int:=match ps[t]? with
  | some e=>if e.1∈u then 0 else 1
  | none=>0
theorem qap (u:List α) (ps:List (α×α)) (t:Nat):vC u ps t=0∨vC u ps t=1:=by
  unfold vC;split
  · split
    ·exact .inl rfl
    ·exact .inr rfl
  ·exact .inl rfl
theorem Ss {c u:List α} {ps:List (α×α)} (hu:∀x∈u,x∈c) {r:List Int} (hr:r∈cC ps.length):wO r ps c u=(qw c u ps 0).all fun t=>decide (r[t]? = some (vC u ps t)):=by
  obtain⟨hl,h01⟩:=iR hr;rw[Bool.eq_iff_iff,kY,List.all_eq_true];constructor
  · intro h t ht;rw[decide_eq_true_eq];obtain⟨_,e,he,hc⟩:=mV.mp ht;rw[Nat.sub_zero] at he;have hti:t<ps.length:=(List.getElem?_eq_some_iff.mp he).1;have hn:r[t]? = some (r[t]'(by omega)):=List.getElem?_eq_getElem (by omega);rw[hn];congr 1;have h2:=h _ _ ⟨t,_,e,hn,he,rfl,rfl⟩;have h3:=h01 _ (List.mem_of_getElem? hn);unfold vC;rw[he];dsimp only;unfold Bh at hc;unfold oE gE at h2;generalize (r[t]'(by omega))=n at h2 h3
    rcases h3 with rfl | rfl
    · by_cases a1:e.1∈u
      ·rw[if_pos a1]
      ·exfalso;simp[a1] at hc;have:=h2 (by simpa using hc.2) (by simpa using a1);simp at this;exact this hc.1
    · by_cases a1:e.1∈u
      ·exfalso;have b1:=hu _ a1;simp[a1,b1] at hc;have:=h2 (by simpa using hc.1) (by simpa using hc.2);simp at this;exact this a1
      ·rw[if_neg a1]
  · intro h a b ⟨j,n,e,hj,he,ha,hb⟩ hac yr GR;subst ha hb;have hc:Bh c u e=true:=by
      unfold Bh;unfold oE at hac yr;unfold gE at GR
      by_cases hn:n=0
      ·rw[if_pos hn] at hac yr GR;simp[hac,yr,GR]
      ·rw[if_neg hn] at hac yr GR;simp[hac,yr,GR]
    have h1:=h j (mV.mpr ⟨Nat.zero_le _,e,by rw[Nat.sub_zero];exact he,hc⟩);rw[decide_eq_true_eq,hj] at h1;have h2:=Option.some.inj h1;unfold vC at h2;rw[he] at h2;dsimp only at h2;unfold oE at yr;unfold gE at GR
    by_cases hn:n=0
    ·rw[if_pos hn] at yr GR;rw[if_neg yr,hn] at h2;cases h2
    ·rw[if_neg hn] at yr GR;rw[if_pos GR] at h2;exact hn h2
theorem zH {ps:List (α×α)} {t:Nat} {e:α×α} (he:ps[t]? = some e) {b:Int} {r:List Int}:∀(n:Nat) (u:List α),u.length≤n→¬(e.1∈u∧e.2∈u)→lX (r.set t b) ps u=lX r ps u
  | 0,u,h,_=>by
    have:=List.eq_nil_of_length_eq_zero (show u.length=0 by omega);subst this;rfl
  | n+1,u,h,hn=>by
    by_cases h0:u=[]
    ·subst h0;rfl
    rw[pX h0,pX h0];congr 1;refine fj fun w hw hw0 hwl=>?_;have e1:wO (r.set t b) ps u w=wO r ps u w:=by
      have key:∀{p q:List Int},(∀j,j≠t→p[j]? = q[j]?)→wO p ps u w=true→wO q ps u w=true:=fun {p q} hpq hp=>by
        rw[kY] at hp ⊢;rintro a d ⟨j,m,f,hj,hf,rfl,rfl⟩ yr haw hdw
        by_cases hjt:j=t
        · subst hjt;rw[he] at hf;cases hf;refine hn ?_;have hdu:=hw.subset hdw;unfold oE at yr;unfold gE at hdu
          by_cases hm:m=0
          ·rw[if_pos hm] at yr hdu;exact⟨yr,hdu⟩
          ·rw[if_neg hm] at yr hdu;exact⟨hdu,yr⟩
        ·exact hp _ _ ⟨j,m,f,by rw[hpq j hjt];exact hj,hf,rfl,rfl⟩ yr haw hdw
      rw[Bool.eq_iff_iff];exact⟨key fun j hj=>List.getElem?_set_ne (fun z=>hj z.symm),key fun j hj=>(List.getElem?_set_ne (fun z=>hj z.symm)).symm⟩
    rw[e1,zH he n w (by omega) fun z=>hn ⟨hw.subset z.1,hw.subset z.2⟩]
theorem uo {m:Nat}:∀{c:List α} {f:List Int→List α→Int},gK m (fun r=>cP (f r) c)=cP (fun u=>gK m fun r=>f r u) c
  | [],f=>rfl
  | x::c,f=>by
    simp only[cP];rw[wQ,uo,uo (f:=fun r u=>f r (x::u))]
theorem Kz {m:Nat} {c:List α} {f:List Int→List α→Int}:gK m (fun r=>iw (f r) c)=iw (fun u=>gK m fun r=>f r u) c:=by
  unfold iw;rw[uo];refine bY fun u _=>?_
  by_cases h:u=[]∨u.length=c.length
  ·simp only[if_pos h];exact Ky
  ·simp only[if_neg h]
theorem wR (k:Int):∀{c:List α} {f:List α→Int},cP (fun u=>f u * k) c=cP f c * k
  | [],f=>rfl
  | x::c,f=>by
    simp only[cP];rw[wR k,wR k (f:=fun u=>f (x::u)),Int.add_mul]
theorem O6 {c:List α} {f:List α→Int} {k:Int}:iw (fun u=>f u * k) c=iw f c * k:=by
  unfold iw;rw[← wR];refine bY fun u _=>?_
  by_cases h:u=[]∨u.length=c.length
  ·rw[if_pos h,if_pos h,Int.zero_mul]
  ·rw[if_neg h,if_neg h]
theorem Je {ps:List (α×α)} {xs:List α} {own:List α→Int} (hown:∀c,c.Sublist xs→c≠[]→own c=2 ^ eN c ps - iw (fun u=>own u * 2 ^ eN (jF c u) ps) c) :
    ∀(n:Nat) (c:List α),c.length≤n→c.Sublist xs→c≠[]→gK ps.length (fun r=>lX r ps c)=own c * 2 ^ (ps.length - eN c ps)
  | 0,c,h,_,hc=>absurd (List.eq_nil_of_length_eq_zero (by omega)) hc
  | n+1,c,h,hs,hc=>by
    have e0:gK ps.length (fun r=>lX r ps c)=gK ps.length (fun r=>1+(-1) * iw (fun u=>if wO r ps c u=true then lX r ps u else 0) c):=jW fun r hr=>by rw[pX hc];omega
    rw[e0,wQ,Eb,Ea,Kz];have hec:=O5 c ps;have e1:iw (fun u=>gK ps.length fun r=>if wO r ps c u=true then lX r ps u else 0) c=iw (fun u=>(own u * 2 ^ eN (jF c u) ps) * 2 ^ (ps.length - eN c ps)) c:=fj fun u hu h0 hl=>by
      have ih:=Je hown n u (by omega) (hu.trans hs) h0;have hsp:=Ec (c:=c) (u:=u) (fun x hx=>hu.subset hx) (ps:=ps) (i:=0);have hm:=many (m:=ps.length) (v:=vC u ps) (qap u ps) (C:=qw c u ps 0) O4 (fun t ht=>by
        obtain⟨_,e,he,_⟩:=mV.mp ht;rw[Nat.sub_zero] at he;exact(List.getElem?_eq_some_iff.mp he).1) (g:=fun r=>lX r ps u) fun t ht r hr b hb=>by
        obtain⟨_,e,he,hcr⟩:=mV.mp ht;rw[Nat.sub_zero] at he;refine zH he u.length u (Nat.le_refl _) fun z=>?_;unfold Bh at hcr;simp[z.1,z.2] at hcr
      have e2:gK ps.length (fun r=>if wO r ps c u=true then lX r ps u else 0)=gK ps.length (fun r=>if ((qw c u ps 0).all fun t=>decide (r[t]? = some (vC u ps t)))=true then lX r ps u else 0):=jW fun r hr=>by rw[Ss (fun x hx=>hu.subset hx) hr]
      rw[ih] at hm;rw[e2];generalize gK ps.length (fun r=>if ((qw c u ps 0).all fun t=>decide (r[t]? = some (vC u ps t)))=true then lX r ps u else 0)=Z at hm
      have hp:(2:Int) ^ (ps.length - eN u ps)=2 ^ (qw c u ps 0).length * (2 ^ eN (jF c u) ps * 2 ^ (ps.length - eN c ps)):=by
        rw[← Int.pow_add,← Int.pow_add];congr 1;omega
      rw[hp] at hm;have hne:(2:Int) ^ (qw c u ps 0).length≠0:=Int.pow_ne_zero (by decide);refine Int.eq_of_mul_eq_mul_left hne ?_;rw[hm];simp only[Int.mul_assoc,Int.mul_left_comm]
    rw[e1,O6,hown c hs hc];have hp:(2:Int) ^ ps.length=2 ^ eN c ps * 2 ^ (ps.length - eN c ps):=by
      rw[← Int.pow_add];congr 1;omega
    rw[hp,Int.sub_mul];omega
def KC (ps:List (α×α)):Nat→List α→Int
  | 0,_=>0
  | n+1,c=>2 ^ eN c ps - iw (fun u=>KC ps n u * 2 ^ eN (jF c u) ps) c
theorem zJ {ps:List (α×α)}:∀(n m:Nat) (c:List α),c.length≤n→c.length≤m→c≠[]→KC ps n c=KC ps m c
  | 0,m,c,h,_,hc=>absurd (List.eq_nil_of_length_eq_zero (by omega)) hc
  | n+1,0,c,_,h,hc=>absurd (List.eq_nil_of_length_eq_zero (by omega)) hc
  | n+1,m+1,c,h1,h2,hc=>by
    simp only[KC];congr 1;refine fj fun u hu h0 hl=>?_;rw[zJ n m u (by omega) (by omega) h0]
def yH (ps:List (α×α)) (c:List α):Int:=KC ps c.length c
theorem Jf {ps:List (α×α)} {c:List α} (hc:c≠[]):yH ps c=2 ^ eN c ps - iw (fun u=>yH ps u * 2 ^ eN (jF c u) ps) c:=by
  unfold yH;cases hl:c.length with
  | zero=>exact absurd (List.eq_nil_of_length_eq_zero hl) hc
  | succ n=>
    simp only[KC];congr 1;refine fj fun u hu h0 hlt=>?_;rw[zJ n u.length u (by omega) (Nat.le_refl _) h0]
theorem O7 {xs:List α}:∀{ps:List (α×α)},(∀e∈ps,e.1∈xs∧e.2∈xs)→eN xs ps=ps.length
  | [],_=>rfl
  | e::ps,h=>by
    have ih:=O7 (ps:=ps) fun d hd=>h d (List.mem_cons_of_mem _ hd);have he:=h e List.mem_cons_self;simp only[eN];rw[ih,if_pos he,List.length_cons];omega
theorem zK (f:List Int→Int) (p:List Int→Bool):∀l:List (List Int),(∀r∈l,f r=if p r=true then 1 else 0)→(l.map f).sum=((l.filter p).length:Int)
  | [],_=>rfl
  | r::l,h=>by
    have ih:=zK f p l fun q hq=>h q (List.mem_cons_of_mem _ hq);have h1:=h r List.mem_cons_self;simp only[List.map_cons,List.sum_cons,List.filter_cons];rw[ih,h1]
    by_cases hp:p r=true
    ·rw[if_pos hp,if_pos hp];simp;omega
    ·rw[if_neg hp,if_neg hp];omega
theorem Arr.ends {ns:List Int} {ps:List (α×α)} {xs:List α} (hp:∀e∈ps,e.1∈xs∧e.2∈xs) {a b:α} (h:Arr ns ps a b):a∈xs∧b∈xs:=by
  obtain⟨j,n,e,_,he,rfl,rfl⟩:=h;have:=hp e (List.mem_of_getElem? he);unfold oE gE;split
  ·exact this
  ·exact⟨this.2,this.1⟩
theorem count_is {ps:List (α×α)} {xs:List α} (nd:xs.Nodup) (h0:xs≠[]) (hp:∀e∈ps,e.1∈xs∧e.2∈xs) (hj:∀r∈cC ps.length,∀x∈xs,∀y∈xs,RT (fun a b=>Arr r ps a b∨Arr r ps b a) x y)
    (p:List Int→Bool) (hpr:∀r∈cC ps.length,p r=true↔∀x∈xs,∀y∈xs,uh r ps xs x y):yH ps xs=(((cC ps.length).filter p).length:Int):=by
  have h1:=Je (ps:=ps) (xs:=xs) (own:=yH ps) (fun c _ hc=>Jf hc) xs.length xs (Nat.le_refl _) (List.Sublist.refl _) h0;rw[O7 hp,Nat.sub_self] at h1;have h2:gK ps.length (fun r=>lX r ps xs)=(((cC ps.length).filter p).length:Int):=by
    unfold gK;refine zK _ p _ fun r hr=>?_
    by_cases hpp:p r=true
    ·rw[if_pos hpp];exact own_one nd h0 ((hpr r hr).mp hpp)
    · rw[if_neg hpp];have:¬∀x∈xs,∀y∈xs,uh r ps xs x y:=fun z=>hpp ((hpr r hr).mpr z);obtain⟨x,hx,y,hy,hno⟩:∃x,x∈xs∧∃y,y∈xs∧¬uh r ps xs x y:=by
        apply Classical.byContradiction;intro hn;exact this fun x hx y hy=>Classical.byContradiction fun z=>hn ⟨x,hx,y,hy,z⟩
      exact Sh (fun a b hab=>hab.ends hp) (hj r hr) hx hy hno
  rw[h2] at h1;rw[h1];simp
end
end L2
namespace L2
open PySem
def sS (T:List eY) (h:Str) (wh:List Nat) (R:BR):BR:=T.foldl (fun R s=>if s.2.1=h∧¬s.2.2∈R.map (·.1) then R++[(s.2.2,wh++[s.1])] else R) R
def uq (S:List eY) (a:Str):Nat→BR
  | 0=>[(a,[])]
  | n+1=>match (uq S a n)[n]? with
    | some x=>sS S x.1 x.2 (uq S a n)
    | none=>uq S a n
theorem GX (T:List eY) (s:eY) (h:Str) (wh:List Nat) (R:BR):sS (T++[s]) h wh R=if s.2.1=h∧¬s.2.2∈(sS T h wh R).map (·.1) then sS T h wh R++[(s.2.2,wh++[s.1])] else sS T h wh R:=by
  unfold sS;rw[List.foldl_append];rfl
theorem KD {S:List eY} {a:Str} {n:Nat} {h:Str} {wh:List Nat} (e:(uq S a n)[n]? = some (h,wh)):uq S a (n+1)=sS S h wh (uq S a n):=by
  show(match (uq S a n)[n]? with | some x=>sS S x.1 x.2 (uq S a n) | none=>uq S a n)=_
  rw[e]
def qdg (S:List eY) (a:Str) (R:BR):Prop:=uq S a R.length=R
def nj (H:Hp) (kvs:List (Key×V)):Prop:=∀kv∈kvs,∀p,kv.2 = .ref p→H p=none
theorem nj.snoc {H:Hp} {kvs:List (Key×V)} (h:nj H kvs) {k:Key} {p:Addr} (hp:H p=none):nj H (kvs++[(k,.ref p)]):=by
  intro kv hkv q hq
  rcases List.mem_append.mp hkv with z | z
  ·exact h kv z q hq
  ·simp at z;subst z;cases hq;exact hp
theorem Walk.in {S:List eY} {a y:Str} {k:Nat} (h:Walk S a k y) {xs:List Str} (ha:a∈xs) (hS:∀s∈S,s.2.2∈xs):y∈xs:=by
  cases h with
  | nil=>exact ha
  | snoc _ hs=>exact hS _ hs
def kZ (S:List eY) (f:List Str):Prop:=∀s∈S,s.2.1∈f→s.2.2∈f
structure Fw (S:List eY) (x:Str) (f:List Str):Prop where
  st:x∈f
  nd:f.Nodup
  rt:∀y∈f,RT (gO S) x y
theorem Fw.begin (S:List eY) (x:Str):Fw S x [x]:=⟨by simp,by simp,fun y hy=>by simp at hy;subst hy;exact .refl _⟩
theorem Fw.add {S:List eY} {x:Str} {f:List Str} (h:Fw S x f) {s:eY} (hs:s∈S) (h1:s.2.1∈f) (h2:¬s.2.2∈f):Fw S x (f++[s.2.2]):=by
  refine⟨List.mem_append_left _ h.st,?_,fun y hy=>?_⟩
  ·rw[List.nodup_append];exact⟨h.nd,by simp,fun a ha b hb=>by simp at hb;subst hb;exact fun z=>h2 (z▸ha)⟩
  · rcases List.mem_append.mp hy with z | z
    ·exact h.rt y z
    ·simp at z;subst z;exact .tail (h.rt _ h1) ⟨s.1,hs⟩
theorem Fw.closed {S:List eY} {x:Str} {f:List Str} (h:Fw S x f) (hc:kZ S f) (y:Str):y∈f↔RT (gO S) x y:=by
  refine⟨h.rt y,fun q=>?_⟩
  induction q with
  | refl=>exact h.st
  | tail _ q ih=>
    obtain⟨n,hn⟩:=q;exact hc _ hn ih
theorem Fw.len {S:List eY} {x:Str} {f xs:List Str} (h:Fw S x f) (hx:x∈xs) (hS:∀s∈S,s.2.2∈xs):f.length≤xs.length:=
  gC h.nd fun y hy=>by
    obtain⟨k,hk⟩:=Walk.of (h.rt y hy);exact hk.in hx hS
structure dM (S T:List eY) (x:Str) (f0 f:List Str):Prop where
  r0:f0.Nodup
  r:Fw S x f
  sub:∀y∈f0,y∈f
  le:f0.length≤f.length
  md:∀s∈T,s.2.1∈f0→s.2.2∈f
  cl:kZ S f0→f=f0
theorem dM.enter {S:List eY} {x:Str} {f:List Str} (h:Fw S x f):dM S [] x f f:=⟨h.nd,h,fun _ z=>z,Nat.le_refl _,by simp,fun _=>rfl⟩
theorem dM.skip {S T:List eY} {x:Str} {f0 f:List Str} (h:dM S T x f0 f) {s:eY} (hs:s.2.1∈f→s.2.2∈f):dM S (T++[s]) x f0 f:=by
  refine⟨h.r0,h.r,h.sub,h.le,fun s' hs'=>?_,h.cl⟩
  rcases List.mem_append.mp hs' with z | z
  ·exact h.md s' z
  ·simp at z;subst z;exact fun q=>hs (h.sub _ q)
theorem dM.add {S T:List eY} {x:Str} {f0 f:List Str} (h:dM S T x f0 f) {s:eY} (hS:s∈S) (h1:s.2.1∈f) (h2:¬s.2.2∈f):dM S (T++[s]) x f0 (f++[s.2.2]):=by
  refine⟨h.r0,h.r.add hS h1 h2,fun y hy=>List.mem_append_left _ (h.sub y hy),by have:=h.le;simp;omega,fun s' hs' q=>?_,fun hc=>?_⟩
  · rcases List.mem_append.mp hs' with z | z
    ·exact List.mem_append_left _ (h.md s' z q)
    ·simp at z;subst z;exact List.mem_append_right _ (by simp)
  ·have:=h.cl hc;subst this;exact absurd (hc s hS h1) h2
theorem dM.leave {S:List eY} {x:Str} {f0 f:List Str} {i:Nat} (h:dM S S x f0 f) (h0:kZ S f0∨i+1≤f0.length):Fw S x f∧(kZ S f∨i+1+1≤f.length):=by
  refine⟨h.r,?_⟩
  by_cases hc:kZ S f0
  ·rw[h.cl hc];exact .inl hc
  · rcases h0 with z | z
    ·exact absurd z hc
    · refine .inr ?_;obtain⟨s,hs⟩:∃s,s∈S∧s.2.1∈f0∧¬s.2.2∈f0:=by
        by_cases q:∃s,s∈S∧s.2.1∈f0∧¬s.2.2∈f0
        ·exact q
        · exact absurd (fun s hs h1=>by
            by_cases w:s.2.2∈f0
            ·exact w
            ·exact absurd ⟨s,hs,h1,w⟩ q) hc
      have hg:=h.md s hs.1 hs.2.1
      by_cases w:i+1+1≤f.length
      ·exact w
      ·
        exfalso;have hle:=h.le;have hl:f.length=f0.length:=by omega
        have nd0:(s.2.2::f0).Nodup:=List.nodup_cons.mpr ⟨hs.2.2,h.r0⟩;have:=gC nd0 (xs:=f) fun y hy=>by
          rcases List.mem_cons.mp hy with z | z
          ·rw[z];exact hg
          ·exact h.sub y z
        simp at this;omega
open Classical in
theorem Fw.iu {S:List eY} {x:Str} {f xs:List Str} (h:Fw S x f) (hc:kZ S f) (nd:xs.Nodup) (hx:x∈xs) (hS:∀s∈S,s.2.2∈xs):f.length=(L2.iu S xs x).length:=by
  have h1:f.length≤(L2.iu S xs x).length:=gC h.nd fun y hy=>by
    rw[m9];have:=h.rt y hy;obtain⟨k,hk⟩:=Walk.of this;exact⟨hk.in hx hS,this⟩
  have h2:(L2.iu S xs x).length≤f.length:=by
    have nd2:(L2.iu S xs x).Nodup:=by
      unfold L2.iu;exact nd.filter _
    exact gC nd2 fun y hy=>(h.closed hc y).mpr (m9.mp hy).2
  omega
def fu (S:List eY) (xs ys:List Str):Option Str:=ys.find? fun x=>decide ((L2.iu S xs x).length<xs.length)
def restOf (S:List eY) (xs:List Str) (x:Str):List Str:=xs.filter fun y=>!decide (y∈L2.iu S xs x)
theorem Ed {S:List eY} {xs:List Str} {i:Nat} {x:Str} (h0:fu S xs (xs.take i)=none) (hx:xs[i]? = some x) (h:(L2.iu S xs x).length<xs.length):fu S xs xs=some x:=by
  have e:xs=xs.take i++x::xs.drop (i+1):=by
    have hi:=(List.getElem?_eq_some_iff.mp hx);obtain⟨h1,h2⟩:=hi;rw[← h2,List.getElem_cons_drop,List.take_append_drop]
  unfold fu at h0 ⊢;generalize hp:(fun x=>decide ((L2.iu S xs x).length<xs.length))=p at h0 ⊢;have hpx:p x=true:=by rw[← hp];exact decide_eq_true h
  conv=>lhs;arg 2;rw[e]
  rw[List.find?_append,h0];simp[List.find?_cons,hpx]
theorem Ef {S:List eY} {xs:List Str} {i:Nat} {x:Str} (h0:fu S xs (xs.take i)=none) (hx:xs[i]? = some x) (h:¬(L2.iu S xs x).length<xs.length):fu S xs (xs.take (i+1))=none:=by
  unfold fu at h0 ⊢;rw[List.take_add_one,hx,List.find?_append,h0];simp[List.find?_cons,h]
theorem Eh {S:List eY} {xs:List Str} (h:fu S xs xs=none):∀x∈xs,(L2.iu S xs x).length=xs.length:=by
  intro x hx;unfold fu at h;have:=List.find?_eq_none.mp h x hx;have h2:=vG (S:=S) (xs:=xs) (x:=x);simp at this;omega
end L2
namespace L2
open PySem
theorem qdh {m:Nat} (h:1≤m):(0:Int)<m:=by omega
theorem zlt {m b:Nat} {c:Int} (h:m≤b) (hb:(b:Int)<c):(m:Int)<c:=by omega
theorem zlo {f:Int} (h:0≤f) : -4611686018427387904≤f:=by omega
theorem qdi {f:Nat} : -4611686018427387904≤(f:Int):=by omega
theorem ztn {d:Int} {m b:Nat} (h0:0≤d) (h:d<m) (hb:m≤b):d.toNat+1≤b:=by omega
theorem qdj {d:Int} (h:0≤d) (c:Int):c+d=max d 0+c:=by omega
theorem zsz {a b:Nat} (h:a<b) (hb:b≤20):a<sizeLine:=Nat.lt_of_lt_of_le h (Nat.le_trans hb (of_eq_true yG))
theorem z01 {d:Int} (h:0≤d) (h2:d<2):d=0∨d=1:=by omega
theorem z2 {n:Nat} (h:(1:Int)<n):2≤n:=by omega
theorem zk1 {k t:Nat} (h:t≤k):(0:Int)<k - t+1:=by omega
theorem zk2 {k t:Nat} {c:Int} (h:k≤20) (hc:21<c):(k:Int) - t+1<c:=by omega
theorem zk3 {f:Int} {k t p:Nat} (h0:0≤f) (h:f<k - t+1) (e:t=p):p+f.toNat≤k+0:=by omega
theorem zk4 {t p f k i:Nat} (e:t=p) (h:p+f≤k+i) (hi:i<f) (hk:k≤20):t<sizeLine:=by
  have:=of_eq_true yG;omega
theorem zk5 {p f k i:Nat} (h:p+f≤k+i) (hi:i<f) (hk:k≤20):p≤19:=by omega
theorem zk6 {p f k i:Nat} (h:p+f≤k+i):p+1+f≤k+(i+1):=by omega
theorem zk7 {p f k:Nat} (h:p+f≤k+f):p≤k:=Nat.le_of_add_le_add_right h
theorem qdk {lo i n:Nat} (h:i<n - lo):lo+i<n:=by omega
theorem zpa (c:Int):0≤if 1000000000000000000<c then c - 1000000000000000000 else 0:=by split <;> omega
theorem zpb (c:Int) (k:Nat):0≤c % 2147483629+977 * (k:Int)+1:=by omega
theorem zpc (c:Int) {k:Nat} (h:k<100):c % 2147483629+977 * (k:Int)+1<4294967296:=by omega
theorem zs1 {s i t p:Nat} (h:s≤2 * i+1) (hi:i<t) (e:t=p) (hp:p≤20):s<sizeLine:=by
  have:60<sizeLine:=by decide
  omega
theorem zs2 {s i:Nat} (h:s≤2 * i+1):s+1≤2 * (i+1):=by omega
theorem zs3 {s t p:Nat} (h:s≤2 * t) (e:t=p) (hp:p≤20):s≤40:=by omega
end L2
namespace L2
open PySem PySem.Spec PyProof.Rows
mutual
def wU (H:Hp):PyData→V→Prop
  | .none,v=>v = .non
  | .bool b,v=>v = .bl b
  | .int i,v=>v = .int i
  | .str x,v=>v = .str x
  | .list ds,v=>∃a xs,v = .ref a∧H a=some (.lst xs)∧eE H ds xs
  | .tuple ds,v=>∃a xs,v = .ref a∧H a=some (.tup xs)∧eE H ds xs
  | .dict kvs,v=>kvs=[]∧∃a,v = .ref a∧H a=some (.dK [])
def eE (H:Hp):List PyData→List V→Prop
  | [],vs=>vs=[]
  | d::ds,vs=>∃v r,vs=v::r∧wU H d v∧eE H ds r
end
mutual
theorem wU.same {H H':Hp} (s:Same H H'):∀(d:PyData) (v:V),wU H d v→wU H' d v
  | .none,v,h=>by simp only[wU] at h ⊢;exact h
  | .bool b,v,h=>by simp only[wU] at h ⊢;exact h
  | .int i,v,h=>by simp only[wU] at h ⊢;exact h
  | .str x,v,h=>by simp only[wU] at h ⊢;exact h
  | .list ds,v,h=>by
    simp only[wU] at h ⊢;obtain⟨a,xs,e,h1,h2⟩:=h;exact⟨a,xs,e,s _ _ h1,eE.same s ds xs h2⟩
  | .tuple ds,v,h=>by
    simp only[wU] at h ⊢;obtain⟨a,xs,e,h1,h2⟩:=h;exact⟨a,xs,e,s _ _ h1,eE.same s ds xs h2⟩
  | .dict kvs,v,h=>by
    simp only[wU] at h ⊢;obtain⟨e0,a,e,h1⟩:=h;exact⟨e0,a,e,s _ _ h1⟩
theorem eE.same {H H':Hp} (s:Same H H'):∀(ds:List PyData) (vs:List V),eE H ds vs→eE H' ds vs
  | [],vs,h=>by simp only[eE] at h ⊢;exact h
  | d::ds,vs,h=>by
    simp only[eE] at h ⊢;obtain⟨v,r,e,h1,h2⟩:=h;exact⟨v,r,e,wU.same s d v h1,eE.same s ds r h2⟩
end
section
variable {X:Cx} {p_:List (Addr×Obj)} {σ:St} {H:Hp} {s:Shared} {K:W.Frag}
theorem GZ {P:Program} {w:World} {h:Heap} {a:Addr} (ok:qP P w H h) (e:H a=some (.dK [])):Reads h (.ref a) (.dict []) [a]∧(a == sysModules)=false:=by
  obtain⟨_,hd,vs,kv,o,es,ep,h1,h2,h3,_,h5,_⟩:=Nh ok e;refine⟨?_,hd⟩;have ev:vs=[]:=by cases kv;rfl
  subst ev;have el:es.toList=[]:=by
    generalize es.toList=l at h5;cases h5;rfl
  have:=Reads.dict (kvs:=[]) (as:=[]) (bs:=[]) h1 h2.1 h3 (by rw[el];exact .nil) (by rw[el];exact .nil);exact this
mutual
theorem wU.reads (I:Inv X p_ σ H s):∀(d:PyData) (v:V) (u:Value),wU H d v→RelV v u→∃as,Reads s.heap u d as
  | .none,v,u,h,r=>by
    simp only[wU] at h;subst h;cases r;exact⟨_,.none⟩
  | .bool b,v,u,h,r=>by
    simp only[wU] at h;subst h;cases r;exact⟨_,.bool b⟩
  | .int i,v,u,h,r=>by
    simp only[wU] at h;subst h;obtain⟨t,rfl⟩:=r;exact⟨_,.int i t⟩
  | .str x,v,u,h,r=>by
    simp only[wU] at h;subst h;obtain⟨t,rfl⟩:=r;exact⟨_,.str x t⟩
  | .list ds,v,u,h,r=>by
    simp only[wU] at h;obtain⟨a,xs,rfl,hq,hs⟩:=h;cases r;obtain⟨its,rv,pl,hz⟩:=I.list (aR.of hq);obtain⟨o,e,c,n,dt⟩:=pl.isList;obtain⟨as,ra⟩:=eE.reads I ds xs its hs rv;exact⟨_,.list e c dt (by simpa using ra)⟩
  | .tuple ds,v,u,h,r=>by
    simp only[wU] at h;obtain⟨a,xs,rfl,hq,hs⟩:=h;cases r;obtain⟨its,rv,pl,hz⟩:=I.tuple (eO.of hq);obtain⟨o,e,c,n,dt⟩:=pl;obtain⟨as,ra⟩:=eE.reads I ds xs its hs rv;exact⟨_,.tuple e c dt (by simpa using ra)⟩
  | .dict kvs,v,u,h,r=>by
    simp only[wU] at h;obtain⟨rfl,a,rfl,h1⟩:=h;cases r;exact⟨_,(GZ I.hok h1).1⟩
theorem eE.reads (I:Inv X p_ σ H s):∀(ds:List PyData) (vs:List V) (us:List Value),eE H ds vs→Vals vs us→∃as,ReadsAll s.heap us ds as
  | [],vs,us,h,r=>by
    simp only[eE] at h;subst h;cases r;exact⟨_,.nil⟩
  | d::ds,vs,us,h,r=>by
    simp only[eE] at h;obtain⟨v,vr,rfl,h1,h2⟩:=h;cases r with
    | cons r1 r2=>
      obtain⟨as,ra⟩:=wU.reads I d v _ h1 r1;obtain⟨bs,rb⟩:=eE.reads I ds vr _ h2 r2;exact⟨_,.cons ra rb⟩
end
end
structure qd_ (h0 h:Heap) (H:Hp) (a C:Addr) (od:Option Addr):Prop where
  new:h0.get? a=none
  un:H a=none
  ob:∃oe vs,h.get? a=some oe∧(oe.cls,oe.dict)=(Value.ref C,od)∧oe.data = .fields vs∧vs[2]? = some .none∧(vs[1]? = some .none∨
    ∃T oT ts,vs[1]? = some (.ref T)∧T≠a∧h0.get? T=none∧H T=none∧h.get? T=some oT∧oT.data = .fields ts∧ts[3]? = some .none)
structure qet (h0 h:Heap) (H:Hp) (a C:Addr) (od:Option Addr) (T:Addr):Prop where
  new:h0.get? a=none
  newT:h0.get? T=none
  un:H a=none
  unT:H T=none
  ob:∃oe vs oT ts,h.get? a=some oe∧(oe.cls,oe.dict)=(Value.ref C,od)∧oe.data = .fields vs∧vs[2]? = some .none∧vs[1]? = some (.ref T)∧T≠a∧h.get? T=some oT∧oT.data = .fields ts∧ts[3]? = some .none
section
variable {X:Cx} {p_:List (Addr×Obj)} {σ:St} {H:Hp} {s:Shared}
abbrev Ei:List Value:=[.type "ValueError",.type "Exception",.type "BaseException",.type "object"]
def Xv (K:W.Frag) (C:Addr):Prop:=W.excIn K C Ei "ValueError.__new__" = true
end
end L2
namespace L2
open PySem PySem.Spec PySem.W PyProof.Rows
section
variable {prog:Program} {w:World} {A:Around} {E:Value→Shared→Prop} {K:W.Frag} {h:Heap} {g:Array GenState} {d:Drawn} {t:Nat} {os:OsState} {x C:Addr}
structure qcd (K:W.Frag) (C:Addr):Prop where
  ga:findIn K (.ref C) "__getattribute__" = some (some (.builtin "BaseException.__getattribute__"))
  gn:findIn K (.ref C) "__getattr__" = some none
  cl:findIn K (.ref C) "__class__" = some (some (.builtin "object.__class__"))
  sp:specialIn K (.builtin "object.__class__") "__get__" = some (some (.builtin "getset_descriptor.__get__"))
  tk:takesIn K (.builtin "object.__class__")=some true
  mo:mroIn K C (.type "object")=some true
  mb:mroIn K C (.type "BaseException")=some true
end
end L2
namespace L2
open PySem PySem.Spec PyProof.Rows
section
variable {X:Cx} {p_:List (Addr×Obj)} {σ:St} {H:Hp} {s:Shared}
end
section
variable {X:Cx} {p_:List (Addr×Obj)} {σ:St} {H:Hp} {s:Shared} {a:Addr}
end
inductive Lf:V→PyData→Prop
  | non:Lf .non .none
  | bl (b):Lf (.bl b) (.bool b)
  | int (i):Lf (.int i) (.int i)
  | str (x):Lf (.str x) (.str x)
inductive Jg:List (Str×V)→List (PyData×PyData)→Prop
  | nil:Jg [] []
  | cons {x v d ks kvs}:Lf v d→Jg ks kvs→Jg ((x,v)::ks) ((.str x,d)::kvs)
section
variable {X:Cx} {p_:List (Addr×Obj)} {σ:St} {H:Hp} {s:Shared}
inductive Shw (H:Hp):PyData→V→Prop
  | thg {d v}:wU H d v→d.hasDict=false→Shw H d v
  | dic {a ks kvs}:Jg ks kvs→H a=some (.dK (ks.map fun e=>((Sum.inr e.1:Key),e.2)))→Shw H (.dict kvs) (.ref a)
end
structure Sml (k n:Nat) (d:PyData):Prop where
  sh:d.showable=true
  dp:d.depth≤k
  ln:d.shown.length≤n
end L2
namespace L2
open PySem PySem.Spec PySem.W PyProof.Rows
section
variable {prog:Program} {w:World} {A:Around} {E:Value→Shared→Prop} {K:W.Frag} {h:Heap} {g:Array GenState} {d:Drawn} {t:Nat} {os:OsState}
variable {nm q:Str} {C N:Addr} {bs bm:List Value} {hdct:Bool} {sn:List Str} {sub:List Value} {ab:Bool} {col:Option Bool} {dd:Option Addr} {k0 k1 k2 k3 k5:Option Value}
structure qdl (K:W.Frag) (C:Addr):Prop where
  ga:findIn K (.ref C) "__getattribute__" = some (some (.builtin "BaseException.__getattribute__"))
  gn:findIn K (.ref C) "__getattr__" = some none
  mb:mroIn K C (.type "BaseException")=some true
  hd:hasDictIn K C=true
structure qdm (K:W.Frag) (C PE:Addr):Prop where
  sa:findIn K (.ref C) "__setattr__" = some (some (.builtin "object.__setattr__"))
  mo:mroIn K C (.type "object")=some true
  cl:∃cd,clsIn K C=some cd∧cd.mro = .ref C::.ref PE::Ei∧cd.hasDict=true
end
end L2
namespace L2
open PySem PySem.Spec PyProof.Rows
structure XMk (K:W.Frag) (C B f:Addr):Prop where
  ob:∃nm q N bs hdct sn sub ab col dd k0 k1 k2 k3 k5,K.lookup C=some (excClassObj nm q C N bs (.ref B::Ei) hdct sn sub ab col dd k0 k1 k2 k3 k5 "ValueError.__new__")
  pe:Xv K B
  pm:∃cd,W.clsIn K B=some cd∧cd.mro = .ref B::Ei
  init:W.findIn K (.ref C) "__init__" = some (some (.ref f))
  fn:W.typeIn K (.ref f)=some (.type "function")
  kp:W.keepIn K (.ref C)=true
end L2
namespace L2
open PySem PySem.Spec
section
variable {σ:St} {H:Hp} {p:Addr}
variable {φ:PyData→Prop}
structure big (t:TE) (σ:St) (H:Hp) (Q:VK):Prop where
  out:t σ H Q
end
end L2
namespace L2
open PySem
end L2
namespace L2
open PySem PySem.Spec PyProof.Rows PySem.SeqAt
structure XC (K:W.Frag) (C B:Addr):Prop where
  cl:∃cd,W.clsIn K C=some cd∧cd.mro = .ref C::.ref B::Ei∧cd.hasDict=true
  ty:W.typeIn K (.ref C)=some (.type "type")
  ga:W.findIn K (.ref C) "__getattribute__" = some (some (.builtin "BaseException.__getattribute__"))
  gn:W.findIn K (.ref C) "__getattr__" = some none
  gc:W.findIn K (.ref C) "__class__" = some (some (.builtin "object.__class__"))
  kp:W.keepIn K (.ref C)=true
section
variable {K:W.Frag} {C D B:Addr}
end
def ar3 (vs:List V) (R:V→V→V→Prop):Prop:=match vs with
  | [u,v,w]=>R u v w
  | _=>False
@[simp ↓] theorem qea u v w R:ar3 [u,v,w] R=R u v w:=rfl
end L2
namespace L2
open PySem
theorem pY {fx:Nat→Option Int} {ps:List (Str×Str)} {n:Nat} {a b:Str}:(n,a,b)∈aB fx ps 0↔∃e,ps[n]? = some e∧(((fx n).getD 0=0∧a=e.1∧b=e.2)∨((fx n).getD 1=1∧a=e.2∧b=e.1)):=by
  rw[kJ];constructor
  ·rintro⟨j,e,h1,h2⟩;obtain⟨h3,h4⟩:=qW.mp h2;rw[Nat.zero_add] at h3 h4;simp only at h3 h4;subst h3;exact⟨e,h1,h4⟩
  ·rintro⟨e,h1,h2⟩;exact⟨n,e,h1,qW.mpr ⟨by simp,by rw[Nat.zero_add];exact h2⟩⟩
end L2
local macro_rules | `(tactic| left) => `(tactic| simp -dsimp [L2.au,L2.stC,-Bool.exists_bool,-List.map_take,-Prod.forall,-Prod.exists])
local macro_rules | `(tactic| symm) => `(tactic| decide +kernel)
local macro_rules | `(tactic| exists $H, $p, $v, $s:ident, $e:ident, $G:ident, $h) => `(tactic| (have $s : L2.Same $H (L2.upd $H $p $v) := L2.aq $h; have $e : L2.upd $H $p $v $p = some $v := L2.ak; generalize L2.upd $H $p $v = $G at $s:ident $e:ident ⊢))
local macro_rules | `(tactic| exists $a, $b) => `(tactic| refine $a $b (fun $(Lean.mkIdent `vs) $(Lean.mkIdent `H) $(Lean.mkIdent `Q) $(Lean.mkIdent `E) $(Lean.mkIdent `h) => ?_) (fun $(Lean.mkIdent `cdv) $(Lean.mkIdent `A) $(Lean.mkIdent `outer) $(Lean.mkIdent `s) $(Lean.mkIdent `H) $(Lean.mkIdent `vs) $(Lean.mkIdent `Q) $(Lean.mkIdent `E) $(Lean.mkIdent `hr) $(Lean.mkIdent `h) => ?_))
local macro_rules | `(tactic| ac_rfl) => `(tactic| exact ⟨rfl, rfl, rfl, by decide +kernel, rfl, by decide +kernel, by decide +kernel⟩)
namespace Xw
open PySem L2
def top (i:Nat):Stmt:=PySem.Challenge.pw_pointways_k84_whole_counts_and_lists.main.body.getD i (.Pass ⟨0,0,0,0⟩)
abbrev lY:Stmt:=top 1
abbrev nq:Stmt:=top 2
abbrev iT:Stmt:=top 3
abbrev nu:Stmt:=top 4
abbrev ur:Stmt:=top 14
abbrev pZ:Stmt:=top 15
abbrev jG:Stmt:=top 16
abbrev sU:Stmt:=top 17
abbrev nA:Stmt:=top 18
abbrev nC:Stmt:=inClass (top 19) 0
abbrev nF:Stmt:=inClass (top 19) 1
abbrev qY:Stmt:=inClass (top 19) 2
abbrev qZ:Stmt:=inClass (top 19) 3
abbrev gq:Stmt:=top 20
abbrev dh:Stmt:=top 22
abbrev lZ:Stmt:=top 24
abbrev k_:Stmt:=top 26
abbrev iU:Stmt:=top 27
abbrev gQ:Stmt:=top 30
abbrev p7:Stmt:=top 31
abbrev iG:Stmt:=top 32
abbrev gb:Stmt:=top 33
abbrev O8:Stmt:=top 35
abbrev G3:Stmt:=top 36
abbrev Bj:Stmt:=top 37
abbrev Bk:Stmt:=top 38
abbrev O9:Stmt:=top 39
abbrev zL:Stmt:=top 40
abbrev uw:Stmt:=top 41
abbrev lg:Stmt:=top 42
abbrev iV:Stmt:=top 43
abbrev qI:Stmt:=top 44
theorem fB:aV ["web", "fixed", "steps", "number", "first", "second"] ["web", "fixed"] (aD lY):=by ac_rfl
theorem cj:aV ["start", "steps", "ways", "row", "at", "here", "number", "origin", "goal"] ["start", "steps"] (aD nq):=by ac_rfl
theorem pq:aV ["web", "start", "steps", "ways"] ["web", "start", "steps"] (aD iT):=by ac_rfl
theorem lq:aV ["web", "steps", "told", "point"] ["web"] (aD nu):=by ac_rfl
theorem G4:aV ["thing"] ["thing"] (aD ur):=by ac_rfl
theorem G5:aV ["thing"] ["thing"] (aD pZ):=by ac_rfl
theorem yI:aV ["thing"] ["thing"] (aD jG):=by ac_rfl
theorem KH:aV ["thing", "points"] ["thing", "points"] (aD sU):=by ac_rfl
theorem Ej:aV ["thing", "points"] ["thing", "points"] (aD nA):=by ac_rfl
theorem Ek:aV ["self", "points", "ties"] ["self", "points", "ties"] (aD nC):=by ac_rfl
theorem yJ:aV ["self"] ["self"] (aD nF):=by ac_rfl
theorem El:aV ["self"] ["self"] (aD qY):=by ac_rfl
theorem Em:aV ["self"] ["self"] (aD qZ):=by ac_rfl
theorem qx:aV ["web", "most"] ["web", "most"] (aD gq):=by ac_rfl
theorem cT:aV ["web", "steps", "points", "point", "found"] ["web", "steps"] (aD dh):=by ac_rfl
theorem wV:aV ["web", "fixed"] ["web", "fixed"] (aD lZ):=by ac_rfl
theorem jH:aV ["points", "parts", "point"] ["points"] (aD k_):=by ac_rfl
theorem wW:aV ["web", "part"] ["web", "part"] (aD iU):=by ac_rfl
theorem dN:aV ["ties", "count", "tie"] ["ties"] (aD gQ):=by ac_rfl
theorem G6:aV ["points", "part"] ["points", "part"] (aD p7):=by ac_rfl
theorem jh:aV ["web", "at_all", "own", "part", "unions"] ["web"] (aD iG):=by ac_rfl
theorem fC:aV ["web", "rows", "tie", "longer"] ["web"] (aD gb):=by ac_rfl
theorem O_:aV ["_law_script", "_law_k", "_law_cell"] ["_law_script", "_law_k"] (aD O8):=by ac_rfl
theorem Jh:aV ["_law_pot_here", "_law_many", "_law_digit"] ["_law_pot_here", "_law_many"] (aD G3):=by ac_rfl
theorem ji:aV ["_law_pot_here", "_law_many", "_law_letters", "_law_begin", "_law_found", "_law_k", "_law_word", "_law_j"] ["_law_pot_here", "_law_many"] (aD Bj):=by ac_rfl
theorem wX:aV ["_law_pot_here", "_law_things", "_law_found", "_law_thing"] ["_law_pot_here", "_law_things"] (aD Bk):=by ac_rfl
theorem G7:aV ["_law_pot_here", "_law_names_here", "_law_a", "_law_b"] ["_law_pot_here", "_law_names_here"] (aD O9):=by ac_rfl
theorem nG:aV ["_law_pot_here", "_law_points", "_law_most", "_law_names_here", "_law_kind", "_law_ties", "_law_row", "_law_k", "_law_turns"] ["_law_pot_here", "_law_points", "_law_most"] (aD zL):=by ac_rfl
theorem iH:aV ["_law_web_here", "_law_pointing", "_law_start", "_law_found", "_law_here", "_law_a", "_law_b", "_law_turn"] ["_law_web_here", "_law_pointing", "_law_start"] (aD uw):=by ac_rfl
theorem nH:aV ["_law_web_here", "_law_pointing", "_law_there", "_law_back"] ["_law_web_here", "_law_pointing"] (aD lg):=by ac_rfl
theorem gR:aV ["_law_web_here", "_law_found", "_law_mask", "_law_pointing"] ["_law_web_here"] (aD iV):=by ac_rfl
theorem pA:aV ["_law_script", "_law_k", "_law_known", "_law_web_here", "_law_due", "_law_many", "_law_told", "_law_one"] ["_law_script"] (aD qI):=by ac_rfl
set_option genInjectivity false in
structure Adr where
  cI:Addr
  gU:FuncData
  dj:Addr
  iW:FuncData
  cJ:Addr
  gV:FuncData
  fD:Addr
  lu:FuncData
  gF:Addr
  nJ:FuncData
  gG:Addr
  nM:FuncData
  dw:Addr
  iY:FuncData
  jj:Addr
  qe:FuncData
  fG:Addr
  lA:FuncData
  dO:Addr
  lB:FuncData
  cF:Addr
  iZ:FuncData
  dR:Addr
  lC:FuncData
  dU:Addr
  lD:FuncData
  bH:Addr
  dG:FuncData
  bx:Addr
  cU:FuncData
  cL:Addr
  gW:FuncData
  dI:Addr
  jJ:FuncData
  cM:Addr
  gY:FuncData
  bI:Addr
  dW:FuncData
  gH:Addr
  nO:FuncData
  fH:Addr
  lE:FuncData
  cN:Addr
  gZ:FuncData
  uU:Addr
  Bl:FuncData
  pB:Addr
  vK:FuncData
  lF:Addr
  sV:FuncData
  lG:Addr
  sW:FuncData
  uV:Addr
  Bm:FuncData
  uW:Addr
  Bo:FuncData
  gJ:Addr
  nP:FuncData
  dJ:Addr
  jK:FuncData
  cO:Addr
  g_:FuncData
  uX:Addr
  Bp:FuncData
  iI:Value
  cQ:Value
  dD:Value
  fJ:Value
  bO:Value
  bJ:Addr
structure Txt (K:W.Frag) (mg:Str→Option Value) (a:Adr):Prop where
  i_:fL K "steps_along" "steps_along" lY a.cI a.gU
  mj:Binds K a.gU ["web", "fixed"] []
  mq:mg "steps_along" = some (.ref a.cI)
  nQ:fL K "ways_along" "ways_along" nq a.dj a.iW
  sX:Binds K a.iW ["start", "steps"] []
  sY:mg "ways_along" = some (.ref a.dj)
  jc:fL K "found_along" "found_along" iT a.cJ a.gV
  mz:Binds K a.gV ["web", "start", "steps"] []
  mC:mg "found_along" = some (.ref a.cJ)
  q_:fL K "clusters" "clusters" nu a.fD a.lu
  wY:Binds K a.lu ["web"] []
  wZ:mg "clusters" = some (.ref a.fD)
  mW:fL K "is_list" "is_list" ur a.gF a.nJ
  qg:Binds K a.nJ ["thing"] []
  qj:mg "is_list" = some (.ref a.gF)
  ql:fL K "is_name" "is_name" pZ a.gG a.nM
  ux:Binds K a.nM ["thing"] []
  uy:mg "is_name" = some (.ref a.gG)
  nR:fL K "are_points" "are_points" jG a.dw a.iY
  sZ:Binds K a.iY ["thing"] []
  tu:mg "are_points" = some (.ref a.dw)
  w5:fL K "is_tie" "is_tie" sU a.jj a.qe
  En:Binds K a.qe ["thing", "points"] []
  Eo:mg "is_tie" = some (.ref a.jj)
  rm:fL K "are_ties" "are_ties" nA a.fG a.lA
  w6:Binds K a.lA ["thing", "points"] []
  xg:mg "are_ties" = some (.ref a.fG)
  xq:fL K "__init__" "Web.__init__" nC a.dO a.lB
  jX:Binds K a.lB ["self", "points", "ties"] []
  tE:fL K "points" "Web.points" nF a.cF a.iZ
  dX:Binds K a.iZ ["self"] []
  xr:fL K "ties" "Web.ties" qY a.dR a.lC
  nU:Binds K a.lC ["self"] []
  xu:fL K "many" "Web.many" qZ a.dU a.lD
  xG:Binds K a.lD ["self"] []
  gw:fL K "sure_of_few_ties" "sure_of_few_ties" gq a.bH a.dG
  jY:Binds K a.dG ["web", "most"] []
  jZ:mg "sure_of_few_ties" = some (.ref a.bH)
  fK:fL K "lot_without_way_in" "lot_without_way_in" dh a.bx a.cU
  jk:Binds K a.cU ["web", "steps"] []
  jm:mg "lot_without_way_in" = some (.ref a.bx)
  jd:fL K "lot_shut_by" "lot_shut_by" lZ a.cL a.gW
  mD:Binds K a.gW ["web", "fixed"] []
  mF:mg "lot_shut_by" = some (.ref a.cL)
  jq:fL K "all_parts" "all_parts" k_ a.dI a.jJ
  lH:Binds K a.jJ ["points"] []
  lJ:mg "all_parts" = some (.ref a.dI)
  mG:fL K "ties_inside" "ties_inside" iU a.cM a.gY
  qJ:Binds K a.gY ["web", "part"] []
  qK:mg "ties_inside" = some (.ref a.cM)
  h_:fL K "how_many_at_all" "how_many_at_all" gQ a.bI a.dW
  lK:Binds K a.dW ["ties"] []
  lM:mg "how_many_at_all" = some (.ref a.bI)
  uz:fL K "without" "without" p7 a.gH a.nO
  zM:Binds K a.nO ["points", "part"] []
  zN:mg "without" = some (.ref a.gH)
  j4:fL K "how_many" "how_many" iG a.fH a.lE
  nW:Binds K a.lE ["web"] []
  nY:mg "how_many" = some (.ref a.fH)
  gj:fL K "all_pointed" "all_pointed" gb a.cN a.gZ
  je:Binds K a.gZ ["web"] []
  jf:mg "all_pointed" = some (.ref a.cN)
  Pa:fL K "_law_pot" "_law_pot" O8 a.uU a.Bl
  UL:Binds K a.Bl ["_law_script", "_law_k"] []
  UW:mg "_law_pot" = some (.ref a.uU)
  jx:fL K "_law_take" "_law_take" G3 a.pB a.vK
  j5:Binds K a.vK ["_law_pot_here", "_law_many"] []
  j6:mg "_law_take" = some (.ref a.pB)
  Bq:fL K "_law_names" "_law_names" Bj a.lF a.sV
  Ji:Binds K a.sV ["_law_pot_here", "_law_many"] []
  Jj:mg "_law_names" = some (.ref a.lF)
  vL:fL K "_law_mixed" "_law_mixed" Bk a.lG a.sW
  Br:Binds K a.sW ["_law_pot_here", "_law_things"] []
  Bs:mg "_law_mixed" = some (.ref a.lG)
  Pb:fL K "_law_tie" "_law_tie" O9 a.uV a.Bm
  U0:Binds K a.Bm ["_law_pot_here", "_law_names_here"] []
  U3:mg "_law_tie" = some (.ref a.uV)
  Pg:fL K "_law_web" "_law_web" zL a.uW a.Bo
  U4:Binds K a.Bo ["_law_pot_here", "_law_points", "_law_most"] []
  U5:mg "_law_web" = some (.ref a.uW)
  qm:fL K "_law_reached" "_law_reached" uw a.gJ a.nP
  uD:Binds K a.nP ["_law_web_here", "_law_pointing", "_law_start"] []
  uE:mg "_law_reached" = some (.ref a.gJ)
  pC:fL K "_law_is_strong" "_law_is_strong" lg a.dJ a.jK
  uY:Binds K a.jK ["_law_web_here", "_law_pointing"] []
  uZ:mg "_law_is_strong" = some (.ref a.dJ)
  mH:fL K "_law_strong_ones" "_law_strong_ones" iV a.cO a.g_
  qL:Binds K a.g_ ["_law_web_here"] []
  qM:mg "_law_strong_ones" = some (.ref a.cO)
  U6:fL K "law" "law" qI a.uX a.Bp
  qaq:Binds K a.Bp ["_law_script"] []
  qar:mg "law" = some (.ref a.uX)
  zO:mg "LETTERS" = some a.iI
  zP:RelV (.str "abcdefghijklmnopqrstuvwxyz") a.iI
  pD:mg "MOST_LETTERS" = some a.cQ
  pF:RelV (.int 4) a.cQ
  qN:mg "MOST_POINTS" = some a.dD
  qO:RelV (.int 9) a.dD
  u5:mg "MOST_TIES" = some a.fJ
  u6:RelV (.int 20) a.fJ
  j7:mg "MOST_TIES_LISTED" = some a.bO
  j8:RelV (.int 12) a.bO
  Ep:mg "Web" = some (.ref a.bJ)
  jA:Cls K a.bJ
  Bt:jt K a.bJ "names"
  vM:jt K a.bJ "pairs"
  Er:Mk K a.bJ a.dO
  dY:Meth K a.bJ "points" a.cF
  nZ:Meth K a.bJ "ties" a.dR
  xH:Meth K a.bJ "many" a.dU
  nm:Nm mg
  Xx:Nm2 mg
  nm3:Nm3 mg
end Xw
namespace Xw
open PySem L2
variable {P:Program} {w:World} {K:W.Frag} {mg:Str→Option Value} {base:Heap} {a:Adr}
def kj (H:Hp) (p:Addr):Prop:=∃x y:Int,H p=some (.lst [.int x,.int y])∧0≤x∧0≤y∧y<4294967296
def Xy (K:W.Frag):Sp:=fun vs H Q _=>∃(l:Addr) (ns:List Int) (k:Nat),vs=[.ref l,.int k]∧aR K H l (ns.map V.int)∧k<100∧∀p H',H p=none→kj H' p→But p H H'→Q (.ref p) H'
def Sv:Sp:=fun vs H Q _=>∃(p:Addr) (m:Int),vs=[.ref p,.int m]∧kj H p∧0<m∧m<1000000∧∀(d:Int) H',0≤d→d<m→kj H' p→But p H H'→Q (.int d) H'
theorem Xz (T:Txt K mg a):c7 P w K mg base mY 1 a.uU a.Bl ["_law_script", "_law_k"] (Xy K):=by
  exists T.Pa.qH,O_
  ·obtain⟨l,ns,k,rfl,_⟩:=h;rfl
  · obtain⟨l,ns,k,rfl,hS,hk,q⟩:=h;refine⟨_,(aA (bB (i:=2) O_.nd rfl (Or.inl rfl) (Ck (aW GC (aK 1) (aL (cA (K:=K) rfl) rfl T.nm.len PySem.boot_len (aj (aK 0) ao)) (bV _)) (cH (cV (K:=K) rfl) (aK 0) (aK 1) (fun _ _=>rfl)) aH))
      (aF (aY (bW (aj (aL (wM rfl) rfl T.nm.max boot_max (aj aH (aj (bU m_ (aL zE rfl T.nm.abs boot_abs (aj (aK 2) ao)) (bU R7 aH aH)) ao))) (aj (bU jE (bU jE (bU pW (aL zE rfl T.nm.abs boot_abs (aj (aK 2) ao)) aH) (bU pU aH (aK 1))) aH) ao)))))),?_⟩
    have fin:∀(x y:Int),0≤x→0≤y→y<4294967296→∀p:Addr,H p=none→Q (.ref p) (upd H p (.lst [.int x,.int y])):=fun x y h1 h2 h3 p hp=>
      q p _ hp ⟨x,y,ak,h1,h2,h3⟩ fun b o hb e=>by rw[aC hb];exact e
    left;refine⟨_,.inl hS,eX.of (fun h=>?_) (fun h=>?_)⟩
    · have hlt:k<ns.length:=by simpa using h
      left;refine⟨_,.inl hS,.int (ns[k]'hlt),bC (by simp[hlt]),?_⟩;left;exact fin _ _ (zpa _) (zpb _ _) (zpc _ hk)
    ·left;exact fin _ _ (by first | omega | (split <;> omega)) (by omega) (by omega)
theorem jg (T:Txt K mg a):c7 P w K mg base mY 1 a.pB a.vK ["_law_pot_here", "_law_many"] Sv:=by
  exists T.jx.qH,Jh
  ·obtain⟨p,m,rfl,_⟩:=h;rfl
  · obtain⟨p,m,rfl,⟨x,y,hp,hx,hy,hy2⟩,hm,hm2,q⟩:=h;refine⟨_,(aA (eU (aW uf (cH (cV (K:=K) rfl) (aK 0) aH (fun _ _=>rfl)) aH (bV _)) (aA (Ls (aL Bd rfl T.nm.divmod boot_divmod (aj (cH (cV (K:=K) rfl) (aK 0) aH (fun _ _=>rfl)) (aj (aK 1) ao))) (PG.eqv (iM (K:=K) (n:=2) rfl rfl (mJ.eqv (bK (Lq (aK 0) aH zF) (mJ.eqv (bK (aM (i:=2) Jh.nd rfl (Or.inl rfl)) (mJ.mono iK lW)) (bM _ _))) (bM _ _))) (iQ _ _ _)))
      (aF (aY (aK 2)))) bT)
      (aA (Ls (bU pW (bU jE (bU pU (cH (cV (K:=K) rfl) (aK 0) aH (fun _ _=>rfl)) aH) aH) aH) (Lq (aK 0) aH zF))
      (aF (aY (bU pW (bU Ou (bU pW (bU pU (cH (cV (K:=K) rfl) (aK 0) aH (fun _ _=>rfl)) (cH (cV (K:=K) rfl) (aK 0) aH (fun _ _=>rfl))) aH) aH) (aK 1)))))),?_⟩
    have hl:aR K H p [.int x,.int y]:=aR.of hp;left;refine⟨_,.inl hl,_,bC (j:=0) rfl,?_⟩;left;refine eX.of (fun h=>?_) (fun h=>?_)
    ·left;refine⟨_,.inl hl,_,bC (j:=0) rfl,?_⟩;left;refine⟨⟨hm,by omega⟩,fun t ht=>?_⟩;have npt:p≠t:=aG hp ht;refine⟨_,eO.of ak,rfl,_,(by rw[aC npt];exact hp),0,rfl,?_⟩;refine q _ _ (Int.emod_nonneg _ (by omega)) (Int.emod_lt_of_pos _ hm) ⟨_,_,ak,Int.ediv_nonneg hx (by omega),hy,hy2⟩ fun b o hb e=>?_;rw[aC hb,aC (aG e ht)];exact e
    ·have z0:0≤(y * 48271+12345) % 2147483647:=Int.emod_nonneg _ (by decide);have z1:(y * 48271+12345) % 2147483647<2147483647:=Int.emod_lt_of_pos _ (by decide);left;refine⟨_,.inl hl,_,bC (j:=1) rfl,?_⟩;left;refine⟨_,hp,1,rfl,_,.inl (aR.of ak),_,bC (j:=1) rfl,_,.inl (aR.of ak),_,bC (j:=1) rfl,?_⟩;left;refine⟨⟨by omega,by omega⟩,hm,?_⟩;refine q _ _ (Int.emod_nonneg _ (by omega)) (Int.emod_lt_of_pos _ hm) ⟨_,_,ak,hx,z0,by omega⟩ fun b o hb e=>?_;rw[aC hb];exact e
def G8:Sp:=fun vs H Q _=>∃p xs,vs=[.ref p]∧Sq H p xs∧∀H',Same H H'→Q (.bl true) H'
theorem rA (T:Txt K mg a):c7 P w K mg base mY 1 a.gF a.nJ ["thing"] G8:=by
  exists T.mW.qH,G4
  ·obtain⟨p,xs,rfl,_⟩:=h;rfl
  · obtain⟨p,xs,rfl,hp,q⟩:=h;refine⟨_,(aF (aY (aL (Xp (K:=K) rfl) rfl T.nm.isinstance boot_isinstance (aj (aK 0) (aj (lR (aj (m5 (v:=.ty "list") rfl T.nm.list boot_list rfl) (aj (m5 (v:=.ty "tuple") rfl T.nm.tuple boot_tuple rfl) ao))) ao))))),?_⟩;left;refine fun t ht=>⟨_,_,ak,?_⟩
    rcases(hp.same (aq ht)).ty (K:=K) with ty | ty
    ·exact⟨_,ty,true,by simp[W.kitAny,W.kitOne],q _ (aq ht)⟩
    ·exact⟨_,ty,true,by simp[W.kitAny,W.kitOne];rfl,q _ (aq ht)⟩
def G9:Sp:=fun vs H Q _=>∃x,vs=[.str x]∧x.length≤sizeLine∧∀H',Same H H'→Q (.bl (nameB x)) H'
theorem xJ (T:Txt K mg a):c7 P w K mg base mY 1 a.gG a.nM ["thing"] G9:=by
  exists T.ql.qH,G5
  ·obtain⟨x,rfl,_⟩:=h;rfl
  · obtain⟨x,rfl,hx,q⟩:=h;refine⟨_,(aA (eU (PW.pt (uM (iC (fO (aL (wL (K:=K) rfl) rfl T.nm.isinstance boot_isinstance (aj (aK 0) (aj (m5 (v:=.ty "str") rfl T.nm.str boot_str rfl) ao))))) (tQ (iC (zy Aw Aw aH (aL Xo rfl T.nm.len PySem.boot_len (aj (aK 0) ao)) (rH rfl T.pD T.pF)))))) (aF (aY uL)) bT)
      (aF (aY (aL (mU rfl) rfl T.nm.all mQ (aj (eF rfl rfl (show aO (aD pZ) _ ["thing"] ["sign"] [] ["sign"] from⟨rfl,by symm,by symm,rfl,by symm,by symm⟩) rfl (PI.eqv (Wf (aK 0)) (Oq _)) (fun C s H fp pn=>(aM (i:=0) (show(["sign"]:List Str).Nodup by symm) rfl (Or.inl rfl))) (fun C s H fp pn=>cR) (fun C s H fp pn=>(gM (qdf (K:=K) rfl) (aK 0) (rH rfl T.zO T.zP) rfl))) ao))))),?_⟩
    left;refine⟨_,.str x,_,Dc K,eX.neg rfl ?_⟩;left;refine⟨hx,eX.of (fun h1=>?_) (fun h1=>?_)⟩
    · have h1':1≤x.length:=by simp at h1;omega
      left;refine eX.of (fun h2=>?_) (fun h2=>?_)
      · have h2':¬x.length≤4:=by simp at h2;omega
        have e:nameB x=false:=by
          unfold nameB;rw[decide_eq_false h2'];simp
        rw[e] at q;left;exact q H (Same.refl H)
      · have h2':x.length≤4:=by simp at h2;omega
        left;refine fun D hD=>cmS (fun i σ' H'=>(∃o,σ'=[o])∧Same H H'∧H' D=some (.lst ((x.cps.toList.take i).map fun c=>.bl (Ws c)))) ⟨⟨none,rfl⟩,aq hD,by simpa using ak⟩ ?_ ?_
        · rintro i c σ' H' hc ⟨⟨o,rfl⟩,sm,yK⟩;have h4:4<sizeLine:=by decide
          have hsz:x.cps.size=x.length:=rfl;left;refine⟨_,yK,by simp;omega,aP sm hD,?_⟩;rw[ak,take_one (l:=x.cps.toList) (x:=c) (by simpa using hc),List.map_append];rfl
        · rintro σ' H' ⟨⟨o,rfl⟩,sm,yK⟩;left;refine⟨_,yK,_,pR Ws _,?_⟩;rw[Gs];have e:nameB x=(x.cps.toList.take x.cps.size).all Ws:=by
            unfold nameB;rw[decide_eq_true h1',decide_eq_true h2',show x.cps.toList.take x.cps.size=x.cps.toList from List.take_of_length_le (by simp)];rfl
          rw[← e];exact q H' sm
    · have h1':¬1≤x.length:=by simp at h1;omega
      have e:nameB x=false:=by
        unfold nameB;rw[decide_eq_false h1'];simp
      rw[e] at q;left;exact q H (Same.refl H)
theorem Ph {xs:List Str} {i:Nat} {x:V} (h:(xs.map V.str)[i]? = some x):∃z,z∈xs∧x = .str z:=by
  rw[List.getElem?_map] at h;cases e:xs[i]? with
  | none=>rw[e] at h;cases h
  | some z=>
    rw[e] at h;exact⟨z,List.mem_of_getElem? e,(Option.some.inj h).symm⟩
theorem xK {x:Str} (h:nameB x=true):x.length≤sizeLine:=by
  unfold nameB at h;simp at h;have h4:4≤sizeLine:=by decide
  omega
theorem qp:∀n,mO (List.replicate n (.bl true)) (List.replicate n true)
  | 0=>rfl
  | n+1=>⟨true,_,rfl,rfl,qp n⟩
theorem xM:∀xs:List Str,keysOf (xs.map V.str)=xs.map Sum.inr
  | []=>rfl
  | x::xs=>by
    show Sum.inr x::keysOf (xs.map V.str)=_;rw[xM xs];rfl
theorem XD {xs:List Str} (h:xs.Nodup):(yE (fun i=>(keysOf (xs.map V.str))[i]?.getD (Sum.inl 0)) (xs.map V.str).length).length=xs.length:=by
  rw[xM,List.length_map];refine(M6 _ xs.length fun i j hi hj e=>?_).1;simp[hi,hj] at e;exact(List.getElem_inj h).mp e
structure Jk (xs:List Str):Prop where
  len:1≤xs.length∧xs.length≤9
  nm:∀x∈xs,nameB x=true
  nd:xs.Nodup
def yL:Sp:=fun vs H Q _=>∃p xs,vs=[.ref p]∧Sq H p (xs.map V.str)∧Jk xs∧∀H',Same H H'→Q (.bl true) H'
theorem yM (T:Txt K mg a):c7 P w K mg base mY 2 a.dw a.iY ["thing"] yL:=by
  exists T.nR.qH,yI
  ·obtain⟨p,xs,rfl,_⟩:=h;rfl
  · obtain⟨p,xs,rfl,hp,hx,q⟩:=h;refine⟨_,(aA (eU (PW.pt (uM (iC (fO (PE.eqv (aN (rA T) hr.d rfl T.qj T.mW.kp T.qg .nil aU (aj (aK 0) ao)) (aJ _ _ _)))) (tQ (iC (zy Aw Aw aH (aL (cA (K:=K) rfl) rfl T.nm.len PySem.boot_len (aj (aK 0) ao)) (rH rfl T.qN T.qO)))))) (aF (aY uL)) bT)
      (aF (aY (sH (aL (mU rfl) rfl T.nm.all mQ (aj (eF rfl rfl (show aO (aD jG) _ ["thing"] ["one"] [] ["one"] from⟨rfl,by symm,by symm,rfl,by symm,by symm⟩) rfl (PI.eqv (vA (K:=K) rfl (aK 0)) (sI _ _)) (fun C s H fp pn=>(aM (i:=0) (show(["one"]:List Str).Nodup by symm) rfl (Or.inl rfl))) (fun C s H fp pn=>cR) (fun C s H fp pn=>(PE.eqv (aN (xJ T) hr.d rfl T.uy T.ql.kp T.ux .nil aU (aj (aK 0) ao)) (aJ _ _ _)))) ao)) (zZ (gM ni (aL JZ rfl T.nm.len PySem.boot_len (aj (cX (JX rfl) rfl T.nm.set JT (aj (aK 0) ao)) ao)) (aL (cA (K:=K) rfl) rfl T.nm.len PySem.boot_len (aj (aK 0) ao)) (bV _))))))),?_⟩
    have hl:=hx.len;have h60:60<sizeLine:=by decide
    left;refine⟨p,_,rfl,hp,fun H1 s1=>?_⟩;have hp1:=hp.same s1;left;refine⟨_,hp1.q,eX.pos (by simp;omega) ?_⟩;left;refine eX.neg (by simp;omega) ?_;obtain⟨b,hb⟩:=hp.b;left;refine⟨b,⟨_,hb K H1 s1⟩,fun D hD=>cmQ (xs.map V.str) (fun i σ' H'=>(∃o,σ'=[o])∧Same H1 H'∧H' D=some (.lst (List.replicate i (.bl true)))) ⟨⟨none,rfl⟩,aq hD,ak⟩ (fun i σ' H' _ h=>hb K H' (s1.trans h.2.1)) ?_ ?_⟩
    · rintro i x σ' H' hi ⟨⟨o,rfl⟩,sm,yK⟩;obtain⟨z,hz,rfl⟩:=Ph hi;have hi2:i<xs.length:=by simpa using (List.getElem?_eq_some_iff.mp hi).1
      left;refine⟨z,rfl,xK (hx.nm z hz),fun H2 s2=>?_⟩;left;refine⟨_,s2 _ _ yK,by simp;omega,aP (sm.trans s2) hD,?_⟩;rw[ak,hx.nm z hz,← List.replicate_succ']
    ·rintro σ' H' ⟨⟨o,rfl⟩,sm,yK⟩;have hp2:=hp1.same sm;left;refine⟨_,yK,_,qp _,?_⟩;rw[show(List.replicate (xs.map V.str).length true).all id=true by simp];left;refine⟨_,hp2.q,by simp[isKey],by simp;unfold scanBound;omega,fun t ht=>⟨_,ak,_,(hp2.same (aq ht)).q,?_⟩⟩;rw[decide_eq_true (by rw[XD hx.nd];simp)];exact q _ (s1.trans (sm.trans (aq ht)))
theorem Sw {x:Str} {xs:List Str} (h:x∈xs):inV (.str x) (xs.map V.str)=true:=by
  unfold inV;rw[List.any_eq_true];exact⟨.str x,List.mem_map.mpr ⟨x,h,rfl⟩,by simp[Mu]⟩
theorem Pj (xs:List Str):(xs.map V.str).all iy=true:=by
  rw[List.all_eq_true];intro v hv;obtain⟨x,_,rfl⟩:=List.mem_map.mp hv;rfl
def KJ:Sp:=fun vs H Q _=>∃t p x y xs,vs=[.ref t,.ref p]∧Sq H t [.str x,.str y]∧Sq H p (xs.map V.str)∧Jk xs∧x∈xs∧y∈xs∧x≠y∧∀H',Same H H'→Q (.bl true) H'
theorem KN (T:Txt K mg a):c7 P w K mg base mY 2 a.jj a.qe ["thing", "points"] KJ:=by
  exists T.w5.qH,KH
  ·obtain⟨t,p,x,y,xs,rfl,_⟩:=h;rfl
  · obtain⟨t,p,x,y,xs,rfl,ht,hp,hx,Le,hym,hne,q⟩:=h;refine⟨_,(aA (eU (PW.pt (uM (iC (fO (PE.eqv (aN (rA T) hr.d rfl T.qj T.mW.kp T.qg .nil aU (aj (aK 0) ao)) (aJ _ _ _)))) (tQ (aW wJ (aL (cA (K:=K) rfl) rfl T.nm.len PySem.boot_len (aj (aK 0) ao)) aH (bV _))))) (aF (aY uL)) bT)
      (aA (eU (iC (fO (aL (mU rfl) rfl T.nm.all mQ (aj (eF rfl rfl (show aO (aD sU) _ ["thing", "points"] ["end"] [1] ["end", "points"] from⟨rfl,by symm,by symm,rfl,by symm,by symm⟩) rfl (PI.eqv (vA (K:=K) rfl (aK 0)) (sI _ _)) (fun C s H fp pn=>(aM (i:=0) (show(["end", "points"]:List Str).Nodup by symm) rfl (Or.inl rfl))) (fun C s H fp pn=>cR) (fun C s H fp pn=>(sH (PE.eqv (aN (xJ T) hr.d rfl T.uy T.ql.kp T.ux .nil aU (aj (aK 0) ao)) (aJ _ _ _)) (zZ (gM (Ko (K:=K) rfl) (aK 0) (aK 1) rfl))))) ao)))) (aF (aY uL)) bT)
      (aF (aY (gM wJ (cH (cV (K:=K) rfl) (aK 0) aH (fun _ _=>rfl)) (cH (cV (K:=K) rfl) (aK 0) aH (fun _ _=>rfl)) (bV _)))))),?_⟩
    have h60:60<sizeLine:=by decide
    left;refine⟨t,_,rfl,ht,fun H1 s1=>?_⟩;left;refine⟨_,(ht.same s1).q,false,rfl,eX.neg rfl ?_⟩;obtain⟨b,hb⟩:=ht.b;left;refine⟨b,⟨_,hb K H1 s1⟩,fun D hD=>cmQ [.str x,.str y] (fun i σ' H'=>(∃o,σ'=[o,some (.ref p)])∧Same H1 H'∧H' D=some (.lst (List.replicate i (.bl true)))) ⟨⟨none,rfl⟩,aq hD,ak⟩ (fun i σ' H' _ h=>hb K H' (s1.trans h.2.1)) ?_ ?_⟩
    · rintro i v σ' H' hi ⟨⟨o,rfl⟩,sm,yK⟩;obtain⟨z,hz,rfl⟩:∃z,z∈xs∧v = .str z:=by
        match i,hi with
        | 0,hi=>exact⟨x,Le,(Option.some.inj hi).symm⟩
        | 1,hi=>exact⟨y,hym,(Option.some.inj hi).symm⟩
      have hi2:i<2:=(List.getElem?_eq_some_iff.mp hi).1;left;refine⟨z,rfl,xK (hx.nm z hz),fun H2 s2=>?_⟩;rw[hx.nm z hz];left;refine⟨_,(hp.same (s1.trans (sm.trans s2))).q,rfl,List.all_eq_true.mp (Pj xs),_,s2 _ _ yK,by simp;omega,aP (sm.trans s2) hD,?_⟩;rw[ak,Sw hz,← List.replicate_succ']
    ·rintro σ' H' ⟨⟨o,rfl⟩,sm,yK⟩;have Ks:=ht.same (s1.trans sm);left;refine⟨_,yK,_,qp _,?_⟩;rw[show(List.replicate [V.str x,V.str y].length true).all id=true by simp];left;refine⟨_,Ks.q,_,bC (j:=0) rfl,_,Ks.q,_,bC (j:=1) rfl,?_⟩;left;refine⟨true,by simp[hne],?_⟩;exact q _ (s1.trans sm)
def xO (H:Hp) (v:V) (e:Str×Str):Prop:=∃t,v = .ref t∧Sq H t [.str e.1,.str e.2]
theorem xO.same {H H':Hp} {v:V} {e:Str×Str} (h:xO H v e) (s:Same H H'):xO H' v e:=by
  obtain⟨t,rfl,h⟩:=h;exact⟨t,rfl,h.same s⟩
def lN (H:Hp) (vs:List V) (ps:List (Str×Str)):Prop:=vs.length=ps.length∧∀(i:Nat) v e,vs[i]? = some v→ps[i]? = some e→xO H v e
theorem lN.same {H H':Hp} {vs:List V} {ps:List (Str×Str)} (h:lN H vs ps) (s:Same H H'):lN H' vs ps:=⟨h.1,fun i v e h1 h2=>(h.2 i v e h1 h2).same s⟩
theorem lN.at {H:Hp} {vs:List V} {ps:List (Str×Str)} (h:lN H vs ps) {i:Nat} {v:V} (hv:vs[i]? = some v):∃e,ps[i]? = some e∧xO H v e:=by
  have hi:i<ps.length:=by rw[← h.1];exact(List.getElem?_eq_some_iff.mp hv).1
  exact⟨ps[i],by simp[hi],h.2 i v _ hv (by simp[hi])⟩
structure qy (xs:List Str) (ps:List (Str×Str)):Prop where
  len:ps.length≤20
  ok:∀e∈ps,e.1∈xs∧e.2∈xs∧e.1≠e.2
def Es:Sp:=fun vs H Q _=>∃t p tv xs ps,vs=[.ref t,.ref p]∧Sq H t tv∧lN H tv ps∧Sq H p (xs.map V.str)∧Jk xs∧qy xs ps∧∀H',Same H H'→Q (.bl true) H'
theorem Et (T:Txt K mg a):c7 P w K mg base mY 3 a.fG a.lA ["thing", "points"] Es:=by
  exists T.rm.qH,Ej
  ·obtain⟨t,p,tv,xs,ps,rfl,_⟩:=h;rfl
  · obtain⟨t,p,tv,xs,ps,rfl,ht,hpr,hp,hx,hts,q⟩:=h;refine⟨_,(aA (eU (PW.pt (uM (iC (fO (PE.eqv (aN (rA T) hr.d rfl T.qj T.mW.kp T.qg .nil aU (aj (aK 0) ao)) (aJ _ _ _)))) (tQ (aW uf (aL (cA (K:=K) rfl) rfl T.nm.len PySem.boot_len (aj (aK 0) ao)) (rH rfl T.u5 T.u6) (bV _))))) (aF (aY uL)) bT)
      (aF (aY (aL (mU rfl) rfl T.nm.all mQ (aj (eF rfl rfl (show aO (aD nA) _ ["thing", "points"] ["one"] [1] ["one", "points"] from⟨rfl,by symm,by symm,rfl,by symm,by symm⟩) rfl (PI.eqv (vA (K:=K) rfl (aK 0)) (sI _ _)) (fun C s H fp pn=>(aM (i:=0) (show(["one", "points"]:List Str).Nodup by symm) rfl (Or.inl rfl))) (fun C s H fp pn=>cR) (fun C s H fp pn=>(PE.eqv (aN (KN T) hr.d rfl T.Eo T.w5.kp T.En .nil aU (aj (aK 0) (aj (aK 1) ao))) (aJ _ _ _)))) ao))))),?_⟩
    have hlen:=hpr.1;have Lg:=hts.len;have h60:60<sizeLine:=by decide
    left;refine⟨t,_,rfl,ht,fun H1 s1=>?_⟩;left;refine⟨_,(ht.same s1).q,eX.neg (by simp;omega) ?_⟩;obtain⟨b,hb⟩:=ht.b;left;refine⟨b,⟨_,hb K H1 s1⟩,fun D hD=>cmQ tv (fun i σ' H'=>(∃o,σ'=[o,some (.ref p)])∧Same H1 H'∧H' D=some (.lst (List.replicate i (.bl true)))) ⟨⟨none,rfl⟩,aq hD,ak⟩ (fun i σ' H' _ h=>hb K H' (s1.trans h.2.1)) ?_ ?_⟩
    ·rintro i v σ' H' hi ⟨⟨o,rfl⟩,sm,yK⟩;obtain⟨e,he,t2,rfl,Ks⟩:=hpr.at hi;have hi2:i<tv.length:=(List.getElem?_eq_some_iff.mp hi).1;obtain⟨h1,h2,h3⟩:=hts.ok e (List.mem_of_getElem? he);have s2:=s1.trans sm;left;refine⟨t2,p,e.1,e.2,xs,rfl,Ks.same s2,hp.same s2,hx,h1,h2,h3,fun H2 s3=>?_⟩;left;refine⟨_,s3 _ _ yK,by simp;omega,aP (sm.trans s3) hD,?_⟩;rw[ak,← List.replicate_succ']
    ·rintro σ' H' ⟨⟨o,rfl⟩,sm,yK⟩;left;refine⟨_,yK,_,qp _,?_⟩;rw[show(List.replicate tv.length true).all id=true by simp];exact q _ (s1.trans sm)
def bh (H:Hp) (vs:List V) (ps:List (Str×Str)):Prop:=vs.length=ps.length∧∀(i:Nat) v e,vs[i]? = some v→ps[i]? = some e→∃t,v = .ref t∧H t=some (.tup [.str e.1,.str e.2])
def dg (H H':Hp):Prop:=∀b xs,H b=some (.tup xs)→H' b=some (.tup xs)
theorem bh.keep {H H':Hp} {vs:List V} {ps:List (Str×Str)} (h:bh H vs ps) (s:dg H H'):bh H' vs ps:=⟨h.1,fun i v e h1 h2=>by
  obtain⟨t,rfl,e⟩:=h.2 i v e h1 h2;exact⟨t,rfl,s _ _ e⟩⟩
theorem bh.snoc {H:Hp} {vs:List V} {ps:List (Str×Str)} {t:Addr} {e:Str×Str} (h:bh H vs ps) (ht:H t=some (.tup [.str e.1,.str e.2])):bh H (vs++[.ref t]) (ps++[e]):=by
  refine⟨by simp[h.1],fun i v d h1 h2=>?_⟩
  by_cases hi:i<vs.length
  ·rw[List.getElem?_append_left hi] at h1;rw[List.getElem?_append_left (by rw[← h.1];exact hi)] at h2;exact h.2 i v d h1 h2
  · rw[List.getElem?_append_right (by omega)] at h1;rw[List.getElem?_append_right (by rw[← h.1];omega),← h.1] at h2;cases hk:i - vs.length with
    | zero=>
      rw[hk] at h1 h2;cases h1;cases h2;exact⟨t,rfl,ht⟩
    | succ j=>
      rw[hk] at h1;simp at h1
structure iz (C:Addr) (H:Hp) (o:Addr) (xs:List Str) (ps:List (Str×Str)):Prop where
  ex:∃dx n m tv,H o=some (.ins C dx [("names",V.ref n),("pairs",V.ref m)])∧H n=some (.tup (xs.map V.str))∧H m=some (.tup tv)∧bh H tv ps∧ps.length≤20
def Sx (C:Addr):Sp:=fun vs H Q _=>∃o dx p t tv xs ps,vs=[.ref o,.ref p,.ref t]∧H o=some (.ins C dx [])∧Sq H t tv∧lN H tv ps∧Sq H p (xs.map V.str)∧Jk xs∧qy xs ps∧
  ∀H',iz C H' o xs ps→But o H H'→Q .non H'
theorem lO (T:Txt K mg a):c7 P w K mg base mY 4 a.dO a.lB ["self", "points", "ties"] (Sx a.bJ):=by
  exists T.xq.qH,Ek
  ·obtain⟨o,dx,p,t,tv,xs,ps,rfl,_⟩:=h;rfl
  · obtain⟨o,dx,p,t,tv,xs,ps,rfl,ho,ht,hpr,hp,hx,hts,q⟩:=h;refine⟨_,(aA (eU (iC (fO (PE.eqv (aN (yM T) hr.d rfl T.tu T.nR.kp T.sZ .nil aU (aj (aK 1) ao)) (aJ _ _ _)))) (aF vU) bT)
      (aA (eU (iC (fO (PE.eqv (aN (Et T) hr.d rfl T.xg T.rm.kp T.w6 .nil aU (aj (aK 2) (aj (aK 1) ao))) (aJ _ _ _)))) (aF vU) bT)
      (aA (IK (K:=K) rfl (aK 0) (cX gD rfl T.nm.tuple boot_tuple (aj (aK 1) ao)) rfl)
      (aF (IK (K:=K) rfl (aK 0) (cX gD rfl T.nm.tuple boot_tuple (aj (eF rfl rfl (show aO (aD nC) _ ["self", "points", "ties"] ["pair"] [] ["pair"] from⟨rfl,by symm,by symm,rfl,by symm,by symm⟩) rfl (PI.eqv (vA (K:=K) rfl (aK 2)) (sI _ _)) (fun C s H fp pn=>(aM (i:=0) (show(["pair"]:List Str).Nodup by symm) rfl (Or.inl rfl))) (fun C s H fp pn=>cR) (fun C s H fp pn=>(lR (aj (cH (cV (K:=K) rfl) (aK 0) aH (fun _ _=>rfl)) (aj (cH (cV (K:=K) rfl) (aK 0) aH (fun _ _=>rfl)) ao))))) ao)) rfl))))),?_⟩
    left;refine⟨p,xs,rfl,hp,hx,fun H1 s1=>?_⟩;left;refine⟨t,p,tv,xs,ps,rfl,ht.same s1,hpr.same s1,hp.same s1,hx,hts,fun H2 s2'=>?_⟩;have s2:=s1.trans s2';left;refine⟨_,hp.same s2,fun n H3 hn s3'=>?_⟩;have s3:=s2.trans s3';have nno:n≠o:=qD hn (s3 _ _ ho) (by intro z;cases z);refine⟨_,_,_,s3 _ _ ho,T.jA,T.Bt,by simp,?_⟩;have hto:t≠o:=by rcases ht with z | z <;> exact qD z ho (by intro y;cases y)
    have qas:∀{ob:HO} {b:Addr} {u:HO},b≠o→H b=some u→upd H3 o ob b=some u:=fun hb e=>by rw[aC hb];exact s3 _ _ e
    obtain⟨b,hb⟩:∃b,∀H',(∀c u,c≠o→H c=some u→H' c=some u)→Ud b K H' t tv:=by
      rcases ht with z | z
      ·exact⟨true,fun H' k=>aR.of (k _ _ hto z)⟩
      ·exact⟨false,fun H' k=>eO.of (k _ _ hto z)⟩
    have e1:mK "names" (V.ref n) []=([("names",V.ref n)]:List (Str×V)):=rfl;rw[e1];have Ul:∀(c:Addr) (u:HO),c≠o→H c=some u→upd H3 o (.ins a.bJ dx [("names",V.ref n)]) c=some u:=fun c u hc e=>qas hc e;generalize h4:upd H3 o (.ins a.bJ dx [("names",V.ref n)])=H4 at Ul ⊢;have ho4:H4 o=some (.ins a.bJ dx [("names",V.ref n)]):=by rw[← h4];exact ak
    have XF:H4 n=some (.tup (xs.map V.str)):=by rw[← h4,aC nno];exact hn
    refine⟨b,⟨_,hb H4 Ul⟩,fun D hD=>cmQ tv (fun i σ' H'=>(∃o',σ'=[o'])∧Same H4 H'∧∃tvs,H' D=some (.lst tvs)∧bh H' tvs (ps.take i)) ⟨⟨none,rfl⟩,aq hD,[],ak,by simp[bh]⟩ (fun i σ' H' _ h=>hb H' fun c u hc e=>h.2.1 _ _ (Ul c u hc e)) ?_ ?_⟩
    · rintro i v σ' H' hi ⟨⟨o',rfl⟩,sm,tvs,yK,htv⟩;have hi2:i<tv.length:=(List.getElem?_eq_some_iff.mp hi).1;have hlen:=hpr.1;have Lg:=hts.len;obtain⟨e,he,t2,rfl,Ks⟩:=hpr.at hi;have t2o:t2≠o:=by rcases Ks with z | z <;> exact qD z ho (by intro y;cases y)
      have ht3:Sq H' t2 [.str e.1,.str e.2]:=by
        rcases Ks with z | z
        ·exact .inl (sm _ _ (Ul _ _ t2o z))
        ·exact .inr (sm _ _ (Ul _ _ t2o z))
      left;refine⟨_,ht3.q,_,bC (j:=0) rfl,_,ht3.q,_,bC (j:=1) rfl,fun pt hpt=>?_⟩;have hDp:D≠pt:=aG yK hpt;refine⟨tvs,by rw[aC hDp];exact yK,?_,aP (sm.trans (aq hpt)) hD,_,ak,?_⟩
      · have h4':20<sizeLine:=by decide
        have:=htv.1;simp at this;omega
      · rw[take_one he];refine(htv.keep ?_).snoc ?_
        ·intro c zs ec;rw[aC (qD ec yK (by intro y;cases y)),aC (aG ec hpt)];exact ec
        ·rw[aC (Ne.symm hDp)];exact ak
    · rintro σ' H' ⟨⟨o',rfl⟩,sm,tvs,yK,htv⟩;left;refine⟨tvs,.inl yK,fun m H5 hm s5=>⟨_,_,_,s5 _ _ (sm _ _ ho4),T.jA,T.vM,by simp,?_⟩⟩;have ho5:=s5 _ _ (sm _ _ ho4);have mno:m≠o:=qD hm ho5 (by intro z;cases z);have e2:mK "pairs" (V.ref m) ([("names",V.ref n)]:List (Str×V))=([("names",V.ref n),("pairs",V.ref m)]:List (Str×V)):=by
        show(if ("names" : Str) = "pairs" then _ else (("names" : Str),V.ref n)::mK "pairs" (V.ref m) [])=_
        rw[if_neg (by symm)];rfl
      rw[e2];refine q _ ⟨dx,n,m,tvs,ak,?_,?_,?_,hts.len⟩ fun c u hc e=>?_
      ·rw[aC nno];exact s5 _ _ (sm _ _ XF)
      ·rw[aC mno];exact hm
      ·have hl:=hpr.1;rw[hl,List.take_length] at htv;refine htv.keep fun c zs ec=>?_;rw[aC (qD (s5 _ _ ec) ho5 (by intro z;cases z))];exact s5 _ _ ec
      ·rw[aC hc];exact s5 _ _ (sm _ _ (Ul c u hc e))
def KQ (C:Addr):Sp:=fun vs H Q _=>∃o xs ps,vs=[.ref o]∧iz C H o xs ps∧∀l,H l=none→Q (.ref l) (upd H l (.lst (xs.map V.str)))
theorem d9 (T:Txt K mg a):c7 P w K mg base mY 1 a.cF a.iZ ["self"] (KQ a.bJ):=by
  exists T.tE.qH,yJ
  ·obtain⟨o,xs,ps,rfl,_⟩:=h;rfl
  ·obtain⟨o,xs,ps,rfl,⟨dx,n,m,tv,h1,h2,h3,h4,h5⟩,q⟩:=h;refine⟨_,(aF (aY (cX (DK (K:=K) rfl) rfl T.nm.list boot_list (aj (PE.eqv (Al (K:=K) rfl (aK 0) rfl) (Bb _ _ _)) ao)))),?_⟩;left;refine⟨_,_,_,h1,T.jA,T.Bt,_,rfl,_,.inr (eO.of h2),q⟩
def Sy (C:Addr):Sp:=fun vs H Q _=>∃o xs ps,vs=[.ref o]∧iz C H o xs ps∧∀l tv,H l=none→bh H tv ps→Q (.ref l) (upd H l (.lst tv))
theorem pG (T:Txt K mg a):c7 P w K mg base mY 1 a.dR a.lC ["self"] (Sy a.bJ):=by
  exists T.xr.qH,El
  ·obtain⟨o,xs,ps,rfl,_⟩:=h;rfl
  ·obtain⟨o,xs,ps,rfl,⟨dx,n,m,tv,h1,h2,h3,h4,h5⟩,q⟩:=h;refine⟨_,(aF (aY (cX (DK (K:=K) rfl) rfl T.nm.list boot_list (aj (PE.eqv (Al (K:=K) rfl (aK 0) rfl) (Bb _ _ _)) ao)))),?_⟩;left;refine⟨_,_,_,h1,T.jA,T.vM,_,rfl,_,.inr (eO.of h3),fun l hl=>q l tv hl h4⟩
theorem kj.upd {p q:Addr} {H:Hp} {u:HO} (x:kj H p) (h:p≠q):kj (L2.upd H q u) p:=by
  obtain⟨a,b,e,r⟩:=x;exact⟨a,b,by rw[aC h];exact e,r⟩
theorem kj.ne {p q:Addr} {H:Hp} (x:kj H p) (h:H q=none):p≠q:=by
  obtain⟨a,b,e,r⟩:=x;exact aG e h
theorem kj.none {p b:Addr} {H H':Hp} (x:But p H H') (hp:kj H' p) (h:H' b = .none):H b = .none:=by
  obtain⟨a,b,e,r⟩:=hp;exact x.none e h
def Pk:Sp:=fun vs H Q _=>∃p l xs,vs=[.ref p,.ref l]∧kj H p∧l≠p∧H l=some (.lst xs)∧xs.length≤100∧∀r ys H',H r=none→H' r=some (.lst ys)→ys.Perm xs→kj H' p→But p H H'→Q (.ref r) H'
theorem Eu (T:Txt K mg a):c7 P w K mg base mY 2 a.lG a.sW ["_law_pot_here", "_law_things"] Pk:=by
  exists T.vL.qH,wX
  ·obtain⟨p,l,xs,rfl,_⟩:=h;rfl
  · obtain⟨p,l,xs,rfl,hp,hlp,hl,h100,q⟩:=h;refine⟨_,(aA (bB (i:=2) wX.nd rfl (Or.inl rfl) (bW ao))
      (aA (eV PassesOwn.never rfl (PI.eqv (bG (K:=K) rfl (aK 1)) (aZ _ _)) (aM (i:=3) wX.nd rfl (Or.inl rfl))
      (aF (fM (jQ (K:=K) rfl PySem.F.plainAttrs_list PySem.F.slot_list_insert PySem.F.type_list_insert GQ (aK 2) (aj (PE.eqv (aN (jg T) hr.d rfl T.j6 T.jx.kp T.j5 .nil aU (aj (aK 0) (aj (bU jE (aL (cA (K:=K) rfl) rfl T.nm.len PySem.boot_len (aj (aK 2) ao)) aH) ao))) (aJ _ _ _)) (aj (aK 3) ao))))))
      (aF (aY (aK 2))))),?_⟩
    have h4':100<sizeLine:=by decide
    left;intro r hr0;have hpr:p≠r:=hp.ne hr0;refine⟨⟨_,aR.of (bF hl hr0)⟩,Ld xs (fun i σ H'=>∃v ys,σ=[some (.ref p),some (.ref l),some (.ref r),v]∧H' r=some (.lst ys)∧ys.Perm (xs.take i)∧kj H' p∧But p H H') ⟨none,[],rfl,ak,by simp,hp.upd hpr,(But.refl _ _).new hr0⟩ (fun i σ H' _ ⟨_,_,_,_,_,_,hb⟩=>aR.of (hb _ _ hlp hl)) ?_ ?_⟩
    · rintro i x σ H' hi ⟨v,ys,rfl,hr',hperm,hP,hB⟩;have hi2:i<xs.length:=(List.getElem?_eq_some_iff.mp hi).1;have hly:ys.length=i:=by
        have:=hperm.length_eq;simp at this;omega
      left;refine⟨⟨_,aR.of hr'⟩,ys,.inl (aR.of hr'),p,_,rfl,hP,by omega,by omega,fun d H1 hd0 hd1 Pn Jl=>?_⟩;have hr1:H1 r=some (.lst ys):=Jl _ _ (Ne.symm hpr) hr';left;refine⟨ys,hr1,hd0,by omega,by omega,_,ak,?_,Pn.upd hpr,(hB.trans Jl).new hr0⟩
      · rw[take_one hi];have e:(ys.take d.toNat++x::ys.drop d.toNat).Perm (x::ys):=by
          refine List.perm_middle.trans ?_;rw[List.take_append_drop]
        exact e.trans ((List.Perm.cons x hperm).trans (List.perm_append_singleton x _).symm)
    ·rintro σ H' ⟨v,ys,rfl,hr',hperm,hP,hB⟩;rw[List.take_length] at hperm;left;exact q r ys H' hr0 hr' hperm hP hB
def XH:Sp:=fun vs H Q _=>∃(p l:Addr) (xs:List Str),vs=[.ref p,.ref l]∧kj H p∧l≠p∧H l=some (.lst (xs.map V.str))∧2≤xs.length∧xs.length≤9∧xs.Nodup∧∀t x y H',H t=none→H' t=some (.tup [.str x,.str y])→x∈xs→y∈xs→x≠y→kj H' p→But p H H'→Q (.ref t) H'
theorem XJ (T:Txt K mg a):c7 P w K mg base mY 2 a.uV a.Bm ["_law_pot_here", "_law_names_here"] XH:=by
  exists T.Pb.qH,G7
  ·obtain⟨p,l,xs,rfl,_⟩:=h;rfl
  · obtain⟨p,l,xs,rfl,hp,hlp,hl,h2,h9,hnd,q⟩:=h;refine⟨_,(aA (bB (i:=2) G7.nd rfl (Or.inl rfl) (PE.eqv (aN (jg T) hr.d rfl T.j6 T.jx.kp T.j5 .nil aU (aj (aK 0) (aj (aL (cA (K:=K) rfl) rfl T.nm.len PySem.boot_len (aj (aK 1) ao)) ao))) (aJ _ _ _)))
      (aA (bB (i:=3) G7.nd rfl (Or.inl rfl) (bU pW (bU jE (bU jE (aK 2) aH) (PE.eqv (aN (jg T) hr.d rfl T.j6 T.jx.kp T.j5 .nil aU (aj (aK 0) (aj (bU m_ (aL (cA (K:=K) rfl) rfl T.nm.len PySem.boot_len (aj (aK 1) ao)) aH) ao))) (aJ _ _ _))) (aL (cA (K:=K) rfl) rfl T.nm.len PySem.boot_len (aj (aK 1) ao))))
      (aF (aY (lR (aj (cH (cV (K:=K) rfl) (aK 1) (aK 2) (fun _ _=>rfl)) (aj (cH (cV (K:=K) rfl) (aK 1) (aK 3) (fun _ _=>rfl)) ao))))))),?_⟩
    left;refine⟨_,.inl (aR.of hl),p,_,rfl,hp,by simp;omega,by simp;omega,fun d H1 hd0 hd1 Pn Jl=>?_⟩;have hl1:=Jl _ _ hlp hl;left;refine⟨_,.inl (aR.of hl1),p,_,rfl,Pn,by simp;omega,by simp;omega,fun e H2 he0 QB hP2 hB2=>?_⟩;have hl2:=hB2 _ _ hlp hl1;simp only[List.length_map] at hd1 QB;obtain⟨m0,m1,m2⟩:=Wr hd0 hd1 he0 QB;obtain⟨vx,ex,ax⟩:=Iu (xs:=xs.map V.str) hd0 (by simpa using hd1);obtain⟨vy,ey,ay⟩:=Iu (xs:=xs.map V.str) m0 (by simpa using m1);obtain⟨x,ex',rfl⟩:=m7 ex;obtain⟨y,ey',rfl⟩:=m7 ey;have sl:=aR.of (K:=K) hl2;left;refine⟨_,.inl sl,by simp;omega,_,.inl sl,_,ax,_,.inl sl,_,(by simpa using ay),fun t ht=>?_⟩;refine q t x y _ (kj.none (Jl.trans hB2) hP2 ht) ak (List.mem_of_getElem? ex') (List.mem_of_getElem? ey') (fun z=>?_) (hP2.upd (hP2.ne ht)) ((Jl.trans hB2).same (aq ht));subst z;have:=wz hnd ex' ey';omega
def Pq:Sp:=fun vs H Q _=>∃(p:Addr) (m:Nat),vs=[.ref p,.int m]∧kj H p∧1≤m∧m≤9∧∀(r:Addr) (xs:List Str) (H':Hp),H r=none→H' r=some (.lst (xs.map V.str))→Jk xs→xs.length=m→kj H' p→But p H H'→Q (.ref r) H'
theorem Pr (T:Txt K mg a):c7 P w K mg base mY 2 a.lF a.sV ["_law_pot_here", "_law_many"] Pq:=by
  exists T.Bq.qH,ji
  ·obtain⟨p,m,rfl,_⟩:=h;rfl
  · obtain⟨p,m,rfl,hp,h1,h9,q⟩:=h;refine⟨_,(aA (bB (i:=2) ji.nd rfl (Or.inl rfl) vR)
      (aA (bB (i:=3) ji.nd rfl (Or.inl rfl) (PE.eqv (aN (jg T) hr.d rfl T.j6 T.jx.kp T.j5 .nil aU (aj (aK 0) (aj aH ao))) (aJ _ _ _)))
      (aA (bB (i:=4) ji.nd rfl (Or.inl rfl) (bW ao))
      (aA (eV PassesOwn.never rfl (PI.eqv (jL rfl T.nm.range (aj (aK 1) ao)) (jM _)) (aM (i:=5) ji.nd rfl (Or.inl rfl))
      (aA (bB (i:=6) ji.nd rfl (Or.inl rfl) (cH Jb (aK 2) (bU pW (bU jE (aK 3) (bU pU aH (aK 5))) aH) (fun _ _=>rfl)))
      (aA (eV PassesOwn.never rfl (PI.eqv (jL rfl T.nm.range (aj (PE.eqv (aN (jg T) hr.d rfl T.j6 T.jx.kp T.j5 .nil aU (aj (aK 0) (aj aH ao))) (aJ _ _ _)) ao)) (jM _)) (aM (i:=7) ji.nd rfl (Or.inl rfl))
      (aF (bB (i:=6) ji.nd rfl (Or.inl rfl) (bU Dt (aK 6) (cH Jb (aK 2) (PE.eqv (aN (jg T) hr.d rfl T.j6 T.jx.kp T.j5 .nil aU (aj (aK 0) (aj aH ao))) (aJ _ _ _)) (fun _ _=>rfl))))))
      (aF (fM (jQ (K:=K) rfl PySem.F.plainAttrs_list PySem.F.slot_list_append PySem.F.type_list_append dB (aK 4) (aj (aK 6) ao)))))))
      (aF (aY (aK 4))))))),?_⟩
    left;refine⟨p,_,rfl,hp,by decide,by decide,fun d H1 hd0 hd1 Pn Jl=>?_⟩;obtain⟨b,rfl,qeu,hbl⟩:=oX hd0 hd1;have hP2:=Pn;have hB2:=Jl;left;intro r hr0;refine⟨by omega,ZQ (fun i σ H'=>∃v8 v9 v10 ws,σ=[some (.ref p),some (.int m),some (.str (Str.ofString "abcdefghijklmnopqrstuvwxyz")),some (.int b),some (.ref r),v8,v9,v10]∧H' r=some (.lst (ws.map V.str))∧ws.length=i∧(∀(j:Nat) x,ws[j]? = some x→∃k,1≤k∧k≤4∧lV (97+(b+5 * j) % 26) k x)∧kj H' p∧But p H H') ⟨none,none,none,[],rfl,ak,rfl,fun j x e=>by simp at e,hP2.upd (hP2.ne hr0),hB2.same (aq hr0)⟩ ?_ ?_⟩
    · rintro i σ H' hi ⟨v8,v9,v10,ws,rfl,hr',hl,hw,hP,hB⟩;left;obtain⟨c,hc,qdn,hcl⟩:=oX (i:=((b:Int)+5 * i) % 26) (by omega) (by omega);have hc':c=(b+5 * i) % 26:=by omega
      have pr:r≠p:=fun z=>by subst z;obtain⟨_,_,u,_⟩:=hP2;rw[hr0] at u;cases u
      refine⟨uQ,_,hcl,p,_,rfl,hP,by decide,by decide,fun e H3 he0 QB SJ hB3=>?_⟩;left;refine⟨by omega,by omega,ZQ (fun j σ H'=>∃v10 x,σ=[some (.ref p),some (.int m),some (.str (Str.ofString "abcdefghijklmnopqrstuvwxyz")),some (.int b),some (.ref r),some (.int i),some (.str x),v10]∧H' r=some (.lst (ws.map V.str))∧lV (97+c) (j+1) x∧kj H' p∧But p H H') ⟨v10,_,rfl,hB3 _ _ pr hr',lV.one qdn,SJ,hB.trans hB3⟩ ?_ ?_⟩
      ·rintro j σ H4 hj ⟨v10,x,rfl,XM,hx,KR,Pu⟩;left;refine⟨p,_,rfl,KR,by decide,by decide,fun f H5 hf0 hf1 Fx Px=>?_⟩;obtain⟨n,rfl,qdo,hnl⟩:=oX hf0 hf1;simp -dsimp[au,stC,-Bool.exists_bool,-List.map_take,-Prod.forall,-Prod.exists,uQ,hnl];have hx1:=hx.len;have XQ:=of_eq_true yG;refine⟨?_,_,_,⟨rfl,rfl⟩,Px _ _ pr XM,hx.snoc (by omega) qdo,Fx,Pu.trans Px⟩;show x.length+1≤sizeLine;omega
      · rintro σ H4 ⟨v10,x,rfl,XM,hx,KR,Pu⟩;left;have XQ:=of_eq_true yG;refine⟨⟨_,aR.of XM⟩,_,XM,by simp;omega,ws++[x],by rw[ak];simp,by simp[hl],fun j y e=>?_,KR.upd pr.symm,Pu.new (kj.none hB2 hP2 hr0)⟩
        by_cases hj:j<ws.length
        ·rw[List.getElem?_append_left hj] at e;exact hw j y e
        · rw[List.getElem?_append_right (by omega)] at e;cases hk:j - ws.length with
          | zero=>
            rw[hk] at e;simp at e;subst e;have ej:j=i:=by omega
            subst ej;exact⟨_,by omega,by omega,hc'▸hx⟩
          | succ k=>
            rw[hk] at e;simp at e
    · rintro σ H' ⟨v8,v9,v10,ws,rfl,hr',hl,hw,hP,hB⟩;left;have nd:ws.Nodup:=by
        unfold List.Nodup;rw[List.pairwise_iff_getElem];intro i j hi hj hij e;obtain⟨k1,_,_,w1⟩:=hw i _ (by simp[hi]:ws[i]? = some ws[i]);obtain⟨k2,_,_,w2⟩:=hw j _ (by simp[hj]:ws[j]? = some ws[j]);have z:=w1.fst;rw[e,w2.fst] at z;simp at z;omega
      refine q r ws H' (kj.none hB2 hP2 hr0) hr' ⟨by omega,fun x hx=>?_,nd⟩ hl hP hB;obtain⟨j,hj,e⟩:=List.mem_iff_getElem.mp hx;obtain⟨k,k1,k4,w⟩:=hw j x (by simp[hj,e]);exact w.name k1 k4
theorem bh.perm {H:Hp} {vs ys:List V} {ps:List (Str×Str)} (h:bh H vs ps) (hp:ys.Perm vs):∃qs:List (Str×Str),bh H ys qs∧qs.Perm ps:=by
  have e1:vs=(vs.zip ps).map (·.1):=by rw[List.map_fst_zip (by rw[h.1];exact Nat.le_refl _)]
  have e2:ps=(vs.zip ps).map (·.2):=by rw[List.map_snd_zip (by rw[h.1];exact Nat.le_refl _)]
  obtain⟨l',pl,e⟩:=rT hp _ e1;refine⟨l'.map (·.2),⟨by rw[e];simp,fun i v d h1 h2=>?_⟩,by rw[e2];exact pl.map _⟩;rw[e,List.getElem?_map] at h1;rw[List.getElem?_map] at h2;cases hz:l'[i]? with
  | none=>rw[hz] at h1;cases h1
  | some z=>
    rw[hz] at h1 h2;cases h1;cases h2;have hm:z∈vs.zip ps:=pl.mem_iff.mp (List.mem_of_getElem? hz);obtain⟨j,hj,ez⟩:=List.mem_iff_getElem.mp hm;have hj':j<vs.length∧j<ps.length:=by
      simp at hj;omega
    simp at ez;subst ez;exact h.2 j _ _ (by simp[hj'.1]) (by simp[hj'.2])
theorem bh.at {H:Hp} {vs:List V} {ps:List (Str×Str)} (h:bh H vs ps) {i:Nat} {v:V} (hv:vs[i]? = some v):∃e,ps[i]? = some e∧∃t,v = .ref t∧H t=some (.tup [.str e.1,.str e.2]):=by
  have hi:i<ps.length:=by rw[← h.1];exact(List.getElem?_eq_some_iff.mp hv).1
  exact⟨ps[i],by simp[hi],h.2 i v _ hv (by simp[hi])⟩
theorem bh.but {p:Addr} {H H':Hp} {vs:List V} {ps:List (Str×Str)} (h:bh H vs ps) (hp:kj H p) (b:But p H H'):bh H' vs ps:=h.keep fun c xs e=>b c _ (fun z=>by
  subst z;obtain⟨_,_,u,_⟩:=hp;rw[e] at u;cases u) e
theorem bh.same {H H':Hp} {vs:List V} {ps:List (Str×Str)} (h:bh H vs ps) (b:Same H H'):bh H' vs ps:=h.keep fun c xs e=>b c _ e
theorem kj.nl {p q:Addr} {H:Hp} (x:kj H p) (h:H q = .none):q≠p:=fun z=>(x.ne h) z.symm
def XR:Sp:=fun vs H Q _=>∃(p:Addr) (m k:Nat),vs=[.ref p,.int m,.int k]∧kj H p∧1≤m∧m≤9∧m≤k∧k≤20∧∀(t n l:Addr) (xs:List Str) (tv:List V) (ps:List (Str×Str)) (H':Hp),
  H t=none→H n=none→H l=none→H' t=some (.tup [.ref n,.ref l])→H' n=some (.lst (xs.map V.str))→H' l=some (.lst tv)→bh H' tv ps→Jk xs→qy xs ps→xs.length≤m→ps.length≤k→kj H' p→But p H H'→Q (.ref t) H'
theorem XS (T:Txt K mg a):c7 P w K mg base mY 3 a.uW a.Bo ["_law_pot_here", "_law_points", "_law_most"] XR:=by
  exists T.Pg.qH,nG
  ·obtain⟨p,m,k,rfl,_⟩:=h;rfl
  · obtain⟨p,m,k,rfl,hp,h1,h9,hmk,hk,q⟩:=h;refine⟨_,(aA (bB (i:=3) nG.nd rfl (Or.inl rfl) (PE.eqv (aN (Pr T) hr.d rfl T.Jj T.Bq.kp T.Ji .nil aU (aj (aK 0) (aj (bU jE aH (PE.eqv (aN (jg T) hr.d rfl T.j6 T.jx.kp T.j5 .nil aU (aj (aK 0) (aj (aK 1) ao))) (aJ _ _ _))) ao))) (aJ _ _ _)))
      (aA (bB (i:=4) nG.nd rfl (Or.inl rfl) (PE.eqv (aN (jg T) hr.d rfl T.j6 T.jx.kp T.j5 .nil aU (aj (aK 0) (aj aH ao))) (aJ _ _ _)))
      (aA (bB (i:=5) nG.nd rfl (Or.inl rfl) (bW ao))
      (aA (eU (aW uf (aL (cA (K:=K) rfl) rfl T.nm.len PySem.boot_len (aj (aK 3) ao)) aH (bV _)) (aA (bB (i:=6) nG.nd rfl (Or.inr rfl) (PE.eqv (aN (Eu T) hr.d rfl T.Bs T.vL.kp T.Br .nil aU (aj (aK 0) (aj (aK 3) ao))) (aJ _ _ _)))
      (aA (eU (aW uf (aK 4) aH (bV _)) (aF (iD (i:=5) nG.nd rfl rfl rfl rfl (show aO (aD zL) _ ["_law_pot_here", "_law_points", "_law_most", "_law_names_here", "_law_kind", "_law_ties", "_law_row", "_law_k", "_law_turns"] ["_law_k"] [6] ["_law_k", "_law_row"] from⟨rfl,by symm,by symm,rfl,by symm,by symm⟩) rfl (PI.eqv (Ju rfl T.nm.range (aj (cX GK rfl T.nm.int zc (aj (gM ni (aK 4) aH (bV _)) ao)) (aj (aL (cA (K:=K) rfl) rfl T.nm.len PySem.boot_len (aj (aK 6) ao)) ao))) (Km _)) (fun C s H fp pn=>(aM (i:=0) (show(["_law_k", "_law_row"]:List Str).Nodup by symm) rfl (Or.inl rfl))) (fun C s H fp pn=>cR) (fun C s H fp pn=>(lR (aj (cH (cV (K:=K) rfl) (aK 1) (bU m_ (aK 0) aH) (fun _ _=>rfl)) (aj (cH (cV (K:=K) rfl) (aK 1) (aK 0) (fun _ _=>rfl)) ao)))))) bT)
      (aF (eV PassesOwn.never rfl (PI.eqv (jL rfl T.nm.range (aj (PE.eqv (aN (jg T) hr.d rfl T.j6 T.jx.kp T.j5 .nil aU (aj (aK 0) (aj (bU jE (bU m_ (aK 2) (aL (cA (K:=K) rfl) rfl T.nm.len PySem.boot_len (aj (aK 5) ao))) aH) ao))) (aJ _ _ _)) ao)) (jM _)) (aM (i:=7) nG.nd rfl (Or.inl rfl))
      (aF (fM (jQ (K:=K) rfl PySem.F.plainAttrs_list PySem.F.slot_list_append PySem.F.type_list_append dB (aK 5) (aj (PE.eqv (aN (XJ T) hr.d rfl T.U3 T.Pb.kp T.U0 .nil aU (aj (aK 0) (aj (aK 3) ao))) (aJ _ _ _)) ao)))))))) bT)
      (aA (iD (i:=8) nG.nd rfl rfl rfl rfl (show aO (aD zL) _ ["_law_pot_here", "_law_points", "_law_most", "_law_names_here", "_law_kind", "_law_ties", "_law_row", "_law_k", "_law_turns"] ["_law_tie_here"] [0] ["_law_tie_here", "_law_pot_here"] from⟨rfl,by symm,by symm,rfl,by symm,by symm⟩) rfl (PI.eqv (bG (K:=K) rfl (aK 5)) (aZ _ _)) (fun C s H fp pn=>(aM (i:=0) (show(["_law_tie_here", "_law_pot_here"]:List Str).Nodup by symm) rfl (Or.inl rfl))) (fun C s H fp pn=>cR) (fun C s H fp pn=>(PE.eqv (aN (jg T) hr.d rfl T.j6 T.jx.kp T.j5 .nil aU (aj (aK 1) (aj aH ao))) (aJ _ _ _))))
      (aA (iD (i:=5) nG.nd rfl rfl rfl rfl (show aO (aD zL) _ ["_law_pot_here", "_law_points", "_law_most", "_law_names_here", "_law_kind", "_law_ties", "_law_row", "_law_k", "_law_turns"] ["_law_turn", "_law_a", "_law_b"] [] ["_law_turn", "_law_a", "_law_b"] from⟨rfl,by symm,by symm,rfl,by symm,by symm⟩) rfl (PI.eqv (Iz (K:=K) rfl rfl T.nm.zip (aj (aK 5) (aj (aK 8) ao))) (Dz _ _)) (fun C s H fp pn=>(PG.eqv (iM (K:=K) (n:=2) rfl rfl (mJ.eqv (bK (PG.eqv (iM (K:=K) (n:=2) rfl rfl (mJ.eqv (bK (aM (i:=1) (show(["_law_turn", "_law_a", "_law_b"]:List Str).Nodup by symm) rfl (Or.inl rfl)) (mJ.eqv (bK (aM (i:=2) (show(["_law_turn", "_law_a", "_law_b"]:List Str).Nodup by symm) rfl (Or.inl rfl)) (mJ.mono iK lW)) (bM _ _))) (bM _ _))) (iQ _ _ _)) (mJ.eqv (bK (aM (i:=0) (show(["_law_turn", "_law_a", "_law_b"]:List Str).Nodup by symm) rfl (Or.inl rfl)) (mJ.mono iK lW)) (bM _ _))) (bM _ _))) (iQ _ _ _))) (fun C s H fp pn=>cR) (fun C s H fp pn=>(cH (cV (K:=K) rfl) (bW (aj (lR (aj (aK 1) (aj (aK 2) ao))) (aj (lR (aj (aK 2) (aj (aK 1) ao))) ao))) (aK 0) (fun _ _=>rfl))))
      (aF (aY (lR (aj (aK 3) (aj (PE.eqv (aN (Eu T) hr.d rfl T.Bs T.vL.kp T.Br .nil aU (aj (aK 0) (aj (aK 5) ao))) (aJ _ _ _)) ao))))))))))),?_⟩
    left;refine⟨p,_,rfl,hp,qdh h1,zlt h9 (by decide),fun d H1 hd0 hd1 Pn Jl=>?_⟩;left;refine⟨p,d.toNat+1,?_,Pn,Nat.le_add_left 1 _,ztn hd0 hd1 h9,fun n xs H2 hn hn2 hX hxl hP2 hB2'=>?_⟩
    ·simp;exact qdj hd0 1
    have Le:xs.length≤m:=by rw[hxl];exact ztn hd0 hd1 (Nat.le_refl m)
    have hx9:=Nat.le_trans Le h9;have hB2:=Jl.trans hB2';left;refine⟨p,_,rfl,hP2,by decide,by decide,fun kd H3 hk0 hk1 SJ qat=>?_⟩;have hB3:=hB2.trans qat;have np:n≠p:=fun z=>by subst z;obtain⟨_,_,u,_⟩:=Pn;rw[hn] at u;cases u
    have hn3:=qat _ _ np hn2;left;refine fun L hL=>⟨_,.inl (aR.of (bF hn3 hL)),wG (fun σ H4=>∃v6 v7 L tv ps,σ=[some (.ref p),some (.int m),some (.int k),some (.ref n),some (.int kd),some (.ref L),v6,v7,none]∧H L=none∧H4 L=some (.lst tv)∧bh H4 tv ps∧qy xs ps∧ps.length≤k∧H4 n=some (.lst (xs.map V.str))∧kj H4 p∧But p H H4) ?_ ?_⟩
    · rintro σ H4 ⟨v6,v7,L,tv,ps,rfl,hL0,Fy,htv,hts,hpk,XF,KR,Pu⟩;left;have Lp:L≠p:=hp.nl hL0;have G_:tv.length≤20:=by rw[htv.1];exact Nat.le_trans hpk hk
      have XQ:=of_eq_true yG;refine⟨⟨_,aR.of Fy⟩,fun D hD=>Nu tv (fun i σ H'=>∃v ds,σ=[v,some (.ref p)]∧H' D=some (.lst (ds.map V.int))∧ds.length=i∧(∀d∈ds,0≤d∧d<2)∧H' L=some (.lst tv)∧bh H' tv ps∧H' n=some (.lst (xs.map V.str))∧kj H' p∧But p H H') ⟨none,[],rfl,ak,rfl,by simp,bF Fy hD,htv.same (aq hD),bF XF hD,KR.upd (KR.ne hD),Pu.same (aq hD)⟩ (fun i σ H' _ h=>by
        obtain⟨_,_,_,_,_,_,z,_⟩:=h;exact aR.of z) ?_ ?_⟩
      · rintro i x σ H5 hi ⟨v,ds,rfl,KY,hl,hds,QD,X3,YL,Fx,Px⟩;have hi2:i<tv.length:=(List.getElem?_eq_some_iff.mp hi).1;left;refine⟨p,_,rfl,Fx,by decide,by decide,fun d H6 hd0 hd1 SM Py=>?_⟩;have Dp:D≠p:=KR.nl hD;have LD:L≠D:=aG Fy hD;have nD:n≠D:=aG XF hD;have Hf:=Py _ _ Dp KY;left;refine⟨_,Hf,by rw[List.length_map,hl];exact zsz hi2 G_,ds++[d],by rw[ak];simp,by simp[hl],?_,by rw[aC LD];exact Py _ _ Lp QD,(X3.but Fx Py).keep (fun c zs e=>vB e Hf (by intro z;cases z)),by rw[aC nD];exact Py _ _ np YL,SM.upd (Dp.symm),(Px.trans Py).new (kj.none Pu KR hD)⟩;intro z hz
        rcases List.mem_append.mp hz with y | y
        ·exact hds z y
        ·simp at y;subst y;exact⟨hd0,hd1⟩
      · rintro σ H5 ⟨v,ds,rfl,KY,hl,hds,QD,X3,YL,Fx,Px⟩;left;have hD0:=kj.none Pu KR hD;have LD:L≠D:=aG Fy hD;refine⟨⟨_,aR.of QD⟩,⟨_,aR.of KY⟩,fun D2 hD2=>cmZ tv (ds.map V.int) (fun i σ H'=>(∃o1 o2 o3,σ=[o1,o2,o3])∧∃tvs qs,H' D2=some (.lst tvs)∧bh H' tvs qs∧qs.length=i∧(∀e∈qs,e.1∈xs∧e.2∈xs∧e.1≠e.2)∧H' L=some (.lst tv)∧H' D=some (.lst (ds.map V.int))∧bh H' tv ps∧H' n=some (.lst (xs.map V.str))∧kj H' p∧But p H H') ⟨⟨_,_,_,rfl⟩,[],[],ak,⟨rfl,by simp⟩,rfl,by simp,bF QD hD2,bF KY hD2,X3.same (aq hD2),bF YL hD2,Fx.upd (Fx.ne hD2),Px.same (aq hD2)⟩ (by simp[hl]) (fun i σ H' _ h=>by
          obtain⟨_,_,_,_,_,_,_,z1,z2,_⟩:=h;exact⟨aR.of z1,aR.of z2⟩) ?_ ?_⟩
        · rintro i x y t σ H6 hx hy ht ⟨⟨o1,o2,o3,rfl⟩,tvs,qs,X4,yN,hql,X5,hL6,Hf,X6,hn6,SM,Py⟩;left;obtain⟨e,he,tt,rfl,htt⟩:=X6.at hx;have hi2:i<tv.length:=(List.getElem?_eq_some_iff.mp hx).1;have hem:=List.mem_of_getElem? he;rw[List.getElem?_map] at hy;obtain⟨d,hd,rfl⟩:∃d,ds[i]? = some d∧y = .int d:=by
            cases z:ds[i]? with
            | none=>rw[z] at hy;cases hy
            | some d=>rw[z] at hy;exact⟨d,rfl,(Option.some.inj hy).symm⟩
          have hd2:=hds d (List.mem_of_getElem? hd);refine⟨_,eO.of ak,rfl,_,eO.of (bF htt ht),rfl,?_⟩;left;refine fun p1 h1 p2 h2 p3 h3=>⟨_,.inl (aR.of ak),?_⟩;have hp1:=bF (u:=HO.lst [V.ref p1,V.ref p2]) (bF (u:=HO.tup [.str e.2,.str e.1]) (ak (H:=upd H6 t (HO.tup [V.ref tt,V.int d])) (a:=p1) (o:=HO.tup [.str e.1,.str e.2])) h2) h3;have hp2:=bF (u:=HO.lst [V.ref p1,V.ref p2]) (ak (H:=upd (upd H6 t (HO.tup [V.ref tt,V.int d])) p1 (HO.tup [.str e.1,.str e.2])) (a:=p2) (o:=HO.tup [.str e.2,.str e.1])) h3;have sm:=(((aq (o:=HO.tup [V.ref tt,V.int d]) ht).trans (aq (o:=HO.tup [.str e.1,.str e.2]) h1)).trans (aq (o:=HO.tup [.str e.2,.str e.1]) h2)).trans (aq (o:=HO.lst [V.ref p1,V.ref p2]) h3);generalize upd (upd (upd (upd H6 t (HO.tup [V.ref tt,V.int d])) p1 (HO.tup [.str e.1,.str e.2])) p2 (HO.tup [.str e.2,.str e.1])) p3 (HO.lst [V.ref p1,V.ref p2])=H9 at hp1 hp2 sm ⊢;have key:∃(pp:Addr) (e':Str×Str),yu [V.ref p1,V.ref p2] d=some (.ref pp)∧H9 pp=some (.tup [.str e'.1,.str e'.2])∧e'.1∈xs∧e'.2∈xs∧e'.1≠e'.2:=by
            have ⟨q1,q2,q3⟩:=hts.ok e hem;have:d=0∨d=1:=z01 hd2.1 hd2.2
            rcases this with rfl | rfl
            ·exact⟨p1,e,rfl,hp1,q1,q2,q3⟩
            ·exact⟨p2,(e.2,e.1),rfl,hp2,q2,q1,Ne.symm q3⟩
          obtain⟨pp,e',a1,hpp,k1,k2,k3⟩:=key;have D2n:=hD2;have D2p:D2≠p:=Fx.nl hD2;have LD2:L≠D2:=aG QD hD2;have DD2:D≠D2:=aG KY hD2;have nD2:n≠D2:=aG YL hD2;have qau:=sm _ _ X4;have kp:dg H9 (upd H9 D2 (.lst (tvs++[.ref pp]))):=fun c zs e=>vB e qau (by intro z;cases z);have hP9:kj H9 p:=by
            obtain⟨u1,u2,u3,u4⟩:=SM;exact⟨u1,u2,sm _ _ u3,u4⟩
          refine⟨_,a1,_,qau,?_,_,ak,qs++[e'],((yN.same sm).keep kp).snoc (kp _ _ hpp),by simp[hql],?_,by rw[aC LD2];exact sm _ _ hL6,by rw[aC DD2];exact sm _ _ Hf,(X6.same sm).keep kp,by rw[aC nD2];exact sm _ _ hn6,hP9.upd D2p.symm,(Py.same sm).new (kj.none Px Fx hD2)⟩
          ·rw[yN.1,hql];exact zsz hi2 G_
          · intro z hz
            rcases List.mem_append.mp hz with y | y
            ·exact X5 z y
            ·simp at y;subst y;exact⟨k1,k2,k3⟩
        · rintro σ H6 ⟨⟨o1,o2,o3,rfl⟩,tvs,qs,X4,yN,hql,X5,hL6,Hf,X6,hn6,SM,Py⟩;left;have D2p:D2≠p:=Fx.nl hD2;have qev:=kj.none Px Fx hD2;have tl:tvs.length=tv.length:=by rw[yN.1,hql]
          refine⟨p,D2,_,rfl,SM,D2p,X4,by rw[tl];exact Nat.le_trans G_ (by decide),fun l ys H7 hl0 hl7 hperm U7 U8=>?_⟩;left;intro t ht;obtain⟨rs,hrs,SN⟩:=(yN.but SM U8).perm hperm;refine q t n l xs ys rs _ (kj.none (Py.trans U8) U7 ht) (kj.none Jl Pn hn) (kj.none Py SM hl0) ak (bF (U8 _ _ np hn6) ht) (bF hl7 ht) (hrs.same (aq ht)) hX ⟨?_,fun e he=>X5 e (SN.mem_iff.mp he)⟩ Le ?_ (U7.upd (U7.ne ht)) ((Py.trans U8).same (aq ht))
          ·rw[SN.length_eq,hql];exact G_
          ·rw[SN.length_eq,hql,htv.1];exact hpk
    · intro N hN;refine eX.of (fun h=>?_) (fun h=>?_)
      · left;have hx2:2≤xs.length:=by simp at h;exact z2 h
        have qav:upd H3 L (.lst []) n=some (.lst (xs.map V.str)):=bF hn3 hL;refine⟨p,n,_,rfl,SJ.upd (SJ.ne hL),np,qav,by rw[List.length_map];exact Nat.le_trans hx9 (by decide),fun rw ys H4 hrw qaw hperm KR X7=>?_⟩;have Pu:=(hB3.same (aq hL)).trans X7;obtain⟨zs,hzp,rfl⟩:=rT hperm xs rfl;have hzl:zs.length=xs.length:=hzp.length_eq;have qdp:zs.Nodup:=hzp.nodup_iff.mpr hX.nd;have XF:=X7 _ _ np qav;have Fy:H4 L=some (.lst []):=X7 _ _ (SJ.nl hL) ak;have hL0:=kj.none hB3 SJ hL;left;refine wG (fun σ H5=>∃v6 v7 L tv ps,σ=[some (.ref p),some (.int m),some (.int k),some (.ref n),some (.int kd),some (.ref L),v6,v7,none]∧H L=none∧H5 L=some (.lst tv)∧bh H5 tv ps∧qy xs ps∧ps.length≤m∧H5 n=some (.lst (xs.map V.str))∧kj H5 p∧But p H H5) ?_ ?_
        · rintro σ H5 ⟨v6,v7,L,tv,ps,rfl,hL0,QD,htv,hts,hpm,YL,Fx,Px⟩;left;have Lp:L≠p:=hp.nl hL0;have G_:tv.length=ps.length:=htv.1;have XQ:=of_eq_true yG;have htk:tv.length≤k:=by rw[G_];exact Nat.le_trans hpm hmk
          refine⟨_,.inl (aR.of QD),p,_,rfl,Fx,zk1 htk,zk2 hk (by decide),fun f H6 hf0 hf1 SM SQ=>?_⟩;left;refine⟨zlo hf0,Int.lt_trans hf1 (zk2 hk (by decide)),ZQ (fun i σ H7=>∃v7 tv ps,σ=[some (.ref p),some (.int m),some (.int k),some (.ref n),some (.int kd),some (.ref L),v6,v7,none]∧H7 L=some (.lst tv)∧bh H7 tv ps∧qy xs ps∧ps.length+f.toNat≤k+i∧H7 n=some (.lst (xs.map V.str))∧kj H7 p∧But p H H7) ⟨v7,tv,ps,rfl,SQ _ _ Lp QD,htv.but Fx SQ,hts,zk3 hf0 hf1 G_,SQ _ _ np YL,SM,Px.trans SQ⟩ ?_ ?_⟩
          · rintro i σ H7 hi ⟨v7,tv,ps,rfl,U9,Pz,X8,hpl,hn7,U7,U8⟩;left;refine⟨⟨_,aR.of U9⟩,p,n,xs,rfl,U7,np,hn7,hx2,hx9,hX.nd,fun t x y H8 ht ht8 hx hy hxy hP8 hB8=>?_⟩;left;have hL8:=hB8 _ _ Lp U9;have hl7:=Pz.1;have kp:dg H8 (upd H8 L (.lst (tv++[.ref t]))):=fun c zs e=>vB e hL8 (by intro z;cases z);have nL:n≠L:=fun z=>by subst z;rw[kj.none Jl Pn hn] at hL0;rw[hn7] at U9;cases tv with
              | nil=>simp at U9;rw[U9] at hx2;simp at hx2
              | cons v tv=>
                obtain⟨e,_,u,rfl,_⟩:=Pz.at (i:=0) rfl;cases xs with
                | nil=>simp at hx2
                | cons x xs=>simp at U9
            refine⟨_,hL8,zk4 hl7 hpl hi hk,_,ak,ps++[(x,y)],((Pz.but U7 hB8).keep kp).snoc (kp _ _ ht8),⟨by rw[List.length_append];exact Nat.succ_le_succ (zk5 hpl hi hk),?_⟩,by rw[List.length_append];exact zk6 hpl,by rw[aC nL];exact hB8 _ _ np hn7,hP8.upd Lp.symm,(U8.trans hB8).new hL0⟩;intro e he
            rcases List.mem_append.mp he with z | z
            ·exact X8.ok e z
            ·simp at z;subst z;exact⟨hx,hy,hxy⟩
          ·rintro σ H7 ⟨v7,tv,ps,rfl,U9,Pz,X8,hpl,hn7,U7,U8⟩;left;exact hN _ _ ⟨_,_,L,tv,ps,rfl,hL0,U9,Pz,X8,zk7 hpl,hn7,U7,U8⟩
        · intro N2 YM;refine eX.of (fun h=>?_) (fun h=>?_)
          · left;obtain⟨lo,hlo,lo1⟩:∃lo:Nat,(if kd=3 then (1:Int) else 0)=lo∧lo≤1:=by
              split
              ·exact⟨1,rfl,Nat.le_refl _⟩
              ·exact⟨0,rfl,by decide⟩
            simp only[hlo];have XQ:=of_eq_true yG;refine⟨_,.inl (aR.of qaw),⟨qdi,zlt lo1 (by decide),zlt (by rw[List.length_map,hzl];exact hx9) (by decide)⟩,fun D hD=>cmR (fun i σ H5=>(∃o,σ=[o,some (.ref rw)])∧∃tvs qs,H5 D=some (.lst tvs)∧bh H5 tvs qs∧qs.length=i∧(∀e∈qs,e.1∈xs∧e.2∈xs∧e.1≠e.2)∧Same H4 H5) ⟨⟨_,rfl⟩,[],[],ak,⟨rfl,by simp⟩,rfl,by simp,aq hD⟩ ?_ ?_⟩
            · rintro i σ H5 hi ⟨⟨o,rfl⟩,tvs,qs,KY,yN,hql,X5,sm⟩;have hk:lo+i<zs.length:=by simp at hi;exact qdk hi
              obtain⟨j,vx,hj,ex,ax⟩:=Nv (xs:=zs.map V.str) (k:=lo+i) (by rw[List.length_map,hzl];exact hx2) (by simpa using hk);obtain⟨x,ex',rfl⟩:=m7 ex;have ey':zs[lo+i]? = some (zs[lo+i]'hk):=by simp[hk]
              have ay:yu (zs.map V.str) ((lo+i:Nat):Int)=some (.str (zs[lo+i]'hk)):=bC (by rw[List.getElem?_map,ey'];rfl);have c1:((lo+i:Nat):Int)=(lo:Int)+i:=Int.natCast_add ..;rw[c1] at ax ay;have sl:=aR.of (K:=K) (sm _ _ qaw);left;refine⟨_,.inl sl,_,ax,_,.inl sl,_,ay,fun pt hpt=>?_⟩;have Dpt:=aG KY hpt;have Hf:upd H5 pt (.tup [.str x,.str (zs[lo+i]'hk)]) D=some (.lst tvs):=bF KY hpt;have kp:dg (upd H5 pt (.tup [.str x,.str (zs[lo+i]'hk)])) (upd (upd H5 pt (.tup [.str x,.str (zs[lo+i]'hk)])) D (.lst (tvs++[.ref pt]))):=fun c zs e=>vB e Hf (by intro z;cases z);have hl:=yN.1;refine⟨_,Hf,by rw[hl,hql];exact zsz (Nat.lt_of_le_of_lt (Nat.le_add_left i lo) hk) (by rw[hzl];exact Nat.le_trans hx9 (by decide)),_,ak,qs++[(x,zs[lo+i]'hk)],((yN.same (aq hpt)).keep kp).snoc (kp _ _ ak),by simp[hql],?_,aP (sm.trans (aq hpt)) hD⟩;intro e he
              rcases List.mem_append.mp he with z | z
              ·exact X5 e z
              ·simp at z;subst z;refine⟨hzp.mem_iff.mp (List.mem_of_getElem? ex'),hzp.mem_iff.mp (List.mem_of_getElem? ey'),fun z=>hj ?_⟩;simp only at z;rw[← z] at ey';exact wz qdp ex' ey'
            · rintro σ H5 ⟨⟨o,rfl⟩,tvs,qs,KY,yN,hql,X5,sm⟩;left;simp at hql;have hqm:qs.length≤m:=by rw[hql,hzl];exact Nat.le_trans (Nat.sub_le ..) Le
              have Fx:kj H5 p:=by
                obtain⟨u1,u2,u3,u4⟩:=KR;exact⟨u1,u2,sm _ _ u3,u4⟩
              exact YM _ _ ⟨_,_,D,tvs,qs,rfl,kj.none Pu KR hD,KY,yN,⟨Nat.le_trans hqm (Nat.le_trans h9 (by decide)),X5⟩,hqm,sm _ _ XF,Fx,Pu.same sm⟩
          ·left;exact YM _ _ ⟨_,_,L,[],[],rfl,hL0,Fy,⟨rfl,by simp⟩,⟨by simp,by simp⟩,by simp,XF,KR,Pu⟩
      ·left;exact hN _ _ ⟨_,_,L,[],[],rfl,kj.none hB3 SJ hL,ak,⟨rfl,by simp⟩,⟨by simp,by simp⟩,by simp,bF hn3 hL,SJ.upd (SJ.ne hL),hB3.same (aq hL)⟩
theorem qax {m:Str} {u v:V} (h1:¬m = "names") (h2:¬m = "pairs"):∀p∈([("names",u),("pairs",v)]:List (Str×V)),¬m=p.1:=fun p hp=>by
  simp at hp
  rcases hp with rfl | rfl
  ·exact h1
  ·exact h2
theorem iz.same {C:Addr} {H H':Hp} {o:Addr} {xs:List Str} {ps:List (Str×Str)} (h:iz C H o xs ps) (s:Same H H'):iz C H' o xs ps:=by
  obtain⟨dx,n,m,tv,h1,h2,h3,h4,h5⟩:=h.ex;exact⟨⟨dx,n,m,tv,s _ _ h1,s _ _ h2,s _ _ h3,bh.same h4 s,h5⟩⟩
theorem iz.ins {C:Addr} {H:Hp} {o:Addr} {xs:List Str} {ps:List (Str×Str)} (h:iz C H o xs ps) {m:Str} (h1:¬m = "names") (h2:¬m = "pairs"):∃dx fs,H o=some (.ins C dx fs)∧∀p∈fs,¬m=p.1:=by
  obtain⟨dx,n,mm,tv,e,_⟩:=h.ex;exact⟨dx,_,e,qax h1 h2⟩
theorem qt:¬(("ties" : Str) = "names")∧¬(("ties" : Str) = "pairs"):=by symm
theorem cY:¬(("points" : Str) = "names")∧¬(("points" : Str) = "pairs"):=by symm
theorem Jm:¬(("many" : Str) = "names")∧¬(("many" : Str) = "pairs"):=by symm
def xP (C:Addr):Sp:=fun vs H Q _=>∃o d xs ps fx,vs=[.ref o,.ref d]∧iz C H o xs ps∧Nz H d fx∧∀l tv H',H l=none→H' l=some (.lst tv)→dF H' tv (aB fx ps 0)→tv.length≤40→Same H H'→Q (.ref l) H'
theorem pH (T:Txt K mg a):c7 P w K mg base mY 2 a.cI a.gU ["web", "fixed"] (xP a.bJ):=by
  exists T.i_.qH,fB
  ·obtain⟨o,d,xs,ps,fx,rfl,_⟩:=h;rfl
  · obtain⟨o,d,xs,ps,fx,rfl,hw,hfx,q⟩:=h;refine⟨_,(aA (bB (i:=2) fB.nd rfl (Or.inl rfl) (bW ao))
      (aA (eV PassesOwn.never rfl (PI.eqv (Iw (K:=K) rfl rfl T.Xx.enumerate (aj (PE.eqv (fX (aK 0) T.jA T.nZ (pG T) hr.d T.nU .nil aU) (fZ _ _ _ _ _ _)) ao)) (zA _ _)) (PG.eqv (iM (K:=K) (n:=2) rfl rfl (mJ.eqv (bK (aM (i:=3) fB.nd rfl (Or.inl rfl)) (mJ.eqv (bK (PG.eqv (iM (K:=K) (n:=2) rfl rfl (mJ.eqv (bK (aM (i:=4) fB.nd rfl (Or.inl rfl)) (mJ.eqv (bK (aM (i:=5) fB.nd rfl (Or.inl rfl)) (mJ.mono iK lW)) (bM _ _))) (bM _ _))) (iQ _ _ _)) (mJ.mono iK lW)) (bM _ _))) (bM _ _))) (iQ _ _ _))
      (aA (eU (aW ni (PE.eqv (C_ (oG hr) (aK 1) (aK 3) aH ⟨rfl,rfl,rfl,rfl⟩) (zB _ _ _)) aH (bV _)) (aF (fM (jQ (K:=K) rfl PySem.F.plainAttrs_list PySem.F.slot_list_append PySem.F.type_list_append dB (aK 2) (aj (lR (aj (aK 3) (aj (aK 4) (aj (aK 5) ao)))) ao)))) bT)
      (aF (eU (aW ni (PE.eqv (C_ (oG hr) (aK 1) (aK 3) aH ⟨rfl,rfl,rfl,rfl⟩) (zB _ _ _)) aH (bV _)) (aF (fM (jQ (K:=K) rfl PySem.F.plainAttrs_list PySem.F.slot_list_append PySem.F.type_list_append dB (aK 2) (aj (lR (aj (aK 3) (aj (aK 5) (aj (aK 4) ao)))) ao)))) bT))))
      (aF (aY (aK 2))))),?_⟩
    obtain⟨dx,fs,hi,hno⟩:=hw.ins qt.1 qt.2;obtain⟨_,_,_,_,_,_,_,_,Lg⟩:=hw.ex;left;intro L hL;refine⟨_,_,bF hi hL,hno,o,xs,ps,rfl,hw.same (aq hL),fun l2 rB hl2 X_=>?_⟩;have sa:Same H (upd (upd H L (.lst [])) l2 (.lst rB)):=(aq hL).trans (aq hl2);have eL:upd (upd H L (.lst [])) l2 (.lst rB) L=some (.lst []):=bF ak hl2;have e2:upd (upd H L (.lst [])) l2 (.lst rB) l2=some (.lst rB):=ak;have yO:=bh.same X_ (aq (o:=HO.lst rB) hl2);have L2n:L≠l2:=fun z=>by subst z;rw[ak] at hl2;cases hl2
    generalize upd (upd H L (.lst [])) l2 (.lst rB)=H1 at sa eL e2 yO ⊢;obtain⟨kvs,hd,hv⟩:=hfx;have dL:d≠L:=aG hd hL;left;refine⟨⟨_,aR.of e2⟩,frE rB (fun i σ H'=>(∃v3 v4 v5 sv,σ=[some (.ref o),some (.ref d),some (.ref L),v3,v4,v5]∧H' L=some (.lst sv)∧dF H' sv (aB fx (ps.take i) 0)∧sv.length≤2 * i)∧H' l2=some (.lst rB)∧bh H' rB ps∧Same H H') ⟨⟨_,_,_,[],rfl,eL,cB.nil,by simp⟩,e2,yO,sa⟩ (fun i σ H' _ h=>aR.of h.2.1) ?_ ?_⟩
    · rintro i x t σ H2 hi ht ⟨⟨v3,v4,v5,sv,rfl,hL2,hsv,hsl⟩,qay,htv,s2⟩;have hi2:i<rB.length:=(List.getElem?_eq_some_iff.mp hi).1;have tl:=htv.1;obtain⟨e,he,tt,rfl,htt⟩:=htv.at hi;rw[m8 fx he];unfold gP;left;have st:Same H2 (upd H2 t (.tup [.int i,.ref tt])):=aq ht;refine⟨_,eO.of ak,rfl,_,eO.of (st _ _ htt),rfl,isD (st _ _ (s2 _ _ hd)),_,Z1 i (st _ _ (s2 _ _ hd)),?_⟩;have tL:L≠t:=aG hL2 ht;have KZ:=st _ _ hL2;have Hg:=st _ _ qay;have yO:=bh.same htv st;have s3:=s2.trans st;have Yb:=dF.keep hsv (L2.dg.of st);generalize upd H2 t (.tup [.int i,.ref tt])=H3 at KZ Hg yO s3 Yb ⊢;have s60:60≤sizeLine:=by decide
      have add:∀(H3:Hp) (sv:List V) (S:List eY) (n:Nat) (x y:Str) (b:Addr),H3 L=some (.lst sv)→dF H3 sv S→H3 b=none→H3 l2=some (.lst rB)→bh H3 rB ps→Same H H3→
          (upd (upd H3 b (.tup [.int n,.str x,.str y])) L (.lst (sv++[.ref b])) L=some (.lst (sv++[.ref b]))∧dF (upd (upd H3 b (.tup [.int n,.str x,.str y])) L (.lst (sv++[.ref b]))) (sv++[.ref b]) (S++[(n,x,y)]))∧upd (upd H3 b (.tup [.int n,.str x,.str y])) L (.lst (sv++[.ref b])) l2=some (.lst rB)∧bh (upd (upd H3 b (.tup [.int n,.str x,.str y])) L (.lst (sv++[.ref b]))) rB ps∧Same H (upd (upd H3 b (.tup [.int n,.str x,.str y])) L (.lst (sv++[.ref b]))):=by
        intro H3 sv S n x y b KZ hsv hb hl2 htv s3;have sb:Same H3 (upd H3 b (.tup [.int n,.str x,.str y])):=aq hb;have kp:L2.dg (upd H3 b (.tup [.int n,.str x,.str y])) (upd (upd H3 b (.tup [.int n,.str x,.str y])) L (.lst (sv++[.ref b]))):=L2.dg.set (sb _ _ KZ) (by intro z e;cases e);refine⟨⟨ak,cB.snoc (dF.keep (dF.keep hsv (L2.dg.of sb)) kp) ⟨b,rfl,kp _ _ ak⟩⟩,by rw[aC L2n.symm];exact sb _ _ hl2,(bh.same htv sb).keep kp,aP (s3.trans sb) hL⟩
      rw[hv i,Dh];left;refine wG (fun σ H4=>(∃sv,σ=[some (.ref o),some (.ref d),some (.ref L),some (.int i),some (.str e.1),some (.str e.2)]∧H4 L=some (.lst sv)∧dF H4 sv (aB fx (ps.take i) 0++if (fx i).getD 0=0 then [(i,e.1,e.2)] else [])∧sv.length≤2 * i+1)∧H4 l2=some (.lst rB)∧bh H4 rB ps∧Same H H4) ?_ ?_
      · rintro σ H4 ⟨⟨sv,rfl,Fy,qaz,Yc⟩,qaA,qaB,s4⟩;left;refine⟨isD (s4 _ _ hd),_,Z1 i (s4 _ _ hd),?_⟩;rw[hv i,Dh];left;refine eX.of (fun h=>?_) (fun h=>?_)
        · have h':(fx i).getD 1=1:=by simpa using h
          left;refine⟨⟨_,aR.of Fy⟩,fun b hb=>?_⟩;refine⟨_,bF Fy hb,zs1 Yc hi2 tl Lg,?_⟩;obtain⟨⟨k1,k2⟩,k3,k4,k5⟩:=add H4 sv _ i e.2 e.1 b Fy qaz hb qaA qaB s4;refine⟨⟨_,k1,?_,by rw[List.length_append];exact zs2 Yc⟩,k3,k4,k5⟩;rw[if_pos h',← List.append_assoc];exact k2
        · have h':¬(fx i).getD 1=1:=by simpa using h
          left;refine⟨⟨_,Fy,?_,Nat.le_of_succ_le (zs2 Yc)⟩,qaA,qaB,s4⟩;rw[if_neg h',List.append_nil];exact qaz
      · intro N hN;refine eX.of (fun h=>?_) (fun h=>?_)
        · have h':(fx i).getD 0=0:=by simpa using h
          left;refine⟨⟨_,aR.of KZ⟩,fun b hb=>?_⟩;refine⟨_,bF KZ hb,zs1 (Nat.le_succ_of_le hsl) hi2 tl Lg,?_⟩;obtain⟨⟨k1,k2⟩,k3,k4,k5⟩:=add H3 sv _ i e.1 e.2 b KZ Yb hb Hg yO s3;refine hN _ _ ⟨⟨_,rfl,k1,?_,by rw[List.length_append];exact Nat.succ_le_succ hsl⟩,k3,k4,k5⟩;rw[if_pos h'];exact k2
        · have h':¬(fx i).getD 0=0:=by simpa using h
          left;refine hN _ _ ⟨⟨_,rfl,KZ,?_,Nat.le_succ_of_le hsl⟩,Hg,yO,s3⟩;rw[if_neg h',List.append_nil];exact Yb
    ·rintro σ H2 ⟨⟨v3,v4,v5,sv,rfl,hL2,hsv,hsl⟩,qay,htv,s2⟩;left;rw[htv.1,List.take_length] at hsv;have tl:=htv.1;exact q L sv H2 hL hL2 hsv (zs3 hsl tl Lg) s2
def yP:Sp:=fun vs H Q _=>∃(start:Str) (l:Addr) (tv:List V) (S:List eY) (xs:List Str),vs=[.str start,.ref l]∧H l=some (.lst tv)∧dF H tv S∧start∈xs∧(∀s∈S,s.2.2∈xs)∧xs.length≤9∧
  ∀(d:Addr) (kvs:List (Key×V)) (R:BR) (H':Hp),H d=none→H' d=some (.dK kvs)→dH H' kvs R→Ft S start R.length R→qdg S start R→nj H kvs→Same H H'→Q (.ref d) H'
theorem yQ (T:Txt K mg a):c7 P w K mg base mY 1 a.dj a.iW ["start", "steps"] yP:=by
  exists T.nQ.qH,cj
  ·obtain⟨start,l,tv,S,xs,rfl,_⟩:=h;rfl
  · obtain⟨start,l,tv,S,xs,rfl,hl,hS,hsx,Fz,h9,q⟩:=h;refine⟨_,(aA (bB (i:=2) cj.nd rfl (Or.inl rfl) (Rx (Nr (aK 0) (bW ao) Rw) rfl rfl (by simp) (by decide)))
      (aA (bB (i:=3) cj.nd rfl (Or.inl rfl) (bW (aj (aK 0) ao)))
      (aA (bB (i:=4) cj.nd rfl (Or.inl rfl) aH)
      (aA (Lw PassesOwn.never (aW GC (aK 4) (aL (cA (K:=K) rfl) rfl T.nm.len PySem.boot_len (aj (aK 3) ao)) (bV _))
      (aA (bB (i:=5) cj.nd rfl (Or.inl rfl) (cH (cV (K:=K) rfl) (aK 3) (aK 4) (fun _ _=>rfl)))
      (aA (eV PassesOwn.never rfl (PI.eqv (bG (K:=K) rfl (aK 1)) (aZ _ _)) (PG.eqv (iM (K:=K) (n:=3) rfl rfl (mJ.eqv (bK (aM (i:=6) cj.nd rfl (Or.inl rfl)) (mJ.eqv (bK (aM (i:=7) cj.nd rfl (Or.inl rfl)) (mJ.eqv (bK (aM (i:=8) cj.nd rfl (Or.inl rfl)) (mJ.mono iK lW)) (bM _ _))) (bM _ _))) (bM _ _))) (iQ _ _ _))
      (aF (eU (PW.pt (tR (aW ni (aK 7) (aK 5) (bV _)) (vm (IW (PC.eqv (J5 (oG hr) (aK 8) (aK 2)) (GJ _ _)))))) (aA (PS.eqv (Iv (oG hr) (aK 2) (aK 8) (bU vH (PE.eqv (rR (oG hr) (aK 2) (aK 5) (fun _ _=>rfl)) (o_ _ _)) (bW (aj (aK 6) ao))) rfl) (DG _ _ _))
      (aF (fM (jQ (K:=K) rfl PySem.F.plainAttrs_list PySem.F.slot_list_append PySem.F.type_list_append dB (aK 3) (aj (aK 8) ao))))) bT)))
      (aF (PS.mono (Vr (i:=4) cj.nd rfl (Or.inl rfl) aH R_) Xm)))))
      (aF (aY (aK 2))))))),?_⟩
    left;intro d hd p1 hp1;refine⟨bF ak hp1,[(Sum.inr start,.ref p1)],rfl,by simp,fun rl hrl=>?_⟩;have em:qU [] [((Sum.inr start:Key),V.ref p1)]=[(Sum.inr start,.ref p1)]:=rfl;rw[em] at hrl ⊢;have dp1:d≠p1:=fun z=>by subst z;rw[ak] at hp1;cases hp1
    have qdq:H p1=none:=cu (aq hd) hp1;have sa:Same H (upd (upd (upd H d (.dK [])) p1 (.lst [])) d (.dK [(Sum.inr start,.ref p1)])):=aP ((aq hd).trans (aq hp1)) hd;have qdr:H rl=none:=cu sa hrl;have e1:upd (upd (upd H d (.dK [])) p1 (.lst [])) d (.dK [(Sum.inr start,.ref p1)]) d=some (.dK [(Sum.inr start,.ref p1)]):=ak;have e2:upd (upd (upd H d (.dK [])) p1 (.lst [])) d (.dK [(Sum.inr start,.ref p1)]) p1=some (.lst []):=by rw[aC dp1.symm];exact ak
    generalize upd (upd (upd H d (.dK [])) p1 (.lst [])) d (.dK [(Sum.inr start,.ref p1)])=H1 at sa hrl e1 e2 ⊢;have sb:=sa.trans (aq (o:=.lst [.str start]) hrl);have dr:d≠rl:=aG e1 hrl;have qaC:nj H [((Sum.inr start:Key),V.ref p1)]:=by
      intro kv hkv q hq;simp at hkv;subst hkv;cases hq;exact qdq
    refine whB (fun σ H'=>∃(n:Nat) (R:BR) (kvs:List (Key×V)) (o5 o6 o7 o8:Option V),σ=[some (.str start),some (.ref l),some (.ref d),some (.ref rl),some (.int n),o5,o6,o7,o8]∧H' d=some (.dK kvs)∧dH H' kvs R∧H' rl=some (.lst (R.map fun yw=>.str yw.1))∧Ft S start n R∧uq S start n=R∧nj H kvs∧n≤R.length∧Same H H')
      (fun σ _=>Z2 4 σ)
      ⟨0,[(start,[])],[(Sum.inr start,.ref p1)],none,none,none,none,rfl,bF e1 hrl,⟨rfl,?_⟩,ak,Ft.begin S start,rfl,qaC,by simp,sb⟩ ?_ DN
    · intro i kv yw h1 h2;have hi:i=0:=by have:=(List.getElem?_eq_some_iff.mp h1).1;simp at this;omega
      subst hi;simp at h1 h2;subst h1 h2;exact⟨rfl,p1,rfl,bF e2 hrl⟩
    · rintro σ H2 ⟨n,R,kvs,o5,o6,o7,o8,rfl,hd2,hW2,hr2,hB,hF,hN,hnR,s2⟩;have hR9:R.length≤9:=by
        have h1:=gC hB.nd (hB.sub hsx Fz);simp at h1;omega
      left;refine⟨_,.inl (aR.of hr2),eX.of (fun hlt=>?_) (fun hlt=>?_)⟩
      · have hlt':n<R.length:=by simpa using hlt
        left;obtain⟨⟨hh,wh⟩,hR⟩:∃x,R[n]? = some x:=⟨R[n],by simp[hlt']⟩;refine⟨_,.inl (aR.of hr2),.str hh,bC (by rw[List.getElem?_map,hR];rfl),⟨_,aR.of (s2 _ _ hl)⟩,Ld tv (fun j σ H'=>∃(R:BR) (kvs:List (Key×V)) (o6 o7 o8:Option V),σ=[some (.str start),some (.ref l),some (.ref d),some (.ref rl),some (.int n),some (.str hh),o6,o7,o8]∧H' d=some (.dK kvs)∧dH H' kvs R∧H' rl=some (.lst (R.map fun yw=>.str yw.1))∧jw S (S.take j) start n hh wh R∧sS (S.take j) hh wh (uq S start n)=R∧nj H kvs∧Same H H') ⟨R,kvs,o6,o7,o8,rfl,hd2,hW2,hr2,jw.enter hB hR,hF,hN,s2⟩ (fun j σ H' _ h=>by
          obtain⟨_,_,_,_,_,_,_,_,_,_,_,_,z⟩:=h;exact aR.of (z _ _ hl)) ?_ ?_⟩
        · rintro j x σ H3 hj ⟨R,kvs,o6,o7,o8,rfl,Yd,SX,Lh,hM,hF3,hN3,s3⟩;obtain⟨⟨sn,so,sg⟩,hs,t,rfl,ht⟩:=hS.at hj;have hR9:R.length≤9:=by
            have h1:=gC hM.bf.nd (hM.bf.sub hsx Fz);simp at h1;omega
          have hFs:=GX (S.take j) (sn,so,sg) hh wh (uq S start n);rw[hF3] at hFs;rw[take_one hs];left;refine⟨_,eO.of (s3 _ _ ht),rfl,?_⟩;left
          by_cases hoh:so=hh
          · subst hoh;refine eX.pos (by simp) ?_;left;refine⟨_,WM sg Yd,?_⟩;rw[SX.qcT hM.bf.nd];refine eX.of (fun hg=>?_) (fun hg=>?_)
            · have hg':¬sg∈R.map (·.1):=by simpa using hg
              obtain⟨pw,hpw,qds⟩:=SX.some hM.bf.nd (List.mem_of_getElem? hM.hr);have hwl:=hM.bf.qcR (List.mem_of_getElem? hM.hr);have XQ:=of_eq_true yG;left;refine⟨.ref pw,?_,fun b hb=>?_⟩
              ·have:=WM so Yd;rw[hpw] at this;exact this
              refine⟨_,bF qds hb,_,ak,by simp;omega,fun c hc=>?_⟩;have s4:Same H3 (upd (upd H3 b (.lst [.int sn])) c (.lst (wh.map (fun n:Nat=>V.int n)++[.int sn]))):=(aq hb).trans (aq hc);have ec:upd (upd H3 b (.lst [.int sn])) c (.lst (wh.map (fun n:Nat=>V.int n)++[.int sn])) c=some (.lst (wh.map (fun n:Nat=>V.int n)++[.int sn])):=ak;generalize upd (upd H3 b (.lst [.int sn])) c (.lst (wh.map (fun n:Nat=>V.int n)++[.int sn]))=H4 at s4 ec ⊢;have hd4:=s4 _ _ Yd;have XM:=s4 _ _ Lh;have hkl:=SX.len;have epk:putK kvs (Sum.inr sg) (.ref c)=kvs++[(Sum.inr sg,.ref c)]:=Ng _ (SX.none hg');refine⟨_,qcQ sg hd4 (by omega),?_⟩;rw[epk];have YQ:upd H4 d (.dK (kvs++[(Sum.inr sg,.ref c)])) rl=some (.lst (R.map fun yw=>.str yw.1)):=by rw[aC dr.symm];exact XM
              have ne0:∀w:List Nat,R.map (fun yw=>V.str yw.1)≠w.map (fun n:Nat=>V.int n):=fun w e=>by
                have hst:=hM.bf.st;cases R with
                | nil=>simp at hst
                | cons r R=>
                  cases w with
                  | nil=>simp at e
                  | cons n w=>simp at e
              have kp:∀(p:Addr) (w:List Nat),H4 p=some (.lst (w.map fun n:Nat=>V.int n))→upd (upd H4 d (.dK (kvs++[(Sum.inr sg,.ref c)]))) rl (.lst (R.map (fun yw=>V.str yw.1)++[.str sg])) p=some (.lst (w.map fun n:Nat=>V.int n)):=fun p w e=>by
                have h1:p≠d:=fun z=>by subst z;rw[hd4] at e;cases e
                have h2:p≠rl:=fun z=>by subst z;rw[XM] at e;exact ne0 w (HO.lst.inj (Option.some.inj e))
                rw[aC h2,aC h1];exact e
              have ec':H4 c=some (.lst ((wh++[sn]).map fun n:Nat=>V.int n)):=by rw[ec];simp
              refine⟨⟨_,aR.of YQ⟩,_,YQ,by simp;omega,R++[(sg,wh++[sn])],_,by rw[aC dr];exact ak,?_,by rw[ak];simp,hM.add (List.mem_of_getElem? hs) hg',hFs.trans (if_pos ⟨rfl,hg'⟩),hN3.snoc (cu (s3.trans (aq hb)) hc),aP (aP (s3.trans s4) hd) qdr⟩;refine dH.snoc (dH.keep (H:=H4) (dH.keep SX fun p w e=>s4 _ _ e) kp) (kp _ _ ec')
            · have hg':sg∈R.map (·.1):=by simpa using hg
              left;exact⟨R,kvs,Yd,SX,Lh,hM.skip fun _=>hg',hFs.trans (if_neg (fun z=>z.2 hg')),hN3,s3⟩
          ·refine eX.neg (by simp[hoh]) ?_;left;exact⟨R,kvs,Yd,SX,Lh,hM.skip fun z=>absurd z hoh,hFs.trans (if_neg (fun z=>hoh z.1)),hN3,s3⟩
        · rintro σ H3 ⟨R,kvs,o6,o7,o8,rfl,Yd,SX,Lh,hM,hF3,hN3,s3⟩;have hl3:S.take tv.length=S:=by rw[hS.1,List.take_length]
          rw[hl3] at hM hF3;left;have hlen:=(List.getElem?_eq_some_iff.mp hM.hr).1;refine⟨⟨n+1,by omega,R,kvs,Yd,SX,Lh,hM.leave,(KD (by rw[hF];exact hR)).trans hF3,hN3,hlen,s3⟩,?_⟩;simp[Z2];omega
      · have hlt':¬n<R.length:=by simpa using hlt
        have en:n=R.length:=by omega
        subst en;left;exact q d kvs R H2 hd hd2 hW2 hB hF hN s2
def xQ (C:Addr):Sp:=fun vs H Q _=>∃(o:Addr) (start:Str) (l:Addr) (tv:List V) (S:List eY) (xs:List Str) (ps:List (Str×Str)),vs=[.ref o,.str start,.ref l]∧iz C H o xs ps∧H l=some (.lst tv)∧dF H tv S∧start∈xs∧(∀s∈S,s.2.2∈xs)∧xs.length≤9∧
  ∀(r:Addr) (H':Hp),H r=none→H' r=some (.lst ((iu S xs start).map V.str))→Same H H'→Q (.ref r) H'
theorem pI (T:Txt K mg a):c7 P w K mg base mY 2 a.cJ a.gV ["web", "start", "steps"] (xQ a.bJ):=by
  exists T.jc.qH,pq
  ·obtain⟨o,start,l,tv,S,xs,ps,rfl,_⟩:=h;rfl
  · obtain⟨o,start,l,tv,S,xs,ps,rfl,hw,hl,hS,hsx,Fz,h9,q⟩:=h;refine⟨_,(aA (bB (i:=3) pq.nd rfl (Or.inr rfl) (PE.eqv (aN (yQ T) hr.d rfl T.sY T.nQ.kp T.sX .nil aU (aj (aK 1) (aj (aK 2) ao))) (aJ _ _ _)))
      (aF (aY (eF rfl rfl (show aO (aD iT) _ ["web", "start", "steps", "ways"] ["point"] [3] ["point", "ways"] from⟨rfl,by symm,by symm,rfl,by symm,by symm⟩) rfl (PI.eqv (bG (K:=K) rfl (PE.eqv (fX (aK 0) T.jA T.dY (d9 T) hr.d T.dX .nil aU) (fZ _ _ _ _ _ _))) (aZ _ _)) (fun C s H fp pn=>(aM (i:=0) (show(["point", "ways"]:List Str).Nodup by symm) rfl (Or.inl rfl))) (fun C s H fp pn=>(rO (IW (PC.eqv (Wu (oG hr) (aK 0) (aK 1)) (R6 _ _))))) (fun C s H fp pn=>(aK 0)))))),?_⟩
    left;refine⟨start,l,tv,S,xs,rfl,hl,hS,hsx,Fz,h9,fun d kvs R H1 hd hd1 hW hB _ _ s1=>?_⟩;obtain⟨dx,fs,hi,hno⟩:=(hw.same s1).ins cY.1 cY.2;left;refine⟨_,_,hi,hno,o,xs,ps,rfl,hw.same s1,fun l2 hl2=>?_⟩;exists H1,l2,(.lst (xs.map V.str)),s2,e2,H2,hl2;have hd2:=s2 _ _ hd1;have hW2:=hW.keep fun p w e=>s2 _ _ e;have XQ:=of_eq_true yG;left;refine⟨⟨_,aR.of e2⟩,fun D hD=>Nu (xs.map V.str) (fun i σ H'=>(∃o,σ=[o,some (.ref d)])∧H' D=some (.lst ((iu S (xs.take i) start).map V.str))∧Same H2 H') ⟨⟨_,rfl⟩,ak,aq hD⟩ (fun i σ H' _ h=>aR.of (h.2.2 _ _ e2)) ?_ ?_⟩
    · rintro i x σ H3 hi ⟨⟨o',rfl⟩,Ca,s3⟩;obtain⟨y,hy,rfl⟩:=m7 hi;have hi2:i<xs.length:=(List.getElem?_eq_some_iff.mp hy).1;left;refine⟨_,WM y (s3 _ _ hd2),?_⟩;rw[hW2.has hB.nd,NK hy (decide (y∈R.map (·.1))) (by rw[decide_eq_true_eq];exact hB.iff y)];refine eX.of (fun h=>?_) (fun h=>?_)
      ·rw[if_pos h];left;have hfl:=vG (S:=S) (xs:=xs.take i) (x:=start);rw[List.length_take] at hfl;refine⟨_,Ca,by simp;omega,by simp[ak],aP s3 hD⟩
      ·rw[if_neg (by rw[h];exact Bool.false_ne_true),List.append_nil];left;exact⟨Ca,s3⟩
    ·rintro σ H3 ⟨⟨o',rfl⟩,Ca,s3⟩;rw[List.length_map,List.take_length] at Ca;left;exact q D H3 (cu (s1.trans s2) hD) Ca ((s1.trans s2).trans s3)
theorem Bu {xs:List Str} {ps:List (Str×Str)} {fx:Nat→Option Int} (h:qy xs ps):∀s∈aB fx ps 0,s.2.2∈xs:=by
  intro s hs;obtain⟨j,e,h1,h2⟩:=kJ.mp hs;obtain⟨q1,q2,_⟩:=h.ok e (List.mem_of_getElem? h1);obtain⟨_,q | q⟩:=qW.mp h2
  ·rw[q.2.2];exact q2
  ·rw[q.2.2];exact q1
def Ew (C:Addr):Sp:=fun vs H Q _=>∃(o:Addr) (xs:List Str) (ps:List (Str×Str)),vs=[.ref o]∧iz C H o xs ps∧Jk xs∧qy xs ps∧
  ∀(l:Addr) (rs:List V) (H':Hp),H l=none→H' l=some (.lst rs)→rW H' rs (t_ (aB (fun _=>none) ps 0) xs xs)→(∀v∈rs,∀b,v = .ref b→H b=none)→Same H H'→Q (.ref l) H'
theorem Ey (T:Txt K mg a):c7 P w K mg base mY 3 a.fD a.lu ["web"] (Ew a.bJ):=by
  exists T.q_.qH,lq
  ·obtain⟨o,xs,ps,rfl,_⟩:=h;rfl
  · obtain⟨o,xs,ps,rfl,hw,hX,hTs,q⟩:=h;refine⟨_,(aA (bB (i:=1) lq.nd rfl (Or.inl rfl) (PE.eqv (aN (pH T) hr.d rfl T.mq T.i_.kp T.mj .nil aU (aj (aK 0) (aj CZ ao))) (aJ _ _ _)))
      (aA (bB (i:=2) lq.nd rfl (Or.inl rfl) (bW ao))
      (aA (eV PassesOwn.never rfl (PI.eqv (bG (K:=K) rfl (PE.eqv (fX (aK 0) T.jA T.dY (d9 T) hr.d T.dX .nil aU) (fZ _ _ _ _ _ _))) (aZ _ _)) (aM (i:=3) lq.nd rfl (Or.inr rfl))
      (aF (eU (iC (fO (aL (Kp rfl) rfl T.Xx.any J1 (aj (eF rfl rfl (show aO (aD nu) _ ["web", "steps", "told", "point"] ["cluster"] [3] ["cluster", "point"] from⟨rfl,by symm,by symm,rfl,by symm,by symm⟩) rfl (PI.eqv (bG (K:=K) rfl (aK 2)) (aZ _ _)) (fun C s H fp pn=>(aM (i:=0) (show(["cluster", "point"]:List Str).Nodup by symm) rfl (Or.inl rfl))) (fun C s H fp pn=>cR) (fun C s H fp pn=>(gM (Ko (K:=K) rfl) (aK 1) (aK 0) rfl))) ao)))) (aF (fM (jQ (K:=K) rfl PySem.F.plainAttrs_list PySem.F.slot_list_append PySem.F.type_list_append dB (aK 2) (aj (PE.eqv (aN (pI T) hr.d rfl T.mC T.jc.kp T.mz .nil aU (aj (aK 0) (aj (aK 3) (aj (aK 1) ao)))) (aJ _ _ _)) ao)))) bT)))
      (aF (aY (aK 2)))))),?_⟩
    have Fz:=Bu (fx:=fun _=>none) hTs;left;intro d hd;refine⟨o,d,xs,ps,fun _=>none,rfl,hw.same (aq hd),Dg ak,fun l tv H1 hl0 hl1 hS _ s1'=>?_⟩;have s1:=(aq hd).trans s1';have qew:=cu (aq hd) hl0;left;intro L hL;obtain⟨dx,fs,hi,hno⟩:=(hw.same (s1.trans (aq (o:=HO.lst []) hL))).ins cY.1 cY.2;refine⟨_,_,hi,hno,o,xs,ps,rfl,hw.same (s1.trans (aq hL)),fun l2 hl2=>?_⟩;have s2:Same H1 (upd (upd H1 L (.lst [])) l2 (.lst (xs.map V.str))):=(aq hL).trans (aq hl2);have e2:upd (upd H1 L (.lst [])) l2 (.lst (xs.map V.str)) l2=some (.lst (xs.map V.str)):=ak;have eL:upd (upd H1 L (.lst [])) l2 (.lst (xs.map V.str)) L=some (.lst []):=bF ak hl2;have l2L:l2≠L:=fun z=>by subst z;rw[ak] at hl2;cases hl2
    generalize upd (upd H1 L (.lst [])) l2 (.lst (xs.map V.str))=H2 at s2 e2 eL ⊢;have hL0:=cu s1 hL;have XQ:=of_eq_true yG;have l9:=hX.len;left;refine⟨⟨_,aR.of e2⟩,Ld (xs.map V.str) (fun i σ H'=>(∃v3 rs,σ=[some (.ref o),some (.ref l),some (.ref L),v3]∧H' L=some (.lst rs)∧rW H' rs (t_ (aB (fun _=>none) ps 0) xs (xs.take i))∧∀v∈rs,∀b,v = .ref b→H b=none∧b≠L)∧H' l2=some (.lst (xs.map V.str))∧Same H1 H') ⟨⟨_,[],rfl,eL,cB.nil,by simp⟩,e2,s2⟩ (fun i σ H' _ h=>aR.of h.2.1) ?_ ?_⟩
    · rintro i x σ H3 hi ⟨⟨v3,rs,rfl,KZ,hrs,hfr⟩,Hg,s3⟩;obtain⟨y,hy,rfl⟩:=m7 hi;have hi2:i<xs.length:=(List.getElem?_eq_some_iff.mp hy).1;have hcl:=Di (S:=aB (fun _=>none) ps 0) (xs:=xs) (xs.take i) [];have Wc:(t_ (aB (fun _=>none) ps 0) xs (xs.take i)).length≤i:=by
        unfold t_;rw[List.length_take] at hcl;simp at hcl;omega
      have hrl:=hrs.1;rw[J8 hy];generalize hcs:t_ (aB (fun _=>none) ps 0) xs (xs.take i)=cs at hrs Wc hrl ⊢;left;refine⟨⟨_,aR.of KZ⟩,fun D hD=>Nu rs (fun j σ H'=>(∃o',σ=[o',some (.str y)])∧H' D=some (.lst ((cs.take j).map fun c=>V.bl (decide (y∈c))))∧Same H3 H') ⟨⟨_,rfl⟩,ak,aq hD⟩ (fun j σ H' _ h=>aR.of (h.2.2 _ _ KZ)) ?_ ?_⟩
      ·rintro j x σ H4 hj ⟨⟨o',rfl⟩,vh,s4⟩;obtain⟨c,hc,t,rfl,ht⟩:=hrs.at hj;have hj2:j<cs.length:=(List.getElem?_eq_some_iff.mp hc).1;left;refine⟨_,.inl (aR.of (s4 _ _ ht)),rfl,List.all_eq_true.mp (bR c),_,vh,by simp;omega,?_,aP s4 hD⟩;rw[ak,bw,take_one hc];simp
      · rintro σ H4 ⟨⟨o',rfl⟩,vh,s4⟩;rw[hrl,List.take_length] at vh;left;refine⟨_,vh,_,pR _ _,?_⟩;have ea:(cs.map fun c=>decide (y∈c)).any id=cs.any fun c=>decide (y∈c):=by rw[List.any_map];rfl
        rw[ea];have Fy:=s4 _ _ KZ;refine eX.of (fun h=>?_) (fun h=>?_)
        · have h':(cs.any fun c=>decide (y∈c))=false:=by simpa using h
          have ef:eZ (aB (fun _=>none) ps 0) xs cs y=cs++[iu (aB (fun _=>none) ps 0) xs y]:=by unfold eZ;rw[if_neg (by rw[h'];exact Bool.false_ne_true)]
          rw[ef];have hl4:=s4 _ _ (s3 _ _ hl1);have hS4:=dF.keep hS (L2.dg.of (s3.trans s4));left;refine⟨⟨_,aR.of Fy⟩,o,y,l,tv,aB (fun _=>none) ps 0,xs,ps,rfl,hw.same ((s1.trans s3).trans s4),hl4,hS4,List.mem_of_getElem? hy,Fz,l9.2,fun r H5 hr0 YQ s5=>?_⟩;have QD:=s5 _ _ Fy;have rL:r≠L:=fun z=>by subst z;rw[Fy] at hr0;cases hr0
          have s6:Same H1 (upd H5 L (.lst (rs++[.ref r]))):=aP ((s3.trans s4).trans s5) hL;have l2n:l2≠L:=l2L;left;refine⟨_,QD,by omega,⟨_,ak,?_,?_⟩,by rw[aC l2n];exact s5 _ _ (s4 _ _ Hg),s6⟩
          ·have kp:∀v c,v∈rs→Ny H3 v c→Ny (upd H5 L (.lst (rs++[.ref r]))) v c:=fun v c hv ⟨t,e,ht⟩=>⟨t,e,by rw[aC (hfr v hv t e).2];exact s5 _ _ (s4 _ _ ht)⟩;refine cB.snoc ⟨hrs.1,fun j v c h1 h2=>kp v c (List.mem_of_getElem? h1) (hrs.2 j v c h1 h2)⟩ ⟨r,rfl,by rw[aC rL];exact YQ⟩
          · intro v hv b e
            rcases List.mem_append.mp hv with z | z
            ·exact hfr v z b e
            ·simp at z;rw[z] at e;cases e;exact⟨cu ((s1.trans s3).trans s4) hr0,rL⟩
        · have h':(cs.any fun c=>decide (y∈c))=true:=by simpa using h
          have ef:eZ (aB (fun _=>none) ps 0) xs cs y=cs:=by unfold eZ;rw[if_pos h']
          rw[ef];left;exact⟨⟨rs,Fy,hrs.same s4,hfr⟩,s4 _ _ Hg,s3.trans s4⟩
    ·rintro σ H3 ⟨⟨v3,rs,rfl,KZ,hrs,hfr⟩,Hg,s3⟩;rw[List.length_map,List.take_length] at hrs;left;exact q L rs H3 hL0 KZ hrs (fun v hv b e=>(hfr v hv b e).1) (s1.trans s3)
def S_ (C:Addr):Sp:=fun vs H Q _=>∃o xs ps,vs=[.ref o]∧iz C H o xs ps∧Q (.int ps.length) H
theorem Ez (T:Txt K mg a):c7 P w K mg base mY 1 a.dU a.lD ["self"] (S_ a.bJ):=by
  exists T.xu.qH,Em
  ·obtain⟨o,xs,ps,rfl,_⟩:=h;rfl
  ·obtain⟨o,xs,ps,rfl,⟨dx,n,m,tv,h1,h2,h3,h4,h5⟩,q⟩:=h;refine⟨_,(aF (aY (aL (cA (K:=K) rfl) rfl T.nm.len PySem.boot_len (aj (PE.eqv (Al (K:=K) rfl (aK 0) rfl) (Bb _ _ _)) ao)))),?_⟩;left;refine⟨_,_,_,h1,T.jA,T.vM,_,rfl,_,.inr (eO.of h3),?_⟩;rw[h4.1];exact q
def qz (C:Addr):Sp:=fun vs H Q _=>∃(o:Addr) (m:Int) (xs:List Str) (ps:List (Str×Str)),vs=[.ref o,.int m]∧iz C H o xs ps∧(ps.length:Int)≤m∧∀H',Same H H'→Q .non H'
theorem qC (T:Txt K mg a):c7 P w K mg base mY 2 a.bH a.dG ["web", "most"] (qz a.bJ):=by
  exists T.gw.qH,qx
  ·obtain⟨o,m,xs,ps,rfl,_⟩:=h;rfl
  ·obtain⟨o,m,xs,ps,rfl,hw,hm,q⟩:=h;refine⟨_,(aF (eU (aW uf (PE.eqv (fX (aK 0) T.jA T.xH (Ez T) hr.d T.xG .nil aU) (fZ _ _ _ _ _ _)) (aK 1) (bV _)) (aF vU) bT)),?_⟩;obtain⟨dx,fs,hin,hno⟩:=hw.ins Jm.1 Jm.2;left;refine⟨_,_,hin,hno,o,xs,ps,rfl,hw,?_⟩;left;refine eX.neg (decide_eq_false (by omega)) ?_;left;exact q H (Same.refl _)
def oK (C:Addr):Sp:=fun vs H Q _=>∃(o l:Addr) (tv:List V) (S:List eY) (xs:List Str) (ps:List (Str×Str)),vs=[.ref o,.ref l]∧iz C H o xs ps∧H l=some (.lst tv)∧dF H tv S∧(∀s∈S,s.2.2∈xs)∧xs.length≤9∧
  (∀H',fu S xs xs=none→Same H H'→Q .non H')∧
  ∀(x:Str) (r:Addr) (H':Hp),fu S xs xs=some x→H r=none→H' r=some (.lst ((restOf S xs x).map V.str))→Same H H'→Q (.ref r) H'
theorem oM (T:Txt K mg a):c7 P w K mg base mY 3 a.bx a.cU ["web", "steps"] (oK a.bJ):=by
  exists T.fK.qH,cT
  ·obtain⟨o,l,tv,S,xs,ps,rfl,_⟩:=h;rfl
  · obtain⟨o,l,tv,S,xs,ps,rfl,hw,hl,hS,Fz,h9,q1,q2⟩:=h;refine⟨_,(aA (bB (i:=2) cT.nd rfl (Or.inl rfl) (PE.eqv (fX (aK 0) T.jA T.dY (d9 T) hr.d T.dX .nil aU) (fZ _ _ _ _ _ _)))
      (aA (eV PassesOwn.never rfl (PI.eqv (bG (K:=K) rfl (aK 2)) (aZ _ _)) (aM (i:=3) cT.nd rfl (Or.inl rfl))
      (aA (bB (i:=4) cT.nd rfl (Or.inr rfl) (PE.eqv (aN (pI T) hr.d rfl T.mC T.jc.kp T.mz .nil aU (aj (aK 0) (aj (aK 3) (aj (aK 1) ao)))) (aJ _ _ _)))
      (aF (eU (aW GC (aL (cA (K:=K) rfl) rfl T.nm.len PySem.boot_len (aj (aK 4) ao)) (aL (cA (K:=K) rfl) rfl T.nm.len PySem.boot_len (aj (aK 2) ao)) (bV _)) (aF (aY (eF rfl rfl (show aO (aD dh) _ ["web", "steps", "points", "point", "found"] ["other"] [4] ["other", "found"] from⟨rfl,by symm,by symm,rfl,by symm,by symm⟩) rfl (PI.eqv (bG (K:=K) rfl (aK 2)) (aZ _ _)) (fun C s H fp pn=>(aM (i:=0) (show(["other", "found"]:List Str).Nodup by symm) rfl (Or.inl rfl))) (fun C s H fp pn=>(rO (aW (vJ (K:=K) rfl) (aK 0) (aK 1) rfl))) (fun C s H fp pn=>(aK 0))))) bT))))
      (aF (aY FJ)))),?_⟩
    have s60:60≤sizeLine:=by decide
    obtain⟨dx,fs,hi,hno⟩:=hw.ins cY.1 cY.2;left;refine⟨_,_,hi,hno,o,xs,ps,rfl,hw,fun p hp=>?_⟩;exists H,p,(.lst (xs.map V.str)),s1,ep,H1,hp;left;refine⟨⟨_,aR.of ep⟩,Ld (xs.map V.str) (fun i σ H'=>(∃o3 o4,σ=[some (.ref o),some (.ref l),some (.ref p),o3,o4])∧fu S xs (xs.take i)=none∧Same H1 H') ⟨⟨_,_,rfl⟩,rfl,Same.refl _⟩ (fun i σ H' _ h=>aR.of (h.2.2 _ _ ep)) ?_ ?_⟩
    · rintro i z σ H2 hi ⟨⟨o3,o4,rfl⟩,hno,s2⟩;obtain⟨x,hx,rfl⟩:=m7 hi;have hxx:=List.mem_of_getElem? hx;have s12:=s1.trans s2;left;refine⟨o,x,l,tv,S,xs,ps,rfl,hw.same s12,s12 _ _ hl,dF.keep hS (L2.dg.of s12),hxx,Fz,h9,fun r H3 hr0 Lh s3=>?_⟩;have EY:=s12.trans s3;have ep3:=s3 _ _ (s2 _ _ ep);left;refine⟨_,.inl (aR.of Lh),_,.inl (aR.of ep3),eX.of (fun h=>?_) (fun h=>?_)⟩
      · have h':(iu S xs x).length<xs.length:=by simpa using h
        have hsh:=Ed hno hx h';left;refine⟨⟨_,aR.of ep3⟩,fun D hD=>Nu (xs.map V.str) (fun j σ H'=>(∃o',σ=[o',some (.ref r)])∧H' D=some (.lst (((xs.take j).filter fun y=>!decide (y∈iu S xs x)).map V.str))∧Same H3 H') ⟨⟨_,rfl⟩,ak,aq hD⟩ (fun j σ H' _ h=>aR.of (h.2.2 _ _ ep3)) ?_ ?_⟩
        · rintro j z σ H4 hj ⟨⟨o',rfl⟩,vh,s4⟩;obtain⟨y,hy,rfl⟩:=m7 hj;have hj2:j<xs.length:=(List.getElem?_eq_some_iff.mp hy).1;have hfl:((xs.take j).filter fun y=>!decide (y∈iu S xs x)).length≤(xs.take j).length:=List.length_filter_le _ _;rw[List.length_take] at hfl;rw[take_one hy,List.filter_append,List.map_append];left;have d1:inV (.str y) ((iu S xs x).map V.str) = !decide (¬y∈iu S xs x):=by rw[bw];simp
          refine⟨_,.inl (aR.of (s4 _ _ Lh)),rfl,List.all_eq_true.mp (bR _),_,d1,eX.of (fun h=>?_) (fun h=>?_)⟩
          ·have h':¬y∈iu S xs x:=of_decide_eq_true h;left;refine⟨_,vh,by simp;omega,by rw[ak];simp[h'],aP s4 hD⟩
          · have h':y∈iu S xs x:=by simpa using h
            left;refine⟨by rw[vh];simp[h'],s4⟩
        ·rintro σ H4 ⟨⟨o',rfl⟩,vh,s4⟩;rw[List.length_map,List.take_length] at vh;left;exact q2 x D H4 hsh (cu EY hD) vh (EY.trans s4)
      · have h':¬(iu S xs x).length<xs.length:=by simpa using h
        left;exact⟨Ef hno hx h',s2.trans s3⟩
    ·rintro σ H2 ⟨⟨o3,o4,rfl⟩,hno,s2⟩;rw[List.length_map,List.take_length] at hno;left;exact q1 _ hno (s1.trans s2)
def xR (C:Addr):Sp:=fun vs H Q _=>∃(o d:Addr) (xs:List Str) (ps:List (Str×Str)) (fx:Nat→Option Int),vs=[.ref o,.ref d]∧iz C H o xs ps∧Jk xs∧qy xs ps∧Nz H d fx∧
  (∀H',fu (aB fx ps 0) xs xs=none→Same H H'→Q .non H')∧
  ∀(x:Str) (r:Addr) (H':Hp),fu (aB fx ps 0) xs xs=some x→H r=none→H' r=some (.lst ((restOf (aB fx ps 0) xs x).map V.str))→Same H H'→Q (.ref r) H'
theorem pJ (T:Txt K mg a):c7 P w K mg base mY 4 a.cL a.gW ["web", "fixed"] (xR a.bJ):=by
  exists T.jd.qH,wV
  ·obtain⟨o,d,xs,ps,fx,rfl,_⟩:=h;rfl
  · obtain⟨o,d,xs,ps,fx,rfl,hw,hX,hTs,hf,q1,q2⟩:=h;refine⟨_,(aF (aY (PE.eqv (aN (oM T) hr.d rfl T.jm T.fK.kp T.jk .nil aU (aj (aK 0) (aj (PE.eqv (aN (pH T) hr.d rfl T.mq T.i_.kp T.mj .nil aU (aj (aK 0) (aj (aK 1) ao))) (aJ _ _ _)) ao))) (aJ _ _ _)))),?_⟩;left;refine⟨o,d,xs,ps,fx,rfl,hw,hf,fun l tv H1 hl0 hl1 hS h40 s1=>?_⟩;refine⟨o,l,tv,_,xs,ps,rfl,hw.same s1,hl1,hS,Bu hTs,hX.len.2,fun H2 hn s2=>?_,fun x r H2 hx hr0 e2 s2=>?_⟩
    ·exact q1 _ hn (s1.trans s2)
    ·exact q2 x r H2 hx (cu s1 hr0) e2 (s1.trans s2)
theorem Tc {X:Cx}:fP X (binaryOp .BitAnd) (QC fun i j=>.int (Builtin.bitAnd i j)):=VL.mono zx
def mX (m k:Nat):Bool:=decide (m / 2 ^ k % 2=1)
theorem Td:∀i:Nat,i<512→Builtin.bitAnd (i:Int) 1=((i % 2:Nat):Int):=by symm
theorem Te:∀n:Nat,n≤9→∀m:Nat,m<512→1≤m→m+1<2 ^ n→(List.range n).any (mX m)=true∧(List.range n).all (mX m)=false:=by symm
theorem PB {n m:Nat} (h9:n≤9) (h5:m<512) (h1:1≤m) (h2:m+1<2 ^ n):(∃k,k<n∧mX m k=true)∧∃k,k<n∧mX m k=false:=by
  obtain⟨a,b⟩:=Te n h9 m h5 h1 h2;rw[List.any_eq_true] at a;rw[List.all_eq_false] at b;obtain⟨k,hk,e⟩:=a;obtain⟨j,hj,f⟩:=b;exact⟨⟨k,List.mem_range.mp hk,e⟩,⟨j,List.mem_range.mp hj,by simpa using f⟩⟩
def iB (b:Nat→Bool) (xs:List Str):List Str:=(xs.zipIdx.filter fun e=>b e.2).map (·.1)
theorem bits_sub (b:Nat→Bool) (xs:List Str):(iB b xs).Sublist xs:=by
  have h:=List.Sublist.map (fun e:Str×Nat=>e.1) (List.filter_sublist (p:=fun e:Str×Nat=>b e.2) (l:=xs.zipIdx));rw[List.zipIdx_map_fst] at h;exact h
theorem PJ {b:Nat→Bool} {xs:List Str} {k:Nat} (hk:k<xs.length) (hb:b k=true):0<(iB b xs).length:=by
  refine List.length_pos_of_mem (a:=xs[k]) ?_;unfold iB;rw[List.mem_map];refine⟨(xs[k],k),?_,rfl⟩;rw[List.mem_filter];refine⟨?_,hb⟩;rw[List.mem_zipIdx_iff_getElem?];simp[hk]
theorem Tf {b:Nat→Bool} {xs:List Str} {k:Nat} (hk:k<xs.length) (hb:b k=false):(iB b xs).length<xs.length:=by
  unfold iB;rw[List.length_map];have:(xs.zipIdx.filter fun e=>b e.2).length<xs.zipIdx.length:=by
    rw[List.length_filter_lt_length_iff_exists];refine⟨(xs[k],k),?_,by simp[hb]⟩;rw[List.mem_zipIdx_iff_getElem?];simp[hk]
  rwa [List.length_zipIdx] at this
theorem zQ {b:Nat→Bool} {l:List Str} {x:Str}:iB b (l++[x])=iB b l++if b l.length=true then [x] else []:=by
  unfold iB;rw[List.zipIdx_append,List.filter_append,List.map_append]
  by_cases h:b l.length=true <;> simp[h]
theorem Tg {m n:Nat} (h:m<2 ^ n):mX m n=false:=by
  unfold mX;rw[Nat.div_eq_of_lt h];rfl
theorem Tj {m n:Nat} (h:m<2 ^ n):mX (2 ^ n+m) n=true:=by
  unfold mX;rw[Nat.add_div_left _ (Nat.two_pow_pos n),Nat.div_eq_of_lt h];rfl
theorem Hh {m n k:Nat} (h:k<n):mX (2 ^ n+m) k=mX m k:=by
  unfold mX;have e:2 ^ n=2 ^ k * (2 * 2 ^ (n - k - 1)):=by
    rw[← Nat.mul_assoc,← Nat.pow_succ,← Nat.pow_add];congr 1;omega
  rw[e,Nat.mul_add_div (Nat.two_pow_pos k),Nat.mul_add_mod]
theorem K1 {b b':Nat→Bool} {xs:List Str} (h:∀k,k<xs.length→b k=b' k):iB b xs=iB b' xs:=by
  unfold iB;congr 1;refine List.filter_congr fun e he=>?_;obtain⟨x,k⟩:=e;rw[List.mem_zipIdx_iff_getElem?] at he;exact h k (List.getElem?_eq_some_iff.mp he).1
def aX (xs:List Str):List (List Str):=(List.range (2 ^ xs.length)).map fun m=>iB (mX m) xs
theorem parts_nil:aX []=[[]]:=rfl
theorem j9 (l:List Str) (x:Str):aX (l++[x])=aX l++(aX l).map (·++[x]):=by
  unfold aX;rw[List.length_append,List.length_singleton,Nat.pow_succ,Nat.mul_two,List.range_add,List.map_append,List.map_map,List.map_map];congr 1
  ·refine List.map_congr_left fun m hm=>?_;rw[zQ,Tg (List.mem_range.mp hm)];simp
  ·refine List.map_congr_left fun m hm=>?_;show iB (mX (2 ^ l.length+m)) (l++[x])=iB (mX m) l++[x];rw[zQ,Tj (List.mem_range.mp hm),K1 (b':=mX m) fun k hk=>Hh hk];simp
def lQ (xs:List Str):List (List Str):=(List.range (2 ^ xs.length - 2)).map fun m=>iB (mX (1+m)) xs
theorem cZ (xs:List Str):(aX xs).length=2 ^ xs.length:=by simp[aX]
theorem jr (xs:List Str):(lQ xs).length=2 ^ xs.length - 2:=by simp[lQ]
theorem Jo {xs:List Str} {i:Nat} (h:i<2 ^ xs.length - 2):(lQ xs)[i]? = some (iB (mX (1+i)) xs):=by
  unfold lQ;rw[List.getElem?_map,List.getElem?_range h];rfl
theorem Hi {xs:List Str}:((aX xs).take (2 ^ xs.length - 1)).drop 1=lQ xs:=by
  refine List.ext_getElem? fun i=>?_;rw[List.getElem?_drop]
  by_cases h:i<2 ^ xs.length - 2
  ·rw[Jo h,List.getElem?_take_of_lt (by omega)];unfold aX;rw[List.getElem?_map,List.getElem?_range (by omega)];rfl
  ·rw[List.getElem?_eq_none (by rw[List.length_take,cZ];omega),List.getElem?_eq_none (by rw[jr];omega)]
theorem PK {xs c:List Str} (h9:xs.length≤9) (h:c∈lQ xs):c.Sublist xs∧0<c.length∧c.length<xs.length:=by
  unfold lQ at h;obtain⟨m,hm,rfl⟩:=List.mem_map.mp h;have hm:=List.mem_range.mp hm;have p9:2 ^ xs.length≤2 ^ 9:=Nat.pow_le_pow_right (by decide) h9;obtain⟨⟨k1,hk1,hb1⟩,⟨k2,hk2,hb2⟩⟩:=PB (n:=xs.length) (m:=1+m) h9 (by omega) (by omega) (by omega);exact⟨bits_sub _ _,PJ hk1 hb1,Tf hk2 hb2⟩
def qdt (G H:Hp) (v:V) (c:List Str):Prop:=∃t,v = .ref t∧G t=none∧H t=some (.lst (c.map V.str))
def Bv (G H:Hp) (tv:List V) (cs:List (List Str)):Prop:=cB (qdt G) H tv cs
theorem Bv.same {G H H':Hp} {tv:List V} {cs:List (List Str)} (h:Bv G H tv cs) (s:Same H H'):Bv G H' tv cs:=⟨h.1,fun i v c h1 h2=>by
  obtain⟨t,rfl,h0,ht⟩:=h.2 i v c h1 h2;exact⟨t,rfl,h0,s _ _ ht⟩⟩
def Bw:Sp:=fun vs H Q _=>∃(n:Addr) (xs:List Str),vs=[.ref n]∧H n=some (.lst (xs.map V.str))∧xs.length≤9∧
  ∀(r:Addr) (tv:List V) (H':Hp),H r=none→H' r=some (.lst tv)→Bv H H' tv (aX xs)→Same H H'→Q (.ref r) H'
theorem n_ (T:Txt K mg a):c7 P w K mg base mY 1 a.dI a.jJ ["points"] Bw:=by
  exists T.jq.qH,jH
  ·obtain⟨n,xs,rfl,_⟩:=h;rfl
  · obtain⟨n,xs,rfl,hn,h9,q⟩:=h;refine⟨_,(aA (bB (i:=1) jH.nd rfl (Or.inl rfl) (bW (aj (bW ao) ao)))
      (aA (eV PassesOwn.never rfl (PI.eqv (bG (K:=K) rfl (aK 0)) (aZ _ _)) (aM (i:=2) jH.nd rfl (Or.inr rfl))
      (aF (bB (i:=1) jH.nd rfl (Or.inl rfl) (bU vH (aK 1) (eF rfl rfl (show aO (aD k_) _ ["points", "parts", "point"] ["part"] [2] ["part", "point"] from⟨rfl,by symm,by symm,rfl,by symm,by symm⟩) rfl (PI.eqv (bG (K:=K) rfl (aK 1)) (aZ _ _)) (fun C s H fp pn=>(aM (i:=0) (show(["part", "point"]:List Str).Nodup by symm) rfl (Or.inl rfl))) (fun C s H fp pn=>cR) (fun C s H fp pn=>(bU vH (aK 0) (bW (aj (aK 1) ao)))))))))
      (aF (aY (aK 1))))),?_⟩
    have Tn:600<sizeLine:=by decide
    left;intro p hp;exists H,p,(.lst []),s1,e1,H1,hp;intro r hr;exists H1,r,(.lst [.ref p]),s2,e2,H2,hr;have S2:=s1.trans s2;refine⟨⟨_,aR.of (S2 _ _ hn)⟩,Ld (xs.map V.str) (fun i σ H'=>(∃rp o2,σ=[some (.ref n),some (.ref rp),o2]∧H rp=none∧∃tv,H' rp=some (.lst tv)∧Bv H H' tv (aX (xs.take i)))∧Same H H') ⟨⟨r,none,rfl,s1.free hr,_,e2,?_⟩,S2⟩ (fun i σ H' _ h=>aR.of (h.2 _ _ hn)) ?_ ?_⟩
    · exact⟨rfl,fun i v c h1 h2=>by
        cases i with
        | succ i=>simp at h1
        | zero=>
          simp at h1;rw[List.take_zero,parts_nil] at h2;simp at h2;subst h1 h2;exact⟨p,rfl,hp,s2 _ _ e1⟩⟩
    · rintro i v σ H3 hi ⟨⟨rp,o2,rfl,qaD,tv,SN,hN⟩,s3⟩;obtain⟨y,hy,rfl⟩:=m7 hi;have hi9:i<xs.length:=(List.getElem?_eq_some_iff.mp hy).1;have hlt:tv.length=2 ^ i:=by
        have:=hN.1;rw[cZ,List.length_take,Nat.min_eq_left (by omega)] at this;exact this
      have p8:2 ^ i≤2 ^ 8:=Nat.pow_le_pow_right (by decide) (by omega);rw[take_one hy,j9];have h9c:∀c∈aX (xs.take i),c.length≤9:=fun c hc=>by
        obtain⟨m,_,rfl⟩:=List.mem_map.mp hc;have:=(bits_sub (mX m) (xs.take i)).length_le;rw[List.length_take] at this;omega
      generalize hC:aX (xs.take i)=cs at hN h9c ⊢;left;refine⟨⟨_,aR.of SN⟩,fun D hD=>Nu tv (fun j σ H'=>(∃o1,σ=[o1,some (.str y)])∧(∃uv,H' D=some (.lst uv)∧cB (fun H' v c=>∃t,v = .ref t∧H t=none∧t≠D∧H' t=some (.lst (c.map V.str))) H' uv ((cs.take j).map (·++[y])))∧Same H3 H') ⟨⟨_,rfl⟩,⟨[],ak,cB.nil⟩,aq hD⟩ (fun i σ H' _ h=>aR.of (h.2.2 _ _ SN)) ?_ ?_⟩
      · rintro j v σ H4 hj ⟨⟨o1,rfl⟩,⟨uv,vh,hA⟩,s4⟩;have hj2:j<tv.length:=(List.getElem?_eq_some_iff.mp hj).1;obtain⟨c,hc,t,rfl,ht0,ht⟩:=cB.at hN hj;have YS:uv.length=j:=by
          have:=hA.1;have hcl:=hN.1;rw[List.length_map,List.length_take] at this;omega
        have Z4:=s4 _ _ ht;left;intro p5 hp5;exists H4,p5,(.lst [.str y]),s5,e5,H5,hp5;have hc9:=h9c c (List.mem_of_getElem? hc);refine⟨_,s5 _ _ Z4,_,e5,by simp;omega,fun p6 hp6=>?_⟩;exists H5,p6,(.lst (c.map V.str++[.str y])),s6,e6,H6,hp6;have Hf:=(s5.trans s6) _ _ vh;have p6D:p6≠D:=fun z=>by rw[z,s5 _ _ vh] at hp6;cases hp6
        refine⟨uv,Hf,by omega,⟨_,ak,?_⟩,aP (s4.trans (s5.trans s6)) hD⟩;rw[take_one hc,List.map_append];refine cB.snoc (cB.keep hA ?_) ⟨p6,rfl,(s3.trans (s4.trans s5)).free hp6,p6D,by rw[aC p6D,e6];simp⟩;rintro v b ⟨t,rfl,h0,hne,ht⟩;exact⟨t,rfl,h0,hne,by rw[aC hne];exact(s5.trans s6) _ _ ht⟩
      · rintro σ H4 ⟨⟨o1,rfl⟩,⟨uv,vh,hA⟩,s4⟩;rw[hN.1,List.take_length] at hA;have YS:uv.length=cs.length:=by rw[hA.1,List.length_map]
        have hcl:=hN.1;left;refine⟨_,s4 _ _ SN,_,vh,by omega,fun p5 hp5=>⟨⟨(s3.trans s4).free hp5,_,ak,?_⟩,(s3.trans s4).trans (aq hp5)⟩⟩;have s5:Same H4 (upd H4 p5 (.lst (tv++uv))):=aq hp5;generalize upd H4 p5 (.lst (tv++uv))=H5 at s5 ⊢;refine⟨by simp[hN.1,hA.1],fun k v c h1 h2=>?_⟩
        by_cases hk:k<tv.length
        ·rw[List.getElem?_append_left hk] at h1;rw[List.getElem?_append_left (by omega)] at h2;obtain⟨t,rfl,h0,ht⟩:=hN.2 k v c h1 h2;exact⟨t,rfl,h0,(s4.trans s5) _ _ ht⟩
        ·rw[List.getElem?_append_right (by omega)] at h1;rw[List.getElem?_append_right (by omega),← hcl] at h2;obtain⟨t,rfl,h0,_,ht⟩:=hA.2 _ v c h1 h2;exact⟨t,rfl,h0,s5 _ _ ht⟩
    ·rintro σ H3 ⟨⟨rp,o2,rfl,qaD,tv,SN,hN⟩,s3⟩;rw[List.length_map,List.take_length] at hN;left;exact q rp tv H3 qaD SN hN s3
theorem Ye {xs:List V}:vY xs (some 1) (some (-1))=(xs.take (xs.length - 1)).drop 1:=by
  unfold vY;have e1:HT.vX xs.length 0 (some 1)=min 1 xs.length:=by
    unfold HT.vX;simp
    try omega
  have e2:HT.vX xs.length xs.length (some (-1))=xs.length - 1:=by
    unfold HT.vX;simp
    try omega
  rw[e1,e2,List.drop_take];cases xs with
  | nil=>rfl
  | cons x xs=>
    rw[Nat.min_eq_left (by simp)]
theorem uF (f:List Str→Int):∀(n:Nat) (c:List Str),c.length=n→((aX c).map f).sum=cP f c
  | 0,c,h=>by
    rw[List.eq_nil_of_length_eq_zero h,parts_nil];simp[cP]
  | n+1,c,h=>by
    have hne:c≠[]:=fun z=>by rw[z] at h;simp at h
    rw[← List.dropLast_concat_getLast hne,j9,List.map_append,List.sum_append,ug,List.map_map];have hl:c.dropLast.length=n:=by simp[h]
    rw[uF f n c.dropLast hl,← uF (fun u=>f (u++[c.getLast hne])) n c.dropLast hl];rfl
theorem u9 (c:List Str):(aX c)[0]? = some []:=by
  unfold aX;rw[List.getElem?_map,List.getElem?_range (Nat.two_pow_pos _)];show some (iB (mX 0) c)=some [];congr 1;unfold iB;rw[List.filter_eq_nil_iff.mpr]
  ·rfl
  ·intro e _;simp[mX]
theorem xT:∀(n:Nat) (c:List Str),c.length=n→(aX c)[2 ^ n - 1]? = some c
  | 0,c,h=>by
    rw[List.eq_nil_of_length_eq_zero h,parts_nil];rfl
  | n+1,c,h=>by
    have hne:c≠[]:=fun z=>by rw[z] at h;simp at h
    have hl:c.dropLast.length=n:=by simp[h]
    have ih:=xT n c.dropLast hl;have e:aX c=aX c.dropLast++(aX c.dropLast).map (·++[c.getLast hne]):=by rw[← j9,List.dropLast_concat_getLast hne]
    have p:=Nat.two_pow_pos n;rw[e,Nat.pow_succ,List.getElem?_append_right (by rw[cZ,hl];omega),cZ,hl,show 2 ^ n * 2 - 1 - 2 ^ n=2 ^ n - 1 by omega,List.getElem?_map,ih];show some (c.dropLast++[c.getLast hne])=some c;rw[List.dropLast_concat_getLast hne]
theorem pK {c:List Str} (hc:c≠[]):aX c=[]::(lQ c++[c]):=by
  have hl:1≤c.length:=List.length_pos_iff.mpr hc;have p:2 ^ 1≤2 ^ c.length:=Nat.pow_le_pow_right (by decide) hl;refine List.ext_getElem? fun i=>?_;cases i with
  | zero=>rw[u9];rfl
  | succ i=>
    rw[List.getElem?_cons_succ]
    by_cases h1:i<2 ^ c.length - 2
    ·rw[List.getElem?_append_left (by rw[jr];exact h1),Jo h1];unfold aX;rw[List.getElem?_map,List.getElem?_range (by omega),Nat.add_comm];rfl
    · by_cases h2:i=2 ^ c.length - 2
      ·rw[h2,List.getElem?_append_right (by rw[jr];exact Nat.le_refl _),jr,Nat.sub_self,show 2 ^ c.length - 2+1=2 ^ c.length - 1 by omega,xT _ c rfl];rfl
      ·rw[List.getElem?_eq_none (by rw[cZ];omega),List.getElem?_eq_none (by rw[List.length_append,jr];simp;omega)]
theorem PL (f:List Str→Int) {c:List Str} (hc:c≠[]):((lQ c).map f).sum=iw f c:=by
  have h1:=uF f _ c rfl;rw[pK hc,wN hc,List.map_cons,List.sum_cons,List.map_append,List.sum_append] at h1;simp only[List.map_cons,List.map_nil,List.sum_cons,List.sum_nil] at h1;omega
theorem uG:∀(n:Nat) (c u:List Str),c.length=n→u.Sublist c→∃j,j<2 ^ n∧(aX c)[j]? = some u
  | 0,c,u,h,hu=>by
    rw[List.eq_nil_of_length_eq_zero h] at hu ⊢;rw[List.sublist_nil.mp hu,parts_nil];exact⟨0,by decide,rfl⟩
  | n+1,c,u,h,hu=>by
    have hne:c≠[]:=fun z=>by rw[z] at h;simp at h
    have hl:c.dropLast.length=n:=by simp[h]
    have e:aX c=aX c.dropLast++(aX c.dropLast).map (·++[c.getLast hne]):=by rw[← j9,List.dropLast_concat_getLast hne]
    rw[← List.dropLast_concat_getLast hne] at hu;obtain⟨u1,u2,rfl,h1,h2⟩:=List.sublist_append_iff.mp hu;obtain⟨j,hj,ej⟩:=uG n c.dropLast u1 hl h1;have hjl:j<(aX c.dropLast).length:=by rw[cZ,hl];exact hj
    rw[e,Nat.pow_succ];cases u2 with
    | nil=>exact⟨j,by omega,by rw[List.getElem?_append_left hjl,ej,List.append_nil]⟩
    | cons y r=>
      have:y::r=[c.getLast hne]:=h2.eq_of_length (by have:=h2.length_le;simp at this ⊢;exact this);refine⟨2 ^ n+j,by omega,?_⟩;rw[List.getElem?_append_right (by rw[cZ,hl];omega),cZ,hl,Nat.add_sub_cancel_left,List.getElem?_map,ej,this];rfl
theorem pL:∀(n:Nat) (xs c u:List Str) (i:Nat),xs.length=n→(aX xs)[i]? = some c→u.Sublist c→u.length<c.length→∃j,j<i∧(aX xs)[j]? = some u
  | 0,xs,c,u,i,h,hc,hu,hl=>by
    rw[List.eq_nil_of_length_eq_zero h,parts_nil] at hc;cases i with
    | zero=>simp at hc;subst hc;simp at hl
    | succ i=>simp at hc
  | n+1,xs,c,u,i,h,hc,hu,hlt=>by
    have hne:xs≠[]:=fun z=>by rw[z] at h;simp at h
    have hl:xs.dropLast.length=n:=by simp[h]
    have e:aX xs=aX xs.dropLast++(aX xs.dropLast).map (·++[xs.getLast hne]):=by rw[← j9,List.dropLast_concat_getLast hne]
    have pl:(aX xs.dropLast).length=2 ^ n:=by rw[cZ,hl]
    rw[e] at hc ⊢
    by_cases hi:i<2 ^ n
    ·rw[List.getElem?_append_left (by omega)] at hc;obtain⟨j,hj,ej⟩:=pL n _ c u i hl hc hu hlt;exact⟨j,hj,by rw[List.getElem?_append_left (by omega)];exact ej⟩
    · rw[List.getElem?_append_right (by omega),pl,List.getElem?_map] at hc;obtain⟨c1,hc1,rfl⟩:=Option.map_eq_some_iff.mp hc;obtain⟨u1,u2,rfl,h1,h2⟩:=List.sublist_append_iff.mp hu;cases u2 with
      | nil=>
        have c1s:c1.Sublist xs.dropLast:=by
          have:=List.mem_of_getElem? hc1;unfold aX at this;obtain⟨m,_,rfl⟩:=List.mem_map.mp this;exact bits_sub _ _
        obtain⟨j,hj,ej⟩:=uG n xs.dropLast u1 hl (h1.trans c1s);exact⟨j,by omega,by rw[List.getElem?_append_left (by omega),ej,List.append_nil]⟩
      | cons y r=>
        have:y::r=[xs.getLast hne]:=h2.eq_of_length (by have:=h2.length_le;simp at this ⊢;exact this);rw[this] at hlt ⊢;obtain⟨j,hj,ej⟩:=pL n _ c1 u1 (i - 2 ^ n) hl hc1 h1 (by simp at hlt;omega);exact⟨2 ^ n+j,by omega,by rw[List.getElem?_append_right (by omega),pl,Nat.add_sub_cancel_left,List.getElem?_map,ej];rfl⟩
def rC (c:List Str) (e:Str×Str) (i:Nat):List Nat:=if e.1∈c∧e.2∈c then [i] else []
theorem E_ (c:List Str) (e:Str×Str) (i:Nat):(rC c e i).length≤1:=by
  unfold rC;split <;> simp
def Yg (c:List Str) (ps:List (Str×Str)):List Nat:=oZ (rC c) ps 0
def xU (C:Addr):Sp:=fun vs H Q _=>∃(o p:Addr) (xs c:List Str) (ps:List (Str×Str)),vs=[.ref o,.ref p]∧iz C H o xs ps∧Sq H p (c.map V.str)∧
  ∀(r:Addr) (H':Hp),H r=none→H' r=some (.lst ((Yg c ps).map fun n:Nat=>V.int n))→Same H H'→Q (.ref r) H'
theorem xV (T:Txt K mg a):c7 P w K mg base mY 2 a.cM a.gY ["web", "part"] (xU a.bJ):=by
  exists T.mG.qH,wW
  ·obtain⟨o,p,xs,c,ps,rfl,_⟩:=h;rfl
  · obtain⟨o,p,xs,c,ps,rfl,hw,hp,q⟩:=h;refine⟨_,(aF (aY (eF rfl rfl (show aO (aD iU) _ ["web", "part"] ["number", "first", "second"] [1] ["number", "first", "second", "part"] from⟨rfl,by symm,by symm,rfl,by symm,by symm⟩) rfl (PI.eqv (Iw (K:=K) rfl rfl T.Xx.enumerate (aj (PE.eqv (fX (aK 0) T.jA T.nZ (pG T) hr.d T.nU .nil aU) (fZ _ _ _ _ _ _)) ao)) (zA _ _)) (fun C s H fp pn=>(PG.eqv (iM (K:=K) (n:=2) rfl rfl (mJ.eqv (bK (aM (i:=0) (show(["number", "first", "second", "part"]:List Str).Nodup by symm) rfl (Or.inl rfl)) (mJ.eqv (bK (PG.eqv (iM (K:=K) (n:=2) rfl rfl (mJ.eqv (bK (aM (i:=1) (show(["number", "first", "second", "part"]:List Str).Nodup by symm) rfl (Or.inl rfl)) (mJ.eqv (bK (aM (i:=2) (show(["number", "first", "second", "part"]:List Str).Nodup by symm) rfl (Or.inl rfl)) (mJ.mono iK lW)) (bM _ _))) (bM _ _))) (iQ _ _ _)) (mJ.mono iK lW)) (bM _ _))) (bM _ _))) (iQ _ _ _))) (fun C s H fp pn=>(rO (PW.pt (tR (aW (Ko (K:=K) rfl) (aK 1) (aK 3) rfl) (vm (aW (Ko (K:=K) rfl) (aK 2) (aK 3) rfl)))))) (fun C s H fp pn=>(aK 0))))),?_⟩;have s50:50≤sizeLine:=by decide
    have Lg:ps.length≤20:=by
      obtain⟨_,_,_,_,_,_,_,_,z⟩:=hw.ex;exact z
    obtain⟨dx,fs,hi,hno⟩:=hw.ins qt.1 qt.2;left;refine⟨_,_,hi,hno,o,xs,ps,rfl,hw,fun l2 rB hl2 X_=>?_⟩;have s2:Same H (upd H l2 (.lst rB)):=aq hl2;have e2:upd H l2 (.lst rB) l2=some (.lst rB):=ak;have yO:=bh.same X_ s2;have hp2:=hp.same s2;generalize upd H l2 (.lst rB)=H2 at s2 e2 yO hp2 ⊢;left;refine⟨⟨_,aR.of e2⟩,fun D hD=>cmE rB (fun i σ H'=>(∃o1 o2 o3,σ=[o1,o2,o3,some (.ref p)])∧H' D=some (.lst ((oZ (rC c) (ps.take i) 0).map fun n:Nat=>V.int n))∧Same H2 H') ⟨⟨_,_,_,rfl⟩,ak,aq hD⟩ (fun i σ H' _ h=>aR.of (h.2.2 _ _ e2)) ?_ ?_⟩
    · rintro i x t σ H3 hi ht ⟨⟨o1,o2,o3,rfl⟩,Ca,s3⟩;obtain⟨e,he,tt,rfl,htt⟩:=yO.at hi;have hi2:i<ps.length:=(List.getElem?_eq_some_iff.mp he).1;have hcl:(oZ (rC c) (ps.take i) 0).length≤20:=by
        have h1:=wH (E_ c) (ps.take i) 0;rw[List.length_take] at h1;omega
      have st:Same H3 (upd H3 t (.tup [.int i,.ref tt])):=aq ht;rw[J9 _ he];left;refine⟨_,eO.of ak,rfl,_,eO.of (st _ _ (s3 _ _ htt)),rfl,?_⟩;have vh:=st _ _ Ca;have s4:=s3.trans st;have hp4:=hp2.same s4;generalize upd H3 t (.tup [.int i,.ref tt])=H4 at vh s4 hp4 ⊢;left;refine⟨_,hp4.q,rfl,List.all_eq_true.mp (bR _),?_⟩;rw[bw]
      by_cases h1:e.1∈c
      · rw[decide_eq_true h1];left;refine⟨_,hp4.q,rfl,List.all_eq_true.mp (bR _),?_⟩;rw[bw]
        by_cases h2:e.2∈c
        · have ef:rC c e i=[i]:=by unfold rC;rw[if_pos ⟨h1,h2⟩]
          rw[decide_eq_true h2,ef];refine eX.pos rfl ?_;left;refine⟨_,vh,by simp;omega,?_,aP s4 hD⟩;rw[ak]
        · have ef:rC c e i=[]:=by unfold rC;rw[if_neg fun z=>h2 z.2]
          rw[decide_eq_false h2,ef,List.append_nil];refine eX.neg rfl ?_;left;exact⟨vh,s4⟩
      · have ef:rC c e i=[]:=by unfold rC;rw[if_neg fun z=>h1 z.1]
        rw[decide_eq_false h1,ef,List.append_nil];left;exact⟨vh,s4⟩
    ·rintro σ H3 ⟨⟨o1,o2,o3,rfl⟩,Ca,s3⟩;rw[yO.1,List.take_length] at Ca;left;exact q D H3 (cu s2 hD) Ca (s2.trans s3)
theorem PN (c:List Str):∀(ps:List (Str×Str)) (i:Nat),(oZ (rC c) ps i).length=eN c ps
  | [],_=>rfl
  | e::ps,i=>by
    have ih:=PN c ps (i+1);show(rC c e i++oZ (rC c) ps (i+1)).length=_;rw[List.length_append,ih];simp only[rC,eN];split <;> simp
def rD:Sp:=fun vs H Q _=>∃(r:Addr) (tv:List V),vs=[.ref r]∧H r=some (.lst tv)∧tv.length≤20∧∀H',Same H H'→Q (.int (2 ^ tv.length)) H'
theorem rE (T:Txt K mg a):c7 P w K mg base mY 1 a.bI a.dW ["ties"] rD:=by
  exists T.h_.qH,dN
  ·obtain⟨r,tv,rfl,_⟩:=h;rfl
  · obtain⟨r,tv,rfl,hr,Lg,q⟩:=h;refine⟨_,(aA (bB (i:=1) dN.nd rfl (Or.inl rfl) aH)
      (aA (eV PassesOwn.never rfl (PI.eqv (bG (K:=K) rfl (aK 0)) (aZ _ _)) (aM (i:=2) dN.nd rfl (Or.inl rfl))
      (aF (bB (i:=1) dN.nd rfl (Or.inl rfl) (bU pU (aK 1) aH))))
      (aF (aY (aK 1))))),?_⟩
    left;refine⟨⟨_,aR.of hr⟩,Ld tv (fun i σ H'=>(∃o2,σ=[some (.ref r),some (.int (2 ^ i)),o2])∧Same H H') ⟨⟨_,rfl⟩,Same.refl _⟩ (fun i σ H' _ h=>aR.of (h.2 _ _ hr)) ?_ ?_⟩
    ·rintro i x σ H2 hi ⟨⟨o2,rfl⟩,s2⟩;have hi2:i<tv.length:=(List.getElem?_eq_some_iff.mp hi).1;left;exact⟨(Int.pow_succ ..).symm,s2⟩
    ·rintro σ H2 ⟨⟨o2,rfl⟩,s2⟩;left;exact q H2 s2
def Hj:Sp:=fun vs H Q _=>∃(p u:Addr) (c d:List Str),vs=[.ref p,.ref u]∧H p=some (.lst (c.map V.str))∧Sq H u (d.map V.str)∧c.length≤9∧
  ∀(r:Addr) (H':Hp),H' r=some (.tup ((jF c d).map V.str))→Same H H'→Q (.ref r) H'
theorem Hl (T:Txt K mg a):c7 P w K mg base mY 1 a.gH a.nO ["points", "part"] Hj:=by
  exists T.uz.qH,G6
  ·obtain⟨p,u,c,d,rfl,_⟩:=h;rfl
  · obtain⟨p,u,c,d,rfl,hp,hu,h9,q⟩:=h;refine⟨_,(aF (aY (cX gD rfl T.nm.tuple boot_tuple (aj (eF rfl rfl (show aO (aD p7) _ ["points", "part"] ["point"] [1] ["point", "part"] from⟨rfl,by symm,by symm,rfl,by symm,by symm⟩) rfl (PI.eqv (bG (K:=K) rfl (aK 0)) (aZ _ _)) (fun C s H fp pn=>(aM (i:=0) (show(["point", "part"]:List Str).Nodup by symm) rfl (Or.inl rfl))) (fun C s H fp pn=>(rO (aW (vJ (K:=K) rfl) (aK 0) (aK 1) rfl))) (fun C s H fp pn=>(aK 0))) ao)))),?_⟩;have s60:60≤sizeLine:=by decide
    left;refine⟨⟨_,aR.of hp⟩,fun D hD=>Nu (c.map V.str) (fun i σ H'=>(∃o',σ=[o',some (.ref u)])∧H' D=some (.lst ((jF (c.take i) d).map V.str))∧Same H H') ⟨⟨_,rfl⟩,ak,aq hD⟩ (fun i σ H' _ h=>aR.of (h.2.2 _ _ hp)) ?_ ?_⟩
    · rintro i x σ H2 hi ⟨⟨o',rfl⟩,hD2,s2⟩;obtain⟨y,hy,rfl⟩:=m7 hi;have hi2:i<c.length:=(List.getElem?_eq_some_iff.mp hy).1;have hfl:(jF (c.take i) d).length≤(c.take i).length:=List.length_filter_le _ _;rw[List.length_take] at hfl;rw[take_one hy,show jF (c.take i++[y]) d=jF (c.take i) d++jF [y] d from List.filter_append ..];left;have d1:inV (.str y) (d.map V.str) = !decide (¬y∈d):=by rw[bw];simp
      refine⟨_,(hu.same s2).q,rfl,List.all_eq_true.mp (bR _),_,d1,eX.of (fun h=>?_) (fun h=>?_)⟩
      ·have h':¬y∈d:=of_decide_eq_true h;left;refine⟨_,hD2,by simp;omega,by rw[ak];simp[jF,h'],aP s2 hD⟩
      · have h':y∈d:=by simpa using h
        left;refine⟨by rw[hD2];simp[jF,h'],s2⟩
    ·rintro σ H2 ⟨⟨o',rfl⟩,hD2,s2⟩;rw[List.length_map,List.take_length] at hD2;left;exact⟨_,.inl hD2,fun l H3 hl s3=>q l H3 hl (s2.trans s3)⟩
def kS (c:List Str):List Key:=c.map Sum.inr
theorem uH (c:List Str):(kS c).map kV=c.map V.str:=by
  unfold kS;rw[List.map_map];rfl
theorem PX {c d:List Str} (h:kS c=kS d):c=d:=by
  unfold kS at h;exact List.map_inj_right (fun a b h=>Sum.inr.inj h) |>.mp h
theorem P0 {xs:List V}:vY xs (some 1) none=xs.drop 1:=by
  unfold vY;have e1:HT.vX xs.length 0 (some 1)=min 1 xs.length:=by
    unfold HT.vX;simp
    try omega
  have e2:HT.vX xs.length xs.length none=xs.length:=by
    unfold HT.vX;simp
  rw[e1,e2];cases xs with
  | nil=>rfl
  | cons x xs=>
    rw[Nat.min_eq_left (by simp)];simp
theorem P_ {xs c:List Str} (h:c∈aX xs):c.Sublist xs:=by
  unfold aX at h;obtain⟨m,_,rfl⟩:=List.mem_map.mp h;exact bits_sub _ _
def Fb (C:Addr):Sp:=fun vs H Q _=>∃(o:Addr) (xs:List Str) (ps:List (Str×Str)),vs=[.ref o]∧iz C H o xs ps∧Jk xs∧qy xs ps∧
  ∀H',Same H H'→Q (.int (if 1<(t_ (aB (fun _=>none) ps 0) xs xs).length then 0 else yH ps xs)) H'
theorem pO (T:Txt K mg a):c7 P w K mg base mY 4 a.fH a.lE ["web"] (Fb a.bJ):=by
  exists T.j4.qH,jh
  ·obtain⟨o,xs,ps,rfl,_⟩:=h;rfl
  · obtain⟨o,xs,ps,rfl,hw,hX,hTs,q⟩:=h;refine⟨_,(aA (eU (aW uf (aL (cA (K:=K) rfl) rfl T.nm.len PySem.boot_len (aj (PE.eqv (aN (Ey T) hr.d rfl T.wZ T.q_.kp T.wY .nil aU (aj (aK 0) ao)) (aJ _ _ _)) ao)) aH (bV _)) (aF (aY aH)) bT)
      (aA (bB (i:=1) jh.nd rfl (Or.inr rfl) (O2 (Nat.lt_of_succ_lt (oG hr)) rfl rfl (show aO (aD iG) _ ["web", "at_all", "own", "part", "unions"] ["part"] [0] ["part", "web"] from⟨rfl,by symm,by symm,rfl,by symm,by symm⟩) rfl (PI.eqv (bG (K:=K) rfl (PE.eqv (aN (n_ T) hr.d rfl T.lJ T.jq.kp T.lH .nil aU (aj (PE.eqv (fX (aK 0) T.jA T.dY (d9 T) hr.d T.dX .nil aU) (fZ _ _ _ _ _ _)) ao)) (aJ _ _ _))) (aZ _ _)) (fun C s H fp pn=>(aM (i:=0) (show(["part", "web"]:List Str).Nodup by symm) rfl (Or.inl rfl))) (fun C s H fp pn=>cR) (fun C s H fp pn=>(cX gD rfl T.nm.tuple boot_tuple (aj (aK 0) ao))) (fun C s H fp pn=>(PE.eqv (aN (rE T) hr.d rfl T.lM T.h_.kp T.lK .nil aU (aj (PE.eqv (aN (xV T) hr.d rfl T.qK T.mG.kp T.qJ .nil aU (aj (aK 1) (aj (aK 0) ao))) (aJ _ _ _)) ao)) (aJ _ _ _)))))
      (aA (bB (i:=2) jh.nd rfl (Or.inr rfl) Nq)
      (aA (eV PassesOwn.never rfl (PI.eqv (bG (K:=K) rfl (Cv (Uz (K:=K) rfl) (PE.eqv (aN (n_ T) hr.d rfl T.lJ T.jq.kp T.lH .nil aU (aj (PE.eqv (fX (aK 0) T.jA T.dY (d9 T) hr.d T.dX .nil aU) (fZ _ _ _ _ _ _)) ao)) (aJ _ _ _)) (PO.eqv (z8 aH) (wK _)) Q_)) (aZ _ _)) (aM (i:=3) jh.nd rfl (Or.inr rfl))
      (aA (iD (i:=4) jh.nd rfl rfl rfl rfl (show aO (aD iG) _ ["web", "at_all", "own", "part", "unions"] ["inner"] [] ["inner"] from⟨rfl,by symm,by symm,rfl,by symm,by symm⟩) rfl (PI.eqv (bG (K:=K) rfl (Cv (Uz (K:=K) rfl) (PE.eqv (aN (n_ T) hr.d rfl T.lJ T.jq.kp T.lH .nil aU (aj (aK 3) ao)) (aJ _ _ _)) (PO.eqv (z8 aH) (wK _)) (PO.eqv (z8 (Zb RQ aH)) (wK _)))) (aZ _ _)) (fun C s H fp pn=>(aM (i:=0) (show(["inner"]:List Str).Nodup by symm) rfl (Or.inl rfl))) (fun C s H fp pn=>cR) (fun C s H fp pn=>(cX gD rfl T.nm.tuple boot_tuple (aj (aK 0) ao))))
      (aF (PS.eqv (Iv (oG hr) (aK 2) (cX gD rfl T.nm.tuple boot_tuple (aj (aK 3) ao)) (bU m_ (PE.eqv (rR (oG hr) (aK 1) (cX gD rfl T.nm.tuple boot_tuple (aj (aK 3) ao)) (fun _ _=>rfl)) (o_ _ _)) (aL (Kq (K:=K) rfl rfl) rfl T.nm3.sum boot_sum (aj (eF rfl rfl (show aO (aD iG) _ ["web", "at_all", "own", "part", "unions"] ["union"] [2,1,3] ["union", "own", "at_all", "part"] from⟨rfl,by symm,by symm,rfl,by symm,by symm⟩) rfl (PI.eqv (bG (K:=K) rfl (aK 4)) (aZ _ _)) (fun C s H fp pn=>(aM (i:=0) (show(["union", "own", "at_all", "part"]:List Str).Nodup by symm) rfl (Or.inl rfl))) (fun C s H fp pn=>cR) (fun C s H fp pn=>(bU pU (PE.eqv (rR (oG hr) (aK 1) (aK 0) (fun _ _=>rfl)) (o_ _ _)) (PE.eqv (rR (oG hr) (aK 2) (PE.eqv (aN (Hl T) hr.d rfl T.zN T.uz.kp T.zM .nil aU (aj (aK 3) (aj (aK 0) ao))) (aJ _ _ _)) (fun _ _=>rfl)) (o_ _ _))))) ao))) rfl) (DG _ _ _)))))
      (aF (aY (PE.eqv (rR (oG hr) (aK 2) (cX gD rfl T.nm.tuple boot_tuple (aj (PE.eqv (fX (aK 0) T.jA T.dY (d9 T) hr.d T.dX .nil aU) (fZ _ _ _ _ _ _)) ao)) (fun _ _=>rfl)) (o_ _ _)))))))),?_⟩
    have Tn:600<sizeLine:=by decide
    have l9:=hX.len;have Lg:=hTs.len;have p9:2 ^ xs.length≤2 ^ 9:=Nat.pow_le_pow_right (by decide) l9.2;have p1:2 ^ 1≤2 ^ xs.length:=Nat.pow_le_pow_right (by decide) l9.1;left;refine⟨o,xs,ps,rfl,hw,hX,hTs,fun l rs H1 hl0 e1 hrs _ s1=>?_⟩;left;refine⟨_,.inl (aR.of e1),?_⟩;rw[hrs.1];refine eX.of (fun h=>?_) (fun h=>?_)
    ·have h':=of_decide_eq_true h;left;have:=q H1 s1;rw[if_pos (by omega)] at this;exact this
    · have h':=of_decide_eq_false h;rw[if_neg (by omega)] at q;left;obtain⟨dx,fs,hin,hno⟩:=(hw.same s1).ins cY.1 cY.2;refine⟨_,_,hin,hno,o,xs,ps,rfl,hw.same s1,fun n2 hn2=>?_⟩;exists H1,n2,(.lst (xs.map V.str)),s2,e2,H2,hn2;left;refine⟨n2,xs,rfl,e2,l9.2,fun r3 tv H3 Lh e3 hN s3=>?_⟩;have S3:=s1.trans (s2.trans s3);have tl:tv.length=2 ^ xs.length:=by rw[hN.1,cZ]
      left;refine⟨⟨_,aR.of e3⟩,fun D hD=>Ld tv (fun j σ H'=>(∃o1,σ=[o1,some (.ref o)])∧(∃kvs,H' D=some (.dT kvs)∧kvs.length≤j∧∀c∈(aX xs).take j,eG kvs (kS c)=some (.int (2 ^ eN c ps)))∧Same H3 H') ⟨⟨_,rfl⟩,⟨[],ak,by simp,by simp⟩,aq hD⟩ (fun j σ H' _ h=>aR.of (h.2.2 _ _ e3)) ?_ ?_⟩
      · rintro j v σ H4 hj ⟨⟨o1,rfl⟩,⟨kvs,vh,hkl,hkv⟩,s4⟩;have hj2:j<tv.length:=(List.getElem?_eq_some_iff.mp hj).1;obtain⟨c,hc,t4,rfl,ht0,Z4⟩:=cB.at hN hj;have qaE:=s4 _ _ Z4;left;refine⟨_,.inl qaE,fun l5 H5 e5 s5=>?_⟩;refine⟨o,t4,xs,c,ps,rfl,hw.same (S3.trans (s4.trans s5)),.inl (s5 _ _ qaE),fun r6 H6 hr6 e6 s6=>?_⟩;have hcl:(Yg c ps).length≤20:=Nat.le_trans (wH (E_ c) ps 0) Lg;left;refine⟨r6,_,rfl,e6,by simpa using hcl,fun H7 s7=>?_⟩;rw[List.length_map,show(Yg c ps).length=eN c ps from PN c ps 0];have S7:=s5.trans (s6.trans s7);left;refine⟨kvs,S7 _ _ vh,kS c,by rw[uH];exact(s6.trans s7) _ _ e5,by omega,⟨_,ak,?_,fun d hd=>?_⟩,aP (s4.trans S7) hD⟩
        ·have:=gB kvs (kS c) (.int (2 ^ eN c ps));omega
        · rw[CQ]
          by_cases hdc:kS d=kS c
          ·rw[if_pos hdc,PX hdc]
          · rw[if_neg hdc];rw[take_one hc] at hd
            rcases List.mem_append.mp hd with hd | hd
            ·exact hkv d hd
            ·rw[List.mem_singleton] at hd;subst hd;exact absurd rfl hdc
      · rintro σ H4 ⟨⟨o1,rfl⟩,⟨kv0,vh,qex,Yh⟩,s4⟩;rw[hN.1,List.take_length] at Yh;have S4:=S3.trans s4;left;intro w hw5;have s5:Same H4 (upd H4 w (.dT [])):=aq hw5;have e5:upd H4 w (.dT []) w=some (.dT []):=ak;have KY:=s5 _ _ vh;have Dw:D≠w:=fun z=>by rw[← z,vh] at hw5;cases hw5
        generalize upd H4 w (.dT [])=H5 at s5 e5 KY ⊢;have S5:=S4.trans s5;obtain⟨dx,fs,hin,hno⟩:=(hw.same S5).ins cY.1 cY.2;refine⟨_,_,hin,hno,o,xs,ps,rfl,hw.same S5,fun n6 hn6=>?_⟩;exists H5,n6,(.lst (xs.map V.str)),s6,e6,H6,hn6;left;refine⟨n6,xs,rfl,e6,l9.2,fun r7 rB H7 hr7 e7 YM s7=>?_⟩;have tl2:rB.length=2 ^ xs.length:=by rw[YM.1,cZ]
        left;refine⟨_,aR.of e7,fun p8 hp8=>?_⟩;rw[P0];exists H7,p8,(.lst (rB.drop 1)),s8,e8,H8,hp8;have s58:=s6.trans (s7.trans s8);have S8:=S5.trans s58;have w8:=s58 _ _ e5;have hD8:=s58 _ _ KY;have hN8:Bv H6 H8 rB (aX xs):=Bv.same YM s8;have nw:∀{b:Addr} {u:HO},H8 b=some u→(∀kvs,u≠.dT kvs)→b≠w:=fun {b u} e n z=>by
          rw[z,w8] at e;exact n _ (Option.some.inj e).symm
        have kp:∀{H9 Bg:Hp},But w H8 H9→Same H9 Bg→But w H8 Bg:=fun b s=>b.same s;refine⟨⟨_,aR.of e8⟩,Ld (rB.drop 1) (fun i σ H'=>(∃o3 o4,σ=[some (.ref o),some (.ref D),some (.ref w),o3,o4])∧(∃kvs,H' w=some (.dT kvs)∧kvs.length≤i∧∀c∈((aX xs).drop 1).take i,eG kvs (kS c)=some (.int (yH ps c)))∧But w H8 H') ⟨⟨_,_,rfl⟩,⟨[],w8,by simp,by simp⟩,But.refl _ _⟩ (fun i σ H' _ h=>aR.of (h.2.2 _ _ (nw e8 (by simp)) e8)) ?_ ?_⟩
        · rintro i v σ H9 hi ⟨⟨o3,o4,rfl⟩,⟨kvs,hw9,hkl,hkv⟩,hB9⟩;rw[List.getElem?_drop] at hi;have hi2:1+i<rB.length:=(List.getElem?_eq_some_iff.mp hi).1;obtain⟨c,hc,t4,rfl,ht0,ht8⟩:=cB.at hN8 hi;have ht9:=hB9 _ _ (nw ht8 (by simp)) ht8;have hD9:=hB9 _ _ Dw hD8;have qaF:=List.mem_of_getElem? hc;have csub:=P_ qaF;have cl9:c.length≤9:=Nat.le_trans csub.length_le l9.2;have pc9:2 ^ c.length≤2 ^ 9:=Nat.pow_le_pow_right (by decide) cl9;have Qw:c≠[]:=fun z=>by
            subst z;have h1 : []∈lQ xs++[xs]:=by
              have:=hc;rw[pK (List.length_pos_iff.mp l9.1),Nat.add_comm,List.getElem?_cons_succ] at this;exact List.mem_of_getElem? this
            rcases List.mem_append.mp h1 with h1 | h1
            ·exact absurd (PK l9.2 h1).2.1 (by simp)
            ·rw[List.mem_singleton] at h1;rw[← h1] at l9;simp at l9
          left;refine⟨t4,c,rfl,ht9,cl9,fun r10 Yi Bg qey e10 Yj yq=>?_⟩;have tlc:Yi.length=2 ^ c.length:=by rw[Yj.1,cZ]
          left;refine⟨_,aR.of e10,fun p11 qdu=>?_⟩;rw[Ye,tlc];exists Bg,p11,(.lst ((Yi.take (2 ^ c.length - 1)).drop 1)),Tp,Yk,U_,qdu;have Tq:Bv H9 U_ ((Yi.take (2 ^ c.length - 1)).drop 1) (lQ c):=by
            rw[← Hi];refine⟨by rw[List.length_drop,List.length_take,List.length_drop,List.length_take,Yj.1],fun k v d h1 h2=>?_⟩;rw[List.getElem?_drop] at h1 h2;have hk:1+k<2 ^ c.length - 1:=by
              have:=(List.getElem?_eq_some_iff.mp h1).1;rw[List.length_take] at this;omega
            rw[List.getElem?_take_of_lt hk] at h1 h2;exact(Bv.same Yj Tp).2 _ v d h1 h2
          generalize (Yi.take (2 ^ c.length - 1)).drop 1=lv at Yk Tq ⊢;have lvl:lv.length=2 ^ c.length - 2:=by rw[Tq.1,jr]
          have Tr:=yq.trans Tp;have qez:=Tr _ _ hw9;have qeA:=Tr _ _ hD9;have qeB:=Tr _ _ ht9;refine⟨⟨_,aR.of Yk⟩,fun U hU=>Nu lv (fun j σ H'=>(∃o1,σ=[o1])∧(∃uv,H' U=some (.lst uv)∧cB (fun H v u=>∃l,v = .ref l∧H l=some (.tup (u.map V.str))) H' uv ((lQ c).take j))∧Same U_ H') ⟨⟨_,rfl⟩,⟨[],ak,cB.nil⟩,aq hU⟩ (fun j σ H' _ h=>aR.of (h.2.2 _ _ Yk)) ?_ ?_⟩
          · rintro j v σ H12 hj ⟨⟨o1,rfl⟩,⟨uv,Tt,K3⟩,s12⟩;have hj2:j<lv.length:=(List.getElem?_eq_some_iff.mp hj).1;obtain⟨u,hu,t5,rfl,_,ht5⟩:=cB.at Tq hj;have YS:uv.length=j:=by
              have:=K3.1;rw[List.length_take,jr] at this;omega
            left;refine⟨_,.inl (s12 _ _ ht5),fun l13 H13 e13 EY=>⟨uv,EY _ _ Tt,by omega,⟨_,ak,?_⟩,aP (s12.trans EY) hU⟩⟩;have Qa:=EY _ _ Tt;rw[take_one hu];refine cB.snoc (cB.keep K3 ?_) ⟨l13,rfl,?_⟩
            ·rintro v b ⟨l,rfl,hl⟩;refine⟨l,rfl,?_⟩;rw[aC (qD (EY _ _ hl) Qa (by simp))];exact EY _ _ hl
            ·rw[aC (qD e13 Qa (by simp))];exact e13
          · rintro σ H12 ⟨⟨o1,rfl⟩,⟨uv,Tt,K3⟩,s12⟩;rw[Tq.1,List.take_length] at K3;have Tv:=Tr.trans s12;have qdv:=Tv _ _ hw9;have qaG:=Tv _ _ hD9;have qaH:=Tv _ _ ht9;have uvl:uv.length=2 ^ c.length - 2:=by rw[K3.1,jr]
            left;refine⟨_,.inl qaH,fun l13 H13 e13 EY=>?_⟩;rw[← uH] at e13;have g1:=fQ.t (EY _ _ qaG) e13;rw[Yh c qaF] at g1;refine⟨_,g1,?_⟩;have qdw:=Tv.trans EY;have qdx:=EY _ _ qdv;have qdy:=EY _ _ qaG;have qaI:=EY _ _ qaH;have Qa:=EY _ _ Tt;have qaJ:cB (fun H v u=>∃l,v = .ref l∧H l=some (.tup (u.map V.str))) H13 uv (lQ c):=cB.keep K3 fun v b ⟨l,e,h⟩=>⟨l,e,EY _ _ h⟩;refine⟨⟨_,aR.of Qa⟩,fun F hF=>Nu uv (fun j σ H'=>(∃o1,σ=[o1,some (.ref w),some (.ref D),some (.ref t4)])∧H' F=some (.lst ((((lQ c).take j).map fun u=>yH ps u * 2 ^ eN (jF c u) ps).map V.int))∧Same H13 H') ⟨⟨_,rfl⟩,ak,aq hF⟩ (fun j σ H' _ h=>aR.of (h.2.2 _ _ Qa)) ?_ ?_⟩
            · rintro j v σ H14 hj ⟨⟨o1,rfl⟩,Tw,Va⟩;have hj2:j<uv.length:=(List.getElem?_eq_some_iff.mp hj).1;obtain⟨u,hu,l5,rfl,hl5⟩:=cB.at qaJ hj;obtain⟨qdz,u0,ul⟩:=PK cl9 (List.mem_of_getElem? hu);have qaK:=Va _ _ hl5;have g2:=fQ.t (k:=kS u) (Va _ _ qdx) (by rw[uH];exact qaK);obtain⟨ju,hju,eju⟩:=pL _ xs c u (1+i) rfl hc qdz ul;have ju0:ju≠0:=fun z=>by
                rw[z,u9] at eju;cases eju;simp at u0
              have hmem:u∈((aX xs).drop 1).take i:=by
                refine List.mem_of_getElem? (i:=ju - 1) ?_;rw[List.getElem?_take_of_lt (by omega),List.getElem?_drop,show 1+(ju - 1)=ju by omega];exact eju
              rw[hkv u hmem] at g2;rw[take_one hu,List.map_append,List.map_append];left;refine⟨_,g2,?_⟩;refine⟨t4,l5,c,u,rfl,Va _ _ qaI,.inr qaK,cl9,fun r15 H15 e15 s15=>?_⟩;have g3:=fQ.t (k:=kS (jF c u)) (s15 _ _ (Va _ _ qdy)) (by rw[uH];exact e15);have qdA:(jF c u).Sublist xs:=(List.filter_sublist (l:=c)).trans csub;obtain⟨jo,hjo,ejo⟩:=uG _ xs (jF c u) rfl qdA;rw[Yh _ (List.mem_of_getElem? ejo)] at g3;refine⟨_,g3,?_⟩;have hb:(2:Int) ^ eN (jF c u) ps≤2 ^ 20:=by
                have h1:=O5 (jF c u) ps;have h2:2 ^ eN (jF c u) ps≤2 ^ 20:=Nat.pow_le_pow_right (by decide) (by omega)
                exact_mod_cast h2
              have hb0:(0:Int)<2 ^ eN (jF c u) ps:=Int.pow_pos (by decide);left;refine⟨.inr ⟨by omega,by omega⟩,_,s15 _ _ Tw,by simp;omega,by rw[ak];simp,aP (Va.trans s15) hF⟩
            · rintro σ H14 ⟨⟨o1,rfl⟩,Tw,Va⟩;rw[qaJ.1,List.take_length] at Tw;left;refine⟨_,aR.of Tw,?_⟩;rw[PL _ Qw,← Jf Qw];refine⟨_,.inl (Va _ _ qaI),fun l15 H15 e15 s15=>?_⟩;rw[← uH] at e15;have qaL:=qdw.trans (Va.trans s15);have qdB:=qaL _ _ hw9;refine⟨_,vg.t qdB e15 (by omega),?_⟩;refine⟨⟨_,ak,?_,fun d hd=>?_⟩,?_⟩
              ·have:=gB kvs (kS c) (.int (yH ps c));omega
              · rw[CQ]
                by_cases hdc:kS d=kS c
                ·rw[if_pos hdc,PX hdc]
                · rw[if_neg hdc];rw[← List.drop_one,take_one (show((aX xs).drop 1)[i]? = some c by rw[List.getElem?_drop];exact hc)] at hd
                  rcases List.mem_append.mp hd with hd | hd
                  ·exact hkv d hd
                  ·rw[List.mem_singleton] at hd;subst hd;exact absurd rfl hdc
              ·intro b u hb e;rw[aC hb];exact qaL _ _ (hB9 _ _ hb e)
        · rintro σ H9 ⟨⟨o3,o4,rfl⟩,⟨kvs,hw9,hkl,hkv⟩,hB9⟩;rw[List.take_of_length_le (by rw[List.length_drop,List.length_drop,YM.1];exact Nat.le_refl _)] at hkv;have s9:Same H4 H9:=fun b u e=>hB9 _ _ (fun z=>by rw[z,hw5] at e;cases e) ((s5.trans s58) _ _ e);have S9:=S4.trans s9;obtain⟨dx,fs,hin,hno⟩:=(hw.same S9).ins cY.1 cY.2;left;refine⟨_,_,hin,hno,o,xs,ps,rfl,hw.same S9,fun n10 qdC=>?_⟩;exists H9,n10,(.lst (xs.map V.str)),yq,e10,Bg,qdC;left;refine⟨_,.inl e10,fun l11 U_ Yk Tp=>?_⟩;rw[← uH] at Yk;have g:=fQ.t ((yq.trans Tp) _ _ hw9) Yk;have hx:xs∈(aX xs).drop 1:=by
            rw[pK (List.length_pos_iff.mp l9.1)];simp
          rw[hkv xs hx] at g;refine⟨_,g,?_⟩;exact q U_ (S9.trans (yq.trans Tp))
def rF (H:Hp) (t n l:Addr) (xs:List Str) (tv:List V) (ps:List (Str×Str)):Prop:=H t=some (.tup [.ref n,.ref l])∧H n=some (.lst (xs.map V.str))∧H l=some (.lst tv)∧bh H tv ps∧Jk xs∧qy xs ps
theorem rF.same {H H':Hp} {t n l:Addr} {xs:List Str} {tv:List V} {ps:List (Str×Str)} (h:rF H t n l xs tv ps) (s:Same H H'):rF H' t n l xs tv ps:=⟨s _ _ h.1,s _ _ h.2.1,s _ _ h.2.2.1,bh.same h.2.2.2.1 s,h.2.2.2.2⟩
theorem int_at {ns:List Int} {i:Nat} {x:V} (h:(ns.map V.int)[i]? = some x):∃m,ns[i]? = some m∧x = .int m:=by
  rw[List.getElem?_map] at h;cases hn:ns[i]? with
  | none=>rw[hn] at h;cases h
  | some n=>rw[hn] at h;cases h;exact⟨n,rfl,rfl⟩
def Strong (S:List eY) (xs:List Str):Prop:=∀x∈xs,∀y∈xs,RT (gO S) x y
theorem zR:∀(xs:List V) (n k:Nat),eG (nums n xs) (Sum.inl ((n+k:Nat):Int):Key)=xs[k]?
  | [],n,k=>by simp[nums,eG]
  | x::xs,n,0=>by rw[nums,dZ (by simp)];rfl
  | x::xs,n,k+1=>by
    rw[nums,d7 (by intro z;injection z with z;omega)];have:=zR xs (n+1) k;rw[show n+1+k=n+(k+1) by omega] at this;rw[this];simp
theorem K4 {S:List eY} {xs:List Str} (h:fu S xs xs=none):Strong S xs:=fun x hx y hy=>by
  have h1:=Eh h x hx;have h2:iu S xs x=xs:=by
    unfold iu at h1 ⊢;exact List.filter_eq_self.mpr (List.length_filter_eq_length_iff.mp h1)
  have:y∈iu S xs x:=by rw[h2];exact hy
  exact(m9.mp this).2
theorem K5 {S:List eY} {xs:List Str} (h:Strong S xs):fu S xs xs=none:=by
  unfold fu;rw[List.find?_eq_none];intro x hx;rw[decide_eq_true_eq];intro hlt;unfold iu at hlt;rw[List.length_filter_lt_length_iff_exists] at hlt;obtain⟨y,hy,hn⟩:=hlt;exact hn (by simpa using h x hx y hy)
theorem zT {fx gx:Nat→Option Int} {ps:List (Str×Str)} {xs:List Str} (h:∀n v,fx n=some v→gx n=some v) (st:Strong (aB gx ps 0) xs):Strong (aB fx ps 0) xs:=fun x hx y hy=>by
  refine(st x hx y hy).mono fun p q ⟨n,hn⟩=>⟨n,?_⟩;rw[pY] at hn ⊢;obtain⟨e,he,h2⟩:=hn;refine⟨e,he,?_⟩;cases hf:fx n with
  | none=>
    rcases h2 with⟨_,h3⟩ | ⟨_,h3⟩
    ·exact .inl ⟨rfl,h3⟩
    ·exact .inr ⟨rfl,h3⟩
  | some v=>rw[h n v hf] at h2;exact h2
def vN (ps:List (Str×Str)) (xs:List Str) (row:List Int):Bool:=(fu (aB (fun k=>row[k]?) ps 0) xs xs).isNone
theorem oh {ps:List (Str×Str)} {xs:List Str} {row:List Int}:vN ps xs row=true↔Strong (aB (fun k=>row[k]?) ps 0) xs:=by
  unfold vN;rw[Option.isNone_iff_eq_none];exact⟨K4,K5⟩
theorem Fd {ps:List (Str×Str)} {xs:List Str} {row:List Int} {b:Int} (h:vN ps xs (row++[b])=true):vN ps xs row=true:=by
  rw[oh] at *;exact zT (fun n v hn=>by rw[List.getElem?_append_left (List.getElem?_eq_some_iff.mp hn).1];exact hn) h
def ext2 (r:List Int):List (List Int):=[r++[0],r++[1]]
def cg (ps:List (Str×Str)) (xs:List Str) (j:Nat):List (List Int):=(cC j).filter (vN ps xs)
theorem good_flat {ps:List (Str×Str)} {xs:List Str}:∀l:List (List Int),((l.filter (vN ps xs)).flatMap ext2).filter (vN ps xs)=(l.flatMap ext2).filter (vN ps xs)
  | []=>rfl
  | r::l=>by
    by_cases h:vN ps xs r=true
    ·rw[List.filter_cons_of_pos h,List.flatMap_cons,List.flatMap_cons,List.filter_append,List.filter_append,good_flat l]
    · have h0:(ext2 r).filter (vN ps xs)=[]:=List.filter_eq_nil_iff.mpr fun z hz z2=>by
        rcases List.mem_cons.mp hz with rfl | hz
        ·exact h (Fd z2)
        · rcases List.mem_cons.mp hz with rfl | hz
          ·exact h (Fd z2)
          ·cases hz
      rw[List.filter_cons_of_neg h,List.flatMap_cons,List.filter_append,h0,good_flat l,List.nil_append]
theorem K6 {ps:List (Str×Str)} {xs:List Str} {j:Nat}:((cg ps xs j).flatMap ext2).filter (vN ps xs)=cg ps xs (j+1):=good_flat _
theorem vO:∀l:List (List Int),(l.flatMap ext2).length=2 * l.length
  | []=>rfl
  | r::l=>by rw[List.flatMap_cons,List.length_append,vO l];simp[ext2];omega
theorem uI:∀m:Nat,(cC m).length=2 ^ m
  | 0=>rfl
  | m+1=>by
    have:=vO (cC m);rw[uI m] at this;rw[Nat.pow_succ,Nat.mul_comm];exact this
theorem Fe (ps:List (Str×Str)) (xs:List Str) (j:Nat):(cg ps xs j).length≤2 ^ j:=by
  rw[← uI j];exact List.length_filter_le _ _
def cW (D:Addr) (H0 H:Hp) (vs:List V) (rows:List (List Int)):Prop:=vs.length=rows.length∧∀(i:Nat) v row,vs[i]? = some v→rows[i]? = some row→∃a,v = .ref a∧a≠D∧H0 a=none∧H a=some (.lst (row.map V.int))
theorem cW.nil (D:Addr) (H0 H:Hp):cW D H0 H [] []:=⟨rfl,fun i v row h=>by simp at h⟩
theorem cW.same {D:Addr} {H0 H H':Hp} {vs:List V} {rows:List (List Int)} (h:cW D H0 H vs rows) (s:∀a us,a≠D→H a=some (.lst us)→H' a=some (.lst us)):cW D H0 H' vs rows:=⟨h.1,fun i v row h1 h2=>by
  obtain⟨a,rfl,e0,e1,e2⟩:=h.2 i v row h1 h2;exact⟨a,rfl,e0,e1,s _ _ e0 e2⟩⟩
theorem cW.add {D:Addr} {H0 H:Hp} {vs:List V} {rows:List (List Int)} {a:Addr} {row:List Int} (h:cW D H0 H vs rows) (h0:a≠D) (h1:H0 a=none) (h2:H a=some (.lst (row.map V.int))):cW D H0 H (vs++[.ref a]) (rows++[row]):=⟨by simp[h.1],fun i v r h3 h4=>by
  by_cases hi:i<vs.length
  ·rw[List.getElem?_append_left hi] at h3;rw[List.getElem?_append_left (by have:=h.1;omega)] at h4;exact h.2 i v r h3 h4
  · rw[List.getElem?_append_right (by omega)] at h3;rw[List.getElem?_append_right (by have:=h.1;omega),← h.1] at h4;have z:i - vs.length=0:=by have:=(List.getElem?_eq_some_iff.mp h3).1;simp at this;omega
    rw[z] at h3 h4;simp at h3 h4;subst h3 h4;exact⟨a,rfl,h0,h1,h2⟩⟩
theorem cW.at {D:Addr} {H0 H:Hp} {vs:List V} {rows:List (List Int)} {i:Nat} {v:V} (h:cW D H0 H vs rows) (h1:vs[i]? = some v):∃row a,rows[i]? = some row∧v = .ref a∧a≠D∧H0 a=none∧H a=some (.lst (row.map V.int)):=by
  have hi:=(List.getElem?_eq_some_iff.mp h1).1;obtain⟨row,hrow⟩:∃row,rows[i]? = some row:=⟨_,List.getElem?_eq_getElem (show i<rows.length by have:=h.1;omega)⟩;obtain⟨a,e⟩:=h.2 i v row h1 hrow;exact⟨row,a,hrow,e⟩
theorem share {A G:Addr→Hp→Prop} {fW:Prop} (k:(∀r H,A r H→G r H)→fW) (h:∀r H,A r H→G r H):fW:=k h
def xW (C:Addr):Sp:=fun vs H Q _=>∃(o:Addr) (xs:List Str) (ps:List (Str×Str)),vs=[.ref o]∧iz C H o xs ps∧Jk xs∧qy xs ps∧ps.length≤8∧
  ∀(r:Addr) (vs':List V) (H':Hp),H r=none→H' r=some (.lst vs')→cW r H H' vs' (cg ps xs ps.length)→Same H H'→Q (.ref r) H'
theorem j_ (T:Txt K mg a):c7 P w K mg base mY 5 a.cN a.gZ ["web"] (xW a.bJ):=by
  exists T.gj.qH,fC
  ·obtain⟨o,xs,ps,rfl,_⟩:=h;rfl
  · obtain⟨o,xs,ps,rfl,hw,hX,hTs,h8,q⟩:=h;refine⟨_,(aA (fM (PE.eqv (aN (qC T) hr.d rfl T.jZ T.gw.kp T.jY .nil aU (aj (aK 0) (aj (rH rfl T.j7 T.j8) ao))) (aJ _ _ _)))
      (aA (bB (i:=1) fC.nd rfl (Or.inl rfl) (Ck (aW LR (PE.eqv (aN (pJ T) hr.d rfl T.mF T.jd.kp T.mD .nil aU (aj (aK 0) (aj CZ ao))) (aJ _ _ _)) FJ (bV _)) (bW (aj (bW ao) ao)) (bW ao)))
      (aA (eV PassesOwn.never rfl (PI.eqv (bG (K:=K) rfl (PE.eqv (fX (aK 0) T.jA T.nZ (pG T) hr.d T.nU .nil aU) (fZ _ _ _ _ _ _))) (aZ _ _)) (aM (i:=2) fC.nd rfl (Or.inl rfl))
      (aA (DR (i:=3) fC.nd rfl rfl rfl rfl (show aO (aD gb) _ ["web", "rows", "tie", "longer"] ["row", "lead"] [] ["row", "lead"] from⟨rfl,by symm,by symm,rfl,by symm,by symm⟩) rfl (PI.eqv (bG (K:=K) rfl (aK 1)) (aZ _ _)) (fun C s H fp pn=>(aM (i:=0) (show(["row", "lead"]:List Str).Nodup by symm) rfl (Or.inl rfl))) (fun C s H fp pn=>cR) (fun C s H fp pn=>(Rr (K:=K) rfl (lR (aj aH (aj aH ao))))) (fun C s H fp pn=>(aM (i:=1) (show(["row", "lead"]:List Str).Nodup by symm) rfl (Or.inl rfl))) (fun C s H fp pn=>cR) (fun C s H fp pn=>(bU vH (aK 0) (bW (aj (aK 1) ao)))))
      (aF (iD (i:=1) fC.nd rfl rfl rfl rfl (show aO (aD gb) _ ["web", "rows", "tie", "longer"] ["row"] [0] ["row", "web"] from⟨rfl,by symm,by symm,rfl,by symm,by symm⟩) rfl (PI.eqv (bG (K:=K) rfl (aK 3)) (aZ _ _)) (fun C s H fp pn=>(aM (i:=0) (show(["row", "web"]:List Str).Nodup by symm) rfl (Or.inl rfl))) (fun C s H fp pn=>(rO (aW LR (PE.eqv (aN (pJ T) hr.d rfl T.mF T.jd.kp T.mD .nil aU (aj (aK 1) (aj (Dm (K:=K) rfl rfl rfl T.Xx.dict rfl T.Xx.enumerate (aj (aK 0) ao)) ao))) (aJ _ _ _)) FJ (bV _)))) (fun C s H fp pn=>(aK 0))))))
      (aF (aY (aK 1)))))),?_⟩
    have Tn:600<sizeLine:=by decide
    left;refine⟨o,12,xs,ps,rfl,hw,by omega,fun H1 s1=>?_⟩;left;intro d0 hd0;exists H1,d0,(.dK []),s2,e2,H2,hd0;have S2:=s1.trans s2;apply share (A:=fun r H4=>∃rs,H r=none∧H4 r=some (.lst rs)∧cW r H H4 rs (cg ps xs 0)∧Same H H4)
    · intro main;refine⟨o,d0,xs,ps,_,rfl,hw.same S2,hX,hTs,Dg e2,fun H3 hn s3=>?_,fun x r3 H3 hx Lh er3 s3=>?_⟩
      · have S3:=S2.trans s3;have g0:cg ps xs 0=[[]]:=by
          have:vN ps xs []=true:=by unfold vN;simp[hn]
          unfold cg;rw[cC,List.filter_cons_of_pos this];rfl
        left;intro p1 hp1 p2 hp2;have hp0:=S3.trans (aq (o:=.lst []) hp1);have hp3:=aq (o:=.lst [V.ref p1]) hp2;have e5:upd (upd H3 p1 (.lst [])) p2 (.lst [V.ref p1]) p2=some (.lst [V.ref p1]):=ak;have e6:=hp3 _ _ (ak (H:=H3) (a:=p1) (o:=.lst []));have n12:p1≠p2:=fun z=>by subst z;rw[ak] at hp2;cases hp2
        have hq:=main p2 (upd (upd H3 p1 (.lst [])) p2 (.lst [V.ref p1])) ⟨_,cu hp0 hp2,e5,by rw[g0];exact(cW.nil _ _ _).add n12 (cu S3 hp1) e6,hp0.trans hp3⟩;generalize upd (upd H3 p1 (.lst [])) p2 (.lst [V.ref p1])=H5 at *;exact hq
      · have S3:=S2.trans s3;have g0:cg ps xs 0=[]:=by
          have:¬vN ps xs []=true:=by unfold vN;simp[hx]
          unfold cg;rw[cC,List.filter_cons_of_neg this];rfl
        left;intro p1 hp1;have hp3:=S3.trans (aq (o:=.lst []) hp1);have e5:upd H3 p1 (.lst []) p1=some (.lst []):=ak;have hq:=main p1 (upd H3 p1 (.lst [])) ⟨_,cu S3 hp1,e5,by rw[g0];exact cW.nil _ _ _,hp3⟩;generalize upd H3 p1 (.lst [])=H5 at *;exact hq
    · rintro r H4 ⟨rs,hr0,er,hR,S4⟩;obtain⟨dx,fs,hin,hno⟩:=(hw.same S4).ins qt.1 qt.2;refine⟨_,_,hin,hno,o,xs,ps,rfl,hw.same S4,fun l tv hl hT5=>?_⟩;exists H4,l,(.lst tv),s5,el,H5,hl;have tl:tv.length=ps.length:=hT5.1;refine⟨⟨_,aR.of el⟩,?_⟩;refine Ld tv (fun i σ H'=>∃(r:Addr) (rs:List V) (o2 o3:Option V),σ=[some (.ref o),some (.ref r),o2,o3]∧H r=none∧H' r=some (.lst rs)∧cW r H H' rs (cg ps xs i)∧Same H H'∧H' l=some (.lst tv)) ⟨r,rs,_,_,rfl,hr0,s5 _ _ er,hR.same (fun a us _ e=>s5 _ _ e),S4.trans s5,el⟩ (fun i σ H' _ h=>by
        obtain⟨_,_,_,_,_,_,_,_,_,z⟩:=h;exact aR.of z) ?_ ?_
      · rintro i z σ H6 hi ⟨r,rs,o2,o3,rfl,hr0,er,hR,S6,el6⟩;have hi8:i<ps.length:=by have:=(List.getElem?_eq_some_iff.mp hi).1;omega
        have g8:(cg ps xs i).length≤2 ^ 7:=Nat.le_trans (Fe ps xs i) (Nat.pow_le_pow_right (by decide) (by omega));left;refine⟨⟨_,aR.of er⟩,fun D hD=>?_⟩;have hD0:=cu S6 hD;refine Ld rs (fun j σ H'=>∃(o0 o1:Option V) (ys:List V),σ=[o0,o1]∧H' D=some (.lst ys)∧cW D H H' ys (((cg ps xs i).take j).flatMap ext2)∧Same H6 H') ⟨_,_,[],rfl,ak,cW.nil _ _ _,aq hD⟩ (fun i σ H' _ h=>by
          obtain⟨_,_,_,_,_,_,z⟩:=h;exact aR.of (z _ _ er)) ?_ ?_
        · rintro j v σ H7 hj ⟨o0,o1,ys,rfl,eD,hY,s7⟩;obtain⟨row,b,hrow,rfl,hb,hb0,eb⟩:=hR.at hj;have eb7:=s7 _ _ eb;have hj2:j<(cg ps xs i).length:=(List.getElem?_eq_some_iff.mp hrow).1;left;intro t ht;exists H7,t,(.tup [.int 0,.int 1]),s8,et,H8,ht;have yl:=hY.1;rw[vO,List.length_take,Nat.min_eq_left (by omega)] at yl;refine⟨⟨_,eO.of et⟩,?_⟩;refine frT [.int 0,.int 1] (fun k σ H'=>∃(o1:Option V) (ys':List V),σ=[some (.ref b),o1]∧H' D=some (.lst ys')∧ys'.length=ys.length+k∧cW D H H' ys' (((cg ps xs i).take j).flatMap ext2++(ext2 row).take k)∧H' t=some (.tup [.int 0,.int 1])∧Same H6 H') ⟨_,ys,rfl,s8 _ _ eD,rfl,by rw[List.take_zero,List.append_nil];exact hY.same (fun a us _ e=>s8 _ _ e),et,s7.trans s8⟩ (fun i σ H' _ h=>by
            obtain⟨_,_,_,_,_,_,z,_⟩:=h;exact eO.of z) ?_ ?_
          · rintro k v σ H9 hk ⟨o1,ys',rfl,eD9,yl9,hY9,et9,s9⟩;obtain⟨n,rfl,hn,hk2⟩:∃n:Int,v = .int n∧(ext2 row)[k]? = some (row++[n])∧k<2:=by
              match k,hk with
              | 0,h=>exact⟨0,by simpa using h.symm,rfl,by decide⟩
              | 1,h=>exact⟨1,by simpa using h.symm,rfl,by decide⟩
              | k+2,h=>simp at h
            rw[take_one hn];left;intro p hp;exists H9,p,(.lst [.int n]),yq,ep,Bg,hp;have rl:row.length=i:=(iR (List.mem_filter.mp (List.mem_of_getElem? hrow)).1).1;refine⟨_,yq _ _ (s9 _ _ eb),_,ep,by simp;omega,fun c hc=>?_⟩;have Tp:Same Bg (upd Bg c (.lst (row.map V.int++[.int n]))):=aq hc;have ec:upd Bg c (.lst (row.map V.int++[.int n])) c=some (.lst (row.map V.int++[.int n])):=ak;have cD:c≠D:=fun z=>by
              subst z;rw[yq _ _ eD9] at hc;cases hc
            have tD:t≠D:=fun z=>by
              subst z;rw[eD9] at et9;cases et9
            generalize upd Bg c (.lst (row.map V.int++[.int n]))=U_ at Tp ec ⊢;have s12:=yq.trans Tp;refine⟨_,s12 _ _ eD9,by omega,ys'++[.ref c],ak,by simp;omega,?_,by rw[aC tD];exact s12 _ _ et9,aP (s9.trans s12) hD⟩;rw[← List.append_assoc];refine(hY9.same fun a us ha e=>?_).add cD (cu ((S6.trans s9).trans yq) hc) ?_
            ·rw[aC ha];exact s12 _ _ e
            ·rw[aC cD,ec];simp
          ·rintro σ H9 ⟨o1,ys',rfl,eD9,yl9,hY9,et9,s9⟩;refine⟨_,_,ys',rfl,eD9,?_,s9⟩;rw[take_one hrow,List.flatMap_append];simpa [ext2] using hY9
        · rintro σ H7 ⟨o0,o1,ys,rfl,eD,hY,s7⟩;rw[← hR.1.symm,List.take_length] at hY;have S7:=S6.trans s7;left;refine⟨⟨_,aR.of eD⟩,fun D2 hD2=>?_⟩;have qdD:=cu S7 hD2;refine Nu ys (fun j σ H'=>∃(o0:Option V) (us:List V),σ=[o0,some (.ref o)]∧H' D2=some (.lst us)∧us.length≤j∧cW D2 H H' us ((((cg ps xs i).flatMap ext2).take j).filter (vN ps xs))∧Same H7 H') ⟨_,[],rfl,ak,Nat.le_refl _,cW.nil _ _ _,aq hD2⟩ (fun i σ H' _ h=>by
            obtain⟨_,_,_,_,_,_,z⟩:=h;exact aR.of (z _ _ eD)) ?_ ?_
          · rintro j v σ H8 hj ⟨o0,us,rfl,eD8,ul,hU,s8⟩;obtain⟨row,b,hrow,rfl,hb,hb0,eb⟩:=hY.at hj;have eb8:=s8 _ _ eb;have S8:=S7.trans s8;have bD:b≠D2:=fun z=>by
              subst z;rw[eb] at hD2;cases hD2
            have yl:=hY.1;rw[vO] at yl;have jl:j<ys.length:=(List.getElem?_eq_some_iff.mp hj).1;rw[take_one hrow,List.filter_append];left;refine⟨_,.inl (aR.of eb8),fun d hd=>⟨o,d,xs,ps,(fun k=>row[k]?),rfl,hw.same (S8.trans (aq hd)),hX,hTs,⟨_,ak,fun k=>?_⟩,fun H9 hn s9=>?_,fun x r9 H9 hx hr9 er9 s9=>?_⟩⟩
            ·have:=zR (row.map V.int) 0 k;rw[Nat.zero_add,List.getElem?_map] at this;exact this
            · have yq:=(aq hd).trans s9;have hok:vN ps xs row=true:=by unfold vN;simp[hn]
              rw[List.filter_cons_of_pos hok];left;refine⟨_,yq _ _ eD8,by omega,us++[.ref b],ak,by simp;omega,?_,aP (s8.trans yq) hD2⟩;refine(hU.same fun a us ha e=>?_).add bD hb0 ?_
              ·rw[aC ha];exact yq _ _ e
              ·rw[aC bD];exact yq _ _ eb8
            · have yq:=(aq hd).trans s9;have hok:¬vN ps xs row=true:=by unfold vN;simp[hx]
              rw[List.filter_cons_of_neg hok];left;exact⟨us,yq _ _ eD8,by omega,hU.same (fun a us _ e=>yq _ _ e),s8.trans yq⟩
          ·rintro σ H8 ⟨o0,us,rfl,eD8,ul,hU,s8⟩;rw[hY.1,List.take_length,K6] at hU;left;exact⟨qdD,_,eD8,hU,S7.trans s8,s8 _ _ (s7 _ _ el6)⟩
      ·rintro σ H6 ⟨r,rs,o2,o3,rfl,hr0,er,hR,S6,el6⟩;rw[tl] at hR;left;exact q r rs H6 hr0 er hR S6
def Tz (zs:List Int) (fx:Nat→Option Int):Prop:=∀(j:Nat) z,zs[j]? = some z→(z=0∧fx j=some 0)∨(z=1∧fx j=some 1)∨(z=2∧fx j=none)
theorem m8 {fx:Nat→Option Int} {ps:List (Str×Str)} {j:Nat} {e:Str×Str} (he:ps[j]? = some e):aB fx (ps.take (j+1)) 0=aB fx (ps.take j) 0++gP fx e j:=by
  have hj:j<ps.length:=(List.getElem?_eq_some_iff.mp he).1;rw[take_one he,jR,List.length_take,Nat.min_eq_left (by omega),Nat.zero_add];simp[aB]
def Ho:Sp:=fun vs H Q _=>∃(t n l g:Addr) (xs:List Str) (tv:List V) (ps:List (Str×Str)) (zs:List Int) (fx:Nat→Option Int) (x:Str),vs=[.ref t,.ref g,.str x]∧rF H t n l xs tv ps∧H g=some (.lst (zs.map V.int))∧zs.length=ps.length∧Tz zs fx∧x∈xs∧
  ∀(r:Addr) (f:List Str) (H':Hp),H r=none→H' r=some (.lst (f.map V.str))→f.length=(iu (aB fx ps 0) xs x).length→(∀y,y∈f↔RT (gO (aB fx ps 0)) x y)→Same H H'→Q (.ref r) H'
theorem xX (T:Txt K mg a):c7 P w K mg base mY 1 a.gJ a.nP ["_law_web_here", "_law_pointing", "_law_start"] Ho:=by
  exists T.qm.qH,iH
  ·obtain⟨t,n,l,g,xs,tv,ps,zs,fx,x,rfl,_⟩:=h;rfl
  · obtain⟨t,n,l,g,xs,tv,ps,zs,fx,x,rfl,hG,hg,hlen,hst,hx,q⟩:=h;refine⟨_,(aA (bB (i:=3) iH.nd rfl (Or.inl rfl) (bW (aj (aK 2) ao)))
      (aA (eV PassesOwn.never rfl (PI.eqv (bG (K:=K) rfl (cH (cV (K:=K) rfl) (aK 0) aH (fun _ _=>rfl))) (aZ _ _)) (aM (i:=4) iH.nd rfl (Or.inl rfl))
      (aF (eV PassesOwn.never rfl (PI.eqv (Iz (K:=K) rfl rfl T.nm.zip (aj (cH (cV (K:=K) rfl) (aK 0) aH (fun _ _=>rfl)) (aj (aK 1) ao))) (Dz _ _)) (PG.eqv (iM (K:=K) (n:=2) rfl rfl (mJ.eqv (bK (PG.eqv (iM (K:=K) (n:=2) rfl rfl (mJ.eqv (bK (aM (i:=5) iH.nd rfl (Or.inl rfl)) (mJ.eqv (bK (aM (i:=6) iH.nd rfl (Or.inl rfl)) (mJ.mono iK lW)) (bM _ _))) (bM _ _))) (iQ _ _ _)) (mJ.eqv (bK (aM (i:=7) iH.nd rfl (Or.inl rfl)) (mJ.mono iK lW)) (bM _ _))) (bM _ _))) (iQ _ _ _))
      (aA (eU (PW.pt (tR (aW wJ (aK 7) aH (bV _)) (tR (aW (Ko (K:=K) rfl) (aK 5) (aK 3) rfl) (vm (aW (vJ (K:=K) rfl) (aK 6) (aK 3) rfl))))) (aF (fM (jQ (K:=K) rfl PySem.F.plainAttrs_list PySem.F.slot_list_append PySem.F.type_list_append dB (aK 3) (aj (aK 6) ao)))) bT)
      (aF (eU (PW.pt (tR (aW wJ (aK 7) aH (bV _)) (tR (aW (Ko (K:=K) rfl) (aK 6) (aK 3) rfl) (vm (aW (vJ (K:=K) rfl) (aK 5) (aK 3) rfl))))) (aF (fM (jQ (K:=K) rfl PySem.F.plainAttrs_list PySem.F.slot_list_append PySem.F.type_list_append dB (aK 3) (aj (aK 5) ao)))) bT))))))
      (aF (aY (aK 3))))),?_⟩
    have s60:60≤sizeLine:=by decide
    have hX:=hG.2.2.2.2.1;have hTs:=hG.2.2.2.2.2;have l9:=hX.len;have Lg:=hTs.len;have tl:=hG.2.2.2.1.1;have Fz:∀s∈aB fx ps 0,s.2.2∈xs:=Bu hTs;left;intro f hf;exists H,f,(.lst [.str x]),sf,ef,H1,hf;refine⟨_,.inr (eO.of (sf _ _ hG.1)),_,bC (j:=0) rfl,⟨_,aR.of (sf _ _ hG.2.1)⟩,?_⟩;refine Ld (xs.map V.str) (fun i σ H'=>∃(fs:List Str) (o4 o5 o6 o7:Option V),σ=[some (.ref t),some (.ref g),some (.str x),some (.ref f),o4,o5,o6,o7]∧H' f=some (.lst (fs.map V.str))∧Fw (aB fx ps 0) x fs∧(kZ (aB fx ps 0) fs∨i+1≤fs.length)∧Same H H') ⟨[x],none,none,none,none,rfl,ef,Fw.begin _ _,.inr (Nat.le_refl _),sf⟩ (fun i σ H' _ h=>by
      obtain⟨_,_,_,_,_,_,_,_,_,z⟩:=h;exact aR.of (z _ _ hG.2.1)) ?_ ?_
    · rintro i z σ H2 hi ⟨fs,o4,o5,o6,o7,rfl,hf2,hR,hC,s2⟩;left;refine⟨_,.inr (eO.of (s2 _ _ hG.1)),_,bC (j:=1) rfl,?_⟩;left;refine⟨⟨_,aR.of (s2 _ _ hG.2.2.1)⟩,⟨_,aR.of (s2 _ _ hg)⟩,?_⟩;refine frZ tv (zs.map V.int) (fun j σ H'=>∃(fs':List Str) (o5 o6 o7:Option V),σ=[some (.ref t),some (.ref g),some (.str x),some (.ref f),some z,o5,o6,o7]∧H' f=some (.lst (fs'.map V.str))∧dM (aB fx ps 0) (aB fx (ps.take j) 0) x fs fs'∧Same H H') ⟨fs,o5,o6,o7,rfl,hf2,dM.enter hR,s2⟩ (by simp;omega) (fun i σ H' _ h=>by
        obtain⟨_,_,_,_,_,_,_,z⟩:=h;exact⟨aR.of (z _ _ hG.2.2.1),aR.of (z _ _ hg)⟩) ?_ ?_
      · rintro j z1 z2 tt σ H4 hj1 hj2 htt ⟨fs',o5,o6,o7,rfl,hf4,hM,s4⟩;obtain⟨e,he,t2,rfl,Ks⟩:=hG.2.2.2.1.at hj1;obtain⟨m,hm,rfl⟩:=int_at hj2;have st:Same H4 (upd H4 tt (.tup [.ref t2,.int m])):=aq htt;have tG:=st _ _ hf4;have ht5:=st _ _ (s4 _ _ Ks);have s5:=s4.trans st;have ett:upd H4 tt (.tup [.ref t2,.int m]) tt=some (.tup [.ref t2,.int m]):=ak;generalize upd H4 tt (.tup [.ref t2,.int m])=H5 at tG ht5 s5 ett ⊢;have hf9:=hM.r.len hx Fz;have TF:∀s∈gP fx e j,s∈aB fx ps 0:=fun s hs=>kJ.mpr ⟨j,e,he,by rw[Nat.zero_add];exact hs⟩;have hT1:=m8 (fx:=fx) he;generalize aB fx (ps.take (j+1)) 0=T1 at hT1 ⊢;left;refine⟨_,eO.of ett,rfl,_,eO.of ht5,rfl,?_⟩
        rcases hst j m hm with⟨rfl,hfx⟩ | ⟨rfl,hfx⟩ | ⟨rfl,hfx⟩
        · have so:gP fx e j=[(j,e.1,e.2)]:=by unfold gP;rw[hfx];rfl
          have hin:(j,e.1,e.2)∈aB fx ps 0:=TF _ (by rw[so];simp);rw[so] at hT1;have cv:∀{f:List Str},dM (aB fx ps 0) (aB fx (ps.take j) 0++[(j,e.1,e.2)]) x fs f→dM (aB fx ps 0) T1 x fs f:=fun h=>by rw[hT1];exact h
          left;refine⟨_,.inl (aR.of tG),rfl,List.all_eq_true.mp (bR _),?_⟩;rw[bw];refine eX.of (fun h1=>?_) (fun h1=>?_)
          · have h1':e.1∈fs':=of_decide_eq_true h1;have d1:inV (.str e.2) (fs'.map V.str) = !decide (¬e.2∈fs'):=by rw[bw];simp
            left;refine⟨_,.inl (aR.of tG),rfl,List.all_eq_true.mp (bR _),_,d1,eX.of (fun h2=>?_) (fun h2=>?_)⟩
            ·have h2':¬e.2∈fs':=of_decide_eq_true h2;left;refine⟨⟨_,aR.of tG⟩,_,tG,by simp;omega,fs'++[e.2],by rw[ak];simp,cv (hM.add hin h1' h2'),aP s5 hf⟩
            · have h2':e.2∈fs':=by simpa using h2
              left;exact⟨fs',tG,cv (hM.skip (s:=(j,e.1,e.2)) fun _=>h2'),s5⟩
          ·have h1':¬e.1∈fs':=of_decide_eq_false h1;left;exact⟨fs',tG,cv (hM.skip (s:=(j,e.1,e.2)) fun z=>absurd z h1'),s5⟩
        · have so:gP fx e j=[(j,e.2,e.1)]:=by unfold gP;rw[hfx];rfl
          have Qc:(j,e.2,e.1)∈aB fx ps 0:=TF _ (by rw[so];simp);rw[so] at hT1;have cv:∀{f:List Str},dM (aB fx ps 0) (aB fx (ps.take j) 0++[(j,e.2,e.1)]) x fs f→dM (aB fx ps 0) T1 x fs f:=fun h=>by rw[hT1];exact h
          left;refine⟨_,.inl (aR.of tG),rfl,List.all_eq_true.mp (bR _),?_⟩;rw[bw];refine eX.of (fun g1=>?_) (fun g1=>?_)
          · have Hq:e.2∈fs':=of_decide_eq_true g1;have d2:inV (.str e.1) ((fs').map V.str) = !decide (¬e.1∈fs'):=by rw[bw];simp
            have l9':=(hM).r.len hx Fz;left;refine⟨_,.inl (aR.of tG),rfl,List.all_eq_true.mp (bR _),_,d2,eX.of (fun g2=>?_) (fun g2=>?_)⟩
            ·have Hr:¬e.1∈fs':=of_decide_eq_true g2;left;exact⟨⟨_,aR.of tG⟩,_,tG,by rw[List.length_map];omega,fs'++[e.1],by rw[ak];simp,cv ((hM).add Qc Hq Hr),aP s5 hf⟩
            · have Hr:e.1∈fs':=by simpa using g2
              left;exact⟨fs',tG,cv ((hM).skip (s:=(j,e.2,e.1)) fun _=>Hr),s5⟩
          ·have Hq:¬e.2∈fs':=of_decide_eq_false g1;left;exact⟨fs',tG,cv ((hM).skip (s:=(j,e.2,e.1)) fun z=>absurd z Hq),s5⟩
        · have so:gP fx e j=[(j,e.1,e.2)]++[(j,e.2,e.1)]:=by unfold gP;rw[hfx];rfl
          have hin:(j,e.1,e.2)∈aB fx ps 0:=TF _ (by rw[so];simp);have Qc:(j,e.2,e.1)∈aB fx ps 0:=TF _ (by rw[so];simp);rw[so,← List.append_assoc] at hT1;have cv:∀{f:List Str},dM (aB fx ps 0) (aB fx (ps.take j) 0++[(j,e.1,e.2)]++[(j,e.2,e.1)]) x fs f→dM (aB fx ps 0) T1 x fs f:=fun h=>by rw[hT1];exact h
          left;refine⟨_,.inl (aR.of tG),rfl,List.all_eq_true.mp (bR _),?_⟩;rw[bw];refine eX.of (fun h1=>?_) (fun h1=>?_)
          · have h1':e.1∈fs':=of_decide_eq_true h1;have d1:inV (.str e.2) (fs'.map V.str) = !decide (¬e.2∈fs'):=by rw[bw];simp
            left;refine⟨_,.inl (aR.of tG),rfl,List.all_eq_true.mp (bR _),_,d1,eX.of (fun h2=>?_) (fun h2=>?_)⟩
            · have h2':¬e.2∈fs':=of_decide_eq_true h2;left;have Qd:=hM.add hin h1' h2';have Vb:upd H5 f (.lst (fs'.map V.str++[.str e.2])) f=some (.lst ((fs'++[e.2]).map V.str)):=by rw[ak];simp
              have s6:Same H (upd H5 f (.lst (fs'.map V.str++[.str e.2]))):=aP s5 hf;refine⟨⟨_,aR.of tG⟩,_,tG,by simp;omega,?_⟩;generalize upd H5 f (.lst (fs'.map V.str++[.str e.2]))=H6 at Vb s6 ⊢;have Qe:dM (aB fx ps 0) (aB fx (ps.take j) 0++[(j,e.1,e.2)]) x fs (fs'++[e.2]):=Qd;generalize fs'++[e.2]=TJ at Vb Qe;refine⟨_,.inl (aR.of Vb),rfl,List.all_eq_true.mp (bR _),?_⟩;rw[bw];refine eX.of (fun g1=>?_) (fun g1=>?_)
              · have Hq:e.2∈TJ:=of_decide_eq_true g1;have d2:inV (.str e.1) ((TJ).map V.str) = !decide (¬e.1∈TJ):=by rw[bw];simp
                have l9':=(Qe).r.len hx Fz;left;refine⟨_,.inl (aR.of Vb),rfl,List.all_eq_true.mp (bR _),_,d2,eX.of (fun g2=>?_) (fun g2=>?_)⟩
                ·have Hr:¬e.1∈TJ:=of_decide_eq_true g2;left;exact⟨⟨_,aR.of Vb⟩,_,Vb,by rw[List.length_map];omega,TJ++[e.1],by rw[ak];simp,cv ((Qe).add Qc Hq Hr),aP s6 hf⟩
                · have Hr:e.1∈TJ:=by simpa using g2
                  left;exact⟨TJ,Vb,cv ((Qe).skip (s:=(j,e.2,e.1)) fun _=>Hr),s6⟩
              ·have Hq:¬e.2∈TJ:=of_decide_eq_false g1;left;exact⟨TJ,Vb,cv ((Qe).skip (s:=(j,e.2,e.1)) fun z=>absurd z Hq),s6⟩
            · have h2':e.2∈fs':=by simpa using h2
              have Qd:=hM.skip (s:=(j,e.1,e.2)) fun _=>h2';left;refine⟨_,.inl (aR.of tG),rfl,List.all_eq_true.mp (bR _),?_⟩;rw[bw];refine eX.of (fun g1=>?_) (fun g1=>?_)
              · have Hq:e.2∈fs':=of_decide_eq_true g1;have d2:inV (.str e.1) ((fs').map V.str) = !decide (¬e.1∈fs'):=by rw[bw];simp
                have l9':=(Qd).r.len hx Fz;left;refine⟨_,.inl (aR.of tG),rfl,List.all_eq_true.mp (bR _),_,d2,eX.of (fun g2=>?_) (fun g2=>?_)⟩
                ·have Hr:¬e.1∈fs':=of_decide_eq_true g2;left;exact⟨⟨_,aR.of tG⟩,_,tG,by rw[List.length_map];omega,fs'++[e.1],by rw[ak];simp,cv ((Qd).add Qc Hq Hr),aP s5 hf⟩
                · have Hr:e.1∈fs':=by simpa using g2
                  left;exact⟨fs',tG,cv ((Qd).skip (s:=(j,e.2,e.1)) fun _=>Hr),s5⟩
              ·have Hq:¬e.2∈fs':=of_decide_eq_false g1;left;exact⟨fs',tG,cv ((Qd).skip (s:=(j,e.2,e.1)) fun z=>absurd z Hq),s5⟩
          · have h1':¬e.1∈fs':=of_decide_eq_false h1;have Qd:=hM.skip (s:=(j,e.1,e.2)) fun z=>absurd z h1';left;refine⟨_,.inl (aR.of tG),rfl,List.all_eq_true.mp (bR _),?_⟩;rw[bw];refine eX.of (fun g1=>?_) (fun g1=>?_)
            · have Hq:e.2∈fs':=of_decide_eq_true g1;have d2:inV (.str e.1) ((fs').map V.str) = !decide (¬e.1∈fs'):=by rw[bw];simp
              have l9':=(Qd).r.len hx Fz;left;refine⟨_,.inl (aR.of tG),rfl,List.all_eq_true.mp (bR _),_,d2,eX.of (fun g2=>?_) (fun g2=>?_)⟩
              ·have Hr:¬e.1∈fs':=of_decide_eq_true g2;left;exact⟨⟨_,aR.of tG⟩,_,tG,by rw[List.length_map];omega,fs'++[e.1],by rw[ak];simp,cv ((Qd).add Qc Hq Hr),aP s5 hf⟩
              · have Hr:e.1∈fs':=by simpa using g2
                left;exact⟨fs',tG,cv ((Qd).skip (s:=(j,e.2,e.1)) fun _=>Hr),s5⟩
            ·have Hq:¬e.2∈fs':=of_decide_eq_false g1;left;exact⟨fs',tG,cv ((Qd).skip (s:=(j,e.2,e.1)) fun z=>absurd z Hq),s5⟩
      ·rintro σ H4 ⟨fs',o5,o6,o7,rfl,hf4,hM,s4⟩;rw[tl,List.take_length] at hM;obtain⟨hR',hC'⟩:=hM.leave hC;left;exact⟨fs',hf4,hR',hC',s4⟩
    ·rintro σ H2 ⟨fs,o4,o5,o6,o7,rfl,hf2,hR,hC,s2⟩;have hle:=hR.len hx Fz;rw[List.length_map] at hC;have hcl:kZ (aB fx ps 0) fs:=hC.elim id fun z=>absurd z (by omega);left;exact q f fs H2 hf hf2 (hR.iu hcl hX.nd hx Fz) (hR.closed hcl) s2
theorem Qf {R S:Str→Str→Prop} (f:∀a b,R a b→S b a) {a b:Str} (h:RT R a b):RT S b a:=by
  induction h with
  | refl=>exact .refl _
  | tail _ q ih=>exact(RT.one (f _ _ q)).trans ih
def QF (fx:Nat→Option Int):Nat→Option Int:=fun j=>(fx j).map fun d=>1 - d
theorem zU {fx:Nat→Option Int} {ps:List (Str×Str)} (h01:∀j d,j<ps.length→fx j=some d→d=0∨d=1) {a b:Str}:gO (aB (QF fx) ps 0) a b↔gO (aB fx ps 0) b a:=by
  constructor
  · rintro⟨n,hn⟩;refine⟨n,?_⟩;rw[pY] at hn ⊢;obtain⟨e,he,h⟩:=hn;have hl:n<ps.length:=(List.getElem?_eq_some_iff.mp he).1;refine⟨e,he,?_⟩;unfold QF at h;cases hf:fx n with
    | none=>rw[hf] at h;simp at h ⊢;rcases h with⟨rfl,rfl⟩ | ⟨rfl,rfl⟩ <;> simp
    | some d=>
      rw[hf] at h
      rcases h01 n d hl hf with rfl | rfl <;> simp at h ⊢ <;> exact⟨h.2,h.1⟩
  · rintro⟨n,hn⟩;refine⟨n,?_⟩;rw[pY] at hn ⊢;obtain⟨e,he,h⟩:=hn;have hl:n<ps.length:=(List.getElem?_eq_some_iff.mp he).1;refine⟨e,he,?_⟩;unfold QF;cases hf:fx n with
    | none=>rw[hf] at h;simp at h ⊢;rcases h with⟨rfl,rfl⟩ | ⟨rfl,rfl⟩ <;> simp
    | some d=>
      rw[hf] at h
      rcases h01 n d hl hf with rfl | rfl <;> simp at h ⊢ <;> exact⟨h.2,h.1⟩
theorem Bx {S:List eY} {xs:List Str} {x:Str}:(iu S xs x).length=xs.length↔∀y∈xs,RT (gO S) x y:=by
  constructor
  · intro h y hy;have h2:iu S xs x=xs:=by
      unfold iu at h ⊢;exact List.filter_eq_self.mpr (List.length_filter_eq_length_iff.mp h)
    have:y∈iu S xs x:=by rw[h2];exact hy
    exact(m9.mp this).2
  · intro h;apply Classical.byContradiction;intro hne;have hlt:(iu S xs x).length<xs.length:=by have:=vG (S:=S) (xs:=xs) (x:=x);omega
    unfold iu at hlt;rw[List.length_filter_lt_length_iff_exists] at hlt;obtain⟨y,hy,hn⟩:=hlt;exact hn (by simpa using h y hy)
def BJ:Sp:=fun vs H Q _=>∃(t n l g:Addr) (xs:List Str) (tv:List V) (ps:List (Str×Str)) (zs:List Int) (fx:Nat→Option Int),vs=[.ref t,.ref g]∧rF H t n l xs tv ps∧H g=some (.lst (zs.map V.int))∧zs.length=ps.length∧Tz zs fx∧
  ∀(b:Bool) (H':Hp),(b=true↔Strong (aB fx ps 0) xs)→Same H H'→Q (.bl b) H'
theorem BK (T:Txt K mg a):c7 P w K mg base mY 2 a.dJ a.jK ["_law_web_here", "_law_pointing"] BJ:=by
  exists T.pC.qH,nH
  ·obtain⟨t,n,l,g,xs,tv,ps,zs,fx,rfl,_⟩:=h;rfl
  · obtain⟨t,n,l,g,xs,tv,ps,zs,fx,rfl,hG,hg,hlen,hst,q⟩:=h;refine⟨_,(aA (bB (i:=2) nH.nd rfl (Or.inl rfl) (PE.eqv (aN (xX T) hr.d rfl T.uE T.qm.kp T.uD .nil aU (aj (aK 0) (aj (aK 1) (aj (cH (cV (K:=K) rfl) (cH (cV (K:=K) rfl) (aK 0) aH (fun _ _=>rfl)) aH (fun _ _=>rfl)) ao)))) (aJ _ _ _)))
      (aA (bB (i:=3) nH.nd rfl (Or.inl rfl) (PE.eqv (aN (xX T) hr.d rfl T.uE T.qm.kp T.uD .nil aU (aj (aK 0) (aj (eF rfl rfl (show aO (aD lg) _ ["_law_web_here", "_law_pointing", "_law_there", "_law_back"] ["_law_turn"] [] ["_law_turn"] from⟨rfl,by symm,by symm,rfl,by symm,by symm⟩) rfl (PI.eqv (bG (K:=K) rfl (aK 1)) (aZ _ _)) (fun C s H fp pn=>(aM (i:=0) (show(["_law_turn"]:List Str).Nodup by symm) rfl (Or.inl rfl))) (fun C s H fp pn=>cR) (fun C s H fp pn=>(cH (cV (K:=K) rfl) (bW (aj aH (aj aH (aj aH ao)))) (aK 0) (fun _ _=>rfl)))) (aj (cH (cV (K:=K) rfl) (cH (cV (K:=K) rfl) (aK 0) aH (fun _ _=>rfl)) aH (fun _ _=>rfl)) ao)))) (aJ _ _ _)))
      (aF (aY (sH (gM ni (aL (cA (K:=K) rfl) rfl T.nm.len PySem.boot_len (aj (aK 2) ao)) (aL (cA (K:=K) rfl) rfl T.nm.len PySem.boot_len (aj (cH (cV (K:=K) rfl) (aK 0) aH (fun _ _=>rfl)) ao)) (bV _)) (zZ (gM ni (aL (cA (K:=K) rfl) rfl T.nm.len PySem.boot_len (aj (aK 3) ao)) (aL (cA (K:=K) rfl) rfl T.nm.len PySem.boot_len (aj (cH (cV (K:=K) rfl) (aK 0) aH (fun _ _=>rfl)) ao)) (bV _)))))))),?_⟩
    have s60:60≤sizeLine:=by decide
    have l9:=hG.2.2.2.2.1.len;have Lg:=hG.2.2.2.2.2.len;obtain⟨x0,hx0⟩:∃x0,xs[0]? = some x0:=⟨_,List.getElem?_eq_getElem (show 0<xs.length by omega)⟩;have Le:=List.mem_of_getElem? hx0;have at0:yu (xs.map V.str) 0=some (.str x0):=bC (j:=0) (by rw[List.getElem?_map,hx0];rfl);left;refine⟨_,.inr (eO.of hG.1),_,bC (j:=0) rfl,?_⟩;left;refine⟨_,.inl (aR.of hG.2.1),_,at0,t,n,l,g,xs,tv,ps,zs,fx,x0,rfl,hG,hg,hlen,hst,Le,fun r1 f1 H1 hr1 e1 hf1 hm1 s1=>?_⟩;left;refine⟨⟨_,aR.of (s1 _ _ hg)⟩,fun D hD=>Nu (zs.map V.int) (fun i σ H'=>(∃o',σ=[o'])∧(∃us:List Int,H' D=some (.lst (us.map V.int))∧us.length=i∧Tz us (QF fx))∧Same H1 H') ⟨⟨_,rfl⟩,⟨[],ak,rfl,fun j z h=>by simp at h⟩,aq hD⟩ (fun i σ H' _ h=>aR.of (h.2.2 _ _ (s1 _ _ hg))) ?_ ?_⟩
    · rintro i v σ H2 hi ⟨⟨o',rfl⟩,⟨us,hD2,YS,hus⟩,s2⟩;obtain⟨m,hm,rfl⟩:=int_at hi;have hi2:i<zs.length:=(List.getElem?_eq_some_iff.mp hm).1;left;intro p3 hp3;exists H2,p3,(.lst [.int 1,.int 0,.int 2]),s3,e3,H3,hp3;obtain⟨v,hv,hv2⟩:∃v:Int,yu [V.int 1,V.int 0,V.int 2] m=some (.int v)∧((v=0∧QF fx i=some 0)∨(v=1∧QF fx i=some 1)∨(v=2∧QF fx i=none)):=by
        unfold QF
        rcases hst i m hm with⟨rfl,hf⟩ | ⟨rfl,hf⟩ | ⟨rfl,hf⟩
        ·exact⟨1,bC (j:=0) rfl,.inr (.inl ⟨rfl,by rw[hf];rfl⟩)⟩
        ·exact⟨0,bC (j:=1) rfl,.inl ⟨rfl,by rw[hf];rfl⟩⟩
        ·exact⟨2,bC (j:=2) rfl,.inr (.inr ⟨rfl,by rw[hf];rfl⟩)⟩
      refine⟨_,.inl (aR.of e3),_,hv,_,s3 _ _ hD2,by rw[List.length_map];omega,⟨us++[v],by rw[ak];simp,by simp[YS],fun j z hz=>?_⟩,aP (s2.trans s3) hD⟩
      by_cases hj:j<us.length
      ·rw[List.getElem?_append_left hj] at hz;exact hus j z hz
      · rw[List.getElem?_append_right (by omega)] at hz;have h0:j - us.length=0:=by
          have:=(List.getElem?_eq_some_iff.mp hz).1;simp at this;omega
        rw[h0] at hz;simp at hz;subst hz;have:j=i:=by omega
        subst this;exact hv2
    · rintro σ H2 ⟨⟨o',rfl⟩,⟨us,hD2,YS,hus⟩,s2⟩;rw[List.length_map] at YS;have S2:=s1.trans s2;left;refine⟨_,.inr (eO.of (S2 _ _ hG.1)),_,bC (j:=0) rfl,?_⟩;left;refine⟨_,.inl (aR.of (S2 _ _ hG.2.1)),_,at0,t,n,l,D,xs,tv,ps,us,QF fx,x0,rfl,hG.same S2,hD2,by omega,hus,Le,fun r3 f3 H3 Lh e3 hf3 hm3 s3=>?_⟩;have S3:=S2.trans s3;left;refine⟨_,.inl (aR.of ((s2.trans s3) _ _ e1)),_,.inr (eO.of (S3 _ _ hG.1)),_,bC (j:=0) rfl,?_⟩;left;refine⟨_,.inl (aR.of (S3 _ _ hG.2.1)),?_⟩;have h01:∀j d,j<ps.length→fx j=some d→d=0∨d=1:=fun j d hj hd=>by
        obtain⟨z,hz⟩:∃z,zs[j]? = some z:=⟨_,List.getElem?_eq_getElem (show j<zs.length by omega)⟩
        rcases hst j z hz with⟨_,hf⟩ | ⟨_,hf⟩ | ⟨_,hf⟩ <;> rw[hf] at hd <;> cases hd <;> simp
      have key:Strong (aB fx ps 0) xs↔(iu (aB fx ps 0) xs x0).length=xs.length∧(iu (aB (QF fx) ps 0) xs x0).length=xs.length:=by
        rw[Bx,Bx];constructor
        ·intro h;exact⟨h x0 Le,fun y hy=>Qf (fun _ _ z=>(zU h01).mpr z) (h y hy x0 Le)⟩
        ·rintro⟨h1,h2⟩ y hy z hz;exact(Qf (fun _ _ z=>(zU h01).mp z) (h2 y hy)).trans (h1 z hz)
      simp only[List.length_map];rw[hf1];refine eX.of (fun h=>?_) (fun h=>?_)
      · have h1:(iu (aB fx ps 0) xs x0).length=xs.length:=by have:=of_decide_eq_true h;omega
        left;refine⟨_,.inl (aR.of e3),_,.inr (eO.of (S3 _ _ hG.1)),_,bC (j:=0) rfl,?_⟩;left;refine⟨_,.inl (aR.of (S3 _ _ hG.2.1)),q _ _ ?_ S3⟩;rw[key,decide_eq_true_eq];simp only[List.length_map];rw[hf3];constructor
        ·intro z;exact⟨h1,by omega⟩
        ·rintro⟨_,z⟩;omega
      · have h1:¬(iu (aB fx ps 0) xs x0).length=xs.length:=fun z=>by
          have:=of_decide_eq_false h;omega
        refine q _ _ ?_ S3;rw[key];exact⟨fun z=>(by cases z),fun z=>absurd z.1 h1⟩
theorem TQ {i j:Nat} (h:i<512):Builtin.bitAnd ((i:Int) / 2 ^ j) 1=((i / 2 ^ j % 2:Nat):Int):=by
  have e:(i:Int) / 2 ^ j=((i / 2 ^ j:Nat):Int):=by
    rw[Int.natCast_ediv,Int.natCast_pow];rfl
  rw[e];exact Td _ (Nat.lt_of_le_of_lt (Nat.div_le_self _ _) h)
theorem Qg:∀(l:List (List Int)) (k:Nat),(l.flatMap ext2)[2 * k]? = l[k]?.map (·++[0])∧(l.flatMap ext2)[2 * k+1]? = l[k]?.map (·++[1])
  | [],k=>by simp
  | r::l,0=>by rw[List.flatMap_cons];simp[ext2]
  | r::l,k+1=>by
    have h:=Qg l k;rw[List.flatMap_cons,show ext2 r=[r++[0],r++[1]] from rfl];rw[show 2 * (k+1)=2 * k+1+1 by omega];simpa using h
def tH (m k:Nat):List Int:=(List.range m).map fun j=>((k / 2 ^ (m - 1 - j) % 2:Nat):Int)
theorem xY (m k:Nat):(tH m k).length=m:=by simp[tH]
theorem TV {m k j:Nat} (hj:j<m):(tH m k)[j]? = some ((k / 2 ^ (m - 1 - j) % 2:Nat):Int):=by
  unfold tH;rw[List.getElem?_map,List.getElem?_range hj];rfl
theorem TX {m k:Nat}:∀n∈tH m k,0≤n∧n≤1:=fun n hn=>by
  obtain⟨j,_,rfl⟩:=List.mem_map.mp hn;have:=Nat.mod_lt (k / 2 ^ (m - 1 - j)) (show 0<2 by decide);omega
theorem K7 (m k:Nat):tH (m+1) k=tH m (k / 2)++[((k % 2:Nat):Int)]:=by
  unfold tH;rw[List.range_succ,List.map_append];congr 1
  ·refine List.map_congr_left fun j hj=>?_;have hj:=List.mem_range.mp hj;rw[Nat.div_div_eq_div_mul,show m+1 - 1 - j=(m - 1 - j)+1 by omega,Nat.pow_succ,Nat.mul_comm 2]
  ·simp
theorem Fg:∀(m k:Nat),k<2 ^ m→(cC m)[k]? = some (tH m k)
  | 0,k,h=>by
    have:k=0:=by simpa using h
    subst this;rfl
  | m+1,k,h=>by
    have ih:=Fg m (k / 2) (by rw[Nat.pow_succ] at h;omega);have e:=Qg (cC m) (k / 2);rw[ih] at e;rw[K7];show((cC m).flatMap ext2)[k]? = _
    rcases Nat.mod_two_eq_zero_or_one k with h0 | h0
    · rw[h0];have:k=2 * (k / 2):=by omega
      rw[show((cC m).flatMap ext2)[k]? = ((cC m).flatMap ext2)[2 * (k / 2)]? by rw[← this]];exact e.1
    · rw[h0];have:k=2 * (k / 2)+1:=by omega
      rw[show((cC m).flatMap ext2)[k]? = ((cC m).flatMap ext2)[2 * (k / 2)+1]? by rw[← this]];exact e.2
def Yl (row:List Int) (j:Nat):Option Int:=row[j]?
theorem Ym {row:List Int} (h01:∀n∈row,0≤n∧n≤1):Tz row (Yl row):=fun j z hz=>by
  have:=h01 z (List.mem_of_getElem? hz);unfold Yl;rw[hz];obtain rfl | rfl:z=0∨z=1:=by omega
  ·exact .inl ⟨rfl,rfl⟩
  ·exact .inr (.inl ⟨rfl,rfl⟩)
def xZ:Sp:=fun vs H Q _=>∃(t n l:Addr) (xs:List Str) (tv:List V) (ps:List (Str×Str)),vs=[.ref t]∧rF H t n l xs tv ps∧ps.length≤8∧
  ∀(r:Addr) (vs':List V) (H':Hp),H r=none→H' r=some (.lst vs')→cW r H H' vs' (cg ps xs ps.length)→Same H H'→Q (.ref r) H'
theorem yc (T:Txt K mg a):c7 P w K mg base mY 3 a.cO a.g_ ["_law_web_here"] xZ:=by
  exists T.mH.qH,gR
  ·obtain⟨t,n,l,xs,tv,ps,rfl,_⟩:=h;rfl
  · obtain⟨t,n,l,xs,tv,ps,rfl,hG,h8,q⟩:=h;refine⟨_,(aA (bB (i:=1) gR.nd rfl (Or.inl rfl) (bW ao))
      (aA (eV PassesOwn.never rfl (PI.eqv (jL rfl T.nm.range (aj (bU R8 aH (aL (cA (K:=K) rfl) rfl T.nm.len PySem.boot_len (aj (cH (cV (K:=K) rfl) (aK 0) aH (fun _ _=>rfl)) ao))) ao)) (jM _)) (aM (i:=2) gR.nd rfl (Or.inr rfl))
      (aA (iD (i:=3) gR.nd rfl rfl rfl rfl (show aO (aD iV) _ ["_law_web_here", "_law_found", "_law_mask", "_law_pointing"] ["_law_k"] [2,0] ["_law_k", "_law_mask", "_law_web_here"] from⟨rfl,by symm,by symm,rfl,by symm,by symm⟩) rfl (PI.eqv (jL rfl T.nm.range (aj (aL (cA (K:=K) rfl) rfl T.nm.len PySem.boot_len (aj (cH (cV (K:=K) rfl) (aK 0) aH (fun _ _=>rfl)) ao)) ao)) (jM _)) (fun C s H fp pn=>(aM (i:=0) (show(["_law_k", "_law_mask", "_law_web_here"]:List Str).Nodup by symm) rfl (Or.inl rfl))) (fun C s H fp pn=>cR) (fun C s H fp pn=>(bU Tc (bU R9 (aK 1) (bU m_ (bU m_ (aL (cA (K:=K) rfl) rfl T.nm.len PySem.boot_len (aj (cH (cV (K:=K) rfl) (aK 2) aH (fun _ _=>rfl)) ao)) aH) (aK 0))) aH)))
      (aF (eU (fO (PE.eqv (aN (BK T) hr.d rfl T.uZ T.pC.kp T.uY .nil aU (aj (aK 0) (aj (aK 3) ao))) (aJ _ _ _))) (aF (fM (jQ (K:=K) rfl PySem.F.plainAttrs_list PySem.F.slot_list_append PySem.F.type_list_append dB (aK 1) (aj (aK 3) ao)))) bT))))
      (aF (aY (aK 1))))),?_⟩
    have Tn:600≤sizeLine:=by decide
    have tl:=hG.2.2.2.1.1;left;intro r hr0;exists H,r,(.lst []),s1,e1,H1,hr0;refine⟨_,.inr (eO.of (s1 _ _ hG.1)),_,bC (j:=1) rfl,?_⟩;left;have lv:=s1 _ _ hG.2.2.1;have p8:2 ^ tv.length≤2 ^ 8:=Nat.pow_le_pow_right (by decide) (by omega);obtain⟨N,hN⟩:∃N:Nat,N=2 ^ tv.length:=⟨_,rfl⟩;have hNi:(2:Int) ^ tv.length=(N:Int):=by rw[hN];exact(Int.natCast_pow 2 tv.length).symm
    have hN8:N≤256:=by rw[hN];exact p8
    refine⟨_,.inl (aR.of lv),by omega,by rw[hNi];omega,by rw[hNi];omega,?_⟩;rw[hNi,Int.toNat_natCast];refine ZQ (fun i σ H'=>(∃o3 o4,σ=[some (.ref t),some (.ref r),o3,o4])∧(∃vs',H' r=some (.lst vs')∧vs'.length≤i∧cW r H H' vs' (((cC ps.length).take i).filter (vN ps xs)))∧Same H H') ⟨⟨_,_,rfl⟩,⟨[],e1,Nat.le_refl _,cW.nil _ _ _⟩,s1⟩ ?_ ?_
    · rintro i σ H2 hi ⟨⟨o3,o4,rfl⟩,⟨vs',er,vl,hV⟩,s2⟩;left;refine⟨_,.inr (eO.of (s2 _ _ hG.1)),_,bC (j:=1) rfl,?_⟩;left;refine⟨_,.inl (aR.of (s2 _ _ hG.2.2.1)),by omega,fun D hD=>cmR (fun j σ H'=>(∃o',σ=[o',some (.int (i:Nat)),some (.ref t)])∧H' D=some (.lst (((tH ps.length i).take j).map V.int))∧Same H2 H') ⟨⟨_,rfl⟩,ak,aq hD⟩ ?_ ?_⟩
      · rintro j σ H3 hj ⟨⟨o',rfl⟩,Ca,s3⟩;have hj2:j<ps.length:=by omega
        have hz:=TV (k:=i) hj2;have rl:=xY ps.length i;rw[take_one hz];left;refine⟨_,.inr (eO.of (s3 _ _ (s2 _ _ hG.1))),_,bC (j:=1) rfl,?_⟩;left;refine⟨_,.inl (aR.of (s3 _ _ (s2 _ _ hG.2.2.1))),?_⟩;refine⟨by omega,_,Ca,by rw[List.length_map,List.length_take];omega,?_,aP s3 hD⟩;rw[ak,TQ (by omega),tl];simp
      · rintro σ H3 ⟨⟨o',rfl⟩,Ca,s3⟩;rw[tl,List.take_of_length_le (by rw[xY];exact Nat.le_refl _)] at Ca;have h01:=TX (m:=ps.length) (k:=i);have rl:=xY ps.length i;have S3:=s2.trans s3;have hz:=Fg ps.length i (by rw[← tl,← hN];exact hi);have Dr:D≠r:=fun z=>by rw[z,er] at hD;cases hD
        rw[take_one hz,List.filter_append];left;refine⟨t,n,l,D,xs,tv,ps,tH ps.length i,Yl (tH ps.length i),rfl,hG.same S3,Ca,rl,Ym h01,fun b5 H5 hb5 s5=>?_⟩;have s35:=s3.trans s5;have TY:=s35 _ _ er;cases b5 with
        | true=>
          have hok:vN ps xs (tH ps.length i)=true:=oh.mpr (hb5.mp rfl);rw[List.filter_cons_of_pos hok];left;refine⟨⟨_,aR.of TY⟩,_,TY,by omega,⟨vs'++[.ref D],ak,by simp;omega,?_⟩,aP (s2.trans s35) hr0⟩;refine(hV.same fun a us ha e=>?_).add Dr (cu s2 hD) ?_
          ·rw[aC ha];exact s35 _ _ e
          ·rw[aC Dr];exact s5 _ _ Ca
        | false=>
          have hok:¬vN ps xs (tH ps.length i)=true:=fun z=>by have:=hb5.mpr (oh.mp z);cases this
          rw[List.filter_cons_of_neg hok];left;exact⟨⟨vs',TY,by omega,hV.same fun a us _ e=>s35 _ _ e⟩,s2.trans s35⟩
    ·rintro σ H2 ⟨⟨o3,o4,rfl⟩,⟨vs',er,vl,hV⟩,s2⟩;rw[List.take_of_length_le (by rw[uI,hN,tl];exact Nat.le_refl _)] at hV;left;exact q r vs' H2 hr0 er hV s2
def Hs (ps:List (Str×Str)) (xs:List Str):List (List Str):=t_ (aB (fun _=>none) ps 0) xs xs
theorem Ht {ps:List (Str×Str)} {n:Nat} {a b:Str}:(n,a,b)∈aB (fun _=>none) ps 0↔∃e,ps[n]? = some e∧((a=e.1∧b=e.2)∨(a=e.2∧b=e.1)):=by
  rw[pY];simp
theorem Yn {ps:List (Str×Str)}:∀a b,gO (aB (fun _=>none) ps 0) a b→gO (aB (fun _=>none) ps 0) b a:=fun a b ⟨n,h⟩=>by
  obtain⟨e,he,h⟩:=Ht.mp h;exact⟨n,Ht.mpr ⟨e,he,h.elim (fun z=>.inr ⟨z.2,z.1⟩) fun z=>.inl ⟨z.2,z.1⟩⟩⟩
theorem Fi {S:List eY} {xs:List Str}:∀(ys:List Str) (acc:List (List Str)) (c:List Str),c∈acc→c∈ys.foldl (eZ S xs) acc
  | [],acc,c,h=>h
  | y::ys,acc,c,h=>by
    refine Fi ys _ c ?_;unfold eZ;split
    ·exact h
    ·exact List.mem_append_left _ h
theorem yd {S:List eY} {xs:List Str}:∀(ys:List Str) (acc:List (List Str)) (y:Str),y∈ys→y∈xs→∃c∈ys.foldl (eZ S xs) acc,y∈c
  | [],acc,y,h,_=>by cases h
  | x::ys,acc,y,h,hx=>by
    rcases List.mem_cons.mp h with rfl | h
    · obtain⟨c,hc,hy⟩:∃c∈eZ S xs acc y,y∈c:=by
        unfold eZ;split
        ·rename_i h2;obtain⟨c,h1,h2⟩:=List.any_eq_true.mp h2;exact⟨c,h1,of_decide_eq_true h2⟩
        ·exact⟨iu S xs y,by simp,m9.mpr ⟨hx,.refl _⟩⟩
      exact⟨c,Fi ys _ c hc,hy⟩
    ·exact yd ys _ y h hx
theorem Qh {ps:List (Str×Str)} {xs:List Str} (h:(Hs ps xs).length≤1):∀x∈xs,∀y∈xs,RT (gO (aB (fun _=>none) ps 0)) x y:=fun x hx y hy=>by
  unfold Hs t_ at h;obtain⟨c,hc,h1⟩:=yd (S:=aB (fun _=>none) ps 0) (xs:=xs) xs [] x hx hx;obtain⟨d,hd,h2⟩:=yd (S:=aB (fun _=>none) ps 0) (xs:=xs) xs [] y hy hy;have hm:=Dj (S:=aB (fun _=>none) ps 0) (xs:=xs) xs [] (by simp) (fun z hz=>hz);generalize xs.foldl (eZ (aB (fun _=>none) ps 0) xs) []=cs at h hc hd hm;have hcd:c=d:=by
    match cs,h,hc,hd with
    | [z],_,hc,hd=>
      rw[List.mem_singleton] at hc hd;rw[hc,hd]
  subst hcd;obtain⟨x0,_,rfl⟩:=hm c hc;exact((m9.mp h1).2.symm Yn).trans (m9.mp h2).2
theorem zV {S:List eY} {xs c:List Str}:∀(ys:List Str),(∀y∈ys,y∈c)→ys.foldl (eZ S xs) [c]=[c]
  | [],_=>rfl
  | y::ys,h=>by
    rw[List.foldl_cons];have e:eZ S xs [c] y=[c]:=by
      unfold eZ;rw[if_pos (by simp;exact h y List.mem_cons_self)]
    rw[e];exact zV ys fun z hz=>h z (List.mem_cons_of_mem _ hz)
theorem Hu {ps:List (Str×Str)} {xs:List Str} {x0:Str} (h:xs[0]? = some x0):(Hs ps xs).length≤1↔¬(iu (aB (fun _=>none) ps 0) xs x0).length<xs.length:=by
  have hx0:=List.mem_of_getElem? h;constructor
  · intro hl hlt;have con:=Qh hl;have:iu (aB (fun _=>none) ps 0) xs x0=xs:=by
      unfold iu;refine List.filter_eq_self.mpr fun y hy=>?_;simp;exact con x0 hx0 y hy
    rw[this] at hlt;omega
  · intro hn;have hall:∀y∈xs,y∈iu (aB (fun _=>none) ps 0) xs x0:=fun y hy=>by
      have hle:(iu (aB (fun _=>none) ps 0) xs x0).length≤xs.length:=vG;have heq:iu (aB (fun _=>none) ps 0) xs x0=xs:=by
        unfold iu at hn hle ⊢;exact List.filter_eq_self.mpr (List.length_filter_eq_length_iff.mp (by omega))
      rw[heq];exact hy
    cases xs with
    | nil=>simp at h
    | cons x ys=>
      simp at h;subst h;unfold Hs t_;rw[List.foldl_cons];have e:eZ (aB (fun _=>none) ps 0) (x::ys) [] x=[iu (aB (fun _=>none) ps 0) (x::ys) x]:=by simp[eZ]
      rw[e,zV ys fun y hy=>hall y (List.mem_cons_of_mem _ hy)];simp
def d8 (rows:List (List Int)):List PyData:=rows.map fun r=>.list (jz r)
theorem qu {K:W.Frag} {D:Addr} {H0 H:Hp}:∀{rows:List (List Int)} {vs:List V},cW D H0 H vs rows→oH K H (d8 rows) vs
  | [],vs,h=>by
    have:=h.1;cases vs with
    | nil=>rfl
    | cons v vs=>cases this
  | r::rows,vs,h=>by
    cases vs with
    | nil=>cases h.1
    | cons v vs=>
      obtain⟨a,rfl,_,_,ha⟩:=h.2 0 v r rfl rfl;exact⟨_,_,rfl,⟨a,_,rfl,aR.of ha,IV r⟩,qu (vs:=vs) ⟨by simpa using h.1,fun i v d h1 h2=>h.2 (i+1) v d h1 h2⟩⟩
theorem Fj:∀rows:List (List Int),PyData.canLayAll0 (d8 rows)=true
  | []=>by simp[d8,PyData.canLayAll0]
  | r::rows=>by
    have h1:=Fj rows;have h2:=lay_ints r;simp[d8] at h1;simp[d8,PyData.canLayAll0,PyData.canLay0,h1,h2]
theorem Fl:∀rows:List (List Int),PyData.depthAll (d8 rows)≤2
  | []=>by simp[d8,PyData.depthAll]
  | r::rows=>by
    have h1:=Fl rows;have h2:=Dq r;simp[d8] at h1;simp[d8,PyData.depthAll,PyData.depth];omega
theorem Fo:∀a b:List (List Int),PyData.eqvAll (d8 a) (d8 b)=decide (a=b)
  | [],[]=>by simp[d8,PyData.eqvAll]
  | [],y::b=>by simp[d8,PyData.eqvAll]
  | x::a,[]=>by simp[d8,PyData.eqvAll]
  | x::a,y::b=>by
    have h:=Fo a b;simp only[d8,List.map_cons] at h ⊢;simp only[PyData.eqvAll,PyData.eqv,Ds,h];rw[Bool.eq_iff_iff];simp
theorem uJ {ps:List (Str×Str)} {row:List Int} (hl:row.length=ps.length) (h01:∀n∈row,n=0∨n=1) {a b:Str}:gO (aB (fun k=>row[k]?) ps 0) a b↔Arr row ps a b:=by
  constructor
  · rintro⟨n,hn⟩;rw[pY] at hn;obtain⟨e,he,h⟩:=hn;have hlt:=(List.getElem?_eq_some_iff.mp he).1;obtain⟨z,hz⟩:∃z,row[n]? = some z:=⟨_,List.getElem?_eq_getElem (by omega)⟩;refine⟨n,z,e,hz,he,?_⟩;simp only[hz,Option.getD_some] at h;unfold oE gE
    rcases h with⟨h0,rfl,rfl⟩ | ⟨h0,rfl,rfl⟩
    ·rw[if_pos h0,if_pos h0];exact⟨rfl,rfl⟩
    ·rw[if_neg (by omega),if_neg (by omega)];exact⟨rfl,rfl⟩
  · rintro⟨n,z,e,hz,he,ho,hg⟩;refine⟨n,?_⟩;rw[pY];refine⟨e,he,?_⟩;simp only[hz,Option.getD_some];unfold oE at ho;unfold gE at hg
    rcases h01 z (List.mem_of_getElem? hz) with h0 | h0
    ·rw[if_pos h0] at ho hg;exact .inl ⟨h0,ho.symm,hg.symm⟩
    ·rw[if_neg (by omega)] at ho hg;exact .inr ⟨h0,ho.symm,hg.symm⟩
theorem Hv {ps:List (Str×Str)} {xs:List Str} (hTs:qy xs ps) {row:List Int} (hl:row.length=ps.length) (h01:∀n∈row,n=0∨n=1):vN ps xs row=true↔∀x∈xs,∀y∈xs,uh row ps xs x y:=by
  rw[oh];have hp:∀e∈ps,e.1∈xs∧e.2∈xs:=fun e he=>⟨(hTs.ok e he).1,(hTs.ok e he).2.1⟩;constructor
  · intro h x hx y hy;have:=h x hx y hy;clear hy
    induction this with
    | refl=>exact .refl _
    | tail _ q ih=>exact .tail ih ((uJ hl h01).mp q) (((uJ hl h01).mp q).ends hp).2
  · intro h x hx y hy;have:=h x hx y hy;clear hy
    induction this with
    | refl=>exact .refl _
    | tail _ q _ ih=>exact .tail ih ((uJ hl h01).mpr q)
theorem BL {ps:List (Str×Str)} {xs:List Str} (hX:Jk xs) (hTs:qy xs ps):(if 1<(t_ (aB (fun _=>none) ps 0) xs xs).length then 0 else yH ps xs)=((cg ps xs ps.length).length:Int):=by
  have hp:∀e∈ps,e.1∈xs∧e.2∈xs:=fun e he=>⟨(hTs.ok e he).1,(hTs.ok e he).2.1⟩;have l9:=hX.len;obtain⟨x0,hx0⟩:∃x0,xs[0]? = some x0:=⟨_,List.getElem?_eq_getElem (show 0<xs.length by omega)⟩;have Le:=List.mem_of_getElem? hx0
  by_cases hc:(Hs ps xs).length≤1
  · rw[if_neg (by unfold Hs at hc;omega)];have con:=Qh hc;refine count_is hX.nd (fun z=>by rw[z] at l9;simp at l9) hp (fun r hr x hx y hy=>?_) _ (fun r hr=>Hv hTs (iR hr).1 (iR hr).2);refine(con x hx y hy).mono fun a b ⟨n,hn⟩=>?_;obtain⟨e,he,h⟩:=Ht.mp hn;have hlt:=(List.getElem?_eq_some_iff.mp he).1;obtain⟨z,hz⟩:∃z,r[n]? = some z:=⟨_,List.getElem?_eq_getElem (by have:=(iR hr).1;omega)⟩
    by_cases h0:z=0
    · rcases h with⟨rfl,rfl⟩ | ⟨rfl,rfl⟩
      ·exact .inl ⟨n,z,e,hz,he,by unfold oE;rw[if_pos h0],by unfold gE;rw[if_pos h0]⟩
      ·exact .inr ⟨n,z,e,hz,he,by unfold oE;rw[if_pos h0],by unfold gE;rw[if_pos h0]⟩
    · rcases h with⟨rfl,rfl⟩ | ⟨rfl,rfl⟩
      ·exact .inr ⟨n,z,e,hz,he,by unfold oE;rw[if_neg h0],by unfold gE;rw[if_neg h0]⟩
      ·exact .inl ⟨n,z,e,hz,he,by unfold oE;rw[if_neg h0],by unfold gE;rw[if_neg h0]⟩
  · rw[if_pos (by unfold Hs at hc;omega)];have:cg ps xs ps.length=[]:=List.filter_eq_nil_iff.mpr fun r hr hok=>by
      refine hc ((Hu hx0).mpr fun hlt=>?_);have st:=zT (fx:=fun _=>none) (fun n v h=>by cases h) (oh.mp hok);have:=Bx.mpr (st x0 Le);omega
    rw[this];rfl
theorem Qi:cg [] ["a"] 0=[[]]:=by
  unfold cg;rw[cC,List.filter_cons_of_pos (oh.mpr fun x hx y hy=>?_)]
  ·rfl
  ·rw[List.mem_singleton] at hx hy;subst hx hy;exact .refl _
theorem T3:cg [] ["a", "b"] 0=[]:=by
  unfold cg;rw[cC,List.filter_cons_of_neg (fun z=>?_)]
  ·rfl
  · have h:=oh.mp z "a" (by simp) "b" (by simp);have key:∀x y:Str,RT (gO (aB (fun k=>([]:List Int)[k]?) ([]:List (Str×Str)) 0)) x y→x=y:=fun x y h=>by
      induction h with
      | refl=>rfl
      | tail _ q _=>obtain⟨n,hn⟩:=q;simp[aB] at hn
    exact absurd (key _ _ h) (by symm)
def qaM (H0 H:Hp) (r:Addr) (vs:List V) (j:Nat):Prop:=∀v∈vs,∃b us,v = .ref b∧b≠r∧H0 b=none∧H b=some (.lst us)∧us.length≤8+j
def BP (K:W.Frag):Sp:=fun vs H Q _=>∃(l:Addr) (ns:List Int),vs=[.ref l]∧aR K H l (ns.map V.int)∧ns.length≤63∧∀H',Q (.bl true) H'
theorem Yo (T:Txt K mg a):c7 P w K mg base mY 9 a.uX a.Bp ["_law_script"] (BP K):=by
  exists T.U6.qH,pA
  ·obtain⟨l,ns,rfl,_⟩:=h;rfl
  · obtain⟨sl,Vc,rfl,hS,qeb,q⟩:=h;refine⟨_,(aA (eV PassesOwn.never rfl (PI.eqv (jL rfl T.nm.range (aj (aL (wM rfl) rfl T.nm.max boot_max (aj aH (aj (aL (GP rfl) rfl T.nm.min boot_min (aj (aL (cA (K:=K) rfl) rfl T.nm.len PySem.boot_len (aj (aK 0) ao)) (aj aH ao))) ao))) ao)) (jM _)) (aM (i:=1) pA.nd rfl (Or.inl rfl))
      (aA (bB (i:=2) pA.nd rfl (Or.inl rfl) (PE.eqv (aN (XS T) hr.d rfl T.U5 T.Pg.kp T.U4 .nil aU (aj (PE.eqv (aN (Xz T) hr.d rfl T.UW T.Pa.kp T.UL .nil aU (aj (aK 0) (aj (aK 1) ao))) (aJ _ _ _)) (aj aH (aj aH ao)))) (aJ _ _ _)))
      (aA (bB (i:=3) pA.nd rfl (Or.inl rfl) (PE.eqv (vo T.Er (lO T) hr.d rfl T.Ep T.jX .nil aU (aj (cH (cV (K:=K) rfl) (aK 2) aH (fun _ _=>rfl)) (aj (cH (cV (K:=K) rfl) (aK 2) aH (fun _ _=>rfl)) ao))) (sJ _ _ _ _)))
      (aA (bB (i:=4) pA.nd rfl (Or.inl rfl) (PE.eqv (aN (yc T) hr.d rfl T.qM T.mH.kp T.qL .nil aU (aj (aK 2) ao)) (aJ _ _ _)))
      (aA (bB (i:=5) pA.nd rfl (Or.inl rfl) (PE.eqv (aN (pO T) hr.d rfl T.nY T.j4.kp T.nW .nil aU (aj (aK 3) ao)) (aJ _ _ _)))
      (aA (eU (PW.pt (uM (aW wJ (aK 5) (aL (cA (K:=K) rfl) rfl T.nm.len PySem.boot_len (aj (aK 4) ao)) (bV _)) (uM (iC (fO (aL (wL (K:=K) rfl) rfl T.nm.isinstance boot_isinstance (aj (aK 5) (aj (m5 (v:=.ty "int") rfl T.nm.int zc rfl) ao))))) (tQ (fO (aL (wL (K:=K) rfl) rfl T.nm.isinstance boot_isinstance (aj (aK 5) (aj (m5 (v:=.ty "bool") rfl T.Xx.bool Gn rfl) ao)))))))) (aF (aY uL)) bT)
      (aA (bB (i:=6) pA.nd rfl (Or.inl rfl) (PE.eqv (aN (j_ T) hr.d rfl T.jf T.gj.kp T.je .nil aU (aj (aK 3) ao)) (aJ _ _ _)))
      (aA (eU (PW.pt (uM (iC (fO (aL (wL (K:=K) rfl) rfl T.nm.isinstance boot_isinstance (aj (aK 6) (aj (m5 (v:=.ty "list") rfl T.nm.list boot_list rfl) ao))))) (uM (aW (Ov (K:=K) rfl hr.units) (aK 6) (aK 4) (bV _)) (tQ (iC (fO (aL (mU rfl) rfl T.nm.all mQ (aj (eF rfl rfl (show aO (aD qI) _ ["_law_script", "_law_k", "_law_known", "_law_web_here", "_law_due", "_law_many", "_law_told", "_law_one"] ["_law_one"] [] ["_law_one"] from⟨rfl,by symm,by symm,rfl,by symm,by symm⟩) rfl (PI.eqv (bG (K:=K) rfl (aK 6)) (aZ _ _)) (fun C s H fp pn=>(aM (i:=0) (show(["_law_one"]:List Str).Nodup by symm) rfl (Or.inl rfl))) (fun C s H fp pn=>cR) (fun C s H fp pn=>(aL (wL (K:=K) rfl) rfl T.nm.isinstance boot_isinstance (aj (aK 0) (aj (m5 (v:=.ty "list") rfl T.nm.list boot_list rfl) ao))))) ao)))))))) (aF (aY uL)) bT)
      (aA (eV PassesOwn.never rfl (PI.eqv (bG (K:=K) rfl (aK 6)) (aZ _ _)) (aM (i:=7) pA.nd rfl (Or.inl rfl))
      (aF (fM (jQ (K:=K) rfl PySem.F.plainAttrs_list PySem.F.slot_list_append PySem.F.type_list_append dB (aK 7) (aj aH ao)))))
      (aA (fM (Rz (K:=K) rfl PySem.F.plainAttrs_list PySem.F.slot_list_clear PySem.F.type_list_clear Kr (aK 6)))
      (aF (eU (aW (Ov (K:=K) rfl hr.units) (PE.eqv (aN (j_ T) hr.d rfl T.jf T.gj.kp T.je .nil aU (aj (aK 3) ao)) (aJ _ _ _)) (aK 4) (bV _)) (aF (aY uL)) bT))))))))))))
      (aF (aY (sH (gM ni (PE.eqv (aN (pO T) hr.d rfl T.nY T.j4.kp T.nW .nil aU (aj (PE.eqv (vo T.Er (lO T) hr.d rfl T.Ep T.jX .nil aU (aj (bW (aj vR ao)) (aj (bW ao) ao))) (sJ _ _ _ _)) ao)) (aJ _ _ _)) aH (bV _)) (sH (gM (Xn (K:=K) rfl hr.units) (PE.eqv (aN (j_ T) hr.d rfl T.jf T.gj.kp T.je .nil aU (aj (PE.eqv (vo T.Er (lO T) hr.d rfl T.Ep T.jX .nil aU (aj (bW (aj vR ao)) (aj (bW ao) ao))) (sJ _ _ _ _)) ao)) (aJ _ _ _)) (bW (aj (bW ao) ao)) (bV _)) (zZ (gM ni (PE.eqv (aN (pO T) hr.d rfl T.nY T.j4.kp T.nW .nil aU (aj (PE.eqv (vo T.Er (lO T) hr.d rfl T.Ep T.jX .nil aU (aj (bW (aj vR (aj vR ao))) (aj (bW ao) ao))) (sJ _ _ _ _)) ao)) (aJ _ _ _)) aH (bV _)))))))),?_⟩
    have Tn:600≤sizeLine:=by decide
    have eqR:∀x:List (List Int),PyData.eqv (.list (d8 x)) (.list (d8 x))=true:=fun x=>by simp[PyData.eqv,Fo]
    have layR:∀x:List (List Int),(PyData.list (d8 x)).canLay0=true:=fun x=>by simp[PyData.canLay0,Fj]
    have Yp:∀x:List (List Int),(PyData.list (d8 x)).depth≤64:=fun x=>by have:=Fl x;simp[PyData.depth];omega
    left;refine⟨_,.inl hS,?_⟩;simp only[List.length_map];obtain⟨m,hm,hm6⟩:∃m:Nat,(if 2<if 4<(Vc.length:Int) then (4:Int) else Vc.length then if 4<(Vc.length:Int) then (4:Int) else Vc.length else 2)=m∧m≤4:=by
      by_cases h1:4<(Vc.length:Int)
      ·rw[if_pos h1];exact⟨4,rfl,by decide⟩
      · rw[if_neg h1]
        by_cases h2:2<(Vc.length:Int)
        ·exact⟨Vc.length,by rw[if_pos h2],by omega⟩
        ·exact⟨2,by rw[if_neg h2];rfl,by decide⟩
    simp only[hm,Int.toNat_natCast];refine⟨by omega,by omega,ZQ (fun i σ H'=>(∃o1 o2 o3 o4 o5 o6 o7,σ=[some (.ref sl),o1,o2,o3,o4,o5,o6,o7])∧Same H H') ⟨⟨_,_,_,_,_,_,_,rfl⟩,Same.refl _⟩ ?_ ?_⟩
    · rintro i σ H0 hi ⟨⟨o1,o2,o3,o4,o5,o6,o7,rfl⟩,s0⟩;left;refine⟨sl,Vc,i,rfl,s0.seq hS,by omega,fun p Hp hp0 hPp hBp=>?_⟩;have sp1:Same H0 Hp:=fun b o e=>hBp b o (aG e hp0) e;left;refine⟨p,6,8,rfl,hPp,by decide,by decide,by decide,by decide,fun t n l xs tv ps H1 ht0 hn0 hl0 ht1 hn1 hl1 Yq hX hTs _ h8 Pn Jl=>?_⟩;have np:n≠p:=(hPp.ne hn0).symm;have lp:l≠p:=(hPp.ne hl0).symm;have l9:=hX.len;have Lg:=hTs.len;have B1:But p Hp H1:=Jl;have S1:Same H0 H1:=fun b u e=>B1 b u (aG e hp0) (sp1 b u e);left;refine⟨_,.inr (eO.of ht1),_,bC (j:=0) rfl,_,.inr (eO.of ht1),_,bC (j:=1) rfl,fun o dx ho hdx qdE=>?_⟩;have so:Same H1 (upd (upd H1 dx (.own o)) o (.ins a.bJ dx [])):=fun b u e=>by
        rw[aC (aG e ho),aC (aG e hdx)];exact e
      have hpr:lN H1 tv ps:=⟨Yq.1,fun i v e h1 h2=>by
        obtain⟨t,rfl,z⟩:=Yq.2 i v e h1 h2;exact⟨t,rfl,.inr z⟩⟩
      refine⟨o,dx,n,l,tv,xs,ps,rfl,ak,.inl (so _ _ hl1),hpr.same so,.inl (so _ _ hn1),hX,hTs,fun H2 hW2 hB2=>⟨rfl,?_⟩⟩;have s2:Same H1 H2:=fun b u e=>hB2 b u (aG e ho) (so b u e);have hG2:rF H2 t n l xs tv ps:=⟨s2 _ _ ht1,s2 _ _ hn1,s2 _ _ hl1,bh.same Yq s2,hX,hTs⟩;have gl:(cg ps xs ps.length).length≤2 ^ 8:=Nat.le_trans (Fe ps xs _) (Nat.pow_le_pow_right (by decide) h8);have S02:=s0.trans (S1.trans s2);left;refine⟨t,n,l,xs,tv,ps,rfl,hG2,h8,fun r vs' H3 Lh er3 hV3 s3=>?_⟩;left;refine⟨o,xs,ps,rfl,hW2.same s3,hX,hTs,fun H4 s4=>?_⟩;rw[BL hX hTs];have vl:=hV3.1;have s34:=s3.trans s4;have V4:cW r H2 H4 vs' (cg ps xs ps.length):=hV3.same fun a us _ e=>s4 _ _ e;have er4:=s4 _ _ er3;left;refine⟨_,.inl (aR.of er4),?_⟩;rw[vl];refine⟨false,by simp,eX.neg rfl ?_⟩;left;refine⟨_,.int _,_,Dd K,?_⟩;left;refine⟨_,.int _,_,Ao K,?_⟩;left;refine⟨o,xs,ps,rfl,hW2.same s34,hX,hTs,h8,fun r5 Yr H5 YQ TY hV5 s5=>?_⟩;have V45:cW r H2 H5 vs' (cg ps xs ps.length):=V4.same fun a us _ e=>s5 _ _ e;have qdF:=s5 _ _ er4;have vl5:=hV5.1;left;refine⟨_,.lst TY,_,qG K,?_⟩;left;refine⟨.list (d8 (cg ps xs ps.length)),⟨r5,_,rfl,aR.of TY,qu hV5⟩,.list (d8 (cg ps xs ps.length)),⟨r,_,rfl,aR.of qdF,qu V45⟩,layR _,layR _,Yp _,false,by rw[eqR];rfl,eX.neg rfl ?_⟩;left;refine⟨⟨_,aR.of TY⟩,fun D hD=>Nu Yr (fun j σ H'=>(∃o',σ=[o'])∧H' D=some (.lst ((Yr.take j).map fun _=>V.bl true))∧Same H5 H') ⟨⟨_,rfl⟩,ak,aq hD⟩ (fun j σ H' _ h=>aR.of (h.2.2 _ _ TY)) ?_ ?_⟩
      ·rintro j v σ H6 hj ⟨⟨o',rfl⟩,Hf,s6⟩;obtain⟨row,b,hrow,rfl,hb,hb0,eb⟩:=hV5.at hj;have hj2:=(List.getElem?_eq_some_iff.mp hj).1;rw[take_one hj,List.map_append];left;refine⟨_,.lst (s6 _ _ eb),_,qG K,?_⟩;exact⟨_,Hf,by rw[List.length_map,List.length_take];omega,ak,aP s6 hD⟩
      · rintro σ H6 ⟨⟨o',rfl⟩,Hf,s6⟩;rw[List.take_length] at Hf;have er6:=s6 _ _ TY;have V6:cW r5 H4 H6 Yr (cg ps xs ps.length):=hV5.same fun a us _ e=>s6 _ _ e;have V46:cW r H2 H6 vs' (cg ps xs ps.length):=V45.same fun a us _ e=>s6 _ _ e;have s46:=s5.trans s6;left;refine⟨_,Hf,_,pR (fun _=>true) _,?_⟩;rw[show(Yr.map fun _=>true).all id=true by simp];left;refine⟨⟨_,aR.of er6⟩,Ld Yr (fun j σ H'=>(∃o7,σ=[some (.ref sl),some (.int i),some (.ref t),some (.ref o),some (.ref r),some (.int (cg ps xs ps.length).length),some (.ref r5),o7])∧H' r5=some (.lst Yr)∧qaM H4 H' r5 Yr j∧Same H4 H') ⟨⟨_,rfl⟩,er6,fun v hv=>?_,s46⟩ (fun j σ H' _ h=>aR.of h.2.1) ?_ ?_⟩
        ·obtain⟨j,hj⟩:=List.mem_iff_getElem?.mp hv;obtain⟨row,b,hrow,rfl,hb,hb0,eb⟩:=V6.at hj;have:=(iR (List.mem_filter.mp (List.mem_of_getElem? hrow)).1).1;exact⟨b,_,rfl,hb,hb0,eb,by rw[List.length_map];omega⟩
        · rintro j v σ H7 hj ⟨⟨o7,rfl⟩,er7,hall,s7⟩;obtain⟨b,us,rfl,hb,hb0,eb,ul⟩:=hall v (List.mem_of_getElem? hj);have hj2:=(List.getElem?_eq_some_iff.mp hj).1;left;refine⟨⟨_,aR.of eb⟩,_,eb,by omega,by rw[aC hb.symm];exact er7,fun v hv=>?_,aP s7 hb0⟩;obtain⟨c,ws,rfl,hc,hc0,ec,wl⟩:=hall v hv
          by_cases hcb:c=b
          ·subst hcb;exact⟨c,_,rfl,hc,hc0,ak,by simp;omega⟩
          ·exact⟨c,ws,rfl,hc,hc0,by rw[aC hcb];exact ec,by omega⟩
        ·rintro σ H7 ⟨⟨o7,rfl⟩,er7,hall,s7⟩;left;have s8:Same H4 (upd H7 r5 (.lst [])):=aP s7 YQ;generalize upd H7 r5 (.lst [])=H8 at s8 ⊢;have s38:=s34.trans s8;refine⟨⟨_,aR.of er7⟩,⟨_,er7⟩,o,xs,ps,rfl,hW2.same s38,hX,hTs,h8,fun r9 vs9 H9 hr9 er9 hV9 s9=>?_⟩;have V49:cW r H2 H9 vs' (cg ps xs ps.length):=V4.same fun a us _ e=>s9 _ _ (s8 _ _ e);left;refine⟨.list (d8 (cg ps xs ps.length)),⟨r9,_,rfl,aR.of er9,qu hV9⟩,.list (d8 (cg ps xs ps.length)),⟨r,_,rfl,aR.of (s9 _ _ (s8 _ _ er4)),qu V49⟩,layR _,layR _,Yp _,false,by rw[eqR];rfl,eX.neg rfl ?_⟩;left;exact S02.trans (s38.trans s9)
    · rintro σ H1 ⟨⟨o1,o2,o3,o4,o5,o6,o7,rfl⟩,s1⟩;left;have hXa:Jk [(Str.ofString "a")]:=⟨by simp,by symm,by simp⟩;have hTa:qy [(Str.ofString "a")] []:=⟨by simp,by simp⟩;have hXb:Jk [(Str.ofString "a"),(Str.ofString "b")]:=⟨by simp,by symm,by symm⟩;have hTb:qy [(Str.ofString "a"),(Str.ofString "b")] []:=⟨by simp,by simp⟩;intro pa hpa pb hpb o dx ho hdx qdE;have c1:upd (upd H1 pa (.lst [.str (Str.ofString "a")])) pb (.lst []) pa=some (.lst [.str (Str.ofString "a")]):=bF ak hpb;have c2:upd (upd H1 pa (.lst [.str (Str.ofString "a")])) pb (.lst []) pb=some (.lst []):=ak;generalize upd (upd H1 pa (.lst [.str (Str.ofString "a")])) pb (.lst [])=H2 at c1 c2 ho hdx ⊢;have so:Same H2 (upd (upd H2 dx (.own o)) o (.ins a.bJ dx [])):=fun b u e=>by
        rw[aC (aG e ho),aC (aG e hdx)];exact e
      refine⟨o,dx,pa,pb,[],[Str.ofString "a"],[],rfl,ak,.inl (so _ _ c2),⟨rfl,by simp⟩,.inl (so _ _ c1),hXa,hTa,fun H5 hW5 Px=>⟨rfl,?_⟩⟩;left;refine⟨o,[Str.ofString "a"],[],rfl,hW5,hXa,hTa,fun H6 s6=>?_⟩;rw[BL hXa hTa,show cg [] [Str.ofString "a"] ([]:List (Str×Str)).length=[[]] from Qi];left;intro qa hqa qb hqb o2 dx2 ho2 qaN qec;have d1:upd (upd H6 qa (.lst [.str (Str.ofString "a")])) qb (.lst []) qa=some (.lst [.str (Str.ofString "a")]):=bF ak hqb;have d2:upd (upd H6 qa (.lst [.str (Str.ofString "a")])) qb (.lst []) qb=some (.lst []):=ak;generalize upd (upd H6 qa (.lst [.str (Str.ofString "a")])) qb (.lst [])=H7 at d1 d2 ho2 qaN ⊢;have so2:Same H7 (upd (upd H7 dx2 (.own o2)) o2 (.ins a.bJ dx2 [])):=fun b u e=>by
        rw[aC (aG e ho2),aC (aG e qaN)];exact e
      refine⟨o2,dx2,qa,qb,[],[Str.ofString "a"],[],rfl,ak,.inl (so2 _ _ d2),⟨rfl,by simp⟩,.inl (so2 _ _ d1),hXa,hTa,fun H8 hW8 hB8=>⟨rfl,?_⟩⟩;left;refine⟨o2,[Str.ofString "a"],[],rfl,hW8,hXa,hTa,by simp,fun r9 vs9 H9 hr9 er9 hV9 s9=>?_⟩;rw[show cg [] [Str.ofString "a"] ([]:List (Str×Str)).length=[[]] from Qi] at hV9;left;intro ra hra rb hrb;have g1:upd (upd H9 ra (.lst [])) rb (.lst [.ref ra]) ra=some (.lst []):=bF ak hrb;have g2:upd (upd H9 ra (.lst [])) rb (.lst [.ref ra]) rb=some (.lst [.ref ra]):=ak;have sg:Same H9 (upd (upd H9 ra (.lst [])) rb (.lst [.ref ra])):=(aq hra).trans (aq hrb);generalize upd (upd H9 ra (.lst [])) rb (.lst [.ref ra])=Bg at g1 g2 sg ⊢;have VA:cW r9 H8 Bg vs9 [[]]:=hV9.same fun a us _ e=>sg _ _ e;refine⟨.list (d8 [[]]),⟨r9,_,rfl,aR.of (sg _ _ er9),qu VA⟩,.list (d8 [[]]),⟨rb,_,rfl,aR.of g2,⟨_,_,rfl,⟨ra,_,rfl,aR.of g1,rfl⟩,rfl⟩⟩,layR _,layR _,Yp _,?_⟩;rw[eqR];left;intro ta hta tb htb o3 dx3 ho3 qaO qee;have f1:upd (upd Bg ta (.lst [.str (Str.ofString "a"),.str (Str.ofString "b")])) tb (.lst []) ta=some (.lst [.str (Str.ofString "a"),.str (Str.ofString "b")]):=bF ak htb;have f2:upd (upd Bg ta (.lst [.str (Str.ofString "a"),.str (Str.ofString "b")])) tb (.lst []) tb=some (.lst []):=ak;generalize upd (upd Bg ta (.lst [.str (Str.ofString "a"),.str (Str.ofString "b")])) tb (.lst [])=U_ at f1 f2 ho3 qaO ⊢;have so3:Same U_ (upd (upd U_ dx3 (.own o3)) o3 (.ins a.bJ dx3 [])):=fun b u e=>by
        rw[aC (aG e ho3),aC (aG e qaO)];exact e
      refine⟨o3,dx3,ta,tb,[],[Str.ofString "a",Str.ofString "b"],[],rfl,ak,.inl (so3 _ _ f2),⟨rfl,by simp⟩,.inl (so3 _ _ f1),hXb,hTb,fun H12 qdG qeC=>⟨rfl,?_⟩⟩;left;refine⟨o3,[Str.ofString "a",Str.ofString "b"],[],rfl,qdG,hXb,hTb,fun H13 EY=>?_⟩;rw[BL hXb hTb,show cg [] [Str.ofString "a",Str.ofString "b"] ([]:List (Str×Str)).length=[] from T3];left;exact q _
end Xw
namespace Xw
open PySem L2
theorem YT {α:Type} {n:Nat} (l:List α) (h:l.length=n+1):∃a r,l=a::r:=by
  cases l with
  | nil=>cases h
  | cons a r=>exact⟨a,r,rfl⟩
theorem iJ {fd:FuncData} {ps:List Str} (h:∀v0,bindArgs fd {pos:=[v0]}=pure (ps.zip [v0])):∀us:List Value,us.length=1→bindArgs fd {pos:=us}=pure (ps.zip us):=by
  intro us hl;obtain⟨v0,us,rfl⟩:=YT us hl;replace hl:=Nat.succ.inj hl;obtain rfl:=List.eq_nil_of_length_eq_zero hl;exact h v0
theorem gA {fd:FuncData} {ps:List Str} (h:∀v0 v1,bindArgs fd {pos:=[v0,v1]}=pure (ps.zip [v0,v1])):∀us:List Value,us.length=2→bindArgs fd {pos:=us}=pure (ps.zip us):=by
  intro us hl;obtain⟨v0,us,rfl⟩:=YT us hl;replace hl:=Nat.succ.inj hl;obtain⟨v1,us,rfl⟩:=YT us hl;replace hl:=Nat.succ.inj hl;obtain rfl:=List.eq_nil_of_length_eq_zero hl;exact h v0 v1
theorem BW {fd:FuncData} {ps:List Str} (h:∀v0 v1 v2,bindArgs fd {pos:=[v0,v1,v2]}=pure (ps.zip [v0,v1,v2])):∀us:List Value,us.length=3→bindArgs fd {pos:=us}=pure (ps.zip us):=by
  intro us hl;obtain⟨v0,us,rfl⟩:=YT us hl;replace hl:=Nat.succ.inj hl;obtain⟨v1,us,rfl⟩:=YT us hl;replace hl:=Nat.succ.inj hl;obtain⟨v2,us,rfl⟩:=YT us hl;replace hl:=Nat.succ.inj hl;obtain rfl:=List.eq_nil_of_length_eq_zero hl;exact h v0 v1 v2
theorem all_mk {l:W.OpenLaw} {w:World} {K:W.Frag} {h:Heap} {mg:Str→Option Value} {fa bJ cI dj cJ fD gF gG dw jj fG dO cF dR dU bH bx cL dI cM bI gH fH cN uU pB lF lG uV uW gJ dJ cO uX:Addr} (X:K.In h) (G:h.Ns mainGlobals mg) (hfa:mg "law" = some (.ref fa))
    {fd1 fd2 fd3 fd4 fd5 fd6 fd7 fd8 fd9 qaP qaQ qaR qaS qaT qaU qaV qaW qaX qaY qaZ qa0 qa1 qa2 qa3 qa4 qa5 qa6 qa7 qa8 qa9 qa_:FuncData}
    {qdH qba:Option Addr} {qdI:Array (Option Value)} {qdJ qbb qbc qbd Ys qbe:Value} {rG jy kh ou fV:Tok}
    (Hw:W.nsIn K mainGlobals "Web" = some (some (.ref bJ)))
    (a1:W.nsIn K mainGlobals "steps_along" = some (some (.ref cI)))
    (F1:fL K "steps_along" "steps_along" lY cI fd1)
    (a2:W.nsIn K mainGlobals "ways_along" = some (some (.ref dj)))
    (F2:fL K "ways_along" "ways_along" nq dj fd2)
    (a3:W.nsIn K mainGlobals "found_along" = some (some (.ref cJ)))
    (F3:fL K "found_along" "found_along" iT cJ fd3)
    (a4:W.nsIn K mainGlobals "clusters" = some (some (.ref fD)))
    (F4:fL K "clusters" "clusters" nu fD fd4)
    (a5:W.nsIn K mainGlobals "is_list" = some (some (.ref gF)))
    (F5:fL K "is_list" "is_list" ur gF fd5)
    (a6:W.nsIn K mainGlobals "is_name" = some (some (.ref gG)))
    (F6:fL K "is_name" "is_name" pZ gG fd6)
    (a7:W.nsIn K mainGlobals "are_points" = some (some (.ref dw)))
    (F7:fL K "are_points" "are_points" jG dw fd7)
    (a8:W.nsIn K mainGlobals "is_tie" = some (some (.ref jj)))
    (F8:fL K "is_tie" "is_tie" sU jj fd8)
    (a9:W.nsIn K mainGlobals "are_ties" = some (some (.ref fG)))
    (F9:fL K "are_ties" "are_ties" nA fG fd9)
    (a10:W.findIn K (.ref bJ) "__init__" = some (some (.ref dO))) (i10:W.isFn K (.ref dO)=true)
    (F10:fL K "__init__" "Web.__init__" nC dO qaP)
    (a11:W.findIn K (.ref bJ) "points" = some (some (.ref cF))) (i11:W.isFn K (.ref cF)=true)
    (F11:fL K "points" "Web.points" nF cF qaQ)
    (a12:W.findIn K (.ref bJ) "ties" = some (some (.ref dR))) (i12:W.isFn K (.ref dR)=true)
    (F12:fL K "ties" "Web.ties" qY dR qaR)
    (a13:W.findIn K (.ref bJ) "many" = some (some (.ref dU))) (i13:W.isFn K (.ref dU)=true)
    (F13:fL K "many" "Web.many" qZ dU qaS)
    (a14:W.nsIn K mainGlobals "sure_of_few_ties" = some (some (.ref bH)))
    (F14:fL K "sure_of_few_ties" "sure_of_few_ties" gq bH qaT)
    (a15:W.nsIn K mainGlobals "lot_without_way_in" = some (some (.ref bx)))
    (F15:fL K "lot_without_way_in" "lot_without_way_in" dh bx qaU)
    (a16:W.nsIn K mainGlobals "lot_shut_by" = some (some (.ref cL)))
    (F16:fL K "lot_shut_by" "lot_shut_by" lZ cL qaV)
    (a17:W.nsIn K mainGlobals "all_parts" = some (some (.ref dI)))
    (F17:fL K "all_parts" "all_parts" k_ dI qaW)
    (a18:W.nsIn K mainGlobals "ties_inside" = some (some (.ref cM)))
    (F18:fL K "ties_inside" "ties_inside" iU cM qaX)
    (a19:W.nsIn K mainGlobals "how_many_at_all" = some (some (.ref bI)))
    (F19:fL K "how_many_at_all" "how_many_at_all" gQ bI qaY)
    (a20:W.nsIn K mainGlobals "without" = some (some (.ref gH)))
    (F20:fL K "without" "without" p7 gH qaZ)
    (a21:W.nsIn K mainGlobals "how_many" = some (some (.ref fH)))
    (F21:fL K "how_many" "how_many" iG fH qa0)
    (a22:W.nsIn K mainGlobals "all_pointed" = some (some (.ref cN)))
    (F22:fL K "all_pointed" "all_pointed" gb cN qa1)
    (a23:W.nsIn K mainGlobals "_law_pot" = some (some (.ref uU)))
    (F23:fL K "_law_pot" "_law_pot" O8 uU qa2)
    (a24:W.nsIn K mainGlobals "_law_take" = some (some (.ref pB)))
    (F24:fL K "_law_take" "_law_take" G3 pB qa3)
    (a25:W.nsIn K mainGlobals "_law_names" = some (some (.ref lF)))
    (F25:fL K "_law_names" "_law_names" Bj lF qa4)
    (a26:W.nsIn K mainGlobals "_law_mixed" = some (some (.ref lG)))
    (F26:fL K "_law_mixed" "_law_mixed" Bk lG qa5)
    (a27:W.nsIn K mainGlobals "_law_tie" = some (some (.ref uV)))
    (F27:fL K "_law_tie" "_law_tie" O9 uV qa6)
    (a28:W.nsIn K mainGlobals "_law_web" = some (some (.ref uW)))
    (F28:fL K "_law_web" "_law_web" zL uW qa7)
    (a29:W.nsIn K mainGlobals "_law_reached" = some (some (.ref gJ)))
    (F29:fL K "_law_reached" "_law_reached" uw gJ qa8)
    (a30:W.nsIn K mainGlobals "_law_is_strong" = some (some (.ref dJ)))
    (F30:fL K "_law_is_strong" "_law_is_strong" lg dJ qa9)
    (a31:W.nsIn K mainGlobals "_law_strong_ones" = some (some (.ref cO)))
    (F31:fL K "_law_strong_ones" "_law_strong_ones" iV cO qa_)
    (a32:W.nsIn K mainGlobals "law" = some (some (.ref uX)))
    (l32:K.lookup uX=some ⟨qdJ,qdH,.func (W.fnOf "law" "law" (pQ qI) (kE qI) (aD qI) .none qbb qbc qbd qba Ys qbe),qdI⟩) (c32:W.codeIn K Ys "law" = true) (k32:W.keepIn K (.ref uX)=true)
    (iI:W.nsIn K mainGlobals "LETTERS" = some (some (.str "abcdefghijklmnopqrstuvwxyz" rG)))
    (cQ:W.nsIn K mainGlobals "MOST_LETTERS" = some (some (.int 4 jy)))
    (dD:W.nsIn K mainGlobals "MOST_POINTS" = some (some (.int 9 kh)))
    (fJ:W.nsIn K mainGlobals "MOST_TIES" = some (some (.int 20 ou)))
    (bO:W.nsIn K mainGlobals "MOST_TIES_LISTED" = some (some (.int 12 fV)))
    (Hx:W.plainGet K bJ Str.empty=true) (Hy:W.hasDictIn K bJ=true) (Hz:W.plainOver K bJ=true) (HB:W.findIn K (.ref bJ) "__setattr__" = some (some (.builtin "object.__setattr__"))) (HD:W.makesIn K bJ=true) (HF:W.keepIn K (.ref bJ)=true)
    (yg:W.findIn K (.ref bJ) "names" = some none)
    (yh:W.findIn K (.ref bJ) "pairs" = some none)
    (Qj:W.nsIn K mainGlobals "len" = some none)
    (Qk:W.nsIn K mainGlobals "max" = some none)
    (Ql:W.nsIn K mainGlobals "min" = some none)
    (Qm:W.nsIn K mainGlobals "abs" = some none)
    (yj:W.nsIn K mainGlobals "divmod" = some none)
    (BX:W.nsIn K mainGlobals "range" = some none)
    (Qn:W.nsIn K mainGlobals "zip" = some none)
    (HJ:W.nsIn K mainGlobals "list" = some none)
    (BZ:W.nsIn K mainGlobals "tuple" = some none)
    (Qo:W.nsIn K mainGlobals "int" = some none)
    (Qp:W.nsIn K mainGlobals "str" = some none)
    (Qq:W.nsIn K mainGlobals "set" = some none)
    (Qs:W.nsIn K mainGlobals "all" = some none)
    (oA:W.nsIn K mainGlobals "isinstance" = some none)
    (pP:W.nsIn K mainGlobals "enumerate" = some none)
    (Qt:W.nsIn K mainGlobals "any" = some none)
    (HN:W.nsIn K mainGlobals "dict" = some none)
    (yp:W.nsIn K mainGlobals "sorted" = some none)
    (HS:W.nsIn K mainGlobals "repr" = some none)
    (HW:W.nsIn K mainGlobals "bool" = some none)
    (Qu:W.nsIn K mainGlobals "sum" = some none)
    : ∃fd:FuncData,(∀(s:Shared) (v:Value),BindsTo s fd ⟨[v],[]⟩ [("_law_script",v)])∧∀base:Heap,K.In base→base.Ns mainGlobals mg→c7 l.prog w K mg base mY 9 fa fd ["_law_script"] (BP K):=by
  have e:=hfa.symm.trans (W.mg_of X G a32);cases e;have b1:=F1.binds (ps:=["web", "fixed"]) fun _ _ _ _ _ _=>gA fun _ _=>rfl;have b2:=F2.binds (ps:=["start", "steps"]) fun _ _ _ _ _ _=>gA fun _ _=>rfl;have b3:=F3.binds (ps:=["web", "start", "steps"]) fun _ _ _ _ _ _=>BW fun _ _ _=>rfl;have b4:=F4.binds (ps:=["web"]) fun _ _ _ _ _ _=>iJ fun _=>rfl;have b5:=F5.binds (ps:=["thing"]) fun _ _ _ _ _ _=>iJ fun _=>rfl;have b6:=F6.binds (ps:=["thing"]) fun _ _ _ _ _ _=>iJ fun _=>rfl;have b7:=F7.binds (ps:=["thing"]) fun _ _ _ _ _ _=>iJ fun _=>rfl;have b8:=F8.binds (ps:=["thing", "points"]) fun _ _ _ _ _ _=>gA fun _ _=>rfl;have b9:=F9.binds (ps:=["thing", "points"]) fun _ _ _ _ _ _=>gA fun _ _=>rfl;have b10:=F10.binds (ps:=["self", "points", "ties"]) fun _ _ _ _ _ _=>BW fun _ _ _=>rfl;have b11:=F11.binds (ps:=["self"]) fun _ _ _ _ _ _=>iJ fun _=>rfl;have b12:=F12.binds (ps:=["self"]) fun _ _ _ _ _ _=>iJ fun _=>rfl;have b13:=F13.binds (ps:=["self"]) fun _ _ _ _ _ _=>iJ fun _=>rfl;have b14:=F14.binds (ps:=["web", "most"]) fun _ _ _ _ _ _=>gA fun _ _=>rfl;have b15:=F15.binds (ps:=["web", "steps"]) fun _ _ _ _ _ _=>gA fun _ _=>rfl;have b16:=F16.binds (ps:=["web", "fixed"]) fun _ _ _ _ _ _=>gA fun _ _=>rfl;have b17:=F17.binds (ps:=["points"]) fun _ _ _ _ _ _=>iJ fun _=>rfl;have b18:=F18.binds (ps:=["web", "part"]) fun _ _ _ _ _ _=>gA fun _ _=>rfl;have b19:=F19.binds (ps:=["ties"]) fun _ _ _ _ _ _=>iJ fun _=>rfl;have b20:=F20.binds (ps:=["points", "part"]) fun _ _ _ _ _ _=>gA fun _ _=>rfl;have b21:=F21.binds (ps:=["web"]) fun _ _ _ _ _ _=>iJ fun _=>rfl;have b22:=F22.binds (ps:=["web"]) fun _ _ _ _ _ _=>iJ fun _=>rfl;have b23:=F23.binds (ps:=["_law_script", "_law_k"]) fun _ _ _ _ _ _=>gA fun _ _=>rfl;have b24:=F24.binds (ps:=["_law_pot_here", "_law_many"]) fun _ _ _ _ _ _=>gA fun _ _=>rfl;have b25:=F25.binds (ps:=["_law_pot_here", "_law_many"]) fun _ _ _ _ _ _=>gA fun _ _=>rfl;have b26:=F26.binds (ps:=["_law_pot_here", "_law_things"]) fun _ _ _ _ _ _=>gA fun _ _=>rfl;have b27:=F27.binds (ps:=["_law_pot_here", "_law_names_here"]) fun _ _ _ _ _ _=>gA fun _ _=>rfl;have b28:=F28.binds (ps:=["_law_pot_here", "_law_points", "_law_most"]) fun _ _ _ _ _ _=>BW fun _ _ _=>rfl;have b29:=F29.binds (ps:=["_law_web_here", "_law_pointing", "_law_start"]) fun _ _ _ _ _ _=>BW fun _ _ _=>rfl;have b30:=F30.binds (ps:=["_law_web_here", "_law_pointing"]) fun _ _ _ _ _ _=>gA fun _ _=>rfl;have b31:=F31.binds (ps:=["_law_web_here"]) fun _ _ _ _ _ _=>iJ fun _=>rfl;have F32:=MF (st:=qI) l32 c32 k32;have b32:=F32.binds (ps:=["_law_script"]) fun _ _ _ _ _ _=>iJ fun _=>rfl;have T:Txt K mg {cI:=cI,gU:=fd1,dj:=dj,iW:=fd2,cJ:=cJ,gV:=fd3,fD:=fD,lu:=fd4,gF:=gF,nJ:=fd5,gG:=gG,nM:=fd6,dw:=dw,iY:=fd7,jj:=jj,qe:=fd8,fG:=fG,lA:=fd9,dO:=dO,lB:=qaP,cF:=cF,iZ:=qaQ,dR:=dR,lC:=qaR,dU:=dU,lD:=qaS,bH:=bH,dG:=qaT,bx:=bx,cU:=qaU,cL:=cL,gW:=qaV,dI:=dI,jJ:=qaW,cM:=cM,gY:=qaX,bI:=bI,dW:=qaY,gH:=gH,nO:=qaZ,fH:=fH,lE:=qa0,cN:=cN,gZ:=qa1,uU:=uU,Bl:=qa2,pB:=pB,vK:=qa3,lF:=lF,sV:=qa4,lG:=lG,sW:=qa5,uV:=uV,Bm:=qa6,uW:=uW,Bo:=qa7,gJ:=gJ,nP:=qa8,dJ:=dJ,jK:=qa9,cO:=cO,g_:=qa_,uX:=fa,Bp:=W.fnOf "law" "law" (pQ qI) (kE qI) (aD qI) .none qbb qbc qbd qba Ys qbe,iI:=.str "abcdefghijklmnopqrstuvwxyz" rG,cQ:=.int 4 jy,dD:=.int 9 kh,fJ:=.int 20 ou,bO:=.int 12 fV,bJ:=bJ}:={i_:=F1,mj:=b1,mq:=W.mg_of X G a1,nQ:=F2,sX:=b2,sY:=W.mg_of X G a2,jc:=F3,mz:=b3,mC:=W.mg_of X G a3,q_:=F4,wY:=b4,wZ:=W.mg_of X G a4,mW:=F5,qg:=b5,qj:=W.mg_of X G a5,ql:=F6,ux:=b6,uy:=W.mg_of X G a6,nR:=F7,sZ:=b7,tu:=W.mg_of X G a7,w5:=F8,En:=b8,Eo:=W.mg_of X G a8,rm:=F9,w6:=b9,xg:=W.mg_of X G a9,xq:=F10,jX:=b10,tE:=F11,dX:=b11,dY:=⟨a11,i11,F11.kp⟩,xr:=F12,nU:=b12,nZ:=⟨a12,i12,F12.kp⟩,xu:=F13,xG:=b13,xH:=⟨a13,i13,F13.kp⟩,gw:=F14,jY:=b14,jZ:=W.mg_of X G a14,fK:=F15,jk:=b15,jm:=W.mg_of X G a15,jd:=F16,mD:=b16,mF:=W.mg_of X G a16,jq:=F17,lH:=b17,lJ:=W.mg_of X G a17,mG:=F18,qJ:=b18,qK:=W.mg_of X G a18,h_:=F19,lK:=b19,lM:=W.mg_of X G a19,uz:=F20,zM:=b20,zN:=W.mg_of X G a20,j4:=F21,nW:=b21,nY:=W.mg_of X G a21,gj:=F22,je:=b22,jf:=W.mg_of X G a22,Pa:=F23,UL:=b23,UW:=W.mg_of X G a23,jx:=F24,j5:=b24,j6:=W.mg_of X G a24,Bq:=F25,Ji:=b25,Jj:=W.mg_of X G a25,vL:=F26,Br:=b26,Bs:=W.mg_of X G a26,Pb:=F27,U0:=b27,U3:=W.mg_of X G a27,Pg:=F28,U4:=b28,U5:=W.mg_of X G a28,qm:=F29,uD:=b29,uE:=W.mg_of X G a29,pC:=F30,uY:=b30,uZ:=W.mg_of X G a30,mH:=F31,qL:=b31,qM:=W.mg_of X G a31,U6:=F32,qaq:=b32,qar:=W.mg_of X G a32,zO:=W.mg_of X G iI,zP:=⟨rG,rfl⟩,pD:=W.mg_of X G cQ,pF:=⟨jy,rfl⟩,qN:=W.mg_of X G dD,qO:=⟨kh,rfl⟩,u5:=W.mg_of X G fJ,u6:=⟨ou,rfl⟩,j7:=W.mg_of X G bO,j8:=⟨fV,rfl⟩,Bt:=yg,vM:=yh,Ep:=W.mg_of X G Hw,jA:=⟨Hx,Hy,Hz,HB⟩,Er:=⟨HD,a10,i10,HF⟩,nm:=⟨W.mg_none_of X G Qj,W.mg_none_of X G Qk,W.mg_none_of X G Ql,W.mg_none_of X G Qm,W.mg_none_of X G yj,W.mg_none_of X G BX,W.mg_none_of X G Qn,W.mg_none_of X G HJ,W.mg_none_of X G BZ,W.mg_none_of X G Qo,W.mg_none_of X G Qp,W.mg_none_of X G Qq,W.mg_none_of X G Qs,W.mg_none_of X G oA⟩,Xx:=⟨W.mg_none_of X G pP,W.mg_none_of X G Qt,W.mg_none_of X G HN,W.mg_none_of X G yp,W.mg_none_of X G HS,W.mg_none_of X G HW⟩,nm3:=⟨W.mg_none_of X G Qu⟩};exact⟨_,fun s v=>.of_eq rfl,fun base _ _=>Yo T⟩
theorem walk {l:W.OpenLaw} {q:Program} {loose:List Str} {XP:(Str→Option Value)→Heap→Prop} {YP:World→Heap→Prop} {d:DefRec} {K:Params→W.Frag} (hn:l.most=some 63) (hdf:d.params.defaults=[])
    (hY:∀(w:World) (h:Heap),YP w h→(K w.params).In h)
    (F:∀(w:World) (mg:Str→Option Value) (fa:Addr) (h:Heap),(K w.params).In h→h.Ns mainGlobals mg→mg d.name=some (.ref fa)→
      ∃fd:FuncData,(∀(s:Shared) (u:Value),BindsTo s fd ⟨[u],[]⟩ [("_law_script",u)])∧∀base:Heap,(K w.params).In base→base.Ns mainGlobals mg→c7 l.prog w (K w.params) mg base mY 9 fa fd ["_law_script"] (BP (K w.params))) :
    W.WalkO q loose XP YP l.row.toRowW d [] (fun f vs=>PySem.call f vs):=
  L2.Rj (n:=63) (k:=9) (x:= "_law_script") (CX:=fun _=>mY) (sp:=fun w=>BP (K w.params)) hn (by decide) hdf ⟨rfl,by decide,by decide,rfl⟩ hY F (fun _ _ a ns hl _ hS=>⟨a,ns,rfl,hS,hl,fun _=>rfl⟩) fun _ _ _ _ _ z=>z
end Xw
end
set_option Elab.async false
set_option maxRecDepth 100000
set_option maxHeartbeats 4000000
open PySem PySem.W PyProof.Rows
namespace PySem.W.Fast
def tw10265919009203104081:=0
def tw11329140639962279974:=0
def tw11075310803839276204:=0
def tw13134164809852061712:=0
def tw4326961835398419662:=0
def tw10503923068435847994:=0
def tw10326615276729902046:=0
def tw9469584188286942923:=0
def tw13001317515040187900:=0
def tw16642633799026688154:=0
def tw3745815920346201461:=0
def tw16625981769382260840:=0
end PySem.W.Fast
set_option maxRecDepth 100000 in
set_option maxHeartbeats 0 in
theorem PySem.Challenge.cw_pointways_k84_whole_counts_and_lists_holds : PySem.Challenge.rw_pointways_k84_whole_counts_and_lists.Holds := by
  w_on;o_law;k_head;(case hw=>w_witness2)
  k_fill
  refine' Xw.walk (l:=PySem.Challenge.rw_pointways_k84_whole_counts_and_lists) rfl rfl (fun w h Y=>W.kIn_of Y) ?F
  case F=>
    intro w mg fa h KX G hmg;refine' Xw.all_mk KX G hmg ?Hw ?a1 ?F1 ?a2 ?F2 ?a3 ?F3 ?a4 ?F4 ?a5 ?F5 ?a6 ?F6 ?a7 ?F7 ?a8 ?F8 ?a9 ?F9 ?a10 ?i10 ?F10 ?a11 ?i11 ?F11 ?a12 ?i12 ?F12 ?a13 ?i13 ?F13 ?a14 ?F14 ?a15 ?F15 ?a16 ?F16 ?a17 ?F17 ?a18 ?F18 ?a19 ?F19 ?a20 ?F20 ?a21 ?F21 ?a22 ?F22 ?a23 ?F23 ?a24 ?F24 ?a25 ?F25 ?a26 ?F26 ?a27 ?F27 ?a28 ?F28 ?a29 ?F29 ?a30 ?F30 ?a31 ?F31 ?a32 ?l32 ?c32 ?k32 ?iI ?cQ ?dD ?fJ ?bO ?Hx ?Hy ?Hz ?HB ?HD ?HF ?yg ?yh ?Qj ?Qk ?Ql ?Qm ?yj ?BX ?Qn ?HJ ?BZ ?Qo ?Qp ?Qq ?Qs ?oA ?pP ?Qt ?HN ?yp ?HS ?HW ?Qu
    case Hw | a1 | a2 | a3 | a4 | a5 | a6 | a7 | a8 | a9 | a10 | i10 | a11 | i11 | a12 | i12 | a13 | i13 | a14 | a15 | a16 | a17 | a18 | a19 | a20 | a21 | a22 | a23 | a24 | a25 | a26 | a27 | a28 | a29 | a30 | a31 | a32 | l32 | c32 | k32 | iI | cQ | dD | fJ | bO | Hx | Hy | Hz | HB | HD | HF | yg | yh | Qj | Qk | Ql | Qm | yj | BX | Qn | HJ | BZ | Qo | Qp | Qq | Qs | oA | pP | Qt | HN | yp | HS | HW | Qu=>k_is
    case F1 | F2 | F3 | F4 | F5 | F6 | F7 | F8 | F9 | F10 | F11 | F12 | F13 | F14 | F15 | F16 | F17 | F18 | F19 | F20 | F21 | F22 | F23 | F24 | F25 | F26 | F27 | F28 | F29 | F30 | F31=>refine' L2.MF ?l ?c ?k;(case l=>k_is);(case c=>k_is);(case k=>k_is)


